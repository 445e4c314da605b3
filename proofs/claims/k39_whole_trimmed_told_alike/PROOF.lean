import PyProof.Rows.All
import Wide.All
import OpenK.AllK
import Wide.FinOn
import Lean
import PyProof.EqAt
import PyProof.EqKinds
import PyProof.TupleCall
import PyProof.FactsAll.NoneType
import PyProof.ZipIter
import PyProof.EnumMake
import KE.KUnpack
import KE.KTryMore
import PyProof.NsDelKeeps
import PyProof.TupleKey
import PyProof.FactsAll.bool_1
import PyProof.DictDisplay
import KE.KLam
import KE.KNestM
import PyProof.DictTruth
import PyProof.NeKinds
import PyProof.ListRange
import PyProof.FactsAll.tuple_0
import PyProof.FactsAll.tuple_2
import PyProof.Rows.SetFrom
import PyProof.CollectWalk
import PyProof.Rows.SortWalk
import KE.RegKIsAll
import KE.RegKTryMore
import PySem.Challenge.RW_tipwell_k39_whole_trimmed_told_alike
set_option Elab.async false
set_option linter.all false
set_option maxRecDepth 100000
noncomputable section
def aaa:=@PySem.wpAny_bind
abbrev aab:=PySem.W.Frag
def aac:=@PySem.Heap.get?_push_of_some
def aad:=@List.length_map
def aae:=@List.getElem?_eq_some_iff
def aaf:=@PySem.wpAny_pure
def aag:=@List.getElem?_eq_getElem
def aah:=@List.mem_of_getElem?
def aai:=@List.getD_eq_getElem?_getD
def aaj:=@List.getElem?_map
def aak:=@PySem.Heap.get?_push_size
def aal:=@Nat.le_refl
def aam:=@List.map_append
def aan:=@List.mem_singleton
def aao:=@List.mem_cons
def aap:=@List.mem_cons_of_mem
def aaq:=@PySem.Heap.lt_size
def aar:=@Bool.false_ne_true
def aas:=@Option.map_eq_some_iff
def aat:=@List.mem_cons_self
def aau:=@List.length_append
def aav:=@List.length_take
def aaw:=@List.size_toArray
def aax:=@Nat.lt_of_lt_of_le
def aay:=@List.take_length
def aaz:=@List.mem_map
def aba:=@List.map_cons
def abb:=@List.length_cons
def abc:=@Nat.ne_of_lt
def abd:=@PySem.W.mg_of
def abe:=@PySem.mem_of_lookup
def abf:=@Option.some.inj
def abg:=@List.getElem?_append_left
def abh:=@List.mem_iff_getElem?
def abi:=@Array.length_toList
def abj:=@List.mem_append_right
def abk:=@List.mem_append
def abl:=@PySem.wpAny_mono
def abm:=@PySem.F.plainAttrs_list
def abn:=@PySem.F.slot_list_append
def abo:=@PySem.F.type_list_append
def abp:=@Array.getElem?_eq_getElem
def abq:=@PySem.wpAny_holding
def abr:=@PySem.W.mg_none_of
def abt:=@decide_eq_true
def abu:=@Int.toNat_natCast
def abv:=@PySem.wpAny_field
def abw:=@Nat.zero_le
def abx:=@of_decide_eq_true
def aby:=@List.mem_append_left
def abz:=@List.mem_range
def aca:=@List.map_map
def acb:=@List.length_range
def acd:=@Nat.le_trans
def ace:=@PySem.boot_len
def acf:=@Array.getElem?_toList
def acg:=@List.getElem?_eq_none
def ach:=@List.length_singleton
def aci:=@PySem.Heap.size_push
def acj:=@List.not_mem_nil
def ack:=@List.foldl_cons
def acl:=@List.map_nil
def acm:=@List.getElem?_append_right
def acn:=@Nat.lt_irrefl
def aco:=@List.mem_map_of_mem
def acp:=@decide_eq_false
def acq:=@List.take_of_length_le
def acr:=@List.all_eq_true
def acs:=@List.nodup_cons
def acu:=@List.mem_filter
def acv:=@List.append_assoc
def acw:=@PySem.Heap.get?_update_self
def acx:=@List.take_succ
def acy:=@List.append_nil
def acz:=@PySem.wpAny_rule
def ada:=@List.getElem_mem
def adb:=@Nat.not_lt_zero
def adc:=@List.filter_cons_of_neg
def add:=@List.filter_cons_of_pos
def ade:=@Nat.le_of_lt
def adf:=@List.map_congr_left
def adg:=@List.length_replicate
def adh:=@List.getElem?_set_self
def adi:=@PySem.Heap.get?_update_other
def adj:=@List.getElem?_set_ne
def adk:=@List.range_succ
variable {P:PySem.Program}{w:PySem.World}{K:aab}{mg:PySem.Str->Option PySem.Value}{base:PySem.Heap}{C c_TipError c_NoNet c_NoVessel c_TooLong c_TooMany c_TooMuch c_Nothing c_NoText c_NoRow:PySem.Addr}
namespace L2
open PySem PySem.Spec PyProof.Rows
abbrev eV:=Sum Int (Option Str)
def K7:Value->Bool
 | .none=>true
 | _=>false
theorem A4 {v:Value} (h:K7 v=true):v=Value.none:=by
 cases v <;> simp_all [K7]
def vJ:eV->Value->Bool
 | .inl k,v=>Value.isInt k v
 | .inr (some x),v=>Value.isStrOf x v
 | .inr none,v=>K7 v
def oN:Int:=0xFCA86420
def keyH (w:World):eV->Int
 | .inl k=>hashInt k
 | .inr (some x)=>hashStr w x
 | .inr none=>oN
theorem cE:∀ {k:eV}{v:Value},vJ k v=true->(∃ i t,k=Sum.inl i/\v=Value.int i t)\/(∃ x t,k=Sum.inr (some x)/\v=Value.str x t)\/(k=Sum.inr none/\v=Value.none)
 | .inl i,v,h=>by
  obtain⟨t,e⟩:=Value.isInt_shape (k:=i) (v:=v) h;exact .inl ⟨i,t,rfl,e⟩
 | .inr (some x),v,h=>by
  obtain⟨t,e⟩:=Value.isStrOf_shape (x:=x) (v:=v) h;exact .inr (.inl ⟨x,t,rfl,e⟩)
 | .inr none,v,h=>.inr (.inr ⟨rfl,A4 h⟩)
theorem GB (i:Int) (t:Tok):vJ (.inl i) (.int i t)=true:=by simp [vJ,Value.isInt]
theorem GA (x:Str) (t:Tok):vJ (.inr (some x)) (.str x t)=true:=by simp [vJ,Value.isStrOf]
theorem PY (a b:Int):decide ((Sum.inl a:eV)=Sum.inl b)=(a == b):=by
 by_cases e:a=b
 ·subst e;simp
 ·have h:¬ (Sum.inl a:eV)=Sum.inl b:=λ q=>e (Sum.inl.inj q);rw[acp h];exact (beq_eq_false_iff_ne.mpr e).symm
theorem PV (a b:Str):decide ((Sum.inr (some a):eV)=Sum.inr (some b))=decide (a=b):=by
 by_cases e:a=b
 ·subst e;simp
 ·have h:¬ (Sum.inr (some a):eV)=Sum.inr (some b):=λ q=>e (abf (Sum.inr.inj q));rw[acp h,acp e]
theorem JX (i:Int) (o:Option Str):decide ((Sum.inl i:eV)=Sum.inr o)=false:=acp (λ q=>nomatch q)
theorem JY (i:Int) (o:Option Str):decide ((Sum.inr o:eV)=Sum.inl i)=false:=acp (λ q=>nomatch q)
theorem PU (x:Str):decide ((Sum.inr (some x):eV)=Sum.inr none)=false:=acp (λ q=>nomatch (Sum.inr.inj q))
theorem PX (x:Str):decide ((Sum.inr none:eV)=Sum.inr (some x))=false:=acp (λ q=>nomatch (Sum.inr.inj q))
theorem KF {prog:Program}{w:World}{A:Around}{E:Value->Shared->Prop}{s:Shared}{Q:Int->Shared->Prop} (h:Q oN { s with toks:=s.toks+1 }) :
  wpAny (model prog w) A (pyHash .none) Q E s:=by
 have hT:s.TypeIs .none "NoneType" := rfl;unfold pyHash;have hv:[Value.none].any Value.onHeap=false:=rfl;refine aaa ?_;rw[cRoomFor,if_neg (by rw[hv];exact aar)];refine aaf ?_;refine aaa (wpAny_specialOf hT F.slot_NoneType_hash.lookup ?_);show wpAny _ _ (if (some (Value.builtin "NoneType.__hash__") == some Value.none)=true then _ else _) Q E s;rw[if_neg (by rw[beq_builtin_none];exact aar)];refine aaa (wpAny_specialOf hT F.slot_NoneType_hash.lookup ?_);show wpAny _ _ (callSpecialIfBoundUnlessNone? .none "__hash__" _ >>= _) Q E s;refine aaa (wpAny_callSpecialIfBoundUnlessNone?_slot hT F.slot_NoneType_hash
  (wpAny_call_entry F.slot_NoneType_hash hT F.entry_NoneType_hash
   (show wpAny _ _ (do ret (<- mkInt oN)) _ _ s from wpAny_ret_mkInt ?_) (F.args_NoneType_hash_1 _)))
 show wpAny _ _ (if (decide (-(2:Int) ^ 63<=oN) && decide (oN < 2 ^ 63))=true then _ else _) Q E _;rw[if_pos (by decide)];exact aaf h
def cO (prog:Program) (w:World):PySem.KeyKind prog w eV where
 is:=vJ
 hash:=keyH w
 inj:=λ v a b ha hb=>by
  rcases cE ha with ⟨i,t,rfl,rfl⟩ | ⟨x,t,rfl,rfl⟩ | ⟨rfl,rfl⟩
  ·rcases cE hb with ⟨j,u,rfl,e⟩ | ⟨y,u,rfl,e⟩ | ⟨rfl,e⟩
   ·injection e with e1 _;rw[e1]
   ·exact nomatch e
   ·exact nomatch e
  ·rcases cE hb with ⟨j,u,rfl,e⟩ | ⟨y,u,rfl,e⟩ | ⟨rfl,e⟩
   ·exact nomatch e
   ·injection e with e1 _;rw[e1]
   ·exact nomatch e
  ·rcases cE hb with ⟨j,u,rfl,e⟩ | ⟨y,u,rfl,e⟩ | ⟨rfl,e⟩
   ·exact nomatch e
   ·exact nomatch e
   ·rfl
 byValue:=λ k v h=>by
  rcases cE h with ⟨i,t,rfl,rfl⟩ | ⟨x,t,rfl,rfl⟩ | ⟨rfl,rfl⟩ <;> rfl
 pyHash:=λ hv h=>by
  rcases cE hv with ⟨i,t,rfl,rfl⟩ | ⟨x,t,rfl,rfl⟩ | ⟨rfl,rfl⟩
  ·exact wpAny_pyHash_int h
  ·exact wpAny_pyHash_str h
  ·exact KF h
 eqBool:=λ hu hv h=>by
  rcases cE hu with ⟨i,t,rfl,rfl⟩ | ⟨x,t,rfl,rfl⟩ | ⟨rfl,rfl⟩
  ·rcases cE hv with ⟨j,u,rfl,rfl⟩ | ⟨y,u,rfl,rfl⟩ | ⟨rfl,rfl⟩
   ·rw[PY] at h;exact wpAny_eqBool_int h
   ·rw[JX] at h;exact SeqAt.EqAt.int_str i t y u _ _ _ _ h
   ·rw[JX] at h;exact SeqAt.EqAt.int_none i t _ _ _ _ h
  ·rcases cE hv with ⟨j,u,rfl,rfl⟩ | ⟨y,u,rfl,rfl⟩ | ⟨rfl,rfl⟩
   ·rw[JY] at h;exact SeqAt.EqAt.str_int x t j u _ _ _ _ h
   ·rw[PV] at h;exact wpAny_eqBool_str h
   ·rw[PU] at h;exact SeqAt.EqAt.str_none x t _ _ _ _ h
  ·rcases cE hv with ⟨j,u,rfl,rfl⟩ | ⟨y,u,rfl,rfl⟩ | ⟨rfl,rfl⟩
   ·rw[JY] at h;exact SeqAt.EqAt.none_int j u _ _ _ _ h
   ·rw[PX] at h;exact SeqAt.EqAt.none_str y u _ _ _ _ h
   ·rw[abt rfl] at h;exact SeqAt.EqAt.same Value.none _ _ _ _ h
 «strs»:=λ k x t v h=>by
  rcases cE h with ⟨i,u,rfl,e⟩ | ⟨y,u,rfl,e⟩ | ⟨rfl,e⟩
  ·exact nomatch e
  ·injection e with e1 _;subst e1;cases v <;> rfl
  ·exact nomatch e
theorem zU (prog:Program) (w:World) (i:Int) (t:Tok):(cO prog w).is (.inl i) (.int i t)=true:=GB i t
theorem zT (prog:Program) (w:World) (x:Str) (t:Tok):(cO prog w).is (.inr (some x)) (.str x t)=true:=GA x t
inductive V where
 | non | bl (b:Bool) | int (i:Int) | str (x:Str) | byt (b:Array UInt8) | flt (b:UInt64) | ref (a:Addr) | ty (n:String)
 deriving DecidableEq
def aX:V->Value->Prop
 | .non,u=>u=Value.none
 | .bl b,u=>u=Value.bool b
 | .int i,u=>∃ t,u=Value.int i t
 | .str x,u=>∃ t,u=Value.str x t
 | .byt b,u=>∃ t,u=Value.bytes b t
 | .flt b,u=>∃ t,u=Value.float b t
 | .ref a,u=>u=Value.ref a
 | .ty n,u=>u=Value.type n
abbrev bL:List V->List Value->Prop:=Paired aX
theorem bL.length {xs:List V}{us:List Value} (r:bL xs us):xs.length=us.length:=Paired.length r
theorem bL.get:∀ {xs:List V}{us:List Value}{i:Nat}{x:V},bL xs us->xs[i]? = some x->∃ u,us[i]? = some u/\aX x u
 | _,_,_,_,.nil,e=>by simp at e
 | _,_,0,_,.cons r _,e=>by simp at e;subst e;exact⟨_,rfl,r⟩
 | _,_,i+1,x,.cons _ t,e=>by
  obtain⟨u,h1,h2⟩:=bL.get (i:=i) (x:=x) t (by simpa using e);exact⟨u,by simpa using h1,h2⟩
theorem bL.set {x:V}{u:Value} (r:aX x u):∀ {xs:List V}{us:List Value} (i:Nat),bL xs us->bL (xs.set i x) (us.set i u)
 | _,_,_,.nil=>.nil
 | _,_,0,.cons _ t=>.cons r t
 | _,_,i+1,.cons q t=>.cons q (bL.set r i t)
theorem bL.append:∀ {xs ys:List V}{us ws:List Value},bL xs us->bL ys ws->bL (xs++ys) (us++ws)
 | _,_,_,_,.nil,s=>s
 | _,_,_,_,.cons r t,s=>.cons r (bL.append t s)
theorem bL.take:∀ {xs:List V}{us:List Value} (n:Nat),bL xs us->bL (xs.take n) (us.take n)
 | _,_,0,_=>.nil
 | _,_,_+1,.nil=>.nil
 | _,_,n+1,.cons r t=>.cons r (bL.take n t)
theorem bL.drop:∀ {xs:List V}{us:List Value} (n:Nat),bL xs us->bL (xs.drop n) (us.drop n)
 | _,_,0,r=>r
 | _,_,_+1,.nil=>.nil
 | _,_,n+1,.cons _ t=>bL.drop n t
def nL:Option V->Option Value->Prop
 | some v,some u=>aX v u
 | none,none=>True
 | _,_=>False
def KV {ar:Type}:List (ar×V)->List (ar×Value)->Prop:=Paired λ (p:ar×V) (q:ar×Value)=>p.1=q.1/\aX p.2 q.2
def kV:eV->V
 | .inl i=>.int i
 | .inr (some x)=>.str x
 | .inr none=>.non
inductive HO where
 | lst (xs:List V)
 | tup (xs:List V)
 | dK (kvs:List (eV×V)) | dT (kvs:List (List eV×V))
 | set (S:Int->Bool) (n:Nat)
 | ins (C dx:Addr) (fs:List (Str×V))
 | own (x:Addr)
 | xd (fs:List (Str×V))
 | met (f x:Addr)
 | rng (lo hi:Int)
 | frz (o:Obj) (u:HO)
 | tbl (ps:Array Value)
 | ext (fc:Heap->Prop)
abbrev Hp:=Addr->Option HO
def upd (H:Hp) (a:Addr) (o:HO):Hp:=λ b=>if b=a then some o else H b
theorem aB {H:Hp}{a:Addr}{o:HO}:upd H a o a=some o:=by unfold upd;rw[if_pos rfl]
theorem aI {H:Hp}{a b:Addr}{o:HO} (h:b≠a):upd H a o b=H b:=by unfold upd;rw[if_neg h]
theorem O3 {H:Hp}{a b:Addr}{o u:HO} (h:H a=some o) (h':H b=some u) (d:o≠u):a≠b:=by
 intro e;subst e;rw[h] at h';exact d (abf h')
theorem aK {H:Hp}{a b:Addr}{o:HO} (h:H a=some o) (h':H b=none):a≠b:=by
 intro e;subst e;rw[h] at h';cases h'
section
variable (P:Program)(w:World)
def bQ (H:Hp) (h:Heap) (a:Addr):HO->Prop
 | .lst xs=>xs.length<=sizeLine/\∃ (its:List Value) (n:Nat),bL xs its/\h.get? a=some { cls:=.type "list",data:=.seq its.toArray n }
 | .tup xs=>xs.length<=sizeLine/\∃ its:List Value,bL xs its/\IsTup h a its.toArray
 | .dK kvs=>kvs.length<=sizeLine/\(a == sysModules)=false/\∃ vs,KV kvs vs/\h.DictOf (cO P w) a vs
 | .dT kvs=>kvs.length<=sizeLine/\(a == sysModules)=false/\∃ xs:List (List eV×Addr×Value),
   Paired (λ (p:List eV×V) (q:List eV×Addr×Value)=>p.1=q.1/\H q.2.1=some (.tup (p.1.map kV))/\aX p.2 q.2.2) kvs xs/\
   ∃ o es ep,h.get? a=some o/\o.ExactDict/\o.data=.dict es ep/\es.toList=xs.map (entryOfKey (tupleKind (cO P w)))/\(xs.map (·.1)).Nodup
 | .set S n=>h.SetOf (intKind P w) a S n
 | .ins C dx fs=>H dx=some (.own a)/\fs.length<=1000/\dx≠a/\h.get? a=some (PySem.W.instObj C dx)/\
   ∃ mA,h.Ns1 dx mA/\(∀ f,nL (fs.lookup f) (mA f))/\PySem.Within mA (fs.map (·.1))
 | .own _=>∃ o,h.get? a=some o
 | .xd fs=>∃ mA,h.Ns1 a mA/\∀ f,nL (fs.lookup f) (mA f)
 | .rng lo hi=>∃ t u v,h.get? a=some { cls:=.type "range",data:=.fields #[.int lo t,.int hi u,.int 1 v] }
 | .frz o u=>h.get? a=some o/\bQ H h a u
 | .tbl ps=>h.get? a=some { cls:=.none,data:=.fields ps }
 | .met f x=>h.get? a=some (PySem.W.methodObj (.ref f) (.ref x))
 | .ext fc=>fc h/\(∃ o,h.get? a=some o)/\∀ h1 h2:Heap,fc h1->(∀ o,h1.get? a=some o->h2.get? a=some o)->fc h2
def mF (H:Hp) (h:Heap):Prop:=∀ a o,H a=some o->bQ P w H h a o
end
section
variable {H H':Hp}{h h':Heap}{a:Addr}{o:HO}
theorem bQ.lt (x:bQ P w H h a o):a < h.objs.size:=by
 cases o with
 | lst xs=>obtain⟨_,_,_,_,e⟩:=x;exact aaq e
 | tup xs=>obtain⟨_,_,_,p⟩:=x;exact p.lt
 | dK kvs=>obtain⟨_,_,_,_,o,_,_,e,_⟩:=x;exact aaq e
 | dT kvs=>obtain⟨_,_,_,_,o,_,_,e,_⟩:=x;exact aaq e
 | set S n=>obtain⟨o,_,_,_,e,_⟩:=x;exact aaq e
 | ins C dx fs=>obtain⟨_,_,_,e,_⟩:=x;exact aaq e
 | own y=>obtain⟨_,e⟩:=x;exact aaq e
 | xd fs=>obtain⟨_,⟨_,_,_,e,_⟩,_⟩:=x;exact aaq e
 | rng lo hi=>obtain⟨_,_,_,e⟩:=x;exact aaq e
 | frz ob u=>obtain⟨e,_⟩:=x;exact aaq e
 | tbl ps=>exact aaq (show h.get? a=some _ from x)
 | met f y=>exact aaq (show h.get? a=some _ from x)
 | ext fc=>obtain⟨_,⟨_,e⟩,_⟩:=x;exact aaq e
theorem Paired.mapP {α ap:Type}{F G:α->ap->Prop}:∀ {bn:List α}{bo:List ap},Paired F bn bo->(∀ a b,F a b->G a b)->Paired G bn bo
 | _,_,.nil,_=>.nil
 | _,_,.cons r t,f=>.cons (f _ _ r) (Paired.mapP t f)
theorem bQ.stay (x:bQ P w H h a o) (k:∀ b u,(b=a\/H b=some (.own a))->h.get? b=some u->h'.get? b=some u)
  (ho:∀ b,H b=some (.own a)->H' b=some (.own a)) (ht:∀ b xs,H b=some (.tup xs)->H' b=some (.tup xs)):bQ P w H' h' a o:=by
 induction o with
 | lst xs=>obtain⟨z,its,n,r,e⟩:=x;exact⟨z,its,n,r,k _ _ (.inl rfl) e⟩
 | tup xs=>obtain⟨z,its,r,ob,e,c⟩:=x;exact⟨z,its,r,ob,k _ _ (.inl rfl) e,c⟩
 | dK kvs=>obtain⟨z,y,vs,r,ob,es,ep,e,c⟩:=x;exact⟨z,y,vs,r,ob,es,ep,k _ _ (.inl rfl) e,c⟩
 | dT kvs=>
  obtain⟨z,y,xs,r,ob,es,ep,e,c⟩:=x;exact⟨z,y,xs,Paired.mapP r λ p q z=>⟨z.1,ht _ _ z.2.1,z.2.2⟩,ob,es,ep,k _ _ (.inl rfl) e,c⟩
 | set S n=>obtain⟨ob,es,ep,t,e,c⟩:=x;exact⟨ob,es,ep,t,k _ _ (.inl rfl) e,c⟩
 | ins C dx fs=>
  obtain⟨d,z,ne,e,mA,⟨od,es,ep,e2,c⟩,r⟩:=x;exact⟨ho _ d,z,ne,k _ _ (.inl rfl) e,mA,⟨od,es,ep,k _ _ (.inr d) e2,c⟩,r⟩
 | own y=>obtain⟨ob,e⟩:=x;exact⟨ob,k _ _ (.inl rfl) e⟩
 | xd fs=>obtain⟨mA,⟨od,es,ep,e,c⟩,r⟩:=x;exact⟨mA,⟨od,es,ep,k _ _ (.inl rfl) e,c⟩,r⟩
 | rng lo hi=>obtain⟨t,u,v,e⟩:=x;exact⟨t,u,v,k _ _ (.inl rfl) e⟩
 | frz ob u ih=>obtain⟨e,q⟩:=x;exact⟨k _ _ (.inl rfl) e,ih q⟩
 | tbl ps=>
  have e:h.get? a=some { cls:=.none,data:=.fields ps }:=x;show h'.get? a=some { cls:=.none,data:=.fields ps };exact k a _ (.inl rfl) e
 | met f y=>
  have e:h.get? a=some (PySem.W.methodObj (.ref f) (.ref y)):=x;show h'.get? a=some (PySem.W.methodObj (.ref f) (.ref y));exact k a _ (.inl rfl) e
 | ext fc=>obtain⟨p,⟨o,e⟩,st⟩:=x;exact⟨st _ _ p λ o q=>k _ _ (.inl rfl) q,⟨o,k _ _ (.inl rfl) e⟩,st⟩
theorem mF.lt (x:mF P w H h) (e:H a=some o):a < h.objs.size:=(x a o e).lt
theorem mF.fresh (x:mF P w H h) (e:h.objs.size<=a):H a=none:=by
 cases q:H a with
 | none=>rfl
 | some u=>exact absurd (aax (x.lt q) e) (acn _)
theorem mF.kept (x:mF P w H h) (k:∀ b u,h.get? b=some u->h'.get? b=some u):mF P w H h':=λ a o e=>
 (x a o e).stay (λ b u _ q=>k b u q) (λ _ q=>q) λ _ _ q=>q
theorem mF.laid (x:mF P w H h) (k:∀ b u,h.get? b=some u->h'.get? b=some u) (hp:h.objs.size<=a) (new:bQ P w (upd H a o) h' a o):mF P w (upd H a o) h':=λ b u e=>by
 have hn:=x.fresh hp
 by_cases hb:b=a
 ·subst hb;rw[aB] at e;cases e;exact new
 ·rw[aI hb] at e;exact (x b u e).stay (λ c v _ q=>k c v q) (λ c q=>by rw[aI (aK q hn)];exact q) λ c xs q=>by rw[aI (aK q hn)];exact q
end
def Rd (H:Hp) (a:Addr) (u:HO):Prop:=H a=some u\/∃ o,H a=some (.frz o u)
theorem Rd.ok {P:Program}{w:World}{H:Hp}{h:Heap}{a:Addr}{u:HO} (r:Rd H a u) (x:mF P w H h):bQ P w H h a u:=by
 rcases r with r | ⟨o,r⟩
 ·exact x a u r
 ·obtain⟨_,q⟩:=x a _ r;exact q
def lS:Option HO->Prop
 | some (.lst _)=>True
 | some (.dK _)=>True
 | some (.dT _)=>True
 | some (.set _ _)=>True
 | some (.ins _ _ _)=>True
 | some (.ext _)=>True
 | _=>False
section
variable {H:Hp}{h h':Heap}{x e:Addr}{o':HO}
theorem mF.write (ok:mF P w H h) (mu:lS (H x)) (he:e=x\/H e=some (.own x)) (k:∀ b u,b≠e->h.get? b=some u->h'.get? b=some u) (heo:∃ u,h'.get? e=some u)
  (new:bQ P w (upd H x o') h' x o'):mF P w (upd H x o') h':=λ b u q=>by
 have nown:∀ c y,H c=some (.own y)->c≠x:=λ c y r z=>by subst z;rw[r] at mu;exact mu
 have ntup:∀ c xs,H c=some (.tup xs)->c≠x:=λ c xs r z=>by subst z;rw[r] at mu;exact mu
 by_cases hb:b=x
 ·subst hb;rw[aB] at q;cases q;exact new
 ·rw[aI hb] at q
  by_cases hbe:b=e
  ·have q':H b=some (.own x):=by
    rcases he with z | z
    ·exact absurd (hbe.trans z) hb
    ·rw[hbe];exact z
   rw[q] at q';cases q';obtain⟨v,hv⟩:=heo;exact⟨v,by rw[hbe];exact hv⟩
  ·refine (ok b u q).stay (λ c v hc r=>k c v ?_ r) (λ c r=>by rw[aI (nown c b r)];exact r) λ c xs r=>by rw[aI (ntup c xs r)];exact r
   rcases hc with rfl | hc
   ·exact hbe
   ·rintro rfl;rcases he with z | z
    ·exact nown c b hc z
    ·rw[hc] at z;cases z;exact hb rfl
end
structure Un (fs ex:List Addr) (H H':Hp) (h h':Heap):Prop where
 keep:∀ b o,h.get? b=some o->H b=none->b∉fs->b∉ex->h'.get? b=some o
 slot:∀ b o,h.get? b=some o->H b=none->b∈fs->b∉ex->∃ sl,h'.get? b=some { o with slots:=sl }
 free:∀ b o,h.get? b=some o->H b=none->b∉ex->H' b=none
 there:∀ b o,h.get? b=some o->b∉ex->∃ o',h'.get? b=some o'
 tups:∀ b xs,H b=some (.tup xs)->H' b=some (.tup xs)
 frzs:∀ b o u,H b=some (.frz o u)->H' b=some (.frz o u)
 tbls:∀ b ps,H b=some (.tbl ps)->∃ more,H' b=some (.tbl (ps++more))
section
variable {fs fs' ex ex':List Addr}{H H1 H2:Hp}{h h1 h2 h':Heap}{a x e:Addr}{o:HO}
theorem Un.any (u:Un fs ex H H1 h h1) {b:Addr}{ob:Obj} (q:h.get? b=some ob) (n:H b=none) (hx:b∉ex):∃ sl,h1.get? b=some { ob with slots:=sl }:=by
 by_cases hb:b∈fs
 ·exact u.slot b ob q n hb hx
 ·exact⟨ob.slots,u.keep b ob q n hb hx⟩
theorem Un.kept (k:∀ b u,h.get? b=some u->h'.get? b=some u):Un fs ex H H h h':=
 ⟨λ b ob q _ _ _=>k b ob q,λ b ob q _ _ _=>⟨ob.slots,k b ob q⟩,λ _ _ _ n _=>n,λ b ob q _=>⟨ob,k b ob q⟩,λ _ _ q=>q,λ _ _ _ q=>q,λ _ ps q=>⟨#[],by rw[q];simp⟩⟩
theorem Un.refl:Un fs ex H H h h:=Un.kept λ _ _ q=>q
theorem Un.laid (k:∀ b u,h.get? b=some u->h'.get? b=some u) (hp:h.objs.size<=a) (hn:H a=none):Un fs ex H (upd H a o) h h' where
 keep:=λ b u q _ _ _=>k b u q
 slot:=λ b u q _ _ _=>⟨u.slots,k b u q⟩
 free:=λ b u q n _=>by rw[aI (abc (aax (aaq q) hp))];exact n
 there:=λ b u q _=>⟨u,k b u q⟩
 tups:=λ b xs q=>by rw[aI (aK q hn)];exact q
 frzs:=λ b u xs q=>by rw[aI (aK q hn)];exact q
 tbls:=λ b ps q=>⟨#[],by rw[aI (aK q hn),q];simp⟩
theorem Un.write (mu:lS (H x)) (he:e=x\/H e=some (.own x)) (k:∀ b u,b≠e->h.get? b=some u->h'.get? b=some u) (heo:∃ u,h'.get? e=some u):Un fs ex H (upd H x o) h h':=by
 have hx:∀ b,H b=none->b≠x:=λ b n z=>by subst z;rw[n] at mu;exact mu
 have hb:∀ b,H b=none->b≠e:=λ b n z=>by
  subst z;rcases he with r | r
  ·exact hx b n r
  ·rw[n] at r;cases r
 have hm:∀ b u,H b=some u->¬ lS (some u)->b≠x:=λ b u q nm z=>by subst z;rw[q] at mu;exact nm mu
 refine⟨λ b u q n _ _=>k b u (hb b n) q,λ b u q n _ _=>⟨u.slots,k b u (hb b n) q⟩,λ b u q n _=>by rw[aI (hx b n)];exact n,λ b u q _=>?_,
  λ b xs q=>by rw[aI (hm b _ q λ z=>z)];exact q,λ b u xs q=>by rw[aI (hm b _ q λ z=>z)];exact q,λ b ps q=>⟨#[],by rw[aI (hm b _ q λ z=>z),q];simp⟩⟩
 by_cases hbe:b=e
 ·subst hbe;exact heo
 ·exact⟨u,k b u hbe q⟩
end
def trk (h:Heap) (H:Hp):List Addr:=(List.range h.objs.size).filter λ a=>(H a).isSome
def uM (h:Heap) (H:Hp):Heap:=PySem.W.hideAll h (trk h H)
theorem GD (h:Heap) (H:Hp):(uM h H).objs.size=h.objs.size:=PySem.W.hideAll_size _ _
theorem KC {h:Heap}{H:Hp}{b:Addr}{o:Obj} (e:h.get? b=some o) (n:H b=none):(uM h H).get? b=some o:=
 PySem.W.hideAll_get _ e λ hm=>by
  have q:(H b).isSome=true:=(acu.mp hm).2;rw[n] at q;simp at q
theorem MQ {h:Heap}{H:Hp}{b:Addr}{o:Obj} (e:(uM h H).get? b=some o):h.get? b=some o/\H b=none:=by
 have e':h.get? b=some o:=PySem.W.of_hideAll (trk h H) e;refine⟨e',?_⟩;cases q:H b with
 | none=>rfl
 | some x=>
  have hm:b∈trk h H:=acu.mpr ⟨abz.mpr (aaq e'),by simp [q]⟩;have z:(uM h H).get? b=none:=PySem.W.hideAll_none (trk h H) hm;rw[z] at e;cases e
structure Mod (K:aab) (mg:Str->Option Value) (base:Heap):Prop where
 kin:K.In base
 glob:base.Ns mainGlobals mg
 blt:∃ mb,base.Ns builtinsNs mb/\∀ x:Str,x ≠ "__name__" -> mb x=bootBuiltins x
 nolimit:base.NoLimit
structure Cx where
 prog:Program
 w:World
 K:aab
 mg:Str->Option Value
 base:Heap
 A:Around
 N:List Str
 s₀:Shared
 H₀:Hp
 env:Env
 outer:List Env
 stack:List Env
 ex:List Addr
 fn:Str->Bool
 calm:Bool
 pn:List (Addr×Obj)
 xe:Value->Shared->Prop
def jL (l:List Env):List Addr:=l.filterMap (·.frame)
abbrev Cx.fs (X:Cx):List Addr:=jL X.outer
def S4 (sc:Scope) (x:Str):Prop:=sc.names.lookup x=some .local\/sc.names.lookup x=some .cell\/sc.names.lookup x=some .free
def S9 (sc:Scope) (x:Str):Prop:=sc.names.lookup x=some .local\/sc.names.lookup x=some .cell
def Look (env:Env) (h:Heap) (m:Str->Option Value) (x:Str) (u:Value):Prop:=
 (env.kindOf x=some .local/\m x=some u)\/((env.kindOf x=some .cell\/env.kindOf x=some .free)/\∃ c,env.cells.lookup x=some c/\h.IsCell c (some u))
structure Cx.Ok (X:Cx):Prop where
 mod:Mod X.K X.mg X.base
 kind:X.env.scope.kind=.function
 glob:X.env.globals=mainGlobals
 blt:X.env.builtins=builtinsNs
 above:X.s₀.heap.objs.size<=X.env.locals
 inj:∀ x y c,X.env.cells.lookup x=some c->X.env.cells.lookup y=some c->x=y
 has:∀ x,(X.env.kindOf x=some .cell\/X.env.kindOf x=some .free)->∃ c,X.env.cells.lookup x=some c
 cab:∀ x c,X.fn x=true->X.env.cells.lookup x=some c->X.s₀.heap.objs.size<=c
 hd:X.calm=true->X.A.handled=none
 frames:X.A.frames=some X.stack
 stk:X.stack=X.outer\/(X.stack=X.env::X.outer/\X.env.frame=some X.env.locals)
 exf:∀ b∈X.ex,b≠X.env.locals/\∀ x c,X.env.cells.lookup x=some c->c≠b
 bs:∀ b o,X.base.get? b=some o->X.s₀.heap.get? b=some o/\X.H₀ b=none
 bsz:X.base.objs.size<=X.s₀.heap.objs.size
 noex:∀ b o,X.base.get? b=some o->b∉X.ex
 exfs:∀ b∈X.ex,b∉X.fs
 funs:X.s₀.heap.FunFrames X.base X.outer
 frf:∀ b∈X.fs,X.H₀ b=none
structure Inv (X:Cx) (pins:List (Addr×Obj)) (σ:List (Option V)) (H:Hp) (s:Shared):Prop where
 ok:X.Ok
 os:s.os=X.s₀.os
 bare:AllBare s.gens
 base:Un X.fs X.ex X.H₀ H X.s₀.heap s.heap
 loc:∃ m,s.heap.Ns X.env.locals m/\∀ (i:Nat) (x:Str) (v:V),X.N[i]? = some x->σ[i]? = some (some v)->S4 X.env.scope x->∃ u,aX v u/\Look X.env s.heap m x u
 cell:∀ x c,X.env.cells.lookup x=some c->∃ v,s.heap.IsCell c v
 free:H X.env.locals=none
 freeC:∀ x c,X.env.cells.lookup x=some c->H c=none
 pin:∀ p∈X.pn++pins,s.heap.get? p.1=some p.2/\H p.1=none/\p.1≠X.env.locals/\p.1∉X.fs/\∀ v,p.2.data≠.cell v
 hok:mF X.prog X.w H s.heap
 len:σ.length=X.N.length
section
variable {X:Cx}{pins:List (Addr×Obj)}{σ:List (Option V)}{H H':Hp}{s:Shared}{h':Heap}
theorem Cx.Ok.nofr (ok:X.Ok) {b:Addr}{o:Obj} (e:X.base.get? b=some o):b∉X.fs:=λ hb=>by
 have:=(ok.funs.mem hb).1;rw[e] at this;cases this
theorem Inv.bs (I:Inv X pins σ H s):∀ b o,X.base.get? b=some o->s.heap.get? b=some o/\H b=none:=λ b o e=>
 ⟨I.base.keep b o (I.ok.bs b o e).1 (I.ok.bs b o e).2 (I.ok.nofr e) (I.ok.noex b o e),I.base.free b o (I.ok.bs b o e).1 (I.ok.bs b o e).2 (I.ok.noex b o e)⟩
theorem Inv.bk (I:Inv X pins σ H s):∀ b o,X.base.get? b=some o->s.heap.get? b=some o:=λ b o e=>(I.bs b o e).1
theorem Inv.mod (I:Inv X pins σ H s):Mod X.K X.mg X.base:=I.ok.mod
theorem Inv.kIn (I:Inv X pins σ H s):X.K.In s.heap:=I.ok.mod.kin.keeps I.bk
theorem Inv.lt (I:Inv X pins σ H s):X.env.locals < s.heap.objs.size:=let ⟨_,hn,_⟩:=I.loc;hn.lt
theorem Inv.sz (I:Inv X pins σ H s):X.s₀.heap.objs.size<=s.heap.objs.size:=acd I.ok.above (ade I.lt)
theorem Inv.nofs (I:Inv X pins σ H s) {a:Addr} (h:s.heap.objs.size<=a):a∉X.fs:=λ hb=>by
 obtain⟨_,o,ho,_⟩:=I.ok.funs.mem hb;exact absurd (aax (aaq ho) (acd I.sz h)) (acn _)
theorem Inv.cne (I:Inv X pins σ H s):∀ x c,X.env.cells.lookup x=some c->c≠X.env.locals:=λ x c e z=>by
 obtain⟨v,o,ho,hd⟩:=I.cell x c e;obtain⟨m,⟨o',es,ep,ho',hd',_⟩,_⟩:=I.loc;rw[z,ho'] at ho;cases ho;rw[hd'] at hd;cases hd
theorem Inv.funs (I:Inv X pins σ H s):s.heap.FunFrames X.base X.outer:=by
 have all:∀ (l:List Env),(∀ b∈jL l,b∈X.fs)->X.s₀.heap.FunFrames X.base l->s.heap.FunFrames X.base l:=by
  intro l
  induction l with
  | nil=>intro _ _;trivial
  | cons env r ih=>
   intro hs hl;obtain⟨hk,⟨L,o,hf,hn,ho,hd⟩,hr⟩:=hl;have hL:L∈X.fs:=hs L (by unfold jL;rw[List.filterMap_cons,hf];exact aat);obtain⟨sl,e⟩:=I.base.slot L o ho (I.ok.frf L hL) hL λ z=>I.ok.exfs L z hL;exact⟨hk,⟨L,_,hf,hn,e,hd⟩,ih (λ b hb=>hs b (by unfold jL;rw[List.filterMap_cons,hf];exact aap _ hb)) hr⟩
 exact all X.outer (λ _ hb=>hb) I.ok.funs
theorem Inv.stack (I:Inv X pins σ H s):s.heap.FunFrames X.base X.stack:=by
 rcases I.ok.stk with e | ⟨e,hf⟩
 ·rw[e];exact I.funs
 ·rw[e];obtain⟨m,hn,_⟩:=I.loc;refine .cons (by rw[I.ok.kind];decide) hf hn ?_ I.funs;exact Heap.get?_none_of_le (acd I.ok.bsz I.ok.above)
theorem Inv.stkSub (I:Inv X pins σ H s):∀ b∈jL X.stack,b∈X.env.locals::X.fs:=λ b hb=>by
 rcases I.ok.stk with e | ⟨e,hf⟩
 ·rw[e] at hb;exact aap _ hb
 ·rw[e] at hb;unfold jL at hb;rw[List.filterMap_cons,hf] at hb;exact hb
theorem Inv.stkFree (I:Inv X pins σ H s):∀ b∈jL X.stack,H b=none:=λ b hb=>by
 rcases aao.mp (I.stkSub b hb) with e | hb
 ·rw[e];exact I.free
 ·obtain⟨_,o,ho,_⟩:=I.ok.funs.mem hb;exact I.base.free b o ho (I.ok.frf b hb) λ z=>I.ok.exfs b z hb
theorem Inv.step {g':Array GenState}{t':Nat}{d':Drawn}{ch:List Addr} (I:Inv X pins σ H s)
  (hch:∀ b∈ch,(b∈X.ex\/X.s₀.heap.objs.size<=b)/\b≠X.env.locals/\(∀ x c,X.env.cells.lookup x=some c->c≠b)/\∀ p∈X.pn++pins,p.1≠b)
  (keep:∀ b o,b≠X.env.locals->b∉X.fs->b∉ch->s.heap.get? b=some o->H b=none->h'.get? b=some o)
  (slot:∀ b o,b≠X.env.locals->b∈X.fs->b∉ch->s.heap.get? b=some o->H b=none->∃ sl,h'.get? b=some { o with slots:=sl }) (free:∀ b o,b∉ch->s.heap.get? b=some o->H b=none->H' b=none)
  (there:∀ b o,b∉ch->s.heap.get? b=some o->∃ o',h'.get? b=some o')
  (tups:∀ b xs,H b=some (.tup xs)->H' b=some (.tup xs)) (frzs:∀ b o u,H b=some (.frz o u)->H' b=some (.frz o u)) (tbls:∀ b ps,H b=some (.tbl ps)->∃ more,H' b=some (.tbl (ps++more)))
  (ns:∀ m,s.heap.Ns X.env.locals m->h'.Ns X.env.locals m) (hok:mF X.prog X.w H' h') (hg:AllBare g') :
  Inv X pins σ H' { s with heap:=h',gens:=g',drawn:=d',toks:=t' }:=by
 have neL:∀ b o,X.s₀.heap.get? b=some o->b≠X.env.locals:=λ b o e=>abc (aax (aaq e) I.ok.above);have neC:∀ b o,X.s₀.heap.get? b=some o->b∉X.ex->b∉ch:=λ b o e hx hb=>by
  rcases (hch b hb).1 with z | z
  ·exact hx z
  ·exact absurd (aax (aaq e) z) (acn _)
 have cellK:∀ x c,X.env.cells.lookup x=some c->∀ v,s.heap.IsCell c v->h'.IsCell c v:=λ x c e v ⟨o,ho,hd⟩=>by
  have nch:c∉ch:=λ z=>(hch c z).2.2.1 x c e rfl
  by_cases hc:c∈X.fs
  ·obtain⟨sl,q⟩:=slot c o (I.cne x c e) hc nch ho (I.freeC x c e);exact⟨_,q,hd⟩
  ·exact⟨o,keep c o (I.cne x c e) hc nch ho (I.freeC x c e),hd⟩
 refine⟨I.ok,I.os,hg,⟨λ b o e n hb hx=>?_,λ b o e n hb hx=>?_,λ b o e n hx=>?_,λ b o e hx=>?_,λ b xs e=>tups b xs (I.base.tups b xs e),λ b o xs e=>frzs b o xs (I.base.frzs b o xs e),λ b ps e=>?_⟩,?_,λ x c e=>?_,?_,λ x c e=>?_,λ p hp=>?_,hok,I.len⟩
 ·exact keep b o (neL b o e) hb (neC b o e hx) (I.base.keep b o e n hb hx) (I.base.free b o e n hx)
 ·obtain⟨sl,e1⟩:=I.base.slot b o e n hb hx;obtain⟨sl',e2⟩:=slot b _ (neL b o e) hb (neC b o e hx) e1 (I.base.free b o e n hx);exact⟨sl',e2⟩
 ·obtain⟨o',e1⟩:=I.base.there b o e hx;exact free b o' (neC b o e hx) e1 (I.base.free b o e n hx)
 ·obtain⟨o',e1⟩:=I.base.there b o e hx;exact there b o' (neC b o e hx) e1
 ·obtain⟨m1,e1⟩:=I.base.tbls b ps e;obtain⟨m2,e2⟩:=tbls b _ e1;exact⟨m1++m2,by rw[e2,Array.append_assoc]⟩
 ·obtain⟨m,hn,hl⟩:=I.loc;refine⟨m,ns m hn,λ i x v e1 e2 e3=>?_⟩;obtain⟨u,r,l⟩:=hl i x v e1 e2 e3;refine⟨u,r,?_⟩;rcases l with l | ⟨k,c,e,z⟩
  ·exact .inl l
  ·exact .inr ⟨k,c,e,cellK x c e _ z⟩
 ·obtain⟨v,z⟩:=I.cell x c e;exact⟨v,cellK x c e v z⟩
 ·obtain⟨m,⟨o,_,_,ho,_⟩,_⟩:=I.loc;exact free _ o (λ z=>(hch _ z).2.1 rfl) ho I.free
 ·obtain⟨v,o,ho,hd⟩:=I.cell x c e;exact free c o (λ z=>(hch c z).2.2.1 x c e rfl) ho (I.freeC x c e)
 ·obtain⟨e,n,ne,nf,d⟩:=I.pin p hp;have nch:p.1∉ch:=λ z=>(hch p.1 z).2.2.2 p hp rfl;exact⟨keep p.1 p.2 ne nf nch e n,free p.1 p.2 nch e n,ne,nf,d⟩
theorem Inv.un {t':Nat} (I:Inv X pins σ H s) (u:Un X.fs [] H H' s.heap h') (hok:mF X.prog X.w H' h'):Inv X pins σ H' { s with heap:=h',toks:=t' }:=by
 obtain⟨m,⟨o,es,ep,ho,r⟩,_⟩:=id I.loc;obtain⟨sl,hL⟩:=u.any ho I.free (by simp);exact I.step (g':=s.gens) (d':=s.drawn) (ch:=[]) (λ _ z=>nomatch z) (λ b o _ hb _ e n=>u.keep b o e n hb (by simp)) (λ b o _ hb _ e n=>u.slot b o e n hb (by simp)) (λ b o _ e n=>u.free b o e n (by simp)) (λ b o _ e=>u.there b o e (by simp)) u.tups u.frzs u.tbls (λ m' hm=>by
  obtain⟨o',es',ep',ho',r'⟩:=hm;rw[ho] at ho';cases ho';exact⟨_,es',ep',hL,r'⟩) hok I.bare
theorem Inv.call {g':Array GenState}{t':Nat}{d':Drawn}{ch:List Addr} (I:Inv X pins σ H s) (u:Un (jL X.stack) ch H H' s.heap h') (hok:mF X.prog X.w H' h') (hg:AllBare g')
  (hch:∀ b∈ch,(b∈X.ex\/X.s₀.heap.objs.size<=b)/\b≠X.env.locals/\(∀ x c,X.env.cells.lookup x=some c->c≠b)/\∀ p∈X.pn++pins,p.1≠b) :
  Inv X pins σ H' { s with heap:=h',gens:=g',drawn:=d',toks:=t' }:=by
 obtain⟨m,⟨o,es,ep,ho,r⟩,_⟩:=id I.loc;obtain⟨sl,hL⟩:=u.any ho I.free λ z=>(hch _ z).2.1 rfl;exact I.step (ch:=ch) hch (λ b o hL hb hc e n=>u.keep b o e n (λ z=>(aao.mp (I.stkSub b z)).elim hL hb) hc) (λ b o _ _ hc e n=>u.any e n hc) (λ b o hc e n=>u.free b o e n hc) (λ b o hc e=>u.there b o e hc) u.tups u.frzs u.tbls (λ m' hm=>by
  obtain⟨o',es',ep',ho',r'⟩:=hm;rw[ho] at ho';cases ho';exact⟨_,es',ep',hL,r'⟩) hok hg
theorem Inv.turned {t':Nat}{it:Addr} (I:Inv X pins σ H s) (k:∀ b o,b≠it->s.heap.get? b=some o->h'.get? b=some o) (hn:H it=none) (hL:it≠X.env.locals)
  (h1:it∈X.ex\/X.s₀.heap.objs.size<=it) (h2:∀ x c,X.env.cells.lookup x=some c->c≠it) (h3:∀ p∈X.pn++pins,p.1≠it):Inv X pins σ H { s with heap:=h',toks:=t' }:=by
 have nit:∀ b u,H b=some u->b≠it:=λ b u e z=>by rw[z,hn] at e;cases e
 refine I.step (g':=s.gens) (d':=s.drawn) (ch:=[it]) (λ b hb=>?_) (λ b o _ _ hc e _=>k b o (λ z=>hc (by simp [z])) e) (λ b o _ _ hc e _=>⟨o.slots,k b o (λ z=>hc (by simp [z])) e⟩) (λ _ _ _ _ n=>n)
  (λ b o hc e=>⟨o,k b o (λ z=>hc (by simp [z])) e⟩) (λ _ _ e=>e) (λ _ _ _ e=>e) (λ b ps e=>⟨#[],by rw[e];simp⟩) (λ m hm=>?_) (λ b u e=>?_) I.bare
 ·have e:b=it:=by simpa using hb
  subst e;exact⟨h1,hL,h2,h3⟩
 ·obtain⟨o,es,ep,ho,r⟩:=hm;exact⟨o,es,ep,k _ o (Ne.symm hL) ho,r⟩
 ·refine (I.hok b u e).stay (λ c v hc q=>k c v ?_ q) (λ _ q=>q) λ _ _ q=>q;rcases hc with z | z
  ·rw[z];exact nit b u e
  ·exact nit c _ z
theorem Inv.tok (I:Inv X pins σ H s) (t:Nat):Inv X pins σ H { s with toks:=t }:=I.un (h':=s.heap) (t':=t) Un.refl I.hok
theorem Inv.kept {t':Nat} (I:Inv X pins σ H s) (k:∀ b u,s.heap.get? b=some u->h'.get? b=some u):Inv X pins σ H { s with heap:=h',toks:=t' }:=I.un (Un.kept k) (I.hok.kept k)
theorem Inv.laid {a:Addr}{o:HO}{t':Nat} (I:Inv X pins σ H s) (k:∀ b u,s.heap.get? b=some u->h'.get? b=some u) (hp:s.heap.objs.size<=a) (new:bQ X.prog X.w (upd H a o) h' a o) :
  Inv X pins σ (upd H a o) { s with heap:=h',toks:=t' }:=I.un (Un.laid k hp (I.hok.fresh hp)) (I.hok.laid k hp new)
theorem Inv.write {x e:Addr}{o:HO}{t':Nat} (I:Inv X pins σ H s) (mu:lS (H x)) (he:e=x\/H e=some (.own x)) (k:∀ b u,b≠e->s.heap.get? b=some u->h'.get? b=some u) (heo:∃ u,h'.get? e=some u)
  (new:bQ X.prog X.w (upd H x o) h' x o):Inv X pins σ (upd H x o) { s with heap:=h',toks:=t' }:=I.un (Un.write mu he k heo) (I.hok.write mu he k heo new)
theorem Inv.pins_of {pins':List (Addr×Obj)} (I:Inv X pins σ H s) (h:∀ p∈pins',s.heap.get? p.1=some p.2/\H p.1=none/\p.1≠X.env.locals/\p.1∉X.fs/\∀ v,p.2.data≠.cell v):Inv X pins' σ H s:=
 ⟨I.ok,I.os,I.bare,I.base,I.loc,I.cell,I.free,I.freeC,λ p hp=>(abk.mp hp).elim (λ z=>I.pin p (aby _ z)) (h p),I.hok,I.len⟩
theorem zR {N:List Str} (hN:N.Nodup) {i j:Nat}{x:Str} (a:N[i]? = some x) (b:N[j]? = some x):i=j:=by
 obtain⟨h1,e1⟩:=aae.mp a;obtain⟨h2,e2⟩:=aae.mp b;exact (List.getElem_inj hN).mp (e1.trans e2.symm)
theorem vA {M:Model}{A:Around}{E:Value->Shared->Prop}{i:Nat}{x:Str}{v:V}{u:Value}{Q:Unit->Shared->Prop} (I:Inv X pins σ H s) (hN:X.N.Nodup) (hi:X.N[i]? = some x) (hx:S9 X.env.scope x) (r:aX v u)
  (h:∀ s',Inv X pins (σ.set i (some v)) H s'->(∃ a,Heap.SameBut a s.heap s'.heap/\(a=X.env.locals\/X.env.cells.lookup x=some a))->Q () s') (hf:X.fn x=true\/X.env.scope.names.lookup x=some .local:=by first | exact .inl rfl | exact .inr rfl | assumption):wpAny M A (storeName X.env x u) Q E s:=by
 obtain⟨m,hn,hl⟩:=id I.loc;have hcls:(X.env.scope.kind == .class || (X.env.scope.kind == .module && X.env.locals != X.env.globals))=false:=by rw[I.ok.kind];rfl
 have fo:i < σ.length:=by rw[I.len];exact (aae.mp hi).1
 have cne:=I.cne;have tracked:∀ {a:Addr}{h':Heap},(∃ o,s.heap.get? a=some o/\H a=none)->Heap.SameBut a s.heap h'->mF X.prog X.w H h':=λ {a h'} ha hs b ob e=>by
  obtain⟨_,_,hfree⟩:=ha;refine (I.hok b ob e).stay (λ c w' hc q=>(hs.2 c ?_).trans q) (λ _ q=>q) λ _ _ q=>q;rintro rfl;rcases hc with rfl | hc
  ·rw[hfree] at e;cases e
  ·rw[hfree] at hc;cases hc
 rcases hx with hk | hk
 ·refine wpAny_storeName_local hk hn (λ h' hn' hs=>?_) hcls;obtain⟨oL,_,_,hoL,_⟩:=id hn;refine h _ ⟨I.ok,I.os,I.bare,⟨λ b o e n hb hx=>?_,λ b o e n hb hx=>?_,I.base.free,λ b o e hx=>?_,I.base.tups,I.base.frzs,I.base.tbls⟩,⟨_,hn',λ j y v' e1 e2 e3=>?_⟩,λ y c e=>?_,I.free,I.freeC,λ p hp=>?_,tracked ⟨oL,hoL,I.free⟩ hs,by simpa using I.len⟩ ⟨_,hs,.inl rfl⟩
  ·exact (hs.2 b (abc (aax (aaq e) I.ok.above))).trans (I.base.keep b o e n hb hx)
  ·obtain⟨sl,e1⟩:=I.base.slot b o e n hb hx;exact⟨sl,(hs.2 b (abc (aax (aaq e) I.ok.above))).trans e1⟩
  ·obtain⟨o',e1⟩:=I.base.there b o e hx;exact⟨o',(hs.2 b (abc (aax (aaq e) I.ok.above))).trans e1⟩
  ·by_cases hj:j=i
   ·subst hj;rw[hi] at e1;cases e1;rw[adh fo] at e2;cases e2;exact⟨u,r,.inl ⟨hk,by simp⟩⟩
   ·rw[adj (Ne.symm hj)] at e2;obtain⟨u',r',q⟩:=hl j y v' e1 e2 e3;refine⟨u',r',?_⟩;rcases q with ⟨k,e⟩ | ⟨k,c,e,z⟩
    ·refine .inl ⟨k,?_⟩;have:y≠x:=λ e=>hj (zR hN e1 (e ▸ hi));simp [this,e]
    ·exact .inr ⟨k,c,e,z.sameBut hs (cne y c e)⟩
  ·obtain⟨w',z⟩:=I.cell y c e;exact⟨w',z.sameBut hs (cne y c e)⟩
  ·obtain⟨e,n,ne,nf,d⟩:=I.pin p hp;exact⟨(hs.2 p.1 ne).trans e,n,ne,nf,d⟩
 ·have hfn:X.fn x=true:=by
   rcases hf with z | z
   ·exact z
   ·rw[z] at hk;cases hk
  obtain⟨c,hc⟩:=I.ok.has x (.inl hk);obtain⟨w',z⟩:=I.cell x c hc;refine wpAny_storeName_cell I.ok.kind hk hc z (λ h' hc' hs=>?_);obtain⟨oc,hoc,hocd⟩:=id z;refine h { s with heap:=h' } ⟨I.ok,I.os,I.bare,⟨λ b o e n hb hx=>?_,λ b o e n hb hx=>?_,I.base.free,λ b o e hx=>?_,I.base.tups,I.base.frzs,I.base.tbls⟩,⟨m,hn.sameBut hs (Ne.symm (cne x c hc)),λ j y v' e1 e2 e3=>?_⟩,λ y c' e=>?_,I.free,I.freeC,λ p hp=>?_,tracked ⟨oc,hoc,I.freeC x c hc⟩ hs,by simpa using I.len⟩ ⟨c,hs,.inr hc⟩
  ·exact (hs.2 b (abc (aax (aaq e) (I.ok.cab x c hfn hc)))).trans (I.base.keep b o e n hb hx)
  ·obtain⟨sl,e1⟩:=I.base.slot b o e n hb hx;exact⟨sl,(hs.2 b (abc (aax (aaq e) (I.ok.cab x c hfn hc)))).trans e1⟩
  ·obtain⟨o',e1⟩:=I.base.there b o e hx;exact⟨o',(hs.2 b (abc (aax (aaq e) (I.ok.cab x c hfn hc)))).trans e1⟩
  ·by_cases hj:j=i
   ·subst hj;rw[hi] at e1;cases e1;rw[adh fo] at e2;cases e2;exact⟨u,r,.inr ⟨.inl hk,c,hc,hc'⟩⟩
   ·rw[adj (Ne.symm hj)] at e2;obtain⟨u',r',q⟩:=hl j y v' e1 e2 e3;refine⟨u',r',?_⟩;rcases q with q | ⟨k,c',e,z'⟩
    ·exact .inl q
    ·refine .inr ⟨k,c',e,z'.sameBut hs ?_⟩;rintro rfl;exact hj (zR hN e1 (I.ok.inj _ _ _ e hc ▸ hi))
  ·by_cases hcc:c'=c
   ·subst hcc;exact⟨_,hc'⟩
   ·obtain⟨w2,z2⟩:=I.cell y c' e;exact⟨w2,z2.sameBut hs hcc⟩
  ·obtain⟨e,n,ne,nf,d⟩:=I.pin p hp;refine⟨(hs.2 p.1 ?_).trans e,n,ne,nf,d⟩;intro q;rw[q,hoc] at e;have q':oc=p.2:=abf e;exact d w' (by rw[<- q'];exact hocd)
theorem eX {M:Model}{A:Around}{E:Value->Shared->Prop}{i:Nat}{x:Str}{v:V}{u:Value}{Q:Unit->Shared->Prop} (I:Inv X pins σ H s) (hN:X.N.Nodup) (hi:X.N[i]? = some x) (hx:S9 X.env.scope x) (r:aX v u)
  (h:∀ s',Inv X pins (σ.set i (some v)) H s'->Q () s') (hf:X.fn x=true\/X.env.scope.names.lookup x=some .local:=by first | exact .inl rfl | exact .inr rfl | assumption):wpAny M A (storeName X.env x u) Q E s:=
 vA I hN hi hx r (λ s' I' _=>h s' I') hf
theorem Inv.call' {s':Shared}{ch:List Addr} (I:Inv X pins σ H s) (ho:s'.os=s.os) (u:Un (jL X.stack) ch H H' s.heap s'.heap) (hok:mF X.prog X.w H' s'.heap) (hg:AllBare s'.gens)
  (hch:∀ b∈ch,(b∈X.ex\/X.s₀.heap.objs.size<=b)/\b≠X.env.locals/\(∀ x c,X.env.cells.lookup x=some c->c≠b)/\∀ p∈X.pn++pins,p.1≠b):Inv X pins σ H' s':=by
 obtain⟨h',g',d',t',o'⟩:=s';have e:o'=s.os:=ho;subst e;exact I.call (g':=g') (t':=t') (d':=d') u hok hg hch
end
abbrev XK:=Value->Option Addr->Hp->Prop
abbrev St:=List (Option V)
abbrev VK:=V->Hp->Prop
abbrev TE:=St->Hp->VK->Prop
abbrev TT:=St->Hp->(Bool->Hp->Prop)->Prop
abbrev TA:=St->Hp->(List V->Hp->Prop)->Prop
structure Ends where
 nx:St->Hp->Prop
 rt:VK
 bk:St->Hp->Prop:=λ _ _=>False
 ct:St->Hp->Prop:=λ _ _=>False
abbrev TS:=Ends->St->Hp->Prop
def EP (X:Cx) (pins:List (Addr×Obj)) (σ:St) (Q:VK) (u:Value) (s':Shared):Prop:=∃ v H',Inv X pins σ H' s'/\aX v u/\Q v H'
def TP (X:Cx) (pins:List (Addr×Obj)) (σ:St) (Q:Bool->Hp->Prop) (b:Bool) (s':Shared):Prop:=∃ H',Inv X pins σ H' s'/\Q b H'
def AP (X:Cx) (pins:List (Addr×Obj)) (σ:St) (Q:List V->Hp->Prop) (us:List Value) (s':Shared):Prop:=∃ vs H',Inv X pins σ H' s'/\bL vs us/\Q vs H'
def SP (X:Cx) (pins:List (Addr×Obj)) (D:Ends) (f:Flow) (s':Shared):Prop:=
 match f with
 | .next=>∃ Z H',Inv X pins Z H' s'/\D.nx Z H'
 | .brk=>∃ Z H',Inv X pins Z H' s'/\D.bk Z H'
 | .cont=>∃ Z H',Inv X pins Z H' s'/\D.ct Z H'
 | .ret u=>∃ v Z H',Inv X pins Z H' s'/\aX v u/\D.rt v H'
def PE (X:Cx) (e:Expr) (t:TE):Prop:=
 ∀ (pins:List (Addr×Obj)) (s:Shared) (σ:St) (H:Hp) (Q:VK),Inv X pins σ H s->t σ H Q->wpAny (model X.prog X.w) X.A (eval e X.env) (EP X pins σ Q) X.xe s
def PT (X:Cx) (e:Expr) (t:TT):Prop:=
 ∀ (pins:List (Addr×Obj)) (s:Shared) (σ:St) (H:Hp) (Q:Bool->Hp->Prop),Inv X pins σ H s->t σ H Q->wpAny (model X.prog X.w) X.A (isTrue e X.env (eval e X.env)) (TP X pins σ Q) X.xe s
def PW (X:Cx) (e:Expr) (t:TT):Prop:=
 ∀ (whole:Sem Value) (pins:List (Addr×Obj)) (s:Shared) (σ:St) (H:Hp) (Q:Bool->Hp->Prop),Inv X pins σ H s->t σ H Q->wpAny (model X.prog X.w) X.A (isTrue e X.env whole) (TP X pins σ Q) X.xe s
theorem PW.pt {X:Cx}{e:Expr}{t:TT} (h:PW X e t):PT X e t:=h _
def PA (X:Cx) (es:List Expr) (t:TA):Prop:=
 ∀ (pos:Pos) (pins:List (Addr×Obj)) (s:Shared) (σ:St) (H:Hp) (Q:List V->Hp->Prop),Inv X pins σ H s->t σ H Q->wpAny (model X.prog X.w) X.A (spliced (backTo pos (starEach es X.env))) (AP X pins σ Q) X.xe s
def PS (X:Cx) (st:Stmt) (t:TS):Prop:=
 ∀ (pins:List (Addr×Obj)) (s:Shared) (σ:St) (H:Hp) (D:Ends),Inv X pins σ H s->t D σ H->wpAny (model X.prog X.w) X.A (exec st X.env) (SP X pins D) X.xe s
def wG (X:Cx) (st:List Stmt) (t:TS):Prop:=
 ∀ (pins:List (Addr×Obj)) (s:Shared) (σ:St) (H:Hp) (D:Ends),Inv X pins σ H s->t D σ H->wpAny (model X.prog X.w) X.A (execs st X.env) (SP X pins D) X.xe s
theorem cK {α:Type}{t:Sem α}{Q Q':α->Shared->Prop}{M:Model}{A:Around}{E:Value->Shared->Prop}{s:Shared} (h:wpAny M A t Q E s) (hQ:∀ a s,Q a s->Q' a s):wpAny M A t Q' E s:=abl h hQ λ _ _ x=>x
section
variable {X:Cx}
def dS (i:Nat):TE:=λ σ H Q=>∃ v,σ[i]? = some (some v)/\Q v H
def tC (v:V):TE:=λ _ H Q=>Q v H
theorem J9 {i:Nat}{x:Str}{pos:Pos} (hN:X.N[i]? = some x) (hv:S4 X.env.scope x) (hd:(x == ("__debug__" : Str))=false:=by decide) (hcd:(x == ("__classdict__" : Str))=false:=by decide):PE X (.Name x pos) (dS i):=by
 intro pins s σ H Q I h;obtain⟨v,e,h⟩:=h;obtain⟨m,hn,hl⟩:=I.loc;obtain⟨u,r,l⟩:=hl i x v hN e hv;have fin:EP X pins σ Q u s:=⟨v,H,I,r,h⟩;rcases l with ⟨hk,hm⟩ | ⟨hk,c,hc,hcell⟩
 ·exact wpAny_Name (wpAny_loadName_local I.ok.kind hk hn hm fin) hd
 ·rcases hk with hk | hk
  ·exact wpAny_Name (wpAny_loadName_cell I.ok.kind hk hc hcell fin) hd
  ·exact wpAny_Name (wpAny_loadName_free I.ok.kind hk hc hcell fin hcd) hd
theorem aH {i j pos}:PE X (.Constant (.int i) j pos) (tC (.int i)):=λ _ _ _ H _ I h=>wpAny_Constant_int ⟨.int i,H,I.tok _,⟨_,rfl⟩,h⟩
theorem kY {b j pos}:PE X (.Constant (.bool b) j pos) (tC (.bl b)):=λ _ _ _ H _ I h=>Constant_bool ⟨.bl b,H,I,rfl,h⟩
theorem fT {j pos}:PE X (.Constant .none j pos) (tC .non):=λ _ _ _ H _ I h=>Constant_none ⟨.non,H,I,rfl,h⟩
theorem g9 {x j pos}:PE X (.Constant (.str x) j pos) (tC (.str x)):=λ _ _ _ H _ I h=>Calls.Constant_str ⟨.str x,H,I.tok _,⟨_,rfl⟩,h⟩
def Gl (X:Cx) (x:Str):Prop:=X.env.kindOf x=some .globalImplicit
theorem oH {E:Value->Shared->Prop}{pins:List (Addr×Obj)}{s:Shared}{σ:St}{H:Hp}{x:Str}{u:Value}{pos:Pos}{Q:Value->Shared->Prop} (I:Inv X pins σ H s) (hg:Gl X x) (hm:X.mg x=some u) (h:Q u s)
  (hd:(x == ("__debug__" : Str))=false:=by decide):wpAny (model X.prog X.w) X.A (eval (.Name x pos) X.env) Q E s:=
 Calls.Name_function_global I.ok.kind hg (Calls.loadGlobal_global (by rw[I.ok.glob];exact I.mod.glob.keeps I.bk) hm h) hd
theorem lH {E:Value->Shared->Prop}{pins:List (Addr×Obj)}{s:Shared}{σ:St}{H:Hp}{x:Str}{u:Value}{pos:Pos}{Q:Value->Shared->Prop} (I:Inv X pins σ H s) (hg:Gl X x) (hm:X.mg x=none) (hv:bootBuiltins x=some u) (h:Q u s)
  (hn:x ≠ "__name__" := by decide) (hd:(x == ("__debug__" : Str))=false:=by decide):wpAny (model X.prog X.w) X.A (eval (.Name x pos) X.env) Q E s:=by
 obtain⟨mb,h1,h2⟩:=I.mod.blt;exact Calls.Name_function_global I.ok.kind hg (Calls.loadGlobal_builtin (by rw[I.ok.glob];exact I.mod.glob.keeps I.bk) hm (by rw[I.ok.blt];exact h1.keeps I.bk) ((h2 x hn).trans hv) h) hd
theorem MH {x:Str}{v:V}{u:Value}{pos:Pos} (hg:Gl X x) (hm:X.mg x=some u) (r:aX v u) (hd:(x == ("__debug__" : Str))=false:=by decide):PE X (.Name x pos) (tC v):=
 λ _ _ _ H _ I h=>oH I hg hm ⟨v,H,I,r,h⟩ hd
theorem DS {x:Str}{v:V}{u:Value}{pos:Pos} (hg:Gl X x) (hm:X.mg x=none) (hv:bootBuiltins x=some u) (r:aX v u) (hn:x ≠ "__name__" := by decide) (hd:(x == ("__debug__" : Str))=false:=by decide):PE X (.Name x pos) (tC v):=
 λ _ _ _ H _ I h=>lH I hg hm hv ⟨v,H,I,r,h⟩ hn hd
variable {a b:Expr}{ta tb:TE}{pos:Pos}
def PC (X:Cx) (op:CmpOp) (a b:Expr) (t:TE):Prop:=
 ∀ (pins:List (Addr×Obj)) (s:Shared) (σ:St) (H:Hp) (Q:VK),Inv X pins σ H s->t σ H Q->
  wpAny (model X.prog X.w) X.A (eval a X.env) (λ v af=>wpAny (model X.prog X.w) X.A (eval b X.env) (λ u be=>wpAny (model X.prog X.w) X.A (compareOp op v u) (EP X pins σ Q) X.xe be) X.xe af) X.xe s
def tB (t:TE):TT:=λ σ H Q=>t σ H λ x H1=>∃ c,x=.bl c/\Q c H1
theorem PB {op:CmpOp}{t:TE} (h:PC X op a b t) (h1:behindInMarks op b=false:=by first | exact nobehind _ (by decide) (by decide) | rfl):PT X (.Compare a [op] [b] pos) (tB t):=by
 intro pins s σ H Q I hw;refine wpAny_isTrue_Compare1 (cK (h pins s σ H _ I hw) λ v s1 h1=>cK h1 λ u s2 h2=>cK h2 λ c s3 ⟨x,H1,I1,r1,q1⟩=>?_) h1;obtain⟨d,rfl,q⟩:=q1;cases r1;exact wpAny_truthy_bool ⟨H1,I1,q⟩
theorem pC {e:Expr}{t:TE} (h:PE X e t) (he:∀ whole,isTrue e X.env whole=(do let v <- whole;standAt e.pos;holding [v] (truthy v)):=by intro _;rfl):PT X e (tB t):=by
 intro pins s σ H Q I hw;refine isTrue_plain (cK (h pins s σ H _ I hw) λ v s1 ⟨x,H1,I1,r1,q1⟩=>?_) (he _);obtain⟨d,rfl,q⟩:=q1;cases r1;exact wpAny_truthy_bool ⟨H1,I1,q⟩
variable {tA tB':TT}{rest:List Expr}
def tAnd (t u:TT):TT:=λ σ H Q=>t σ H λ c H1=>if c=true then u σ H1 Q else Q false H1
def tOr (t u:TT):TT:=λ σ H Q=>t σ H λ c H1=>if c=true then Q true H1 else u σ H1 Q
def tNot (t:TT):TT:=λ σ H Q=>t σ H λ c H1=>Q (!c) H1
theorem jU (ha:PT X a tA):PW X (.BoolOp .And [a] pos) tA:=by
 intro wh pins s σ H Q I h;refine isTrue_and (cK (ha pins s σ H Q I h) λ c s1 e=>?_);cases c with
 | true=>exact isTrue_and_nil e
 | false=>exact e
theorem IW (ha:PT X a tA):PW X (.BoolOp .Or [a] pos) tA:=by
 intro wh pins s σ H Q I h;refine isTrue_or (cK (ha pins s σ H Q I h) λ c s1 e=>?_);cases c with
 | false=>exact isTrue_or_nil e
 | true=>exact e
theorem mX (ha:PT X a tA) (hb:PW X (.BoolOp .And (b::rest) pos) tB'):PW X (.BoolOp .And (a::b::rest) pos) (tAnd tA tB'):=by
 intro wh pins s σ H Q I h;refine isTrue_and (cK (ha pins s σ H _ I h) λ c s1 ⟨H1,I1,q1⟩=>?_);cases c with
 | true=>exact hb wh pins s1 σ H1 Q I1 q1
 | false=>exact⟨H1,I1,q1⟩
theorem O0 (ha:PT X a tA) (hb:PW X (.BoolOp .Or (b::rest) pos) tB'):PW X (.BoolOp .Or (a::b::rest) pos) (tOr tA tB'):=by
 intro wh pins s σ H Q I h;refine isTrue_or (cK (ha pins s σ H _ I h) λ c s1 ⟨H1,I1,q1⟩=>?_);cases c with
 | true=>exact⟨H1,I1,q1⟩
 | false=>exact hb wh pins s1 σ H1 Q I1 q1
theorem P9 (ha:PT X a tA):PT X (.UnaryOp .Not a pos) (tNot tA):=by
 intro pins s σ H Q I h;exact isTrue_not (ha pins s σ H (λ c H1=>Q (!c) H1) I h)
def R1 (ta tb:TE):TE:=λ σ H Q=>ta σ H λ x H1=>∃ c,x=.bl c/\if c=true then tb σ H1 Q else Q (.bl false) H1
def tOrV (ta tb:TE):TE:=λ σ H Q=>ta σ H λ x H1=>∃ c,x=.bl c/\if c=true then Q (.bl true) H1 else tb σ H1 Q
def NK (ta:TE):TE:=λ σ H Q=>ta σ H λ x H1=>∃ c,x=.bl c/\Q (.bl (!c)) H1
theorem BV {op}{t:TE} (h:PE X a t):PE X (.BoolOp op [a] pos) t:=λ pins s σ H Q I hw=>BoolOp_one (h pins s σ H Q I hw)
theorem BX (ha:PE X a ta) (hb:PE X (.BoolOp .And (b::rest) pos) tb):PE X (.BoolOp .And (a::b::rest) pos) (R1 ta tb):=by
 intro pins s σ H Q I h;refine BoolOp_and (cK (ha pins s σ H _ I h) λ v s1 ⟨x,H1,I1,r1,q1⟩=>?_);obtain⟨c,rfl,q1⟩:=q1;cases r1;refine wpAny_truthy_bool ?_;cases c with
 | true=>exact hb pins s1 σ H1 Q I1 q1
 | false=>exact⟨.bl false,H1,I1,rfl,q1⟩
theorem RI (ha:PE X a ta) (hb:PE X (.BoolOp .Or (b::rest) pos) tb):PE X (.BoolOp .Or (a::b::rest) pos) (tOrV ta tb):=by
 intro pins s σ H Q I h;refine BoolOp_or (cK (ha pins s σ H _ I h) λ v s1 ⟨x,H1,I1,r1,q1⟩=>?_);obtain⟨c,rfl,q1⟩:=q1;cases r1;refine wpAny_truthy_bool ?_;cases c with
 | false=>exact hb pins s1 σ H1 Q I1 q1
 | true=>exact⟨.bl true,H1,I1,rfl,q1⟩
theorem BW (ha:PE X a ta):PE X (.UnaryOp .Not a pos) (NK ta):=by
 intro pins s σ H Q I h;refine UnaryOp_ (cK (ha pins s σ H _ I h) λ v s1 ⟨x,H1,I1,r1,q1⟩=>?_);obtain⟨c,rfl,q1⟩:=q1;cases r1;exact not_of (wpAny_truthy_bool ⟨.bl (!c),H1,I1,rfl,q1⟩)
end
def bR (K:aab) (H:Hp) (a:Addr) (xs:List V):Prop:=
 Rd H a (.lst xs)\/
  ∃ (o:Obj) (its:Array Value) (n:Nat),K.lookup a=some o/\o.cls=.type "list" /\ o.dict=none/\o.data=.seq its n/\its.size<=sizeLine/\bL xs its.toList
def bC (K:aab) (H:Hp) (a:Addr) (xs:List V):Prop:=
 Rd H a (.tup xs)\/
  ∃ (o:Obj) (its:Array Value) (n:Nat),K.lookup a=some o/\o.cls=.type "tuple" /\ o.data=.seq its n/\its.size<=sizeLine/\bL xs its.toList
def absV:Value->Option V
 | .none=>some .non
 | .bool b=>some (.bl b)
 | .int i _=>some (.int i)
 | .str x _=>some (.str x)
 | .bytes b _=>some (.byt b)
 | .float b _=>some (.flt b)
 | .ref a=>some (.ref a)
 | .type n=>some (.ty n)
 | _=>none
theorem aX.abs {x:V}{u:Value} (r:aX x u):absV u=some x:=by
 cases x with
 | non=>cases r;rfl
 | bl _=>cases r;rfl
 | int _=>obtain⟨t,rfl⟩:=r;rfl
 | str _=>obtain⟨t,rfl⟩:=r;rfl
 | byt _=>obtain⟨t,rfl⟩:=r;rfl
 | flt _=>obtain⟨t,rfl⟩:=r;rfl
 | ref _=>cases r;rfl
 | ty _=>cases r;rfl
theorem aX.inj {x y:V}{u:Value} (r:aX x u) (q:aX y u):x=y:=abf (r.abs.symm.trans q.abs)
theorem bL.inj:∀ {xs ys:List V}{us:List Value},bL xs us->bL ys us->xs=ys
 | _,_,_,.nil,.nil=>rfl
 | _,_,_,.cons r t,.cons r' t'=>by rw[r.inj r',bL.inj t t']
section
variable {X:Cx}{pins:List (Addr×Obj)}{σ:St}{H:Hp}{s:Shared}{a:Addr}{xs ys:List V}
theorem bR.of {K:aab} (h:H a=some (.lst xs)):bR K H a xs:=.inl (.inl h)
theorem bC.of {K:aab} (h:H a=some (.tup xs)):bC K H a xs:=.inl (.inl h)
theorem Inv.list (I:Inv X pins σ H s) (h:bR X.K H a xs):∃ its:List Value,bL xs its/\PlainL s.heap a its.toArray/\xs.length<=sizeLine:=by
 rcases h with h | ⟨o,its,n,hk,hc,hd,hs,hz,r⟩
 ·obtain⟨z,its,n,r,e⟩:=h.ok I.hok;exact⟨its,r,⟨_,n,e,rfl,rfl,rfl⟩,z⟩
 ·refine⟨its.toList,r,⟨o,n,I.kIn a o hk,hc,hd,by simpa using hs⟩,?_⟩;have e:=r.length;simp only [abi] at e;omega
theorem Inv.tuple (I:Inv X pins σ H s) (h:bC X.K H a xs):∃ its:List Value,bL xs its/\IsTup s.heap a its.toArray/\xs.length<=sizeLine:=by
 rcases h with h | ⟨o,its,n,hk,hc,hs,hz,r⟩
 ·obtain⟨z,its,r,p⟩:=h.ok I.hok;exact⟨its,r,p,z⟩
 ·refine⟨its.toList,r,⟨o,I.kIn a o hk,hc,n,by simpa using hs⟩,?_⟩;have e:=r.length;simp only [abi] at e;omega
theorem Inv.list_inj (I:Inv X pins σ H s) (h:bR X.K H a xs) (h':bR X.K H a ys):xs=ys:=by
 obtain⟨its,r,⟨o,n,e,_,_,d⟩,_⟩:=I.list h;obtain⟨its',r',⟨o',n',e',_,_,d'⟩,_⟩:=I.list h';rw[e] at e';cases e';rw[d] at d';injection d' with d1 _;have:its=its':=by simpa using congrArg Array.toList d1
 subst this;exact r.inj r'
theorem Inv.tuple_inj (I:Inv X pins σ H s) (h:bC X.K H a xs) (h':bC X.K H a ys):xs=ys:=by
 obtain⟨its,r,⟨o,e,_,n,d⟩,_⟩:=I.tuple h;obtain⟨its',r',⟨o',e',_,n',d'⟩,_⟩:=I.tuple h';rw[e] at e';cases e';rw[d] at d';injection d' with d1 _;have:its=its':=by simpa using congrArg Array.toList d1
 subst this;exact r.inj r'
end
abbrev Cx.wish (X:Cx) (E:Value->Shared->Prop):Cx:={ X with xe:=E }
abbrev Cx.nox (X:Cx):Cx:=X.wish λ _ _=>False
theorem Cx.Ok.wish {X:Cx} (ok:X.Ok) (E:Value->Shared->Prop):(X.wish E).Ok:=
 ⟨ok.mod,ok.kind,ok.glob,ok.blt,ok.above,ok.inj,ok.has,ok.cab,ok.hd,ok.frames,ok.stk,ok.exf,ok.bs,ok.bsz,ok.noex,ok.exfs,ok.funs,ok.frf⟩
theorem Cx.Ok.unwish {X:Cx}{E:Value->Shared->Prop} (ok:(X.wish E).Ok):X.Ok:=
 ⟨ok.mod,ok.kind,ok.glob,ok.blt,ok.above,ok.inj,ok.has,ok.cab,ok.hd,ok.frames,ok.stk,ok.exf,ok.bs,ok.bsz,ok.noex,ok.exfs,ok.funs,ok.frf⟩
section
variable {X:Cx}{pins:List (Addr×Obj)}{σ:St}{H:Hp}{s:Shared}{E:Value->Shared->Prop}
theorem Inv.wish (I:Inv X pins σ H s) (E:Value->Shared->Prop):Inv (X.wish E) pins σ H s:=⟨I.ok.wish E,I.os,I.bare,I.base,I.loc,I.cell,I.free,I.freeC,I.pin,I.hok,I.len⟩
theorem Inv.unwish (I:Inv (X.wish E) pins σ H s):Inv X pins σ H s:=⟨I.ok.unwish,I.os,I.bare,I.base,I.loc,I.cell,I.free,I.freeC,I.pin,I.hok,I.len⟩
theorem SP.unwish {D:Ends}{f:Flow}{s':Shared} (h:SP (X.wish E) pins D f s'):SP X pins D f s':=by
 cases f with
 | next=>obtain⟨Z,H',I,q⟩:=h;exact⟨Z,H',I.unwish,q⟩
 | brk=>obtain⟨Z,H',I,q⟩:=h;exact⟨Z,H',I.unwish,q⟩
 | cont=>obtain⟨Z,H',I,q⟩:=h;exact⟨Z,H',I.unwish,q⟩
 | ret u=>obtain⟨v,Z,H',I,r,q⟩:=h;exact⟨v,Z,H',I.unwish,r,q⟩
theorem wG.nox {st:List Stmt}{t:TS} (h:wG X.nox st t):wG X st t:=λ pins s σ H D I hw=>
 abl (h pins s σ H D (I.wish _) hw) (λ _ _ q=>q.unwish) λ _ _ z=>False.elim z
end
section
variable {X:Cx}{st:Stmt}{rest:List Stmt}{t u:TS}{e:Expr}{te:TE}{pos:Pos}
def yN:TS:=λ D σ H=>D.nx σ H
def kQ (t u:TS):TS:=λ D σ H=>t { D with nx:=u D } σ H
theorem cA:wG X [] yN:=λ _ _ σ H _ I h=>wpAny_execs_nil ⟨σ,H,I,h⟩
theorem aD (h1:PS X st t) (h2:wG X rest u):wG X (st::rest) (kQ t u):=by
 intro pins s σ H D I h;refine wpAny_execs_cons (cK (h1 pins s σ H { D with nx:=u D } I h) λ f s1 q=>?_);cases f with
 | next=>
  obtain⟨Z,H',I',q⟩:=q;exact h2 pins s1 Z H' D I' q
 | ret v=>exact q
 | brk=>exact q
 | cont=>exact q
theorem aJ (h1:PS X st t):wG X [st] t:=by
 intro pins s σ H D I h;refine wpAny_execs_cons (cK (h1 pins s σ H D I h) λ f s1 q=>?_);cases f with
 | next=>exact wpAny_execs_nil q
 | ret v=>exact q
 | brk=>exact q
 | cont=>exact q
theorem Inv.quiet {pins:List (Addr×Obj)}{σ:St}{H:Hp}{s:Shared} (I:Inv X pins σ H s):interactive X.env=false:=by simp [interactive,I.ok.kind]
def QY (te:TE):TS:=λ D σ H=>te σ H λ _ H1=>D.nx σ H1
theorem dA (he:PE X e te) (hs:swapsWith e none pos.line X.env=pure false:=by rfl):PS X (.Expr e pos) (QY te):=by
 intro pins s σ H D I h;exact wpAny_Expr_any (cK (he pins s σ H _ I h) λ v s1 ⟨x,H1,I1,r1,q1⟩=>⟨σ,H1,I1,q1⟩) I.quiet hs
def QV (te:TE):TS:=λ D σ H=>te σ H D.rt
theorem bH (he:PE X e te):PS X (.Return (some e) pos) (QV te):=by
 intro pins s σ H D I h;exact wpAny_Return_some (cK (he pins s σ H _ I h) λ v s1 ⟨x,H1,I1,r1,q1⟩=>⟨x,σ,H1,I1,r1,q1⟩)
def HZ (c:TT) (t u:TS):TS:=λ D σ H=>c σ H λ b H1=>if b=true then t D σ H1 else u D σ H1
theorem eF {c:Expr}{a b:List Stmt}{tc:TT} (hc:PT X c tc) (ha:wG X a t) (hb:wG X b u):PS X (.If c a b pos) (HZ tc t u):=by
 intro pins s σ H D I h;refine wpAny_If (cK (hc pins s σ H _ I h) λ d s1 ⟨H1,I1,q1⟩=>?_);cases d with
 | true=>exact ha pins s1 σ H1 D I1 q1
 | false=>exact hb pins s1 σ H1 D I1 q1
end
abbrev TG:=V->St->Hp->(St->Hp->Prop)->Prop
abbrev OD:=List V->St->Hp->(St->Hp->Prop)->Prop
def PG (X:Cx) (target:Expr) (t:TG):Prop:=
 ∀ (pins:List (Addr×Obj)) (s:Shared) (σ:St) (H:Hp) (v:V) (u:Value) (Q:St->Hp->Prop),Inv X pins σ H s->aX v u->t v σ H Q->
  wpAny (model X.prog X.w) X.A (assign target X.env u) (λ _ s'=>∃ Z H',Inv X pins Z H' s'/\Q Z H') X.xe s
def S7 (X:Cx) (ts:List Expr) (t:OD):Prop:=
 ∀ (pins:List (Addr×Obj)) (s:Shared) (σ:St) (H:Hp) (vs:List V) (us:List Value) (Q:St->Hp->Prop),Inv X pins σ H s->bL vs us->t vs σ H Q->
  wpAny (model X.prog X.w) X.A (assignInOrder ((assignEach ts X.env).map (·.2)) us) (λ _ s'=>∃ Z H',Inv X pins Z H' s'/\Q Z H') X.xe s
abbrev LH:=V->V->V->Hp->(Hp->Prop)->Prop
def QF (X:Cx) (t:LH):Prop:=
 ∀ (pins:List (Addr×Obj)) (s:Shared) (σ:St) (H:Hp) (o i v:V) (ov iv u:Value) (Q:Hp->Prop),Inv X pins σ H s->aX o ov->aX i iv->aX v u->t o i v H Q->
  wpAny (model X.prog X.w) X.A (setItem ov iv u) (λ _ s'=>∃ H',Inv X pins σ H' s'/\Q H') X.xe s
abbrev QO:=V->V->Hp->VK->Prop
def PIp (X:Cx) (op:Operator) (t:QO):Prop:=
 ∀ (pins:List (Addr×Obj)) (s:Shared) (σ:St) (H:Hp) (x y:V) (v u:Value) (Q:VK),Inv X pins σ H s->aX x v->aX y u->t x y H Q->
  wpAny (model X.prog X.w) X.A (inplaceOp op v u) (EP X pins σ Q) X.xe s
section
variable {X:Cx}{pos:Pos}
def gP (i:Nat):TG:=λ v σ H Q=>Q (σ.set i (some v)) H
theorem aF {i:Nat}{x:Str} (hN:X.N.Nodup) (hi:X.N[i]? = some x) (hx:S9 X.env.scope x) (hf:X.fn x=true\/X.env.scope.names.lookup x=some .local:=by first | exact .inl rfl | exact .inr rfl | assumption):PG X (.Name x pos) (gP i):=by
 intro pins s σ H v u Q I r h;exact wpAny_assign_Name (eX I hN hi hx r (λ s' I'=>⟨_,H,I',h⟩) hf)
def gNil:OD:=λ vs σ H Q=>vs=[]/\Q σ H
def RW (t:TG) (u:OD):OD:=λ vs σ H Q=>∃ v r,vs=v::r/\t v σ H λ Z H'=>u r Z H' Q
theorem aS:S7 X [] gNil:=by
 intro pins s σ H vs us Q I r h;obtain⟨e,h⟩:=h;subst e;cases r;exact assignInOrder_nil ⟨σ,H,I,h⟩
theorem aE {e:Expr}{es:List Expr}{t:TG}{u:OD} (h1:PG X e t) (h2:S7 X es u)
  (hs:(assignEach (e::es) X.env).map (·.2)=assign e X.env::(assignEach es X.env).map (·.2):=by rfl):S7 X (e::es) (RW t u):=by
 intro pins s σ H vs us Q I r h;obtain⟨v,vr,e1,h⟩:=h;subst e1;cases r with
 | cons r rr=>
  rw[hs];refine assignInOrder_cons (cK (h1 pins s σ H _ _ _ I r h) λ _ s1 ⟨de,H1,I1,q1⟩=>?_);exact h2 pins s1 de H1 _ _ Q I1 rr q1
def RV (K:aab) (n:Nat) (t:OD):TG:=λ v σ H Q=>∃ a xs,v=.ref a/\bC K H a xs/\xs.length=n/\t xs σ H Q
theorem PJ {es:List Expr}{k:Nat}{t:OD}{n:Nat} (hc:X.calm=true) (h:S7 X es t)
  (hn:(assignEach es X.env).length=n:=by rfl) (hst:(assignEach es X.env).findIdx? (·.1)=none:=by rfl):PG X (.Tuple es k pos) (RV X.K n t):=by
 intro pins s σ H v u Q I r hw;obtain⟨a,xs,e1,hq,hl,hw⟩:=hw;subst e1;cases r;obtain⟨its,rv,ht,hz⟩:=I.tuple hq;refine assign_Tuple_tuple (I.ok.hd hc) ht (by simp [hn,<- hl,rv.length]) hst λ h' hx=>?_;have I1:Inv X pins σ H { s with heap:=h' }:=I.kept (t':=s.toks) λ b o e=>hx b o (abc (aaq e)) e;exact h pins _ σ H xs _ Q I1 (by simpa using rv) hw
def KP (to ti:TE) (t:LH):TG:=λ v σ H Q=>to σ H λ o H1=>ti σ H1 λ i H2=>t o i v H2 λ H3=>Q σ H3
theorem xD {o i:Expr}{to ti:TE}{t:LH} (ho:PE X o to) (hi:PE X i ti) (hs:QF X t)
  (ha:∀ v,assign (.Subscript o i pos) X.env v=(do
   let ov <- holding [v] (eval o X.env);let iv <- holding [v,ov] (eval i X.env)
   standAt pos
   holding [v,ov,iv] (setItem ov iv v)
   release [v,ov,iv] []):=by intro _;rfl):PG X (.Subscript o i pos) (KP to ti t):=by
 intro pins s σ H v u Q I r h;rw[ha];refine aaa (abq (cK (ho pins s σ H _ I h) λ ov s1 ⟨x,H1,I1,r1,q1⟩=>?_));refine aaa (abq (cK (hi pins s1 σ H1 _ I1 q1) λ iv s2 ⟨y,H2,I2,r2,q2⟩=>?_));refine aaa (wpAny_standAt (aaa (abq (cK (hs pins s2 σ H2 x y v ov iv u _ I2 r1 r2 r q2) λ _ s3 ⟨H3,I3,q3⟩=>?_))));exact wpAny_release ⟨σ,H3,I3,q3⟩
def nR (te:TE) (g:TG):TS:=λ D σ H=>te σ H λ x H1=>g x σ H1 D.nx
theorem cI {tg e:Expr}{te:TE}{g:TG} (he:PE X e te) (hg:PG X tg g) (hs:swapsWithSole [tg] e pos.line X.env=pure false:=by rfl) (hw:swappedStores [tg] e X.env=pure none:=by rfl)
  (h1:(assignEach [tg] X.env).map (·.2)=[assign tg X.env]:=by rfl):PS X (.Assign [tg] e pos) (nR te g):=by
 intro pins s σ H D I h;refine wpAny_Assign_stores (cK (he pins s σ H _ I h) λ v s1 ⟨x,H1,I1,r1,q1⟩=>?_) hs hw;rw[h1];exact cK (hg pins s1 σ H1 x v _ I1 r1 q1) λ _ s2 q=>q
theorem aQ {i:Nat}{x:Str}{e:Expr}{te:TE}{pos':Pos} (hN:X.N.Nodup) (hi:X.N[i]? = some x) (hx:S9 X.env.scope x) (he:PE X e te) (hs:swapsWith e (some (.Name x pos')) pos.line X.env=pure false:=by rfl) (hf:X.fn x=true\/X.env.scope.names.lookup x=some .local:=by first | exact .inl rfl | exact .inr rfl | assumption) :
  PS X (.Assign [.Name x pos'] e pos) (nR te (gP i)):=by
 intro pins s σ H D I h;refine wpAny_Assign_Name (cK (he pins s σ H _ I h) λ v s1 ⟨y,H1,I1,r1,q1⟩=>?_) hs;exact eX I1 hN hi hx r1 (λ s2 I2=>⟨_,H1,I2,q1⟩) hf
def tPar (i j:Nat) (ta:TA):TS:=λ D σ H=>ta σ H λ vs H1=>∃ v w,vs=[v,w]/\D.nx ((σ.set i (some v)).set j (some w)) H1
theorem PD {i j:Nat}{x y:Str}{a b:Expr}{ta:TA}{px py pt:Pos}{kt k2 pt2} (hc:X.calm=true) (hN:X.N.Nodup) (hi:X.N[i]? = some x) (hj:X.N[j]? = some y) (hij:i≠j)
  (hx:X.env.scope.names.lookup x=some .local) (hy:X.env.scope.names.lookup y=some .local) (ha:PA X [a,b] ta)
  (hw:swappedStores [.Tuple [.Name x px,.Name y py] kt pt] (.Tuple [a,b] k2 pt2) X.env=pure (some [x,y]))
  (hs:swapsWithSole [.Tuple [.Name x px,.Name y py] kt pt] (.Tuple [a,b] k2 pt2) pos.line X.env=pure false:=by rfl) :
  PS X (.Assign [.Tuple [.Name x px,.Name y py] kt pt] (.Tuple [a,b] k2 pt2) pos) (tPar i j ta):=by
 intro pins s σ H D I h;rw[exec_Assign_arm];refine aaa (wpAny_standAt ?_);rw[hs];refine aaa (aaf ?_);rw[if_neg (by decide)];refine aaa (Tuple_ (cK (ha _ pins s σ H _ I h) λ us s1 ⟨vs,H1,I1,r1,q1⟩=>?_));obtain⟨v,w,e1,q1⟩:=q1;subst e1;obtain⟨u1,u2,rfl,rv,rw'⟩:∃ u1 u2,us=[u1,u2]/\aX v u1/\aX w u2:=by
  cases r1 with
  | cons p q=>
   cases q with
   | cons p' q'=>
    cases q';exact⟨_,_,rfl,p,p'⟩
 refine wpAny_newObj_type ?_ (by show 2<=sizeLine;decide);have I2:Inv X pins σ H1 { s1 with heap:=s1.heap.push { cls:=.type "tuple",data:=.seq [u1,u2].toArray } }:=I1.kept (t':=s1.toks) λ b o e=>aac _ e;rw[hw];refine aaa (aaf ?_);show wpAny (model X.prog X.w) X.A (do rule "assign.swapped-stores";let items <- unpackItems (.ref s1.heap.objs.size) 2 none;assignInOrder [λ v=>bindName X.env y v,λ v=>bindName X.env x v] items.reverse;pure Flow.next) _ _ _;refine aaa (acz (aaa (unpackItems_tuple (items:=#[u1,u2]) (I.ok.hd hc) (IsTup.new s1.heap _) λ h' hx'=>?_)));have I3:=I2.kept (h':=h') (t':=s1.toks) λ b o e=>hx' b o (abc (aaq e)) e;show wpAny _ _ (assignInOrder [λ v=>bindName X.env y v,λ v=>bindName X.env x v] [u2,u1] >>= λ _=>pure Flow.next) _ _ _;refine aaa (assignInOrder_cons (wpAny_bindName (eX I3 hN hj (.inl hy) rw' (λ s2 I4=>?_) (.inr hy))));refine assignInOrder_cons (wpAny_bindName (eX I4 hN hi (.inl hx) rv (λ s3 I5=>assignInOrder_nil (aaf ?_)) (.inr hx)));rw[List.set_comm _ _ (Ne.symm hij)] at I5;exact⟨_,H1,I5,q1⟩
def tAug (i:Nat) (te:TE) (ti:QO):TS:=λ D σ H=>∃ x,σ[i]? = some (some x)/\te σ H λ y H1=>ti x y H1 λ z H2=>D.nx (σ.set i (some z)) H2
theorem BR {i:Nat}{x:Str}{e:Expr}{te:TE}{op:Operator}{ti:QO}{pos':Pos} (hN:X.N.Nodup) (hi:X.N[i]? = some x) (hx:S9 X.env.scope x) (he:PE X e te) (ho:PIp X op ti) (hf:X.fn x=true\/X.env.scope.names.lookup x=some .local:=by first | exact .inl rfl | exact .inr rfl | assumption) :
  PS X (.AugAssign (.Name x pos') op e pos) (tAug i te ti):=by
 intro pins s σ H D I h;obtain⟨v,e1,h⟩:=h;obtain⟨m,hn,hl⟩:=I.loc;have vis:S4 X.env.scope x:=by rcases hx with k | k;exact .inl k;exact .inr (.inl k)
 obtain⟨u,r,l⟩:=hl i x v hi e1 vis;refine wpAny_AugAssign_Name ?_;have go:wpAny (model X.prog X.w) X.A (eval e X.env) (λ w be=>wpAny (model X.prog X.w) X.A (inplaceOp op u w) (λ r bg=>wpAny (model X.prog X.w) X.A (storeName X.env x r) (λ _=>SP X pins D .next) X.xe bg) X.xe be) X.xe s:=by
  refine cK (he pins s σ H _ I h) λ w s1 ⟨y,H1,I1,r1,q1⟩=>?_;refine cK (ho pins s1 σ H1 v y u w _ I1 r r1 q1) λ z s2 ⟨zv,H2,I2,r2,q2⟩=>?_;exact eX I2 hN hi hx r2 (λ s3 I3=>⟨_,H2,I3,q2⟩) hf
 rcases l with ⟨hk,hm⟩ | ⟨hk,c,hc,hcell⟩
 ·exact wpAny_loadName_local I.ok.kind hk hn hm go
 ·rcases hk with hk | hk
  ·exact wpAny_loadName_cell I.ok.kind hk hc hcell go
  ·rcases hx with k | k
   ·have:X.env.scope.names.lookup x=some .free:=hk;rw[k] at this;cases this
   ·have:X.env.scope.names.lookup x=some .free:=hk;rw[k] at this;cases this
def R0 (to ti te:TE) (tget:V->V->Hp->VK->Prop) (tip:QO) (tset:LH):TS:=λ D σ H=>to σ H λ o H1=>ti σ H1 λ i H2=>tget o i H2 λ x H3=>te σ H3 λ y H4=>tip x y H4 λ z H5=>tset o i z H5 λ H6=>D.nx σ H6
def QG (X:Cx) (t:V->V->Hp->VK->Prop):Prop:=
 ∀ (pins:List (Addr×Obj)) (s:Shared) (σ:St) (H:Hp) (o i:V) (ov iv:Value) (Q:VK),Inv X pins σ H s->aX o ov->aX i iv->t o i H Q->
  wpAny (model X.prog X.w) X.A (getItem ov iv) (EP X pins σ Q) X.xe s
theorem MB {o i e:Expr}{to ti te:TE}{tget:V->V->Hp->VK->Prop}{tip:QO}{tset:LH}{op:Operator}{tpos:Pos} (ho:PE X o to) (hi:PE X i ti) (hg:QG X tget) (he:PE X e te) (hp:PIp X op tip) (hs:QF X tset)
  (ha:∀ ov iv new,augStore i ov iv new=(do holding [new,ov,iv] (setItem ov iv new);release [new,ov,iv] [];pure .next):=by intros;rfl):PS X (.AugAssign (.Subscript o i tpos) op e pos) (R0 to ti te tget tip tset):=by
 intro pins s σ H D I h;refine wpAny_AugAssign_SubscriptAny (cK (ho pins s σ H _ I h) λ ov s1 ⟨x1,H1,I1,r1,q1⟩=>?_) ha;refine cK (hi pins s1 σ H1 _ I1 q1) λ iv s2 ⟨x2,H2,I2,r2,q2⟩=>?_;refine cK (hg pins s2 σ H2 x1 x2 ov iv _ I2 r1 r2 q2) λ old s3 ⟨x3,H3,I3,r3,q3⟩=>?_;refine cK (he pins s3 σ H3 _ I3 q3) λ v s4 ⟨x4,H4,I4,r4,q4⟩=>?_;refine cK (hp pins s4 σ H4 x3 x4 old v _ I4 r3 r4 q4) λ new s5 ⟨x5,H5,I5,r5,q5⟩=>?_;exact cK (hs pins s5 σ H5 x1 x2 x5 ov iv new _ I5 r1 r2 r5 q5) λ _ s6 ⟨H6,I6,q6⟩=>⟨σ,H6,I6,q6⟩
def ipI (f:Int->Int->Int):QO:=λ x y H Q=>∃ i j,x=.int i/\y=.int j/\Q (.int (f i j)) H
theorem CP:PIp X .Add (ipI λ i j=>i+j):=by
 intro pins s σ H x y v u Q I r1 r2 h;obtain⟨i,j,e1,e2,q⟩:=h;subst e1;subst e2;obtain⟨t,rfl⟩:=r1;obtain⟨t',rfl⟩:=r2;exact iadd_int ⟨.int _,H,I.tok _,⟨_,rfl⟩,q⟩
theorem Q2:PIp X .Sub (ipI λ i j=>i - j):=by
 intro pins s σ H x y v u Q I r1 r2 h;obtain⟨i,j,e1,e2,q⟩:=h;subst e1;subst e2;obtain⟨t,rfl⟩:=r1;obtain⟨t',rfl⟩:=r2;exact isub_int ⟨.int _,H,I.tok _,⟨_,rfl⟩,q⟩
def OL (c:TT) (tb:TS):TS:=λ D σ H=>∃ W:Nat->St->Hp->Prop,(∃ m,W m σ H)/\∀ m σ H,W m σ H->
 c σ H λ b H1=>if b=true then ∃ N:St->Hp->Prop,(∀ Z H',N Z H'->∃ m',m' < m/\W m' Z H')/\tb { D with nx:=N,ct:=N,bk:=D.nx } σ H1 else D.nx σ H1
theorem sM {c:Expr}{body:List Stmt}{tc:TT}{tb:TS} (hp:PassesOwn (model X.prog X.w) X.A X.env X.xe) (hc:PT X c tc) (hb:wG X body tb):PS X (.While c body [] pos) (OL tc tb):=by
 intro pins s σ H D I h;obtain⟨W,⟨m0,w0⟩,turn⟩:=h;refine wpAny_While (codeAny_whileLoop (λ n s'=>∃ Z H',Inv X pins Z H' s'/\W n Z H') ?_ m0 ⟨σ,H,I,w0⟩);rintro n s1 ⟨de,H1,I1,w1⟩;refine wpAny_passesOwn hp (cK (hc pins s1 de H1 _ I1 (turn n de H1 w1)) λ b s2 ⟨H2,I2,q2⟩=>?_);cases b with
 | true=>
  obtain⟨N,hN,q2⟩:=q2;rw[if_pos rfl];refine wpAny_passesOwn hp (cK (hb pins s2 de H2 _ I2 q2) λ f s3 q3=>?_);cases f with
  | next=>
   obtain⟨ag,H3,I3,n3⟩:=q3;obtain⟨m',hm,w3⟩:=hN ag H3 n3;exact⟨m',hm,ag,H3,I3,w3⟩
  | cont=>
   obtain⟨ag,H3,I3,n3⟩:=q3;obtain⟨m',hm,w3⟩:=hN ag H3 n3;exact⟨m',hm,ag,H3,I3,w3⟩
  | brk=>exact q3
  | ret v=>exact q3
 | false=>
  rw[if_neg aar];exact wpAny_execs_nil ⟨de,H2,I2,q2⟩
end
structure It where
 go:Nat->Hp->Prop
 yld:Nat->Hp->V->Hp->Prop
 stop:Nat->Hp->Prop
def kB (X:Cx) (pins:List (Addr×Obj)) (H:Hp) (b:Addr):Prop:=
 H b=none/\b≠X.env.locals/\b∉X.fs/\(b∈X.ex\/X.s₀.heap.objs.size<=b)/\(∀ x c,X.env.cells.lookup x=some c->c≠b)/\∀ p∈X.pn++pins,p.1≠b
theorem Inv.fpOk {X:Cx}{pins:List (Addr×Obj)}{σ:St}{H H':Hp}{s:Shared}{b:Addr} (I:Inv X pins σ H s) (hb:s.heap.objs.size<=b) (hn:H' b=none):kB X pins H' b:=by
 refine⟨hn,Nat.ne_of_gt (aax I.lt hb),I.nofs hb,.inr (acd I.sz hb),λ x c e z=>?_,λ p hp z=>?_⟩
 ·obtain⟨v,q⟩:=I.cell x c e;exact absurd (aax q.lt (by rw[z];exact hb)) (acn _)
 ·exact absurd (aax (aaq (I.pin p hp).1) (by rw[z];exact hb)) (acn _)
structure Turn (P:Program) (w:World) (K:aab) (tg:Expr) (J:It) (fp:List Addr) (it:Addr) (tn:Nat->Heap->Prop):Prop where
 mem:it∈fp
 obj:∀ i h,tn i h->∀ b∈fp,∃ o,h.get? b=some o/\∀ v,o.data≠.cell v
 keep:∀ i h h',tn i h->(∀ b∈fp,∀ o,h.get? b=some o->h'.get? b=some o)->tn i h'
 item:∀ (X:Cx),X.prog=P->X.w=w->X.K=K->X.calm=true->∀ (i:Nat) (pins:List (Addr×Obj)) (s:Shared) (σ:St) (H:Hp) (E:Value->Shared->Prop),Inv X pins σ H s->(∀ b∈fp,kB X pins H b)->tn i s.heap->J.go i H->
  wpAny (model P w) X.A (pyNext (.ref it)) (λ r s1=>∃ u,r=some u/\
   wpAny (model P w) X.A (letOwnedTupleGo tg (.ref it) u) (λ _ s2=>∃ x H',Inv X pins σ H' s2/\aX x u/\J.yld i H x H'/\tn (i+1) s2.heap/\∀ b∈fp,H' b=none) E s1) E s
 done:∀ (X:Cx),X.prog=P->X.w=w->X.K=K->X.calm=true->∀ (i:Nat) (pins:List (Addr×Obj)) (s:Shared) (σ:St) (H:Hp) (E:Value->Shared->Prop),Inv X pins σ H s->(∀ b∈fp,kB X pins H b)->tn i s.heap->J.stop i H->
  wpAny (model P w) X.A (pyNext (.ref it)) (λ r s1=>r=none/\Inv X pins σ H s1) E s
 self:∀ (A:Around) (i:Nat) (s:Shared) (Q:Value->Shared->Prop) (E:Value->Shared->Prop),tn i s.heap->Q (.ref it) s->wpAny (model P w) A (pyIter (.ref it)) Q E s
abbrev TI:=St->Hp->(It->Hp->Prop)->Prop
def PIE (X:Cx) (pins:List (Addr×Obj)) (σ:St) (tg:Expr) (R:It->Hp->Prop) (itv:Value) (s2:Shared):Prop:=
 ∃ (it:Addr) (fp:List Addr) (tn:Nat->Heap->Prop) (J:It) (H':Hp),itv=.ref it/\Inv X pins σ H' s2/\Turn X.prog X.w X.K tg J fp it tn/\tn 0 s2.heap/\(∀ b∈fp,kB X pins H' b)/\R J H'
def PI (X:Cx) (tg iter:Expr) (wi:TI):Prop:=
 ∀ (pins:List (Addr×Obj)) (s:Shared) (σ:St) (H:Hp) (R:It->Hp->Prop),Inv X pins σ H s->wi σ H R->
  wpAny (model X.prog X.w) X.A (eval iter X.env) (λ v s1=>wpAny (model X.prog X.w) X.A (pyIter v) (PIE X pins σ tg R) X.xe s1) X.xe s
theorem E9 {M:Model}{A:Around}{E:Value->Shared->Prop}{s:Shared}{tg:Expr}{it:Addr}{u:Value}{o:Obj}{n:String}{vs:Array Value}{Q:Unit->Shared->Prop} (ho:s.heap.get? it=some o) (hc:o.cls=.type n) (hd:o.data=.fields vs)
  (hn:["enumerate","zip","dict_itemiterator","dict_reverseitemiterator","odict_iterator","itertools.zip_longest","itertools.pairwise"].contains n=false) (hQ:Q () s):wpAny M A (letOwnedTupleGo tg (.ref it) u) Q E s:=by
 unfold letOwnedTupleGo;cases tg <;> first
  | exact aaf hQ
  | (cases u <;> first
    | exact aaf hQ
    | (refine aaa (wpAny_load ho ?_)
       rw[hc,hd];show wpAny M A (if (["enumerate","zip","dict_itemiterator","dict_reverseitemiterator","odict_iterator","itertools.zip_longest","itertools.pairwise"].contains n && vs[0]? == some (rawInt _))=true then _ else _) Q E s;rw[if_neg (by intro h;rw[hn,Bool.false_and] at h;cases h)];exact aaf hQ))
def QQ (K:aab) (a:Addr):It:=
 ⟨λ i H=>∃ xs x,bR K H a xs/\xs[i]? = some x,λ i H x H'=>H'=H/\∀ xs,bR K H a xs->xs[i]? = some x,λ i H=>∃ xs,bR K H a xs/\xs.length<=i⟩
def QP (K:aab) (a:Addr):It:=
 ⟨λ i H=>∃ xs x,bC K H a xs/\xs[i]? = some x,λ i H x H'=>H'=H/\∀ xs,bC K H a xs->xs[i]? = some x,λ i H=>∃ xs,bC K H a xs/\xs.length<=i⟩
def OE (lo:Int) (n:Nat):It:=⟨λ i _=>i < n,λ i H x H'=>H'=H/\x=.int (lo+i),λ i _=>n<=i⟩
theorem FF {P:Program}{w:World}{K:aab}{tg:Expr} (a it:Addr):Turn P w K tg (QQ K a) [it] it (λ i h=>h.IsListIter it a i) where
 mem:=by simp
 obj:=λ i h st b hb=>by
  have e:b=it:=by simpa using hb
  subst e;obtain⟨o,e,c,d⟩:=st;exact⟨o,e,λ v z=>by rw[d] at z;cases z⟩
 keep:=λ i h h' st k=>st.at λ o e=>k it (by simp) o e
 item:=by
  intro X hP hw hK hc i pins s σ H E I hf st hg;subst hP hw hK;obtain⟨xs,x,hq,hx⟩:=hg;obtain⟨its,rv,p,hz⟩:=I.list hq;obtain⟨u,hu,ru⟩:=rv.get hx;obtain⟨f0,f1,f2,f3,f4,f5⟩:=hf it (by simp);refine wpAny_pyNext_list_item st p.isList (x:=u) (by simpa using hu) λ h' st' sb=>?_;have I1:Inv X pins σ H { s with heap:=h' }:=I.turned (t':=s.toks) (λ b o hb e=>(sb.2 b hb).trans e) f0 f1 f3 f4 f5;obtain⟨o,e,c,d⟩:=id st';exact⟨u,rfl,E9 (s:={ s with heap:=h' }) e c d (by decide) ⟨x,H,I1,ru,⟨rfl,λ ys hy=>by rw[I.list_inj hy hq];exact hx⟩,st',λ b hb=>(hf b hb).1⟩⟩
 done:=by
  intro X hP hw hK hc i pins s σ H E I hf st hg;subst hP hw hK;obtain⟨xs,hq,hx⟩:=hg;obtain⟨its,rv,p,hz⟩:=I.list hq;obtain⟨f0,f1,f2,f3,f4,f5⟩:=hf it (by simp);have hl:=rv.length;exact wpAny_pyNext_list_end (I.ok.hd hc) st p.isList (by simp;omega) λ h' eb=>⟨rfl,I.turned (t':=s.toks) (λ b o hb e=>eb b o hb e) f0 f1 f3 f4 f5⟩
 self:=λ _ _ _ _ _ st h=>wpAny_pyIter_listiter st h
theorem AZ {P:Program}{w:World}{K:aab}{tg:Expr} (a it:Addr):Turn P w K tg (QP K a) [it] it (λ i h=>h.IsTupleIter it a i) where
 mem:=by simp
 obj:=λ i h st b hb=>by
  have e:b=it:=by simpa using hb
  subst e;obtain⟨o,e,c,d⟩:=st;exact⟨o,e,λ v z=>by rw[d] at z;cases z⟩
 keep:=λ i h h' st k=>st.at λ o e=>k it (by simp) o e
 item:=by
  intro X hP hw hK hc i pins s σ H E I hf st hg;subst hP hw hK;obtain⟨xs,x,hq,hx⟩:=hg;obtain⟨its,rv,p,hz⟩:=I.tuple hq;obtain⟨u,hu,ru⟩:=rv.get hx;obtain⟨f0,f1,f2,f3,f4,f5⟩:=hf it (by simp);refine wpAny_pyNext_tuple_item st (show s.heap.IsTuple a its.toArray from p) (x:=u) (by simpa using hu) λ h' st' sb=>?_;have I1:Inv X pins σ H { s with heap:=h' }:=I.turned (t':=s.toks) (λ b o hb e=>(sb.2 b hb).trans e) f0 f1 f3 f4 f5;obtain⟨o,e,c,d⟩:=id st';exact⟨u,rfl,E9 (s:={ s with heap:=h' }) e c d (by decide) ⟨x,H,I1,ru,⟨rfl,λ ys hy=>by rw[I.tuple_inj hy hq];exact hx⟩,st',λ b hb=>(hf b hb).1⟩⟩
 done:=by
  intro X hP hw hK hc i pins s σ H E I hf st hg;subst hP hw hK;obtain⟨xs,hq,hx⟩:=hg;obtain⟨its,rv,p,hz⟩:=I.tuple hq;obtain⟨f0,f1,f2,f3,f4,f5⟩:=hf it (by simp);have hl:=rv.length;exact wpAny_pyNext_tuple_end (I.ok.hd hc) st (show s.heap.IsTuple a its.toArray from p) (by simp;omega) λ h' eb=>⟨rfl,I.turned (t':=s.toks) (λ b o hb e=>eb b o hb e) f0 f1 f3 f4 f5⟩
 self:=λ _ _ _ _ _ st h=>wpAny_pyIter_tupleiter st h
theorem B0 {P:Program}{w:World}{K:aab}{tg:Expr} (it:Addr) (lo:Int) (n:Nat):Turn P w K tg (OE lo n) [it] it (λ i h=>IsRangeIter h it (lo+(i:Nat) * 1) ((n:Int) - (i:Nat)) 1) where
 mem:=by simp
 obj:=λ i h st b hb=>by
  have e:b=it:=by simpa using hb
  subst e;exact⟨_,st,λ v z=>by
   have z':Data.fields _=Data.cell v:=z;cases z'⟩
 keep:=λ i h h' st k=>k it (by simp) _ st
 item:=by
  intro X hP hw hK hc i pins s σ H E I hf st hg;subst hP hw hK;obtain⟨f0,f1,f2,f3,f4,f5⟩:=hf it (by simp);have W:=Walks.range (prog:=X.prog) (w:=X.w) (I.ok.hd hc) it lo 1 n;refine W.item i s _ _ hg st λ v h' tk hv st' kk=>?_;obtain⟨t,rfl⟩:=hv;have I1:Inv X pins σ H { s with heap:=h',toks:=tk }:=I.turned (λ b o hb e=>kk b o (by simpa using hb) e) f0 f1 f3 f4 f5;refine⟨_,rfl,E9 (s:={ s with heap:=h',toks:=tk }) (n := "range_iterator") st' rfl rfl (by decide) ⟨.int (lo+i),H,I1,⟨t,?_⟩,⟨rfl,rfl⟩,st',λ b hb=>(hf b hb).1⟩⟩;rw[Int.mul_one]
 done:=by
  intro X hP hw hK hc i pins s σ H E I hf st hg;subst hP hw hK;obtain⟨f0,f1,f2,f3,f4,f5⟩:=hf it (by simp);exact wpAny_pyNext_range_end (I.ok.hd hc) st (by have:n<=i:=hg;omega) λ h' eb=>⟨rfl,I.turned (t':=s.toks) (λ b o hb e=>eb b o hb e) f0 f1 f3 f4 f5⟩
 self:=λ _ _ _ _ _ st h=>wpAny_pyIter_rangeiter st h
section
variable {X:Cx}{tg:Expr}
def O7 (K:aab) (tl:TE):TI:=λ σ H R=>tl σ H λ x H1=>∃ a,x=.ref a/\(∃ xs,bR K H1 a xs)/\R (QQ K a) H1
def RO (K:aab) (tl:TE):TI:=λ σ H R=>tl σ H λ x H1=>∃ a,x=.ref a/\(∃ xs,bC K H1 a xs)/\R (QP K a) H1
theorem MF {l:Expr}{tl:TE} (hl:PE X l tl):PI X tg l (O7 X.K tl):=by
 intro pins s σ H R I h;refine cK (hl pins s σ H _ I h) λ v s1 ⟨x,H1,I1,r1,q1⟩=>?_;obtain⟨a,e,⟨xs,hq⟩,q⟩:=q1;subst e;cases r1;obtain⟨its,rv,p,hz⟩:=I1.list hq;refine wpAny_pyIter_list p.isList ?_;refine⟨s1.heap.objs.size,[s1.heap.objs.size],_,_,H1,rfl,I1.kept (t':=s1.toks) λ b o e=>aac _ e,FF a _,⟨_,aak _ rfl,rfl,rfl⟩,λ b hb=>?_,q⟩;have e:b=s1.heap.objs.size:=by simpa using hb
 subst e;exact I1.fpOk (aal _) (I1.hok.fresh (aal _))
theorem PH {l:Expr}{tl:TE} (hl:PE X l tl):PI X tg l (RO X.K tl):=by
 intro pins s σ H R I h;refine cK (hl pins s σ H _ I h) λ v s1 ⟨x,H1,I1,r1,q1⟩=>?_;obtain⟨a,e,⟨xs,hq⟩,q⟩:=q1;subst e;cases r1;obtain⟨its,rv,p,hz⟩:=I1.tuple hq;refine wpAny_pyIter_tuple (show s1.heap.IsTuple a its.toArray from p) ?_;refine⟨s1.heap.objs.size,[s1.heap.objs.size],_,_,H1,rfl,I1.kept (t':=s1.toks) λ b o e=>aac _ e,AZ a _,⟨_,aak _ rfl,rfl,rfl⟩,λ b hb=>?_,q⟩;have e:b=s1.heap.objs.size:=by simpa using hb
 subst e;exact I1.fpOk (aal _) (I1.hok.fresh (aal _))
theorem zC {pins:List (Addr×Obj)}{σ:St}{H:Hp}{s:Shared}{R:It->Hp->Prop}{E:Value->Shared->Prop}{lo hi:Int}{t u v:Tok}{tk:Nat} (I:Inv X pins σ H s) (h1 : -(2 ^ 62)<=lo) (h2:lo < 2 ^ 62) (h3 : -(2 ^ 62)<=hi) (h4:hi < 2 ^ 62)
  (q:R (OE lo (hi - lo).toNat) H):wpAny (model X.prog X.w) X.A (pyIter (.ref s.heap.objs.size)) (PIE X pins σ tg R) E { s with heap:=s.heap.push { cls:=.type "range",data:=.fields #[.int lo t,.int hi u,.int 1 v] },toks:=tk }:=by
 refine wpAny_pyIter_range (IsRange.new ..) (small_one h1 h2 h3 h4) ?_;have I1:Inv X pins σ H { s with heap:=s.heap.push { cls:=.type "range",data:=.fields #[.int lo t,.int hi u,.int 1 v] },toks:=tk }:=I.kept λ b o e=>aac _ e;refine⟨(s.heap.push { cls:=.type "range",data:=.fields #[.int lo t,.int hi u,.int 1 v] }).objs.size,[(s.heap.push { cls:=.type "range",data:=.fields #[.int lo t,.int hi u,.int 1 v] }).objs.size],_,_,H,rfl,
  I1.kept (t':=tk) λ b o e=>aac _ e,B0 _ lo (hi - lo).toNat,?_,λ b hb=>?_,q⟩
 ·have e1:lo+((0:Nat):Int) * 1=lo:=by simp
  have e2:(((hi - lo).toNat:Nat):Int) - ((0:Nat):Int)=Builtin.Range.rangeSize lo hi 1:=by rw[rangeSize_one];split <;> omega
  show IsRangeIter _ _ (lo+((0:Nat):Int) * 1) ((((hi - lo).toNat:Nat):Int) - ((0:Nat):Int)) 1;rw[e1,e2];exact aak _ rfl
 ·have e:b=(s.heap.push { cls:=.type "range",data:=.fields #[.int lo t,.int hi u,.int 1 v] }).objs.size:=by simpa using hb
  subst e;exact I1.fpOk (aal _) (I1.hok.fresh (aal _))
def RQ (ta:TA):TI:=λ σ H R=>ta σ H λ vs H1=>∃ j:Int,vs=[.int j]/\-(2 ^ 62)<=j/\j < 2 ^ 62/\R (OE 0 j.toNat) H1
def RP (ta:TA):TI:=λ σ H R=>ta σ H λ vs H1=>∃ i j:Int,vs=[.int i,.int j]/\(-(2 ^ 62)<=i/\i < 2 ^ 62/\-(2 ^ 62)<=j/\j < 2 ^ 62)/\R (OE i (j - i).toNat) H1
theorem eC {a:Expr}{ta:TA}{p pos:Pos} (hg:Gl X "range") (hm:X.mg "range" = none) (ha:PA X [a] ta) (hs:starEach [a] X.env=[(false,eval a X.env)]:=by rfl):PI X tg (.Call (.Name "range" p) [a] [] pos) (RQ ta):=by
 intro pins s σ H R I h;refine Call_ (lH I hg hm boot_range (PyProof.Rows.callWith_type1 (cK (ha pos pins s σ H _ I h) λ us s1 ⟨vs,H1,I1,r1,q1⟩=>?_) hs rfl));obtain⟨j,e,q1,q2,q⟩:=q1;subst e;cases r1 with
 | cons r rr=>
  cases rr;obtain⟨t,rfl⟩:=r;exact call_range_1 (zC I1 (by omega) (by omega) q1 q2 (by simpa using q))
theorem vG {a b:Expr}{ta:TA}{p pos:Pos} (hg:Gl X "range") (hm:X.mg "range" = none) (ha:PA X [a,b] ta) (hs:starEach [a,b] X.env=[(false,eval a X.env),(false,eval b X.env)]:=by rfl) (hs2:starEach [b] X.env=[(false,eval b X.env)]:=by rfl) :
  PI X tg (.Call (.Name "range" p) [a,b] [] pos) (RP ta):=by
 intro pins s σ H R I h;refine Call_ (lH I hg hm boot_range (PyProof.Rows.callWith_type1 (cK (ha pos pins s σ H _ I h) λ us s1 ⟨vs,H1,I1,r1,q1⟩=>?_) (by rw[hs,hs2]) (by rw[hs2];rfl)));obtain⟨i,j,e,⟨q1,q2,q3,q4⟩,q⟩:=q1;subst e;cases r1 with
 | cons r rr=>
  cases rr with
  | cons r' rr=>
   cases rr;obtain⟨t,rfl⟩:=r;obtain⟨t',rfl⟩:=r';exact call_range_2 (zC I1 q1 q2 q3 q4 q)
def tFor (wi:TI) (g:TG) (tb:TS):TS:=λ D σ H=>wi σ H λ J H1=>∃ W:Nat->Nat->St->Hp->Prop,(∃ m,W 0 m σ H1)/\∀ i m σ H,W i m σ H->
 (J.stop i H/\D.nx σ H)\/(J.go i H/\∃ N:St->Hp->Prop,(∀ Z H',N Z H'->∃ m',m' < m/\W (i+1) m' Z H')/\∀ x H',J.yld i H x H'->g x σ H' λ au H2=>tb { D with nx:=N,ct:=N,bk:=D.nx } au H2)
def pE (fp:List Addr) (h:Heap):List (Addr×Obj):=fp.filterMap λ b=>(h.get? b).map λ o=>(b,o)
theorem gC {fp:List Addr}{h:Heap}{b:Addr}{o:Obj} (hb:b∈fp) (e:h.get? b=some o):(b,o)∈pE fp h:=List.mem_filterMap.mpr ⟨b,hb,by rw[e];rfl⟩
theorem FZ {fp:List Addr}{h:Heap}{p:Addr×Obj} (hp:p∈pE fp h):p.1∈fp/\h.get? p.1=some p.2:=by
 obtain⟨b,hb,e⟩:=List.mem_filterMap.mp hp;cases q:h.get? b with
 | none=>rw[q] at e;cases e
 | some o=>
  rw[q] at e;have e':(b,o)=p:=abf e;subst e';exact⟨hb,q⟩
theorem Inv.pinned {pins:List (Addr×Obj)}{σ:St}{H:Hp}{s:Shared}{fp:List Addr} (I:Inv X pins σ H s) (hf:∀ b∈fp,kB X pins H b) (ho:∀ b∈fp,∃ o,s.heap.get? b=some o/\∀ v,o.data≠.cell v):Inv X (pins++pE fp s.heap) σ H s:=
 I.pins_of λ p hp=>(abk.mp hp).elim (λ z=>I.pin p (abj _ z)) λ z=>by
  obtain⟨hb,e⟩:=FZ z;obtain⟨f0,f1,f2,_⟩:=hf p.1 hb;obtain⟨o,e',d⟩:=ho p.1 hb;rw[e] at e';cases e';exact⟨e,f0,f1,f2,d⟩
theorem Inv.unpinned {pins pl:List (Addr×Obj)}{σ:St}{H:Hp}{s:Shared} (I:Inv X (pins++pl) σ H s):Inv X pins σ H s:=I.pins_of λ p hp=>I.pin p (abj _ (aby _ hp))
theorem eD {iter:Expr}{body:List Stmt}{wi:TI}{g:TG}{tb:TS}{pos:Pos} (hp:PassesOwn (model X.prog X.w) X.A X.env X.xe) (hc:X.calm=true) (hi:PI X tg iter wi) (hg:PG X tg g) (hb:wG X body tb)
  (hs:∀ x,foldedSetIterable iter X.env x=pure x:=by intro _;rfl):PS X (.For tg iter body [] pos) (tFor wi g tb):=by
 intro pins s σ H D I h;refine wpAny_For (cK (hi pins s σ H _ I h) λ v s1 h1=>cK h1 λ itv s2 h2=>?_) hs;obtain⟨it,fp,tn,J,H2,e,I2,T,st2,f2,W,⟨m0,w0⟩,turn⟩:=h2;subst e;have stat:∀ {H':Hp},(∀ b∈fp,H' b=none)->∀ b∈fp,kB X pins H' b:=λ hn b hb=>⟨hn b hb,(f2 b hb).2⟩;refine codeAny_forLoop_any (λ n s'=>∃ i Z H',Inv X pins Z H' s'/\tn i s'.heap/\(∀ b∈fp,H' b=none)/\W i n Z H') ?_ m0 ⟨0,σ,H2,I2,st2,λ b hb=>(f2 b hb).1,w0⟩;rintro n s3 ⟨i,ag,H3,I3,st3,fr3,w3⟩;rcases turn i n ag H3 w3 with ⟨stop,qn⟩ | ⟨go,N,hN,step⟩
 ·refine wpAny_passesOwn hp (cK (T.done X rfl rfl rfl hc i pins s3 ag H3 X.xe I3 (stat fr3) st3 stop) λ r s4 ⟨hr,I4⟩=>?_);subst hr;exact wpAny_execs_nil ⟨ag,H3,I4,qn⟩
 ·refine wpAny_passesOwn hp (cK (T.item X rfl rfl rfl hc i pins s3 ag H3 X.xe I3 (stat fr3) st3 go) λ r s4 ⟨u,hr,h4⟩=>?_);subst hr;refine wpAny_passesOwn hp (cK h4 λ _ s5 ⟨x,H5,I5,r5,y5,st5,fr5⟩=>?_);have I5':=I5.pinned (stat fr5) (T.obj _ _ st5);refine wpAny_passesOwn hp (cK (hg _ s5 ag H5 x u _ I5' r5 (step x H5 y5)) λ _ s6 ⟨σ6,H6,I6,q6⟩=>?_);refine wpAny_passesOwn hp (cK (hb _ s6 σ6 H6 _ I6 q6) λ f s7 q7=>?_);have again:∀ {cj:St}{H7:Hp},Inv X (pins++pE fp s5.heap) cj H7 s7->N cj H7->∃ m,m < n/\∃ i Z H',Inv X pins Z H' s7/\tn i s7.heap/\(∀ b∈fp,H' b=none)/\W i m Z H':=λ {cj H7} I7 n7=>by
   obtain⟨m',hm,w7⟩:=hN cj H7 n7;refine⟨m',hm,i+1,cj,H7,I7.unpinned,T.keep _ _ _ st5 λ b hb o e=>(I7.pin (b,o) (abj _ (abj _ (gC hb e)))).1,λ b hb=>?_,w7⟩;obtain⟨o,e,d⟩:=T.obj _ _ st5 b hb;exact (I7.pin (b,o) (abj _ (abj _ (gC hb e)))).2.1
  cases f with
  | next=>obtain⟨cj,H7,I7,n7⟩:=q7;exact again I7 n7
  | cont=>obtain⟨cj,H7,I7,n7⟩:=q7;exact again I7 n7
  | brk=>obtain⟨cj,H7,I7,q7⟩:=q7;exact⟨cj,H7,I7.unpinned,q7⟩
  | ret v=>obtain⟨x7,cj,H7,I7,r7,q7⟩:=q7;exact⟨x7,cj,H7,I7.unpinned,r7,q7⟩
end
theorem tP {K:aab}{a:Addr}{xs:List V}{g:TG}{tb:TS}{D:Ends}{σ:St}{H:Hp} (Pv:Nat->St->Hp->Prop) (h0:Pv 0 σ H) (hl:∀ i σ H,i<=xs.length->Pv i σ H->bR K H a xs)
  (hs:∀ i x σ H,xs[i]? = some x->Pv i σ H->g x σ H λ au H2=>tb { D with nx:=Pv (i+1),ct:=Pv (i+1),bk:=D.nx } au H2) (hd:∀ σ H,Pv xs.length σ H->D.nx σ H) :
  ∃ W:Nat->Nat->St->Hp->Prop,(∃ m,W 0 m σ H)/\∀ i m σ H,W i m σ H->
   ((QQ K a).stop i H/\D.nx σ H)\/((QQ K a).go i H/\∃ N:St->Hp->Prop,(∀ Z H',N Z H'->∃ m',m' < m/\W (i+1) m' Z H')/\∀ x H',(QQ K a).yld i H x H'->g x σ H' λ au H2=>tb { D with nx:=N,ct:=N,bk:=D.nx } au H2):=by
 refine⟨λ i m σ H=>m=xs.length - i/\i<=xs.length/\Pv i σ H,⟨xs.length,by simp,abw _,h0⟩,?_⟩;rintro i m σ H ⟨rfl,hi,p⟩;have q:=hl i σ H hi p
 by_cases hlt:i < xs.length
 ·refine .inr ⟨⟨xs,xs[i],q,by simp [hlt]⟩,Pv (i+1),λ Z H' p'=>⟨xs.length - (i+1),by omega,rfl,hlt,p'⟩,λ x H' y=>?_⟩;obtain⟨e,y⟩:=y;subst e;exact hs i x σ _ (y xs q) p
 ·have e:i=xs.length:=by omega
  subst e;exact .inl ⟨⟨xs,q,aal _⟩,hd σ H p⟩
theorem xX {K:aab}{a:Addr}{xs:List V}{g:TG}{tb:TS}{D:Ends}{σ:St}{H:Hp} (Pv:Nat->St->Hp->Prop) (h0:Pv 0 σ H) (hl:∀ i σ H,i<=xs.length->Pv i σ H->bC K H a xs)
  (hs:∀ i x σ H,xs[i]? = some x->Pv i σ H->g x σ H λ au H2=>tb { D with nx:=Pv (i+1),ct:=Pv (i+1),bk:=D.nx } au H2) (hd:∀ σ H,Pv xs.length σ H->D.nx σ H) :
  ∃ W:Nat->Nat->St->Hp->Prop,(∃ m,W 0 m σ H)/\∀ i m σ H,W i m σ H->
   ((QP K a).stop i H/\D.nx σ H)\/((QP K a).go i H/\∃ N:St->Hp->Prop,(∀ Z H',N Z H'->∃ m',m' < m/\W (i+1) m' Z H')/\∀ x H',(QP K a).yld i H x H'->g x σ H' λ au H2=>tb { D with nx:=N,ct:=N,bk:=D.nx } au H2):=by
 refine⟨λ i m σ H=>m=xs.length - i/\i<=xs.length/\Pv i σ H,⟨xs.length,by simp,abw _,h0⟩,?_⟩;rintro i m σ H ⟨rfl,hi,p⟩;have q:=hl i σ H hi p
 by_cases hlt:i < xs.length
 ·refine .inr ⟨⟨xs,xs[i],q,by simp [hlt]⟩,Pv (i+1),λ Z H' p'=>⟨xs.length - (i+1),by omega,rfl,hlt,p'⟩,λ x H' y=>?_⟩;obtain⟨e,y⟩:=y;subst e;exact hs i x σ _ (y xs q) p
 ·have e:i=xs.length:=by omega
  subst e;exact .inl ⟨⟨xs,q,aal _⟩,hd σ H p⟩
theorem fK {lo:Int}{n:Nat}{g:TG}{tb:TS}{D:Ends}{σ:St}{H:Hp} (Pv:Nat->St->Hp->Prop) (h0:Pv 0 σ H)
  (hs:∀ i σ H,i < n->Pv i σ H->g (.int (lo+i)) σ H λ au H2=>tb { D with nx:=Pv (i+1),ct:=Pv (i+1),bk:=D.nx } au H2) (hd:∀ σ H,Pv n σ H->D.nx σ H) :
  ∃ W:Nat->Nat->St->Hp->Prop,(∃ m,W 0 m σ H)/\∀ i m σ H,W i m σ H->
   ((OE lo n).stop i H/\D.nx σ H)\/((OE lo n).go i H/\∃ N:St->Hp->Prop,(∀ Z H',N Z H'->∃ m',m' < m/\W (i+1) m' Z H')/\∀ x H',(OE lo n).yld i H x H'->g x σ H' λ au H2=>tb { D with nx:=N,ct:=N,bk:=D.nx } au H2):=by
 refine⟨λ i m σ H=>m=n - i/\i<=n/\Pv i σ H,⟨n,by simp,abw _,h0⟩,?_⟩;rintro i m σ H ⟨rfl,hi,p⟩
 by_cases hlt:i < n
 ·refine .inr ⟨hlt,Pv (i+1),λ Z H' p'=>⟨n - (i+1),by omega,rfl,hlt,p'⟩,λ x H' y=>?_⟩;obtain⟨e,y⟩:=y;subst e y;exact hs i σ _ hlt p
 ·have e:i=n:=by omega
  subst e;exact .inl ⟨aal _,hd σ H p⟩
abbrev R2:=V->V->Hp->VK->Prop
def h9 (X:Cx) (f:Value->Value->Sem Value) (r:R2):Prop:=
 ∀ (pins:List (Addr×Obj)) (s:Shared) (σ:St) (H:Hp) (x y:V) (v u:Value) (Q:VK),Inv X pins σ H s->aX x v->aX y u->r x y H Q->
  wpAny (model X.prog X.w) X.A (f v u) (EP X pins σ Q) X.xe s
def dZ (X:Cx) (f:Value) (r:List V->Hp->VK->Prop):Prop:=
 ∀ (pins:List (Addr×Obj)) (s:Shared) (σ:St) (H:Hp) (xs:List V) (us:List Value) (Q:VK),Inv X pins σ H s->bL xs us->r xs H Q->
  wpAny (model X.prog X.w) X.A (call f us) (EP X pins σ Q) X.xe s
def jN (r:R2) (ta tb:TE):TE:=λ σ H Q=>ta σ H λ x H1=>tb σ H1 λ y H2=>r x y H2 Q
def rI (C:Int->Int->Prop) (g:Int->Int->V):R2:=λ x y H Q=>∃ i j,x=.int i/\y=.int j/\C i j/\Q (g i j) H
def x8 (g:Int->Int->V):R2:=λ x y H Q=>∃ i j,x=.int i/\y=.int j/\Q (g i j) H
section
variable {X:Cx}{a b c:Expr}{ta tb tc:TE}{pos:Pos}
theorem QB (ha:PE X a ta) (hb:PE X b tb) {pins:List (Addr×Obj)}{s:Shared}{σ:St}{H:Hp}{R:V->V->Hp->Prop} (I:Inv X pins σ H s)
  (h:ta σ H λ x H1=>tb σ H1 λ y H2=>R x y H2) {Q:Value->Shared->Prop}{f:Value->Value->Sem Value}
  (hf:∀ v u s2 x y H2,Inv X pins σ H2 s2->aX x v->aX y u->R x y H2->wpAny (model X.prog X.w) X.A (f v u) Q X.xe s2) :
  wpAny (model X.prog X.w) X.A (eval a X.env) (λ v af=>wpAny (model X.prog X.w) X.A (eval b X.env) (λ u be=>wpAny (model X.prog X.w) X.A (f v u) Q X.xe be) X.xe af) X.xe s:=by
 refine cK (ha pins s σ H _ I h) λ v s1 ⟨x,H1,I1,r1,q1⟩=>?_;refine cK (hb pins s1 σ H1 _ I1 q1) λ u s2 ⟨y,H2,I2,r2,q2⟩=>?_;exact hf v u s2 x y H2 I2 r1 r2 q2
theorem bB {op:Operator}{r:R2} (ho:h9 X (binaryOp op) r) (ha:PE X a ta) (hb:PE X b tb):PE X (.BinOp a op b pos) (jN r ta tb):=by
 intro pins s σ H Q I h;exact wpAny_BinOp (QB ha hb I h λ v u s2 x y H2 I2 rx ry q=>ho pins s2 σ H2 x y v u Q I2 rx ry q)
theorem RN {f:Value->Value->Sem Value}{C:Int->Int->Prop}{g:Int->Int->Int}
  (rule:∀ (i j:Int) (t u:Tok) (s:Shared) (Q:Value->Shared->Prop) (E:Value->Shared->Prop),C i j->Q (.int (g i j) s.toks) { s with toks:=s.toks+1 }->wpAny (model X.prog X.w) X.A (f (.int i t) (.int j u)) Q E s) :
  h9 X f (rI C λ i j=>.int (g i j)):=by
 intro pins s σ H x y v u Q I rx ry h;obtain⟨i,j,rfl,rfl,hc,q⟩:=h;obtain⟨t,rfl⟩:=rx;obtain⟨t',rfl⟩:=ry;exact rule i j t t' s _ _ hc ⟨.int (g i j),H,I.tok _,⟨_,rfl⟩,q⟩
theorem RM {f:Value->Value->Sem Value}{g:Int->Int->Int}
  (rule:∀ (i j:Int) (t u:Tok) (s:Shared) (Q:Value->Shared->Prop) (E:Value->Shared->Prop),Q (.int (g i j) s.toks) { s with toks:=s.toks+1 }->wpAny (model X.prog X.w) X.A (f (.int i t) (.int j u)) Q E s) :
  h9 X f (x8 λ i j=>.int (g i j)):=by
 intro pins s σ H x y v u Q I rx ry h;obtain⟨i,j,rfl,rfl,q⟩:=h;obtain⟨t,rfl⟩:=rx;obtain⟨t',rfl⟩:=ry;exact rule i j t t' s _ _ ⟨.int (g i j),H,I.tok _,⟨_,rfl⟩,q⟩
theorem MO {f:Value->Value->Sem Value}{g:Int->Int->Bool}
  (rule:∀ (i j:Int) (t u:Tok) (s:Shared) (Q:Value->Shared->Prop) (E:Value->Shared->Prop),Q (.bool (g i j)) s->wpAny (model X.prog X.w) X.A (f (.int i t) (.int j u)) Q E s) :
  h9 X f (x8 λ i j=>.bl (g i j)):=by
 intro pins s σ H x y v u Q I rx ry h;obtain⟨i,j,rfl,rfl,q⟩:=h;obtain⟨t,rfl⟩:=rx;obtain⟨t',rfl⟩:=ry;exact rule i j t t' s _ _ ⟨.bl (g i j),H,I,rfl,q⟩
def QK (i j:Int):Prop:=0 < j/\j < 1073741824
def SB (i j:Int):Prop:=0<=j/\j<=1000000/\i.natAbs < 2 ^ 64
def AU (i j:Int):Prop:=(-(2 ^ 64) < i/\i < 2 ^ 64)\/(-(2 ^ 64) < j/\j < 2 ^ 64)
theorem AU.ok {i j:Int} (h:AU i j):IntMulOk i j:=by
 rcases h with ⟨h1,h2⟩ | ⟨h1,h2⟩
 ·exact .of_left (intBits_le_64 h1 h2)
 ·exact .of_right (intBits_le_64 h1 h2)
theorem dB:h9 X (binaryOp .Add) (x8 λ i j=>.int (i+j)):=RM λ _ _ _ _ _ _ _ q=>add_int q
theorem mZ:h9 X (binaryOp .Sub) (x8 λ i j=>.int (i - j)):=RM λ _ _ _ _ _ _ _ q=>sub_int q
theorem n4:h9 X (binaryOp .Mult) (rI AU λ i j=>.int (i * j)):=RN λ _ _ _ _ _ _ _ hc q=>mul_int q hc.ok
theorem lX:h9 X (binaryOp .FloorDiv) (rI QK λ i j=>.int (i / j)):=RN λ i j _ _ _ _ _ hc q=>by
 have h1:(0:Int) < j:=hc.1;have h2:j < 1073741824:=hc.2;exact floordiv_int (by omega) (by rw[Int.fdiv_eq_ediv_of_nonneg i (by omega)];exact q) (.inl (PyProof.noPylong_small (by omega)))
theorem n6:h9 X (binaryOp .Mod) (rI (λ _ j=>0 < j) λ i j=>.int (i % j)):=RN λ i j _ _ _ _ _ hc q=>by
 have h1:(0:Int) < j:=hc;exact mod_int' (by omega) (by rw[Int.fmod_eq_emod_of_nonneg i (by omega)];exact q)
theorem PM:h9 X (binaryOp .Pow) (rI SB λ i j=>.int (i ^ j.toNat)):=RN λ _ _ _ _ _ _ _ hc q=>pow_int_small hc.1 hc.2.1 hc.2.2 q
end
def R4:V->V->Bool
 | .non,.non=>true | .non,.int _=>true | .int _,.non=>true | .non,.bl _=>true | .bl _,.non=>true | .non,.str _=>true | .str _,.non=>true
 | .int _,.int _=>true | .bl _,.bl _=>true | .str _,.str _=>true | .byt _,.byt _=>true
 | .int _,.str _=>true | .str _,.int _=>true | .bl _,.str _=>true | .str _,.bl _=>true
 | _,_=>false
def rEq:R2:=λ x y H Q=>R4 x y=true/\Q (.bl (decide (x=y))) H
def rNe:R2:=λ x y H Q=>R4 x y=true/\Q (.bl (!decide (x=y))) H
theorem EG {i j:Int}:decide (V.int i=V.int j)=(i == j):=by
 rw[Bool.eq_iff_iff];simp
theorem L3 {i j:Bool}:decide (V.bl i=V.bl j)=(i == j):=by
 rw[Bool.eq_iff_iff];simp
theorem EF {i j:Str}:decide (V.str i=V.str j)=(i == j):=by
 rw[Bool.eq_iff_iff];simp
theorem EH {i j:Array UInt8}:decide (V.byt i=V.byt j)=(i.toList == j.toList):=by
 rw[Bool.eq_iff_iff];cases i;cases j;simp
section
variable {X:Cx}{a b c:Expr}{ta tb tc:TE}{pos:Pos}
theorem bU {pins:List (Addr×Obj)}{σ:St}{H:Hp}{s:Shared}{Q:VK}{k k':Bool} (I:Inv X pins σ H s) (q:Q (.bl k) H) (e:k=k'):EP X pins σ Q (.bool k') s:=by
 subst e;exact⟨.bl k,H,I,rfl,q⟩
theorem kZ:h9 X (compareOp .Eq) rEq:=by
 intro pins s σ H x y v u Q I rx ry h;obtain⟨hs,q⟩:=h;cases x with
 | non=>
  cases rx;cases y with
  | non=>cases ry;exact PySem.EqNone.eq_none_none (bU I q (by simp))
  | bl j=>cases ry;exact PySem.EqNone.eq_none_bool (bU I q (by simp))
  | int j=>obtain⟨t',rfl⟩:=ry;exact PySem.EqNone.eq_none_int (bU I q (by simp))
  | str j=>obtain⟨t',rfl⟩:=ry;exact PySem.EqNone.eq_none_str (bU I q (by simp))
  | _=>exact absurd (show false=true from hs) aar
 | bl i=>
  cases rx;cases y with
  | non=>cases ry;exact PySem.EqNone.eq_bool_none (bU I q (by simp))
  | bl j=>cases ry;exact eq_bool (bU I q L3)
  | str j=>obtain⟨t',rfl⟩:=ry;exact PySem.EqMixed.eq_bool_str (bU I q (by simp))
  | _=>exact absurd (show false=true from hs) aar
 | int i=>
  obtain⟨t,rfl⟩:=rx;cases y with
  | non=>cases ry;exact PySem.EqNone.eq_int_none (bU I q (by simp))
  | int j=>obtain⟨t',rfl⟩:=ry;exact eq_int (bU I q EG)
  | str j=>obtain⟨t',rfl⟩:=ry;exact PySem.EqMixed.eq_int_str (bU I q (by simp))
  | _=>exact absurd (show false=true from hs) aar
 | str i=>
  obtain⟨t,rfl⟩:=rx;cases y with
  | non=>cases ry;exact PySem.EqNone.eq_str_none (bU I q (by simp))
  | bl j=>cases ry;exact PySem.EqMixed.eq_str_bool (bU I q (by simp))
  | int j=>obtain⟨t',rfl⟩:=ry;exact PySem.EqMixed.eq_str_int (bU I q (by simp))
  | str j=>obtain⟨t',rfl⟩:=ry;exact eq_str (bU I q EF)
  | _=>exact absurd (show false=true from hs) aar
 | byt i=>
  obtain⟨t,rfl⟩:=rx;cases y with
  | byt j=>obtain⟨t',rfl⟩:=ry;exact PySem.W.eq_bytes (bU I q EH)
  | _=>exact absurd (show false=true from hs) aar
 | _=>cases y <;> exact absurd (show false=true from hs) aar
theorem JJ:h9 X (compareOp .NotEq) rNe:=by
 intro pins s σ H x y v u Q I rx ry h;obtain⟨hs,q⟩:=h;cases x with
 | non=>
  cases rx;cases y with
  | non=>cases ry;exact PySem.EqNone.ne_none_none (bU I q (by simp))
  | bl j=>cases ry;exact PySem.EqNone.ne_none_bool (bU I q (by simp))
  | int j=>obtain⟨t',rfl⟩:=ry;exact PySem.EqNone.ne_none_int (bU I q (by simp))
  | str j=>obtain⟨t',rfl⟩:=ry;exact PySem.EqNone.ne_none_str (bU I q (by simp))
  | _=>exact absurd (show false=true from hs) aar
 | bl i=>
  cases rx;cases y with
  | non=>cases ry;exact PySem.EqNone.ne_bool_none (bU I q (by simp))
  | bl j=>cases ry;exact ne_bool (bU I q (congrArg not L3))
  | str j=>obtain⟨t',rfl⟩:=ry;exact PySem.EqMixed.ne_bool_str (bU I q (by simp))
  | _=>exact absurd (show false=true from hs) aar
 | int i=>
  obtain⟨t,rfl⟩:=rx;cases y with
  | non=>cases ry;exact PySem.EqNone.ne_int_none (bU I q (by simp))
  | int j=>obtain⟨t',rfl⟩:=ry;exact ne_int (bU I q (congrArg not EG))
  | str j=>obtain⟨t',rfl⟩:=ry;exact PySem.EqMixed.ne_int_str (bU I q (by simp))
  | _=>exact absurd (show false=true from hs) aar
 | str i=>
  obtain⟨t,rfl⟩:=rx;cases y with
  | non=>cases ry;exact PySem.EqNone.ne_str_none (bU I q (by simp))
  | bl j=>cases ry;exact PySem.EqMixed.ne_str_bool (bU I q (by simp))
  | int j=>obtain⟨t',rfl⟩:=ry;exact PySem.EqMixed.ne_str_int (bU I q (by simp))
  | str j=>obtain⟨t',rfl⟩:=ry;exact ne_str (bU I q (congrArg not EF))
  | _=>exact absurd (show false=true from hs) aar
 | byt i=>
  obtain⟨t,rfl⟩:=rx;cases y with
  | byt j=>obtain⟨t',rfl⟩:=ry;exact PySem.W.ne_bytes (bU I q (congrArg not EH))
  | _=>exact absurd (show false=true from hs) aar
 | _=>cases y <;> exact absurd (show false=true from hs) aar
theorem sV:h9 X (compareOp .Lt) (x8 λ i j=>.bl (decide (i < j))):=MO λ _ _ _ _ _ _ _ q=>lt_int q
theorem O1:h9 X (compareOp .LtE) (x8 λ i j=>.bl (decide (i<=j))):=MO λ _ _ _ _ _ _ _ q=>le_int q
theorem JL:h9 X (compareOp .Gt) (x8 λ i j=>.bl (decide (j < i))):=MO λ _ _ _ _ _ _ _ q=>gt_int q
theorem O2:h9 X (compareOp .GtE) (x8 λ i j=>.bl (decide (j<=i))):=MO λ _ _ _ _ _ _ _ q=>ge_int q
theorem JK:h9 X (compareOp .Is) (λ x y H Q=>y=.non/\Q (.bl (decide (x=.non))) H):=by
 intro pins s σ H x y v u Q I rx ry h;obtain⟨rfl,q⟩:=h;cases ry;refine is_none_gen (bU I q ?_);cases x <;> first
  | (cases rx;rfl)
  | (obtain⟨t,rfl⟩:=rx;rfl)
theorem xF:h9 X (compareOp .IsNot) (λ x y H Q=>y=.non/\Q (.bl (!decide (x=.non))) H):=by
 intro pins s σ H x y v u Q I rx ry h;obtain⟨rfl,q⟩:=h;cases ry;refine isnot_none_gen (bU I q ?_);cases x <;> first
  | (cases rx;rfl)
  | (obtain⟨t,rfl⟩:=rx;rfl)
theorem h9.or {f:Value->Value->Sem Value}{r r':R2} (h:h9 X f r) (h':h9 X f r'):h9 X f (λ x y H Q=>r x y H Q\/r' x y H Q):=by
 intro pins s σ H x y v u Q I rx ry q;rcases q with q | q
 ·exact h pins s σ H x y v u Q I rx ry q
 ·exact h' pins s σ H x y v u Q I rx ry q
theorem bP (b:Expr) {op:CmpOp} (h:op≠.In:=by decide) (h2:op≠.NotIn:=by decide):behindInMarks op b=false:=by
 have e1:(op == CmpOp.In)=false:=by cases op <;> first | rfl | exact absurd rfl h
 have e2:(op == CmpOp.NotIn)=false:=by cases op <;> first | rfl | exact absurd rfl h2
 cases b <;> simp [behindInMarks,e1,e2]
theorem jV {op:CmpOp}{r:R2} (ho:h9 X (compareOp op) r) (ha:PE X a ta) (hb:PE X b tb) (hm:behindInMarks op b=false):PE X (.Compare a [op] [b] pos) (jN r ta tb):=by
 intro pins s σ H Q I h;exact wpAny_Compare1 (QB ha hb I h λ v u s2 x y H2 I2 rx ry q=>ho pins s2 σ H2 x y v u Q I2 rx ry q) hm
def DI (t:TE):TT:=λ σ H Q=>t σ H λ x H'=>∃ k,x=.bl k/\Q k H'
theorem bE {op:CmpOp}{r:R2} (ho:h9 X (compareOp op) r) (ha:PE X a ta) (hb:PE X b tb) (hm:behindInMarks op b=false):PT X (.Compare a [op] [b] pos) (DI (jN r ta tb)):=by
 intro pins s σ H Q I h;refine wpAny_isTrue_Compare1 (cK (ha pins s σ H _ I h) λ v s1 ⟨x,H1,I1,r1,q1⟩=>cK (hb pins s1 σ H1 _ I1 q1) λ u s2 ⟨y,H2,I2,r2,q2⟩=>
  cK (ho pins s2 σ H2 x y v u _ I2 r1 r2 q2) λ c s3 ⟨z,H3,I3,r3,k,e,q3⟩=>?_) hm
 subst e;cases r3;exact wpAny_truthy_bool ⟨H3,I3,q3⟩
def OR (r r':R2) (ta tb tc:TE):TE:=λ σ H Q=>ta σ H λ x H1=>tb σ H1 λ y H2=>r x y H2 λ z H3=>∃ k,z=.bl k/\
 (if k=true then tc σ H3 λ w' H4=>r' y w' H4 Q else Q (.bl false) H3)
theorem JE {op op':CmpOp}{r r':R2} (ho:h9 X (compareOp op) r) (ho':h9 X (compareOp op') r') (ha:PE X a ta) (hb:PE X b tb) (hc:PE X c tc)
  (hm:lastMarks [op,op'] [b,c]=false:=by with_unfolding_all rfl):PE X (.Compare a [op,op'] [b,c] pos) (OR r r' ta tb tc):=by
 intro pins s σ H Q I h;refine Compare_chain (cK (ha pins s σ H _ I h) λ v s1 ⟨x,H1,I1,r1,q1⟩=>chain_link (cK (hb pins s1 σ H1 _ I1 q1) λ u s2 ⟨y,H2,I2,r2,q2⟩=>
  cK (ho pins s2 σ H2 x y v u _ I2 r1 r2 q2) λ d s3 ⟨z,H3,I3,r3,k,e,q3⟩=>?_)) hm
 subst e;cases r3;refine wpAny_truthy_bool ?_;cases k with
 | false=>exact ite_ff ⟨.bl false,H3,I3,rfl,q3⟩
 | true=>exact ite_tt (chain_last (cK (hc pins s3 σ H3 _ I3 q3) λ w' s4 ⟨z',H4,I4,r4,q4⟩=>ho' pins s4 σ H4 y z' u w' Q I4 r2 r4 q4))
theorem tF:(sizeLine:Nat) < 2 ^ 63:=by rw[sizeLine_eq];decide
theorem pW {x:V}{us:List Value} (r:bL [x] us):∃ u,us=[u]/\aX x u:=by
 cases r with
 | cons r1 r2=>cases r2;exact⟨_,rfl,r1⟩
theorem HQ {x y:V}{us:List Value} (r:bL [x,y] us):∃ u w',us=[u,w']/\aX x u/\aX y w':=by
 cases r with
 | cons r1 r2=>
  cases r2 with
  | cons r3 r4=>cases r4;exact⟨_,_,rfl,r1,r3⟩
theorem w4 (hc:X.calm=true):dZ X (.builtin "max") (λ xs H Q=>∃ i j,xs=[.int i,.int j]/\Q (.int (if j > i then j else i)) H):=by
 intro pins s σ H xs us Q I r h;obtain⟨i,j,rfl,q⟩:=h;obtain⟨u,w',rfl,⟨t,rfl⟩,⟨t',rfl⟩⟩:=HQ r;refine max_two_ints (I.ok.hd hc) λ h' tk k=>⟨_,H,I.kept k,?_,q⟩
 by_cases hj:j > i
 ·rw[if_pos hj,if_pos hj];exact⟨_,rfl⟩
 ·rw[if_neg hj,if_neg hj];exact⟨_,rfl⟩
theorem vZ (hc:X.calm=true):dZ X (.builtin "min") (λ xs H Q=>∃ i j,xs=[.int i,.int j]/\Q (.int (if j < i then j else i)) H):=by
 intro pins s σ H xs us Q I r h;obtain⟨i,j,rfl,q⟩:=h;obtain⟨u,w',rfl,⟨t,rfl⟩,⟨t',rfl⟩⟩:=HQ r;refine min_two_ints (I.ok.hd hc) λ h' tk k=>⟨_,H,I.kept k,?_,q⟩
 by_cases hj:j < i
 ·rw[if_pos hj,if_pos hj];exact⟨_,rfl⟩
 ·rw[if_neg hj,if_neg hj];exact⟨_,rfl⟩
theorem jF:dZ X (.type "int") (λ xs H Q=>(∃ i,xs=[.int i]/\Q (.int i) H)\/∃ k,xs=[.bl k]/\Q (.int (if k then 1 else 0)) H):=by
 intro pins s σ H xs us Q I r h;rcases h with ⟨i,rfl,q⟩ | ⟨k,rfl,q⟩
 ·obtain⟨u,rfl,t,rfl⟩:=pW r;exact call_int_int ⟨.int i,H,I,⟨_,rfl⟩,q⟩
 ·obtain⟨u,rfl,r1⟩:=pW r;cases r1;exact call_int_bool ⟨.int (if k then 1 else 0),H,I.tok _,⟨_,rfl⟩,q⟩
end
structure ObjM (h:Heap) (x dx C:Addr) (mA:Str->Option Value):Prop where
 obj:h.get? x=some (PySem.W.instObj C dx)
 ns:h.Ns1 dx mA
 ne:dx≠x
theorem G6 {h:Heap}{dx:Addr}{mA:Str->Option Value} (n:h.Ns1 dx mA):∃ od,h.get? dx=some od/\∀ name,PySem.W.lookIn name od=some (mA name):=by
 obtain⟨o,es,ep,ho,hd,hk,_,hm⟩:=n;refine⟨o,ho,λ name=>?_⟩;have e:=hm name;unfold nsFind findBy at e;rw[<- Array.find?_toList] at e;unfold PySem.W.lookIn;rw[hd];dsimp only
 split
 ·rename_i y q
  rw[q] at e;exact congrArg some e
 ·rename_i q
  rw[q] at e;have a:es.toList.any (·.refKey)=false:=by
   rw[List.any_eq_false];intro y hy;obtain⟨z,t,hkey⟩:=hk y (Array.mem_toList_iff.mp hy);simp [DictEntry.refKey,hkey]
  have a':¬ es.toList.any (·.refKey)=true:=by rw[a];exact aar
  rw[if_neg a'];exact congrArg some e
theorem ObjM.look {h:Heap}{x dx C:Addr}{mA:Str->Option Value} (I:ObjM h x dx C mA):∃ od,PySem.W.InstAt h x (PySem.W.instObj C dx) C (some od)/\∀ name,PySem.W.lookIn name od=some (mA name):=
 let ⟨od,ho,hl⟩:=G6 I.ns
 ⟨od,⟨I.obj,rfl,rfl,ho⟩,hl⟩
section
variable {prog:Program}{A:Around}{E:Value->Shared->Prop}{s:Shared}{x dx f:Addr}{mA:Str->Option Value}{name:Str}{v:Value}
end
theorem nL.some_of {v:V}{o:Option Value} (r:nL (some v) o):∃ u,o=some u/\aX v u:=by
 cases o with
 | none=>exact (show False from r).elim
 | some u=>exact⟨u,rfl,r⟩
section
variable {H H':Hp}{h h':Heap}{a dx:Addr}{fs fs':List (Str×V)}
theorem N6 (hok:mF P w H h) (e:H a=some (.ins C dx fs)):∃ mA,ObjM h a dx C mA/\(∀ f,nL (fs.lookup f) (mA f))/\PySem.Within mA (fs.map (·.1))/\fs.length<=1000/\H dx=some (.own a):=by
 obtain⟨d,z,ne,ob,mA,n,r,q⟩:=(show bQ P w H h a (.ins C dx fs) from hok a _ e);exact⟨mA,⟨ob,n,ne⟩,r,q,z,d⟩
end
structure Cls (K:aab) (C:Addr):Prop where
 pg:PySem.W.plainGet K C Str.empty=true
 hd:PySem.W.hasDictIn K C=true
 po:PySem.W.plainOver K C=true
 sa:PySem.W.findIn K (.ref C) "__setattr__" = some (some (.builtin "object.__setattr__"))
theorem Cls.get {K:aab}{C:Addr} (c:Cls K C) (f:Str):PySem.W.plainGet K C f=true:=c.pg
section
variable {X:Cx}{pins:List (Addr×Obj)}{σ:St}{H:Hp}{s:Shared}{a dx:Addr}{fs:List (Str×V)}{f:Str}{v:V}{A:Around}{E:Value->Shared->Prop}
end
section
variable {X:Cx}{o e value:Expr}{f:Str}{pos pos' tpos:Pos}{ta tv:TE}
end
section
variable {X:Cx}{pins:List (Addr×Obj)}{σ:St}{H:Hp}{s:Shared}{A:Around}{E:Value->Shared->Prop}{Q:Value->Shared->Prop}{c:Value}{b:Bool}
inductive TyOf (K:aab) (H:Hp):V->Value->Prop where
 | non:TyOf K H .non (.type "NoneType")
 | bl (x:Bool):TyOf K H (.bl x) (.type "bool")
 | int (i:Int):TyOf K H (.int i) (.type "int")
 | str (x:Str):TyOf K H (.str x) (.type "str")
 | flt (x:UInt64):TyOf K H (.flt x) (.type "float")
 | lst {a:Addr}{xs:List V} (e:H a=some (.lst xs)):TyOf K H (.ref a) (.type "list")
 | frz {a:Addr}{o:Obj}{xs:List V} (e:H a=some (.frz o (.lst xs))):TyOf K H (.ref a) (.type "list")
 | tup {a:Addr}{xs:List V} (e:H a=some (.tup xs)):TyOf K H (.ref a) (.type "tuple")
 | dK {a:Addr}{kvs:List (eV×V)} (e:H a=some (.dK kvs)):TyOf K H (.ref a) (.type "dict")
 | dT {a:Addr}{kvs:List (List eV×V)} (e:H a=some (.dT kvs)):TyOf K H (.ref a) (.type "dict")
 | ins {a C dx:Addr}{fs:List (Str×V)} (e:H a=some (.ins C dx fs)) (cl:Cls K C) (ha:PySem.W.findIn K (.ref C) "__class__" = some (some (.builtin "object.__class__")))
   (hn:PySem.W.specialIn K (.builtin "object.__class__") "__get__" = some (some (.builtin "getset_descriptor.__get__"))) (htk:PySem.W.takesIn K (.builtin "object.__class__")=some true)
   (hm:PySem.W.mroIn K C (.type "object")=some true):TyOf K H (.ref a) (.ref C)
theorem GC {x:V}{u t:Value} (I:Inv X pins σ H s) (rx:aX x u) (ty:TyOf X.K H x t) (e:PySem.W.kitOne X.K t c=some b) (h:∀ tk,Q (.bool b) { s with toks:=tk }) :
  wpAny (model X.prog X.w) A (call (.builtin "isinstance") [u,c]) Q E s:=by
 cases ty with
 | non=>cases (show u=Value.none from rx);exact PySem.W.kia_one PySem.W.kitx_none I.kIn True.intro e (λ z=>nomatch z) h
 | bl y=>cases (show u=Value.bool y from rx);exact PySem.W.kia_one PySem.W.kitx_bool I.kIn True.intro e (λ z=>nomatch z) h
 | int i=>obtain⟨t,q⟩:=(show ∃ t,u=Value.int i t from rx);cases q;exact PySem.W.kia_one PySem.W.kitx_int I.kIn True.intro e (λ z=>nomatch z) h
 | str y=>obtain⟨t,q⟩:=(show ∃ t,u=Value.str y t from rx);cases q;exact PySem.W.kia_one PySem.W.kitx_str I.kIn True.intro e (λ z=>nomatch z) h
 | flt y=>obtain⟨t,q⟩:=(show ∃ t,u=Value.float y t from rx);cases q;exact PySem.W.kia_one PySem.W.kitx_float I.kIn True.intro e (λ z=>nomatch z) h
 | @lst a xs ea=>
  cases (show u=Value.ref a from rx);obtain⟨_,_,n,_,h1⟩:=(show bQ X.prog X.w H s.heap a (.lst xs) from I.hok a _ ea);exact PySem.W.kia_one PySem.W.kitx_list I.kIn ⟨_,h1,rfl⟩ e (λ z=>nomatch z) h
 | @frz a ob xs ea=>
  cases (show u=Value.ref a from rx);obtain⟨_,_,_,n,_,h1⟩:=(show bQ X.prog X.w H s.heap a (.frz ob (.lst xs)) from I.hok a _ ea);exact PySem.W.kia_one PySem.W.kitx_list I.kIn ⟨_,h1,rfl⟩ e (λ z=>nomatch z) h
 | @tup a xs ea=>
  cases (show u=Value.ref a from rx);obtain⟨_,_,_,p⟩:=(show bQ X.prog X.w H s.heap a (.tup xs) from I.hok a _ ea);obtain⟨o,h1,h2,_⟩:=p;exact PySem.W.kia_one PySem.W.kitx_tuple I.kIn ⟨o,h1,h2⟩ e (λ z=>nomatch z) h
 | @dK a kvs ea=>
  cases (show u=Value.ref a from rx);obtain⟨_,_,vs,_,p⟩:=(show bQ X.prog X.w H s.heap a (.dK kvs) from I.hok a _ ea);obtain⟨o,es,ep,h1,h2,_⟩:=p;exact PySem.W.kia_one PySem.W.kitx_dict I.kIn ⟨o,h1,h2.1⟩ e (λ z=>nomatch z) h
 | @dT a kvs ea=>
  cases (show u=Value.ref a from rx);obtain⟨_,_,xs,_,o,es,ep,h1,h2,_⟩:=(show bQ X.prog X.w H s.heap a (.dT kvs) from I.hok a _ ea);exact PySem.W.kia_one PySem.W.kitx_dict I.kIn ⟨o,h1,h2.1⟩ e (λ z=>nomatch z) h
 | @ins a C dx fs ea cl ha hn htk hm=>
  cases (show u=Value.ref a from rx);obtain⟨mA,O,_⟩:=N6 I.hok ea;obtain⟨od,J,_⟩:=O.look;exact PySem.W.kia_one (PySem.W.kitx_own (cl.get _) cl.hd ha hn htk hm) I.kIn J e (λ z=>nomatch z) h
end
structure Room (k:Nat) (A:Around):Prop where
 hd:A.handled=none
 dp:A.depth+3 * k+5 < recursionLimit
 un:A.units+16 * k+200 < cLine
theorem Room.mono {j k:Nat}{A:Around} (r:Room k A) (h:j<=k):Room j A:=⟨r.hd,by have:=r.dp;omega,by have:=r.un;omega⟩
theorem Room.deeper {k:Nat}{A:Around} (r:Room (k+1) A) (env:Env):Room k (A.deeper env):=
 ⟨r.hd,by have:=r.dp;show A.depth+1+3 * k+5 < _;omega,by have:=r.un;show A.units+3+16 * k+200 < _;omega⟩
theorem Room.depth {k:Nat}{A:Around} (r:Room k A):A.depth < recursionLimit:=by have:=r.dp;omega
theorem Room.units {k:Nat}{A:Around} (r:Room k A):A.units+64 < cLine:=by have:=r.un;omega
def qL:TA:=λ _ H Q=>Q [] H
def fI (ta:TE) (tr:TA):TA:=λ σ H Q=>ta σ H λ x H1=>tr σ H1 λ xs H2=>Q (x::xs) H2
section
variable {X:Cx}{e:Expr}{es:List Expr}{te:TE}{t:TA}{pos:Pos}
theorem aC:PA X [] qL:=λ _ _ _ _ H Q I h=>Calls.spliced_nil ⟨[],H,I,.nil,h⟩
theorem aA (ha:PE X e te) (hr:PA X es t) (hs:starEach (e::es) X.env=(false,eval e X.env)::starEach es X.env:=by rfl):PA X (e::es) (fI te t):=by
 intro pos pins s σ H Q I h;rw[hs];show wpAny _ _ (spliced ((false,eval e X.env)::backTo pos (starEach es X.env))) _ _ s;refine Calls.spliced_cons (cK (ha pins s σ H _ I h) λ u s1 ⟨x,H1,I1,r1,q1⟩=>?_);exact cK (hr pos pins s1 σ H1 _ I1 q1) λ us s2 ⟨xs,H2,I2,r2,q2⟩=>⟨x::xs,H2,I2,.cons r1 r2,q2⟩
def tTup (t:TA):TE:=λ σ H Q=>t σ H λ xs H1=>xs.length<=sizeLine/\∀ p,H1 p=none->Q (.ref p) (upd H1 p (.tup xs))
def LU (t:TA):TE:=λ σ H Q=>t σ H λ xs H1=>xs.length<=sizeLine/\∀ p,H1 p=none->Q (.ref p) (upd H1 p (.lst xs))
theorem bF {x1} (h:PA X es t):PE X (.Tuple es x1 pos) (tTup t):=by
 intro pins s σ H Q I hq;refine wpAny_Tuple_spliced (cK (h pos pins s σ H _ I hq) λ us s1 ⟨xs,H1,I1,r,z,q⟩=>⟨by rw[<- r.length];exact z,?_⟩);have hf:H1 s1.heap.objs.size=none:=I1.hok.fresh (aal _);refine⟨.ref s1.heap.objs.size,upd H1 s1.heap.objs.size (.tup xs),I1.laid (t':=s1.toks) (λ b u e=>aac _ e) (aal _) ?_,rfl,q _ hf⟩;exact⟨z,us,r,⟨_,aak _ rfl,rfl,_,rfl⟩⟩
theorem cJ (h:PA X es t):PE X (.List es pos) (LU t):=by
 intro pins s σ H Q I hq;refine wpAny_List_spliced (cK (h pos pins s σ H _ I hq) λ us s1 ⟨xs,H1,I1,r,z,q⟩=>⟨by rw[<- r.length];exact z,?_⟩);have hf:H1 s1.heap.objs.size=none:=I1.hok.fresh (aal _);refine⟨.ref s1.heap.objs.size,upd H1 s1.heap.objs.size (.lst xs),I1.laid (t':=s1.toks) (λ b u e=>aac _ e) (aal _) ?_,rfl,q _ hf⟩;exact⟨z,us,0,r,aak _ rfl⟩
end
abbrev Sp:=List V->Hp->VK->XK->Prop
abbrev DE:=List Env->Hp->Shared->XK->Value->Shared->Prop
structure Env0 (P:Program) (w:World) (K:aab) (mg:Str->Option Value) (base:Heap) (A:Around) (outer:List Env) (s:Shared) (H:Hp):Prop where
 frames:A.frames=some outer
 mod:Mod K mg base
 bs:∀ b o,base.get? b=some o->s.heap.get? b=some o/\H b=none
 bsz:base.objs.size<=s.heap.objs.size
 funs:s.heap.FunFrames base outer
 frf:∀ b∈jL outer,H b=none
 hok:mF P w H s.heap
 bare:AllBare s.gens
def CE (outer:List Env) (P:Program) (w:World) (H:Hp) (s:Shared) (Q:VK) (u:Value) (s':Shared):Prop:=
 ∃ v H',s'.os=s.os/\AllBare s'.gens/\Un (jL outer) [] H H' s.heap s'.heap/\mF P w H' s'.heap/\aX v u/\Q v H'
def CR (CX:DE) (outer:List Env) (P:Program) (w:World) (H:Hp) (s:Shared) (Q:VK) (E:XK) (r:Result) (s':Shared):Prop:=
 match r with
 | .ok (.ret u)=>CE outer P w H s Q u s'
 | .ok _=>False
 | .error e=>CX outer H s E e s'
structure FnOk (P:Program) (w:World) (K:aab) (mg:Str->Option Value) (base:Heap) (CX:DE) (k:Nat) (f:Addr) (fd:FuncData) (ps:List Str) (sp:Sp):Prop where
 len:∀ vs H Q E,sp vs H Q E->vs.length=ps.length
 run:∀ (A:Around) (outer:List Env) (s:Shared) (H:Hp) (args:Args) (us:List Value) (vs:List V) (Q:VK) (E:XK),Room k A->Env0 P w K mg base A outer s H->BindsTo s fd args (ps.zip us)->bL vs us->sp vs H Q E->
  codeAny (model P w) A (.call (.ref f) args) (CR CX outer P w H s Q E) s
theorem FnOk.imp {P:Program}{w:World}{K:aab}{mg:Str->Option Value}{base:Heap}{CX:DE}{k:Nat}{f:Addr}{fd:FuncData}{ps:List Str}{sp sp':Sp} (F:FnOk P w K mg base CX k f fd ps sp)
  (h:∀ vs H Q E,sp' vs H Q E->sp vs H Q E):FnOk P w K mg base CX k f fd ps sp':=
 ⟨λ vs H Q E q=>F.len vs H Q E (h _ _ _ _ q),λ A outer s H args us vs Q E hr he hb hv hs=>F.run A outer s H args us vs Q E hr he hb hv (h _ _ _ _ hs)⟩
section
variable {X:Cx}{pins:List (Addr×Obj)}{σ:St}{H:Hp}{s s':Shared}
theorem Inv.env0 (I:Inv X pins σ H s):Env0 X.prog X.w X.K X.mg X.base X.A X.stack s H:=
 ⟨I.ok.frames,I.ok.mod,I.bs,acd I.ok.bsz I.sz,I.stack,I.stkFree,I.hok,I.bare⟩
theorem Inv.after {Q:VK}{u:Value} (I:Inv X pins σ H s) (h:CE X.stack X.prog X.w H s Q u s'):EP X pins σ Q u s':=by
 obtain⟨v,H',os,bare,un,hok,r,q⟩:=h;obtain⟨hh,g,d,t,os'⟩:=s';obtain rfl:os'=s.os:=os;exact⟨v,H',I.call (h':=hh) (g':=g) (d':=d) (t':=t) (ch:=[]) un hok bare (λ b z=>absurd z (by simp)),r,q⟩
end
def uZ (sp:Sp) (dvs:List V) (E:XK) (t:TA):TE:=λ σ H Q=>t σ H λ vs H1=>sp (vs++dvs) H1 Q E
def oT (K:aab) (fd:FuncData) (ps:List Str) (ds:List Value):Prop:=
 ∀ (s:Shared) (us:List Value),K.In s.heap->(us++ds).length=ps.length->BindsTo s fd ⟨us,[]⟩ (ps.zip (us++ds))
theorem oT.all {K:aab}{fd:FuncData}{ps:List Str} (h:∀ us:List Value,us.length=ps.length->bindArgs fd ⟨us,[]⟩=pure (ps.zip us)):oT K fd ps []:=λ s us _ hl=>by
 rw[acy] at hl ⊢;exact .of_eq (h us hl)
def lR (CX:DE) (X:Cx) (E:XK):Prop:=∀ (pins:List (Addr×Obj)) (σ:St) (H:Hp) (s:Shared) (e:Value) (s':Shared),Inv X pins σ H s->CX X.stack H s E e s'->X.xe e s'
section
variable {X:Cx}{CX:DE}{k:Nat}{f:Addr}{fd:FuncData}{ps:List Str}{sp:Sp}{dvs:List V}{ds:List Value}{E:XK}{x m:Str}{p pos apos:Pos}{e o:Expr}{es:List Expr}{ta:TE}{t:TA}
theorem P1 {pins:List (Addr×Obj)}{σ:St}{H:Hp}{s:Shared}{Q:VK}{us:List Value}{vs:List V} (F:FnOk X.prog X.w X.K X.mg X.base CX k f fd ps sp) (hr:Room k X.A) (hb:oT X.K fd ps ds) (hd:bL dvs ds) (hx:lR CX X E)
  (I:Inv X pins σ H s) (r:bL vs us) (h:sp (vs++dvs) H Q E):wpAny (model X.prog X.w) X.A (call (.ref f) us) (EP X pins σ Q) X.xe s:=by
 have r2:bL (vs++dvs) (us++ds):=r.append hd;have hl:(us++ds).length=ps.length:=by rw[<- r2.length];exact F.len _ _ _ _ h
 refine wpAny_call (codeAny_mono (F.run X.A X.stack s H ⟨us,[]⟩ (us++ds) (vs++dvs) Q E hr I.env0 (hb s us I.kIn hl) r2 h) λ r s' hq=>?_);cases r with
 | error e=>exact hx pins σ H s e s' I hq
 | ok fl=>
  cases fl with
  | ret u=>exact I.after hq
  | next=>exact False.elim hq
  | brk=>exact False.elim hq
  | cont=>exact False.elim hq
theorem gQ (F:FnOk X.prog X.w X.K X.mg X.base CX k f fd ps sp) (hr:Room k X.A) (hg:Gl X x) (hm:X.mg x=some (.ref f)) (hk:PySem.W.keepIn X.K (.ref f)=true) (hb:oT X.K fd ps ds) (hd:bL dvs ds) (hx:lR CX X E)
  (ha:PA X (e::es) t) (hdb:(x == ("__debug__" : Str))=false:=by decide) (he:starEach (e::es) X.env=(false,eval e X.env)::starEach es X.env:=by rfl) (hpl:(backTo pos (starEach es X.env)).any (·.1)=false:=by rfl) :
  PE X (.Call (.Name x p) (e::es) [] pos) (uZ sp dvs E t):=by
 intro pins s σ H Q I h;refine wpAny_Call_Name_kw (oH I hg hm ?_ hdb);refine PySem.W.callWith_K (h₀:=X.base) I.ok.mod.kin hk (cK (ha pos pins s σ H _ I h) λ us s1 ⟨vs,H1,I1,r,q⟩=>⟨I1.kIn,?_⟩) he hpl;exact P1 F hr hb hd hx I1 r q
end
section
variable {X:Cx}{CX:DE}{k:Nat}{f:Addr}{fd:FuncData}{ps ks:List Str}{sp:Sp}{E:XK}{x m:Str}{p pos apos kpos:Pos}{e o:Expr}{es:List Expr}{kws:List Keyword}{te ta:TE}{t tk:TA}{nm:Option Str}
variable {g:List Value->List Value->List Value}{gV:List V->List V->List V}
end
structure FnScope (N P:List Str) (sc:Scope):Prop where
 kind:sc.kind=.function:=by rfl
 co:sc.isCoroutine=false:=by rfl
 gen:sc.isGenerator=false:=by rfl
 nd:N.Nodup:=by decide +kernel
 pre:N.take P.length=P:=by rfl
 par:∀ x∈P,sc.names.lookup x=some .local\/sc.names.lookup x=some .cell:=by decide +kernel
 nofree:∀ y∈sc.names,y.2≠.free:=by decide +kernel
theorem wA {kindOf:Str->Option NameKind}{x:Str}:∀ {binds:List (Str×Value)}{m:Str->Option Value},(∀ v,(x,v)∉binds)->bindL kindOf binds m x=m x
 | [],_,_=>rfl
 | (n,v)::r,m,h=>by
  unfold bindL;rw[wA λ w hw=>h w (aap _ hw)]
  split
  ·have:x≠n:=by rintro rfl;exact h v aat
   simp [this]
  ·rfl
theorem wC {kindOf:Str->Option NameKind}{x:Str}:∀ {binds:List (Str×Value)}{m:Str->Option Value},(∀ v,(x,v)∉binds)->bindC kindOf binds m x=m x
 | [],_,_=>rfl
 | (n,v)::r,m,h=>by
  unfold bindC;rw[wC λ w hw=>h w (aap _ hw)]
  split
  ·rfl
  ·have:x≠n:=by rintro rfl;exact h v aat
   simp [this]
theorem wB {kindOf:Str->Option NameKind}{x:Str}{v:Value}:∀ {P:List Str}{vs:List Value}{i:Nat}{m:Str->Option Value},P.Nodup->P[i]? = some x->vs[i]? = some v->kindOf x=some .local->
  bindL kindOf (P.zip vs) m x=some v
 | [],_,_,_,_,h,_,_=>by simp at h
 | _::_,[],_,_,_,_,h,_=>by simp at h
 | p::P,w::vs,0,m,nd,h1,h2,hk=>by
  simp at h1 h2;subst h1;subst h2;show bindL kindOf ((p,w)::P.zip vs) m p=_;unfold bindL;rw[wA λ v hv=>(acs.mp nd).1 (List.of_mem_zip hv).1,if_pos hk];simp
 | p::P,w::vs,i+1,m,nd,h1,h2,hk=>by
  show bindL kindOf ((p,w)::P.zip vs) m x=_;unfold bindL;exact wB (i:=i) (acs.mp nd).2 (by simpa using h1) (by simpa using h2) hk
theorem wD {kindOf:Str->Option NameKind}{x:Str}{v:Value}:∀ {P:List Str}{vs:List Value}{i:Nat}{m:Str->Option Value},P.Nodup->P[i]? = some x->vs[i]? = some v->kindOf x≠some .local->
  bindC kindOf (P.zip vs) m x=some v
 | [],_,_,_,_,h,_,_=>by simp at h
 | _::_,[],_,_,_,_,h,_=>by simp at h
 | p::P,w::vs,0,m,nd,h1,h2,hk=>by
  simp at h1 h2;subst h1;subst h2;show bindC kindOf ((p,w)::P.zip vs) m p=_;unfold bindC;rw[wC λ v hv=>(acs.mp nd).1 (List.of_mem_zip hv).1,if_neg hk];simp
 | p::P,w::vs,i+1,m,nd,h1,h2,hk=>by
  show bindC kindOf ((p,w)::P.zip vs) m x=_;unfold bindC;exact wD (i:=i) (acs.mp nd).2 (by simpa using h1) (by simpa using h2) hk
def start (N:List Str) (vs:List V):St:=vs.map some++List.replicate (N.length - vs.length) none
def jD (CX:DE) (P:Program) (w:World) (K:aab) (mg:Str->Option Value) (base:Heap) (N:List Str) (qual:Str) (scope:Scope) (f:Addr) (cd:Value) (A:Around) (outer:List Env) (s:Shared) (H:Hp) (E:XK):Cx where
 prog:=P
 w:=w
 K:=K
 mg:=mg
 base:=base
 A:=A.deeper (envOfC qual scope s.heap.objs.size f cd)
 N:=N
 s₀:=s
 H₀:=H
 env:=envOfC qual scope s.heap.objs.size f cd
 outer:=outer
 stack:=envOfC qual scope s.heap.objs.size f cd::outer
 ex:=[]
 calm:=true
 fn:=λ _=>true
 pn:=[]
 xe:=λ e s'=>wpAny (model P w) (A.deeper (envOfC qual scope s.heap.objs.size f cd)) (leaving (envOfC qual scope s.heap.objs.size f cd) e) (λ _ s''=>CX outer H s E e s'') (λ e' s''=>CX outer H s E e' s'') s'
theorem AH {sc:Scope}{n:Nat}{x:Str} (h:sc.names.lookup x=some .cell):∃ c,(cellsFrom n sc.names []).lookup x=some c:=by
 have q:=PySem.W.cellsFrom_some sc.names n [] (.inl h);exact Option.isSome_iff_exists.mp q
theorem vK {CX:DE}{P:Program}{w:World}{K:aab}{mg:Str->Option Value}{base:Heap}{N ps:List Str}{qual:Str}{scope:Scope}{f:Addr}{cd:Value}{A:Around}{outer:List Env}{s s1:Shared}{H:Hp}{E:XK}{us:List Value}{vs:List V}
  (S:FnScope N ps scope) (hd:A.handled=none) (e0:Env0 P w K mg base A outer s H) (hl:vs.length=ps.length) (r:bL vs us)
  (x:InCallC s s.heap.objs.size (bindL (envOfC qual scope s.heap.objs.size f cd).kindOf (ps.zip us) λ _=>none) (cellsFrom (s.heap.objs.size+1) scope.names []) (bindC (envOfC qual scope s.heap.objs.size f cd).kindOf (ps.zip us) λ _=>none) s1) :
  Inv (jD CX P w K mg base N qual scope f cd A outer s H E) [] (start N vs) H s1:=by
 have hpl:ps.length<=N.length:=by have:=congrArg List.length S.pre;rw[aav] at this;omega
 obtain⟨h1,tk,rfl,hk⟩:=x.done;have noA:∀ b:Addr,b∉(jD CX P w K mg base N qual scope f cd A outer s H E).ex:=λ b z=>absurd (show b∈([]:List Addr) from z) (by simp);refine⟨⟨e0.mod,S.kind,rfl,rfl,aal _,λ y z c h1 h2=>?_,λ y hy=>?_,λ y c _ h=>?_,λ _=>hd,Around.frames_deeper e0.frames,.inr ⟨rfl,rfl⟩,λ b z=>absurd z (noA b),e0.bs,e0.bsz,λ b _ _=>noA b,λ b z=>absurd z (noA b),e0.funs,e0.frf⟩,
  rfl,e0.bare,Un.kept hk,⟨_,x.toInCall.ns,λ i y v h1 h2 h3=>?_⟩,λ y c h=>⟨_,x.cell y c h⟩,e0.hok.fresh (aal _),λ y c h=>?_,λ p hp=>absurd (show p∈([]:List (Addr×Obj)) from hp) (by simp),e0.hok.kept hk,?_⟩
 ·exact name_of_addr x.apart (abe h1) (abe h2)
 ·have hy:scope.names.lookup y=some .cell\/scope.names.lookup y=some .free:=hy;rcases hy with hy | hy
  ·exact AH hy
  ·exact absurd rfl (S.nofree _ (abe hy))
 ·exact ade (x.above y c (abe h))
 ·have hi:i < vs.length:=by
   unfold start at h2
   by_cases hi:i < vs.length
   ·exact hi
   ·rw[acm (by simpa using hi)] at h2;rw[List.getElem?_replicate] at h2
    split at h2 <;> cases h2
  have ha:vs[i]? = some v:=by
   unfold start at h2;rw[abg (by simpa using hi),aaj] at h2;cases e:vs[i]? with
   | none=>rw[e] at h2;cases h2
   | some a=>rw[e] at h2;cases h2;rfl
  obtain⟨u,hu,rv⟩:=r.get ha;have hp:ps[i]? = some y:=by
   rw[<- S.pre,List.getElem?_take_of_lt (by omega)];exact h1
  have ndP:ps.Nodup:=by rw[<- S.pre];exact S.nd.sublist (List.take_sublist _ _)
  refine⟨u,rv,?_⟩;rcases S.par y (aah hp) with k | k
  ·exact .inl ⟨k,wB ndP hp hu k⟩
  ·obtain⟨c,e⟩:=AH (n:=s.heap.objs.size+1) k;refine .inr ⟨.inl k,c,e,?_⟩;have q:=x.cell y c e;rw[wD ndP hp hu (by show scope.names.lookup y≠_;rw[k];decide)] at q;exact q
 ·exact e0.hok.fresh (ade (x.above y c (abe h)))
 ·unfold start;show _=N.length;rw[aau,aad,adg];omega
theorem KS {CX:DE}{P:Program}{w:World}{K:aab}{mg:Str->Option Value}{base:Heap}{k:Nat}{f:Addr}{name qual:Str}{params:Arguments}{body:List Stmt}{scope:Scope}{dV kV doc pm cdv ct oc:Value}{an od:Option Addr}
  {osl:Array (Option Value)}{N ps:List Str}{sp:Sp} (lk:K.lookup f=some ⟨oc,od,.func (PySem.W.fnOf name qual params body scope dV kV doc pm an cdv ct),osl⟩) (hcd:PySem.W.codeIn K cdv qual=true) (S:FnScope N ps scope)
  (len:∀ vs H Q E,sp vs H Q E->vs.length=ps.length)
  (hbody:∀ (A:Around) (outer:List Env) (s:Shared) (H:Hp) (vs:List V) (Q:VK) (E:XK),Room k (A.deeper (envOfC qual scope s.heap.objs.size f cdv))->sp vs H Q E->
   ∃ t,wG (jD CX P w K mg base N qual scope f cdv A outer s H E) body t/\t { nx:=λ _ H'=>Q .non H',rt:=Q } (start N vs) H) :
  FnOk P w K mg base CX (k+1) f (PySem.W.fnOf name qual params body scope dV kV doc pm an cdv ct) ps sp:=by
 refine⟨len,λ A outer s H args us vs Q E hr e0 hb r hsp=>?_⟩;have hl:=len _ _ _ _ hsp;have KX:K.In s.heap:=e0.mod.kin.keeps λ b o e=>(e0.bs b o e).1;have lim:s.heap.NoLimit:=e0.mod.nolimit.keeps λ b o e=>(e0.bs b o e).1;have hkind:∀ y∈ps.zip us,scope.names.lookup y.1=some .local\/(scope.names.lookup y.1=some .cell/\((cellsFrom (s.heap.objs.size+1) scope.names []).lookup y.1).isSome=true):=λ ⟨n,v⟩ hy=>by
  rcases S.par n (List.of_mem_zip hy).1 with q | q
  ·exact .inl q
  ·exact .inr ⟨q,PySem.W.cellsFrom_some _ _ _ (.inl q)⟩
 refine codeAny_call_function hr.depth (KX _ _ lk) rfl S.co S.gen rfl (PySem.W.codeRec_of KX hcd) (hb _ _ _ _ ?_);refine wpAny_newFunctionEnv_cells S.kind hkind λ env he s1 x=>?_;subst he;refine⟨lim.keeps x.toInCall.keep,codeAny_func ?_⟩;obtain⟨t,ht,hq⟩:=hbody A outer s H vs Q E (hr.deeper _) hsp;have I:Inv (jD CX P w K mg base N qual scope f cdv A outer s H E) [] (start N vs) H s1:=vK S hr.hd e0 hl r x;refine abl (ht [] s1 (start N vs) H _ I hq) (λ fl s' hs=>?_) λ e s' hs=>hs;have fin:∀ {Z:St}{H':Hp}{v:V}{u:Value},Inv (jD CX P w K mg base N qual scope f cdv A outer s H E) [] Z H' s'->aX v u->Q v H'->CE outer P w H s Q u s':=
  λ {Z H' v u} J rv q=>⟨v,H',J.os,J.bare,J.base,J.hok,rv,q⟩
 cases fl with
 | ret u=>
  obtain⟨v,Z,H',J,rv,q⟩:=hs;exact fin J rv q
 | next=>
  obtain⟨Z,H',J,q⟩:=hs;exact fin (v:=V.non) (u:=Value.none) J rfl q
 | brk=>
  obtain⟨_,_,_,q⟩:=hs;exact False.elim q
 | cont=>
  obtain⟨_,_,_,q⟩:=hs;exact False.elim q
section
variable {X:Cx}{x:Str}{p pos:Pos}{e:Expr}{es:List Expr}{t:TA}{id T:String}{r:List V->Hp->VK->Prop}
def QN (r:List V->Hp->VK->Prop) (t:TA):TE:=λ σ H Q=>t σ H λ vs H1=>r vs H1 Q
theorem bD (hc:dZ X (.builtin id) r) (hg:Gl X x) (hm:X.mg x=none) (hv:bootBuiltins x=some (.builtin id)) (ha:PA X (e::es) t) (hn:x ≠ "__name__" := by decide) (hdb:(x == ("__debug__" : Str))=false:=by decide)
  (he:starEach (e::es) X.env=(false,eval e X.env)::starEach es X.env:=by rfl) (hpl:(backTo pos (starEach es X.env)).any (·.1)=false:=by rfl):PE X (.Call (.Name x p) (e::es) [] pos) (QN r t):=by
 intro pins s σ H Q I h;refine wpAny_Call_Name_kw (lH I hg hm hv ?_ hn hdb);exact PyProof.Rows.callWith_builtin1 (cK (ha pos pins s σ H _ I h) λ us s1 ⟨vs,H1,I1,r1,q1⟩=>hc pins s1 σ H1 vs us Q I1 r1 q1) he hpl
theorem aV (hc:dZ X (.type T) r) (hg:Gl X x) (hm:X.mg x=none) (hv:bootBuiltins x=some (.type T)) (ha:PA X (e::es) t) (hn:x ≠ "__name__" := by decide) (hdb:(x == ("__debug__" : Str))=false:=by decide)
  (he:starEach (e::es) X.env=(false,eval e X.env)::starEach es X.env:=by rfl) (hpl:(backTo pos (starEach es X.env)).any (·.1)=false:=by rfl):PE X (.Call (.Name x p) (e::es) [] pos) (QN r t):=by
 intro pins s σ H Q I h;refine wpAny_Call_Name_kw (lH I hg hm hv ?_ hn hdb);exact PyProof.Rows.callWith_type1 (cK (ha pos pins s σ H _ I h) λ us s1 ⟨vs,H1,I1,r1,q1⟩=>hc pins s1 σ H1 vs us Q I1 r1 q1) he hpl
end
end L2
namespace HT
open PySem PyProof.Rows
section
open PySem.SeqAt
open PySem.AutoSeq1 (wpAny_loadPart')
open PySem.MeetsSeq PySem.MeetsSeq2 PySem.MeetsSeq3
end
section
variable {prog:Program}{A:Around}{E:Value->Shared->Prop}{s:Shared}
theorem cat_tup {t b:Addr}{vs ws:List Value}{Q:Value->Shared->Prop} (ht:IsTup s.heap t vs.toArray) (hb:IsTup s.heap b ws.toArray) (hv:vs≠[])
  (h1:ws=[]->Q (.ref t) s) (h2:ws≠[]->Q (.ref s.heap.objs.size) { s with heap:=s.heap.push { cls:=.type "tuple",data:=.seq (vs++ws).toArray } })
  (hsz:vs.length+ws.length<=sizeLine):wpAny (model prog w) A (binaryOp .Add (.ref t) (.ref b)) Q E s:=by
 obtain⟨⟨cls,dd,data,sl⟩,ho,hc,n,hd⟩:=id ht;obtain⟨⟨cls2,dd2,data2,sl2⟩,ho2,hc2,n2,hd2⟩:=id hb;simp only at hc hd hc2 hd2;subst hc hd hc2 hd2;have e:vs.toArray++ws.toArray=(vs++ws).toArray:=by simp
 by_cases hw:ws=[]
 ·exact concat_meets ⟨_,ho,rfl⟩ ⟨_,ho2,rfl⟩ noFill_tuple_add seq_tuple_add PySem.F.slot_tuple_add PySem.F.entry_tuple_add (PySem.F.args_tuple_add_2 _ _)
   (tuple_addW1 t b vs.toArray ws.toArray n n2 dd dd2 sl sl2 (by simpa using hv) (by simp [hw])) ⟨ho,ho2,h1 hw⟩
 ·refine concat_meets ⟨_,ho,rfl⟩ ⟨_,ho2,rfl⟩ noFill_tuple_add seq_tuple_add PySem.F.slot_tuple_add PySem.F.entry_tuple_add (PySem.F.args_tuple_add_2 _ _)
   (tuple_addW2 t b vs.toArray ws.toArray n n2 dd dd2 sl sl2 (by simpa using hv) (by simpa using hw) (by rw[aaw,aaw];exact hsz)) ⟨ho,ho2,?_⟩
  rw[e];exact h2 hw
def sIx (n d:Nat):Option Int->Nat
 | none=>d
 | some v=>if v < 0 then (v+(n:Int)).toNat else min v.toNat n
theorem sIx_none (n d:Nat):sIx n d none=d:=rfl
theorem sIx_nat (n d k:Nat):sIx n d (some (k:Int))=min k n:=by
 show (if (k:Int) < 0 then ((k:Int)+(n:Int)).toNat else min (k:Int).toNat n)=min k n;rw[if_neg (by omega),abu]
theorem P0 (n d:Nat) (hd:d<=n) (o:Option Int):sIx n d o<=n:=by
 cases o with
 | none=>exact hd
 | some v=>
  show (if v < 0 then (v+(n:Int)).toNat else min v.toNat n)<=n
  by_cases hv:v < 0
  ·rw[if_pos hv];omega
  ·rw[if_neg hv];exact Nat.min_le_right _ _
theorem EJ (v:Int) (n d:Nat):(if v < 0 then max (v+(n:Int)) 0 else min v (n:Int))=((sIx n d (some v):Nat):Int):=by
 show (if v < 0 then max (v+(n:Int)) 0 else min v (n:Int))=(((if v < 0 then (v+(n:Int)).toNat else min v.toNat n):Nat):Int)
 by_cases hv:v < 0
 ·simp only [if_pos hv];omega
 ·simp only [if_neg hv];omega
theorem DB (lo hi:Option Int) (n:Nat):Builtin.Slice.sliceAdjust lo hi 1 (n:Int)=(((sIx n 0 lo:Nat):Int),((sIx n n hi:Nat):Int)):=by
 have h1:¬ ((1:Int) < 0):=by omega
 unfold Builtin.Slice.sliceAdjust;simp only [h1,if_false];refine Prod.ext ?_ ?_
 ·cases lo with
  | none=>rfl
  | some v=>exact EJ v n 0
 ·cases hi with
  | none=>rfl
  | some v=>exact EJ v n n
theorem BU (i j:Nat):Builtin.Slice.slicePlaces (i:Int) (j:Int) 1=j - i:=by
 unfold Builtin.Slice.slicePlaces;have h1:(1:Int) > 0:=by omega
 simp only [h1,if_true,Int.ediv_one]
 split <;> omega
theorem rY {v:Value}{o:Option Int}{Q:Option Int->Shared->Prop} (p:IsPart v o) (h:Q o s):wpAny (model prog w) A (Builtin.Slice.slicePartIndex v) Q E s:=by
 cases p with
 | none=>exact slicePart_none h
 | int i t=>exact slicePart_int h
theorem iW {sl:Addr}{vl vu:Value}{lo hi:Option Int}{n:Nat}{Q:Int×Int×Nat->Shared->Prop} (hs:s.heap.IsSliceOf sl vl vu .none) (pl:IsPart vl lo) (pu:IsPart vu hi)
  (h:Q (((sIx n 0 lo:Nat):Int),1,sIx n n hi - sIx n 0 lo) s):wpAny (model prog w) A (Builtin.Slice.sliceApplied (.ref sl) (pure (n:Int))) Q E s:=by
 obtain⟨os,hos,hcs,hds⟩:=id hs;unfold Builtin.Slice.sliceApplied Builtin.Slice.sliceFields;refine aaa (aaa (abv hos hds (x:=vl) rfl (aaa (abv hos hds (x:=vu) rfl (aaa (abv hos hds (x:=.none) rfl (aaf ?_)))))));refine aaa (slicePart_none ?_);show wpAny _ _ (if ((1:Int) == 0)=true then _ else _) _ _ s;rw[if_neg (by decide)];refine aaa (rY pl (aaa (rY pu (aaa (aaf ?_)))));show wpAny _ _ (match Builtin.Slice.sliceAdjust lo hi 1 (n:Int) with | (lo,hi)=>pure (lo,(1:Int),Builtin.Slice.slicePlaces lo hi 1)) _ _ s;rw[DB lo hi n];show wpAny _ _ (pure (((sIx n 0 lo:Nat):Int),(1:Int),Builtin.Slice.slicePlaces ((sIx n 0 lo:Nat):Int) ((sIx n n hi:Nat):Int) 1)) _ _ s;rw[BU];exact aaf h
theorem J1 (xs:Array Value) (i k:Nat):((List.range k).filterMap λ (m:Nat)=>xs[((i:Int)+(m:Int) * 1).toNat]?).toArray=((xs.toList.drop i).take k).toArray:=by
 have e:(λ (m:Nat)=>xs[((i:Int)+(m:Int) * 1).toNat]?)=λ m=>xs[i+m]?:=by
  funext m;have:((i:Int)+(m:Int) * 1).toNat=i+m:=by omega
  rw[this]
 rw[e];have:=pick_run xs i k;rw[List.filterMap_map] at this;have e2:((λ x=>xs[x]?) ∘ λ x=>i+x)=λ m=>xs[i+m]?:=rfl;rw[e2] at this;rw[this]
theorem getItem_tuple_cut {t sl:Addr}{items:Array Value}{vl vu:Value}{lo hi:Option Int}{Q:Value->Shared->Prop} (ht:IsTup s.heap t items) (hs:s.heap.IsSliceOf sl vl vu .none) (pl:IsPart vl lo) (pu:IsPart vu hi)
  (hw:¬ (sIx items.size 0 lo=0/\sIx items.size items.size hi=items.size))
  (h:Q (.ref s.heap.objs.size) { s with heap:=s.heap.push { cls:=.type "tuple",data:=.seq ((items.toList.drop (sIx items.size 0 lo)).take (sIx items.size items.size hi - sIx items.size 0 lo)).toArray } })
  (hsz:items.size<=sizeLine):wpAny (model prog w) A (getItem (.ref t) (.ref sl)) Q E s:=by
 have htake:sizeOk (.seq ((items.toList.drop (sIx items.size 0 lo)).take (sIx items.size items.size hi - sIx items.size 0 lo)).toArray):=by
  show ((items.toList.drop (sIx items.size 0 lo)).take (sIx items.size items.size hi - sIx items.size 0 lo)).toArray.size<=sizeLine;rw[aaw,aav,List.length_drop,abi];omega
 have hj:sIx items.size items.size hi<=items.size:=P0 _ _ (aal _) hi;obtain⟨os,hos,hcs,hds⟩:=id hs;have hTs:s.TypeIs (.ref sl) "slice" := ⟨os,hos,hcs⟩;unfold getItem
 try with_reducible refine abq ?_
 first | refine aaa (aaf ?_) | skip
 refine aaa (wpAny_sequenceKey ht.typeIs (by decide) ?_);refine aaa (wpAny_callSpecial?_slot (name:=Str.ofString "__getitem__") ht.typeIs PyProof.Rows.slot_tuple_getitem
  (wpAny_call_entry PyProof.Rows.slot_tuple_getitem ht.typeIs entry_tuple_getitem ?_ (args_tuple_getitem _ _)))
 show wpAny _ _ (Builtin.Tuple.tupleItemsOf (.ref t) >>= _) _ _ s;refine aaa (tupleItemsOf_ ht ?_);refine aaa (wpAny_typeOf hTs ?_);rw[if_pos (by decide)];refine aaa (iW hs pl pu ?_);have hno:¬ ((((sIx items.size 0 lo:Nat):Int) == 0 && (1:Int) == 1 && (sIx items.size items.size hi - sIx items.size 0 lo) == items.size)=true):=by
  intro q;rw[Bool.and_eq_true,Bool.and_eq_true] at q;have q1:((sIx items.size 0 lo:Nat):Int)=0:=eq_of_beq q.1.1;have q2:sIx items.size items.size hi - sIx items.size 0 lo=items.size:=eq_of_beq q.2;exact hw ⟨by omega,by omega⟩
 show wpAny _ _ (if (((sIx items.size 0 lo:Nat):Int) == 0 && (1:Int) == 1 && (sIx items.size items.size hi - sIx items.size 0 lo) == items.size)=true then _ else _) _ _ s;rw[if_neg hno,J1]
 first
  | exact aaa (m:=Builtin.Tuple.tupleExact _) (wpAny_newObj_type (aaf ⟨_,rfl,aaf h⟩) htake)
  | exact aaa (m:=Builtin.Tuple.tupleExact _) (wpAny_newObj_type (aaa (aaf (aaf ⟨_,rfl,aaf h⟩))) htake)
  | exact aaa (aaa (m:=Builtin.Tuple.tupleExact _) (wpAny_newObj_type (aaf (aaf ⟨_,rfl,aaf h⟩)) htake))
  | exact aaa (aaa (m:=Builtin.Tuple.tupleExact _) (wpAny_newObj_type (aaf ⟨_,rfl,aaf h⟩) htake))
end
end HT
namespace L2
open PySem PySem.Spec PyProof.Rows
abbrev TO:=St->Hp->(Option Int->Hp->Prop)->Prop
def PO (X:Cx) (e:Option Expr) (t:TO):Prop:=
 ∀ (pins:List (Addr×Obj)) (s:Shared) (σ:St) (H:Hp) (Q:Option Int->Hp->Prop),Inv X pins σ H s->t σ H Q->
  wpAny (model X.prog X.w) X.A (evalPart e X.env) (λ u s'=>∃ o H',Inv X pins σ H' s'/\IsPart u o/\Q o H') X.xe s
def LS:TO:=λ _ H Q=>Q none H
def QW (t:TE):TO:=λ σ H Q=>t σ H λ x H1=>∃ i,x=.int i/\Q (some i) H1
theorem nF {ns:List Int}:∀ {us:List Value},bL (ns.map V.int) us->IntsAre us ns:=by
 induction ns with
 | nil=>intro us r;rw[acl] at r;cases r;exact .nil
 | cons n ns ih=>
  intro us r;rw[aba] at r;cases r with
  | cons r1 r2=>
   obtain⟨t,e⟩:=r1;subst e;exact .cons n t (ih r2)
section
variable {X:Cx}{e:Expr}{te:TE}{lo hi:Option Expr}{tl th:TO}{pos p2:Pos}
theorem xB:PO X none LS:=by
 intro pins s σ H Q I h;rw[evalPart_none];exact aaf ⟨none,H,I,.none,h⟩
theorem xA (h:PE X e te):PO X (some e) (QW te):=by
 intro pins s σ H Q I hw;rw[evalPart_some];refine cK (h pins s σ H _ I hw) λ u s1 ⟨x,H1,I1,r1,q1⟩=>?_;obtain⟨i,rfl,q⟩:=q1;obtain⟨t,rfl⟩:=r1;exact⟨some i,H1,I1,.int i t,q⟩
def SlR (X:Cx) (r:V->Option Int->Option Int->Hp->VK->Prop):Prop:=
 ∀ (pins:List (Addr×Obj)) (s:Shared) (σ:St) (H:Hp) (x:V) (v vl vu:Value) (lo hi:Option Int) (sl:Addr) (Q:VK),Inv X pins σ H s->aX x v->s.heap.IsSliceOf sl vl vu .none->IsPart vl lo->IsPart vu hi->r x lo hi H Q->
  ∃ T id,typeLookup (.type T) "__getitem__" = pure (some (.builtin id))/\s.TypeIs v T/\wpAny (model X.prog X.w) X.A (getItem v (.ref sl)) (EP X pins σ Q) X.xe s
def tSl (r:V->Option Int->Option Int->Hp->VK->Prop) (te:TE) (tl th:TO):TE:=λ σ H Q=>te σ H λ x H1=>tl σ H1 λ l H2=>th σ H2 λ u H3=>r x l u H3 Q
theorem sQ {r:V->Option Int->Option Int->Hp->VK->Prop} (hr:SlR X r) (he:PE X e te) (hl:PO X lo tl) (hu:PO X hi th):PE X (.Subscript e (.Slice lo hi none p2) pos) (tSl r te tl th):=by
 intro pins s σ H Q I h;refine Subscript_ (cK (he pins s σ H _ I h) λ v s1 ⟨x,H1,I1,r1,q1⟩=>?_);refine wpAny_Slice (cK (hl pins s1 σ H1 _ I1 q1) λ vl s2 ⟨l,H2,I2,pl,q2⟩=>cK (hu pins s2 σ H2 _ I2 q2) λ vu s3 ⟨u,H3,I3,pu,q3⟩=>?_);rw[evalPart_none];refine aaf ?_;have I4:Inv X pins σ H3 { s3 with heap:=s3.heap.push { cls:=.type "slice",data:=.fields #[vl,vu,.none] } }:=I3.kept (t':=s3.toks) λ b ob q=>aac _ q;obtain⟨T,id,hT,ht,hg⟩:=hr pins { s3 with heap:=s3.heap.push { cls:=.type "slice",data:=.fields #[vl,vu,.none] } } σ H3 x v vl vu l u s3.heap.objs.size Q I4 r1 (Heap.IsSliceOf.new ..) pl pu q3;show wpAny (model X.prog X.w) X.A (subscriptTail e (.Slice lo hi none p2) v (.ref s3.heap.objs.size)) (EP X pins σ Q) X.xe { s3 with heap:=s3.heap.push { cls:=.type "slice",data:=.fields #[vl,vu,.none] } };exact tail_any (ops:=[.ref s3.heap.objs.size,v]) ht hT hg (by with_unfolding_all rfl)
def D0 (xs:List V) (lo hi:Option Int):List V:=(xs.drop (HT.sIx xs.length 0 lo)).take (HT.sIx xs.length xs.length hi - HT.sIx xs.length 0 lo)
theorem AF (xs:List V) (lo hi:Option Int):(D0 xs lo hi).length<=xs.length:=by
 unfold D0;rw[aav,List.length_drop];omega
def rSlT (K:aab):V->Option Int->Option Int->Hp->VK->Prop:=λ x lo hi H Q=>∃ a xs,x=.ref a/\bC K H a xs/\
 ¬ (HT.sIx xs.length 0 lo=0/\HT.sIx xs.length xs.length hi=xs.length)/\∀ p,H p=none->Q (.ref p) (upd H p (.tup (D0 xs lo hi)))
theorem OY:SlR X (rSlT X.K):=by
 intro pins s σ H x v vl vu lo hi sl Q I rx hs pl pu h;obtain⟨a,xs,rfl,hx,hw,q⟩:=h;cases rx;obtain⟨its,r,ht,hz⟩:=I.tuple hx;have hlen:its.toArray.size=xs.length:=by rw[aaw];exact r.length.symm
 refine⟨"tuple",_,PyProof.Rows.slot_tuple_getitem.lookup,ht.typeIs,?_⟩;refine HT.getItem_tuple_cut ht hs pl pu (by rw[hlen];exact hw) ?_ (by rw[hlen];exact hz);rw[hlen];refine⟨.ref s.heap.objs.size,_,I.laid (t':=s.toks) (o:=.tup (D0 xs lo hi)) (λ b ob q=>aac _ q) (aal _) ?_,rfl,q _ (I.hok.fresh (aal _))⟩;exact⟨acd (AF xs lo hi) hz,_,(r.drop (HT.sIx xs.length 0 lo)).take (HT.sIx xs.length xs.length hi - HT.sIx xs.length 0 lo),IsTup.new _ _⟩
def NZ (K:aab):R2:=λ x y H Q=>∃ a b xs ys,x=.ref a/\y=.ref b/\bC K H a xs/\bC K H b ys/\xs≠[]/\xs.length+ys.length<=sizeLine/\
 (ys=[]->Q (.ref a) H)/\(ys≠[]->∀ p,H p=none->Q (.ref p) (upd H p (.tup (xs++ys))))
theorem bL.nil_iff {xs:List V}{us:List Value} (r:bL xs us):us=[]↔xs=[]:=by
 cases r with
 | nil=>simp
 | cons _ _=>simp
theorem MN:h9 X (binaryOp .Add) (NZ X.K):=by
 intro pins s σ H x y v u Q I rx ry h;obtain⟨a,b,xs,ys,rfl,rfl,ha,hb,hx,hz,q1,q2⟩:=h;cases rx;cases ry;obtain⟨its,r1,p1,_⟩:=I.tuple ha;obtain⟨its2,r2,p2,_⟩:=I.tuple hb;refine HT.cat_tup p1 p2 (λ z=>hx (r1.nil_iff.mp z)) (λ z=>⟨.ref a,H,I,rfl,q1 (r2.nil_iff.mp z)⟩) (λ z=>?_) (by rw[<- r1.length,<- r2.length];exact hz);refine⟨.ref s.heap.objs.size,_,I.laid (t':=s.toks) (o:=.tup (xs++ys)) (λ b ob q=>aac _ q) (aal _) ?_,rfl,q2 (λ w=>z (r2.nil_iff.mpr w)) _ (I.hok.fresh (aal _))⟩;exact⟨by rw[aau];exact hz,_,r1.append r2,IsTup.new _ _⟩
end
def N5 (n:Nat) (i:Int):Option Nat:=if 0<=i then (if i < n then some i.toNat else none) else if -(n:Int)<=i then some (i+n).toNat else none
def OC {α:Type} (xs:List α) (i:Int):Option α:=(N5 xs.length i).bind λ j=>xs[j]?
theorem DX {n:Nat}{i:Int}{j:Nat} (h:N5 n i=some j):seqIndex? i n=some j/\j < n/\-(n:Int)<=i/\i < n:=by
 unfold N5 at h
 by_cases h0:0<=i
 ·rw[if_pos h0] at h
  by_cases h1:i < n
  ·rw[if_pos h1] at h;have e:i.toNat=j:=abf h;exact⟨by rw[seqIndex_of h0 h1,e],by omega,by omega,h1⟩
  ·rw[if_neg h1] at h;cases h
 ·rw[if_neg h0] at h
  by_cases h1 : -(n:Int)<=i
  ·rw[if_pos h1] at h;have e:(i+n).toNat=j:=abf h;exact⟨by rw[seqIndex_neg (by omega) h1,e],by omega,h1,by omega⟩
  ·rw[if_neg h1] at h;cases h
theorem yB {α:Type}{xs:List α}{i:Int}{v:α} (h:OC xs i=some v):∃ j,seqIndex? i xs.length=some j/\xs[j]? = some v/\j < xs.length/\-(xs.length:Int)<=i/\i < xs.length:=by
 unfold OC at h;cases e:N5 xs.length i with
 | none=>rw[e] at h;cases h
 | some j=>
  rw[e] at h;obtain⟨h1,h2,h3,h4⟩:=DX e;exact⟨j,h1,h,h2,h3,h4⟩
theorem gH {α:Type}{xs:List α}{j:Nat}{v:α} (h:xs[j]? = some v):OC xs (j:Int)=some v:=by
 have hj:j < xs.length:=(aae.mp h).1;have e:N5 xs.length (j:Int)=some j:=by
  unfold N5;rw[if_pos (by omega),if_pos (by omega)];simp
 unfold OC;rw[e];exact h
def NI (b:Expr):Prop:=∀ o i,subscripted b false o i=operate [o,i] (getItem o i)
def HL (X:Cx) (r:R2):Prop:=
 ∀ (value slice:Expr) (pins:List (Addr×Obj)) (s:Shared) (σ:St) (H:Hp) (x y:V) (v u:Value) (Q:VK),Inv X pins σ H s->aX x v->aX y u->r x y H Q->
  subscripted slice false v u=operate [v,u] (getItem v u)->wpAny (model X.prog X.w) X.A (subscriptTail value slice v u) (EP X pins σ Q) X.xe s
def MtR (X:Cx) (id:String) (r:V->List V->Hp->VK->Prop):Prop:=
 ∀ (pins:List (Addr×Obj)) (s:Shared) (σ:St) (H:Hp) (x:V) (xs:List V) (v:Value) (us:List Value) (Q:VK),Inv X pins σ H s->aX x v->bL xs us->r x xs H Q->
  wpAny (model X.prog X.w) X.A (call (.builtin id) (v::us)) (EP X pins σ Q) X.xe s
section
variable {X:Cx}{a b:Expr}{ta tb:TE}{pos:Pos}
theorem HL.or {r r':R2} (h:HL X r) (h':HL X r'):HL X (λ x y H Q=>r x y H Q\/r' x y H Q):=by
 intro value slice pins s σ H x y v u Q I rx ry q hs;rcases q with q | q
 ·exact h value slice pins s σ H x y v u Q I rx ry q hs
 ·exact h' value slice pins s σ H x y v u Q I rx ry q hs
theorem bA {r:R2} (hr:HL X r) (ha:PE X a ta) (hb:PE X b tb) (hs:NI b):PE X (.Subscript a b pos) (jN r ta tb):=by
 intro pins s σ H Q I h;exact Subscript_ (QB ha hb I h λ v u s2 x y H2 I2 rx ry q=>hr a b pins s2 σ H2 x y v u Q I2 rx ry q (hs _ _))
def RE (K:aab):R2:=λ x y H Q=>∃ p xs i v,x=.ref p/\y=.int i/\bR K H p xs/\OC xs i=some v/\Q v H
def RB (K:aab):R2:=λ x y H Q=>∃ p xs i v,x=.ref p/\y=.int i/\bC K H p xs/\OC xs i=some v/\Q v H
def RD:R2:=λ x y H Q=>∃ z i c,x=.str z/\y=.int i/\z.length<=sizeLine/\OC z.cps.toList i=some c/\Q (.str ⟨#[c]⟩) H
theorem N4:HL X (RE X.K):=by
 intro value slice pins s σ H x y v u Q I rx ry h hs;obtain⟨p,xs,i,z,rfl,rfl,hq,he,q⟩:=h;cases rx;obtain⟨t,rfl⟩:=ry;obtain⟨its,r,pl,hz⟩:=I.list hq;obtain⟨j,h1,h2,h3,h4,h5⟩:=yB he;obtain⟨w,ew,rw'⟩:=r.get h2;have hl:=r.length;have hn:=tF;have fin:EP X pins σ Q w s:=⟨z,H,I,rw',q⟩
 by_cases h0:0<=i
 ·have hj:i.toNat=j:=by
   rw[seqIndex_of h0 h5] at h1;exact abf h1
  exact item_listR pl.isList h0 (by omega) (by rw[hj];simpa using ew) fin hs
 ·have hj:(i+(its.toArray.size:Int)).toNat=j:=by
   rw[seqIndex_neg (by omega) h4] at h1;rw[aaw,<- hl];exact abf h1
  exact subscriptTail_builtinR (x:=w) pl.isList.typeIs slot_list_getitem.lookup
   (wpAny_getItem_list_neg (Q:=λ r s'=>r=w/\EP X pins σ Q r s') pl.isList (by omega) (by rw[aaw] <;> omega) (by omega) (by rw[hj];simpa using ew) ⟨rfl,fin⟩) hs
theorem PZ:HL X (RB X.K):=by
 intro value slice pins s σ H x y v u Q I rx ry h hs;obtain⟨p,xs,i,z,rfl,rfl,hq,he,q⟩:=h;cases rx;obtain⟨t,rfl⟩:=ry;obtain⟨its,r,pl,hz⟩:=I.tuple hq;obtain⟨j,h1,h2,h3,h4,h5⟩:=yB he;obtain⟨w,ew,rw'⟩:=r.get h2;have hl:=r.length;have hn:=tF;have fin:EP X pins σ Q w s:=⟨z,H,I,rw',q⟩;exact subscriptTail_builtinR (x:=w) pl.typeIs slot_tuple_getitem.lookup
  (getItem_tuple (j:=j) (Q:=λ r s'=>r=w/\EP X pins σ Q r s') pl (by omega) (by omega) (by rw[aaw,<- hl];exact h1) (by simpa using ew) ⟨rfl,fin⟩) hs
theorem Q0:HL X RD:=by
 intro value slice pins s σ H x y v u Q I rx ry h hs;obtain⟨z,i,c,rfl,rfl,hz,he,q⟩:=h;obtain⟨t,rfl⟩:=rx;obtain⟨t',rfl⟩:=ry;obtain⟨j,h1,h2,h3,h4,h5⟩:=yB he;have hl:z.cps.toList.length=z.length:=by simp [Str.length]
 rw[hl] at h1 h4 h5;have hn:=tF;exact tail_any (typeIs_str s z t) slot_str_getitem.lookup (getItem_str (c:=c) (by
  have e1:decide (i < -(2 ^ 63:Int))=false:=acp (by omega);have e2:decide (i ≥ 2 ^ 63)=false:=acp (by omega);rw[e1,e2,Bool.or_false]) (by rw[h1];simpa using h2) ⟨.str ⟨#[c]⟩,H,I.tok _,⟨_,rfl⟩,q⟩) hs
def DN (K:aab):R2:=λ x y H Q=>RE K x y H Q\/RB K x y H Q\/RD x y H Q
theorem Q1:HL X (DN X.K):=N4.or (PZ.or Q0)
theorem CL (its:List Value) (n j:Nat) (u:Value):Obj.mapSeq (·.setIfInBounds j u) { cls:=.type "list",data:=.seq its.toArray n }={ cls:=.type "list",data:=.seq (its.set j u).toArray n }:=by
 simp [Obj.mapSeq]
theorem Inv.lst {pins:List (Addr×Obj)}{σ:St}{H:Hp}{s:Shared}{p:Addr}{xs:List V} (I:Inv X pins σ H s) (h:H p=some (.lst xs)) :
  ∃ (its:List Value) (n:Nat),bL xs its/\s.heap.get? p=some { cls:=.type "list",data:=.seq its.toArray n }/\xs.length<=sizeLine:=by
 obtain⟨z,its,n,r,e⟩:=I.hok p _ h;exact⟨its,n,r,e,z⟩
theorem Inv.lstUpd {pins:List (Addr×Obj)}{σ:St}{H:Hp}{s:Shared}{p:Addr}{xs ys:List V}{its its':List Value}{n n':Nat}{f:Obj->Obj} (I:Inv X pins σ H s) (h:H p=some (.lst xs))
  (ho:s.heap.get? p=some { cls:=.type "list",data:=.seq its.toArray n }) (hf:f { cls:=.type "list",data:=.seq its.toArray n }={ cls:=.type "list",data:=.seq its'.toArray n' }) (r:bL ys its') (hz:ys.length<=sizeLine) (t:Nat) :
  Inv X pins σ (upd H p (.lst ys)) { s with heap:=s.heap.update p f,toks:=t }:=by
 have e:(s.heap.update p f).get? p=some { cls:=.type "list",data:=.seq its'.toArray n' }:=by
  rw[acw f ho (by rw[hf] <;> rfl),hf]
 refine I.write (x:=p) (e:=p) (by rw[h];trivial) (.inl rfl) (λ b u hb q=>(adi _ _ (Ne.symm hb)).trans q) ⟨_,e⟩ ?_;exact⟨hz,its',n',r,e⟩
def zD:V->V->V->Hp->(Hp->Prop)->Prop:=λ o i v H Q=>∃ p xs k j,o=.ref p/\i=.int k/\H p=some (.lst xs)/\N5 xs.length k=some j/\Q (upd H p (.lst (xs.set j v)))
theorem kR:QF X zD:=by
 intro pins s σ H o i v ov iv u Q I ro ri rv h;obtain⟨p,xs,k,j,rfl,rfl,hp,hj,q⟩:=h;cases ro;obtain⟨t,rfl⟩:=ri;obtain⟨its,n,r,ho,hz⟩:=I.lst hp;obtain⟨h1,h2,h3,h4⟩:=DX hj;have hl:=r.length;have hn:=tF;have I':Inv X pins σ (upd H p (.lst (xs.set j v))) { s with heap:=s.heap.update p (Obj.mapSeq (·.setIfInBounds j u)) }:=
  I.lstUpd hp ho (CL its n j u) (r.set rv j) (by rw[List.length_set];exact hz) s.toks
 by_cases h0:0<=k
 ·have hk:k.toNat=j:=by
   rw[seqIndex_of h0 h4] at h1;exact abf h1
  exact PySem.W.ki_setAt ho h0 (by omega) (by rw[aaw,<- hl];exact h4) (by rw[hk];exact⟨_,I',q⟩)
 ·have hk:(k+(its.toArray.size:Int)).toNat=j:=by
   rw[seqIndex_neg (by omega) h3] at h1;rw[aaw,<- hl];exact abf h1
  exact PySem.W.ki_setBack ho (by omega) (by rw[aaw,<- hl];exact h3) (by omega) (by rw[hk];exact⟨_,I',q⟩)
def iJ:V->Bool
 | .non=>true
 | .bl _=>true
 | .int _=>true
 | .str _=>true
 | _=>false
def vT:V->V->Bool
 | .non,.non=>true
 | .bl a,.bl b=>a == b
 | .bl a,.int b=>(if a then 1 else 0) == b
 | .int a,.bl b=>a == (if b then 1 else 0)
 | .int a,.int b=>a == b
 | .str a,.str b=>a == b
 | _,_=>false
theorem Q6 {A:Around}{s:Shared}{y x:V}{u v:Value} (ry:aX y u) (rx:aX x v) (fy:iJ y=true) (fx:iJ x=true):SeqAt.EqAt A s u v (vT y x):=by
 cases y with
 | non=>
  cases ry;cases x with
  | non=>cases rx;exact SeqAt.EqAt.same _
  | bl b=>cases rx;exact SeqAt.EqAt.none_bool b
  | int b=>obtain⟨t,rfl⟩:=rx;exact SeqAt.EqAt.none_int b t
  | str b=>obtain⟨t,rfl⟩:=rx;exact SeqAt.EqAt.none_str b t
  | _=>exact absurd (show false=true from fx) aar
 | bl a=>
  cases ry;cases x with
  | non=>cases rx;exact SeqAt.EqAt.bool_none a
  | bl b=>cases rx;exact SeqAt.EqAt.bool_bool a b
  | int b=>obtain⟨t,rfl⟩:=rx;exact SeqAt.EqAt.bool_int a b t
  | str b=>obtain⟨t,rfl⟩:=rx;exact SeqAt.EqAt.bool_str a b t
  | _=>exact absurd (show false=true from fx) aar
 | int a=>
  obtain⟨t',rfl⟩:=ry;cases x with
  | non=>cases rx;exact SeqAt.EqAt.int_none a t'
  | bl b=>cases rx;exact SeqAt.EqAt.int_bool a t' b
  | int b=>obtain⟨t,rfl⟩:=rx;exact SeqAt.EqAt.int_int a t' b t
  | str b=>obtain⟨t,rfl⟩:=rx;exact SeqAt.EqAt.int_str a t' b t
  | _=>exact absurd (show false=true from fx) aar
 | str a=>
  obtain⟨t',rfl⟩:=ry;cases x with
  | non=>cases rx;exact SeqAt.EqAt.str_none a t'
  | bl b=>cases rx;exact SeqAt.EqAt.str_bool a t' b
  | int b=>obtain⟨t,rfl⟩:=rx;exact SeqAt.EqAt.str_int a t' b t
  | str b=>obtain⟨t,rfl⟩:=rx;exact SeqAt.EqAt.str_str a t' b t
  | _=>exact absurd (show false=true from fx) aar
 | _=>exact absurd (show false=true from fy) aar
def yF (x:V) (u:Value):Bool:=match u with
 | .none=>vT .non x
 | .bool b=>vT (.bl b) x
 | .int i _=>vT (.int i) x
 | .str z _=>vT (.str z) x
 | _=>false
theorem xZ {x y:V}{u:Value} (r:aX y u) (f:iJ y=true):yF x u=vT y x:=by
 cases y with
 | non=>cases r;rfl
 | bl b=>cases r;rfl
 | int i=>obtain⟨t,rfl⟩:=r;rfl
 | str z=>obtain⟨t,rfl⟩:=r;rfl
 | _=>exact absurd (show false=true from f) aar
theorem oS {x:V}:∀ {xs:List V}{us:List Value},bL xs us->xs.all iJ=true->us.any (yF x)=xs.any λ y=>vT y x
 | _,_,.nil,_=>rfl
 | y::xs,u::us,.cons r t,f=>by
  rw[List.all_cons,Bool.and_eq_true] at f;rw[List.any_cons,List.any_cons,xZ r f.1,oS t f.2]
theorem j5 {A:Around}{s:Shared}{x:V}{v:Value} (rx:aX x v) (fx:iJ x=true):∀ {xs:List V}{us:List Value},bL xs us->xs.all iJ=true->∀ u∈us,SeqAt.EqAt A s u v (yF x u)
 | _,_,.nil,_=>λ u hu=>by cases hu
 | y::xs,u::us,.cons r t,f=>λ u' hu=>by
  rw[List.all_cons,Bool.and_eq_true] at f;rcases aao.mp hu with rfl | hu
  ·rw[xZ r f.1];exact Q6 r rx f.1 fx
  ·exact j5 rx fx t f.2 u' hu
def E5 (x:V) (xs:List V):Bool:=xs.any λ y=>vT y x
def rIn (K:aab) (neg:Bool):R2:=λ x y H Q=>∃ p xs,y=.ref p/\(bR K H p xs\/bC K H p xs)/\iJ x=true/\xs.all iJ=true/\Q (.bl (if neg then !E5 x xs else E5 x xs)) H
theorem FV:h9 X (compareOp .In) (rIn X.K false):=by
 intro pins s σ H x y v u Q I rx ry h;obtain⟨p,xs,rfl,hq,fx,fs,q⟩:=h;cases ry;rcases hq with hq | hq
 ·obtain⟨its,r,pl,hz⟩:=I.list hq;refine SeqAt.in_listAt (yF x) pl.isList (λ w hw=>j5 rx fx r fs w (by simpa using hw)) ⟨.bl _,H,I,rfl,?_⟩;rw[show its.toArray.any (yF x)=its.any (yF x) by simp,oS r fs];exact q
 ·obtain⟨its,r,pl,hz⟩:=I.tuple hq;refine SeqAt.in_tupleAt (yF x) pl (λ w hw=>j5 rx fx r fs w (by simpa using hw)) ⟨.bl _,H,I,rfl,?_⟩;rw[show its.toArray.any (yF x)=its.any (yF x) by simp,oS r fs];exact q
theorem xG:h9 X (compareOp .NotIn) (rIn X.K true):=by
 intro pins s σ H x y v u Q I rx ry h;obtain⟨p,xs,rfl,hq,fx,fs,q⟩:=h;cases ry;rcases hq with hq | hq
 ·obtain⟨its,r,pl,hz⟩:=I.list hq;refine SeqAt.notIn_listAt (yF x) pl.isList (λ w hw=>j5 rx fx r fs w (by simpa using hw)) ⟨.bl _,H,I,rfl,?_⟩;rw[show its.toArray.any (yF x)=its.any (yF x) by simp,oS r fs];exact q
 ·obtain⟨its,r,pl,hz⟩:=I.tuple hq;refine SeqAt.notIn_tupleAt (yF x) pl (λ w hw=>j5 rx fx r fs w (by simpa using hw)) ⟨.bl _,H,I,rfl,?_⟩;rw[show its.toArray.any (yF x)=its.any (yF x) by simp,oS r fs];exact q
theorem y8:dZ X (.builtin "len") (λ xs H Q=>∃ p ys,xs=[.ref p]/\(bR X.K H p ys\/bC X.K H p ys)/\Q (.int ys.length) H):=by
 intro pins s σ H xs us Q I r h;obtain⟨p,ys,rfl,hq,q⟩:=h;obtain⟨u,rfl,rx⟩:=pW r;cases rx;have hn:=tF;rcases hq with hq | hq
 ·obtain⟨its,r',pl,hz⟩:=I.list hq;have hlen:=r'.length;exact Calls.call_len_list pl.isList (by simp only [aaw] <;> omega) ⟨.int ys.length,H,I.tok _,⟨s.toks+1,by rw[aaw,hlen]⟩,q⟩
 ·obtain⟨its,r',pl,hz⟩:=I.tuple hq;have hlen:=r'.length;exact len_tuple pl (by simp only [aaw] <;> omega) ⟨.int ys.length,H,I.tok _,⟨s.toks+1,by rw[aaw,hlen]⟩,q⟩
theorem y6:dZ X (.type "list") (λ xs H Q=>∃ p ys,xs=[.ref p]/\(bR X.K H p ys\/bC X.K H p ys)/\∀ l,H l=none->Q (.ref l) (upd H l (.lst ys))):=by
 intro pins s σ H xs us Q I r h;obtain⟨p,ys,rfl,hq,q⟩:=h;obtain⟨u,rfl,rx⟩:=pW r;cases rx;have fin:∀ (its:List Value),bL ys its->ys.length<=sizeLine->∀ (h':Heap) (c':Nat),(∀ b o',s.heap.get? b=some o'->h'.get? b=some o')->
   h'.get? s.heap.objs.size=some { cls:=.type "list",dict:=none,data:=.seq its.toArray c',slots:=#[] }->EP X pins σ Q (.ref s.heap.objs.size) { s with heap:=h' }:=λ its r' hz h' c' kp e=>
  ⟨.ref s.heap.objs.size,_,I.laid (t':=s.toks) kp (aal _) (show bQ X.prog X.w _ h' _ (.lst ys) from ⟨hz,its,c',r',e⟩),rfl,q _ (I.hok.fresh (aal _))⟩
 rcases hq with hq | hq
 ·obtain⟨its,r',pl,hz⟩:=I.list hq;have hlen:=r'.length;obtain⟨o,ho,hc,n,hd⟩:=pl.isList;exact call_list_seq p (.inl rfl) ho hc hd (λ h' c' kp e=>fin its r' hz h' c' kp e) (by simp only [aaw] <;> omega)
 ·obtain⟨its,r',pl,hz⟩:=I.tuple hq;have hlen:=r'.length;obtain⟨o,ho,hc,n,hd⟩:=pl;exact call_list_seq p (.inr rfl) ho hc hd (λ h' c' kp e=>fin its r' hz h' c' kp e) (by simp only [aaw] <;> omega)
theorem uS:dZ X (.type "tuple") (λ xs H Q=>∃ p ys,xs=[.ref p]/\((bR X.K H p ys/\∀ l,H l=none->Q (.ref l) (upd H l (.tup ys)))\/(bC X.K H p ys/\Q (.ref p) H))):=by
 intro pins s σ H xs us Q I r h;obtain⟨p,ys,rfl,h⟩:=h;obtain⟨u,rfl,rx⟩:=pW r;cases rx;rcases h with ⟨hq,q⟩ | ⟨hq,q⟩
 ·obtain⟨its,r',pl,hz⟩:=I.list hq;have hlen:=r'.length;refine call_tuple_list pl.isList (λ h' kp=>?_) (by simp only [aaw] <;> omega);have I1:Inv X pins σ H { s with heap:=h' }:=I.kept (t':=s.toks) kp;have I2:Inv X pins σ (upd H h'.objs.size (.tup ys)) { s with heap:=h'.push { cls:=.type "tuple",data:=.seq its.toArray } }:=
   I1.laid (t':=s.toks) (λ b o e=>aac _ e) (aal _) (show bQ X.prog X.w _ _ _ (.tup ys) from ⟨hz,its,r',IsTup.new _ _⟩)
  exact⟨.ref h'.objs.size,_,I2,rfl,q _ (I1.hok.fresh (aal _))⟩
 ·obtain⟨its,r',pl,hz⟩:=I.tuple hq;exact call_tuple_same pl ⟨.ref p,H,I,rfl,q⟩
def tyV (K:aab) (T:String) (x:V) (H:Hp):Prop:=match x with
 | .str _=>T = "str"
 | .int _=>T = "int"
 | .ref p=>(T = "list" /\ ∃ xs,bR K H p xs)\/(T = "tuple" /\ ∃ o,K.lookup p=some o/\o.cls=.type "tuple" /\ o.dict=none)\/
   (T = "dict" /\ ((∃ kvs,H p=some (.dK kvs))\/∃ kvs,H p=some (.dT kvs)))\/(T = "set" /\ ∃ S n,H p=some (.set S n))
 | _=>False
theorem OJ {pins:List (Addr×Obj)}{σ:St}{H:Hp}{s:Shared}{T:String}{x:V}{v:Value} (I:Inv X pins σ H s) (r:aX x v) (ty:tyV X.K T x H) :
  s.TypeIs v T/\∀ a,v=.ref a->∃ ob,s.heap.get? a=some ob/\ob.dict=none:=by
 cases x with
 | str z=>
  obtain⟨t,rfl⟩:=r;cases (show T = "str" from ty);exact⟨typeIs_str s z t,λ _ e=>nomatch e⟩
 | int i=>
  obtain⟨t,rfl⟩:=r;cases (show T = "int" from ty);exact⟨typeIs_int s i t,λ _ e=>nomatch e⟩
 | ref p=>
  cases r;rcases ty with ⟨rfl,xs,hq⟩ | ⟨rfl,o,hk,hc,hd⟩ | ⟨rfl,hk⟩ | ⟨rfl,S,n,hk⟩
  ·obtain⟨its,_,pl,_⟩:=I.list hq;refine⟨pl.isList.typeIs,λ a e=>?_⟩;cases e;obtain⟨o,n,e,c,hd,_⟩:=pl;exact⟨o,e,hd⟩
  ·refine⟨⟨o,I.kIn p o hk,hc⟩,λ a e=>?_⟩;cases e;exact⟨o,I.kIn _ o hk,hd⟩
  ·have z:∃ o,s.heap.get? p=some o/\o.ExactDict:=by
    rcases hk with ⟨kvs,hk⟩ | ⟨kvs,hk⟩
    ·obtain⟨_,_,_,_,o,_,_,e,ex,_⟩:=I.hok p _ hk;exact⟨o,e,ex⟩
    ·obtain⟨_,_,_,_,o,_,_,e,ex,_⟩:=I.hok p _ hk;exact⟨o,e,ex⟩
   obtain⟨o,e,ex⟩:=z;refine⟨⟨o,e,ex.1⟩,λ a e2=>?_⟩;cases e2;exact⟨o,e,ex.2.1⟩
  ·obtain⟨o,_,_,_,e,ex,_⟩:=I.hok p _ hk;refine⟨⟨o,e,ex.1⟩,λ a e2=>?_⟩;cases e2;exact⟨o,e,ex.2.1⟩
 | _=>exact False.elim ty
def tBM (K:aab) (T:String) (r:V->List V->Hp->VK->Prop) (to:TE) (t:TA):TE:=λ σ H Q=>to σ H λ x H1=>tyV K T x H1/\t σ H1 λ xs H2=>r x xs H2 Q
variable {o e:Expr}{es:List Expr}{to:TE}{t:TA}{name:Str}{apos cpos:Pos}{T id:String}{r:V->List V->Hp->VK->Prop}
theorem RK (pa:PlainAttrs T) (slot:Slot T name id) (hty:typeOf (.builtin id)=pure (.type "method_descriptor")) (hm:MtR X id r) (ho:PE X o to) (ha:PA X (e::es) t)
  (hbase:attributeBase o name X.env (eval o X.env)=eval o X.env:=by rfl)
  (hfew:((backTo cpos (starEach (e::es) X.env)).all (λ x=>!x.1) && (backToKw cpos (keywordEach [] X.env)).all (λ x=>x.1.isSome)
   && decide ((e::es).length+([]:List Keyword).length+(if ([]:List Keyword).isEmpty then 0 else 1) < 30))=true:=by rfl)
  (hline:(apos.endLine == cpos.line)=true:=by rfl) (hs:starEach (e::es) X.env=(false,eval e X.env)::starEach es X.env:=by rfl) (hplain:(backTo cpos (starEach es X.env)).any (·.1)=false:=by rfl) :
  PE X (.Call (.Attribute o name apos) (e::es) [] cpos) (tBM X.K T r to t):=by
 intro pins s σ H Q I h;refine wpAny_Call_method_late hbase hfew hline rfl (cK (ho pins s σ H _ I h) λ v s1 ⟨x,H1,I1,r1,ty,q1⟩=>?_);obtain⟨h1,h2⟩:=OJ I1 r1 ty;refine⟨T,id,pa,slot,hty,h1,h2,?_⟩;have hA:=ha cpos pins s1 σ H1 _ I1 q1;rw[hs] at hA ⊢;refine Calls.callWith_builtin (by show (false || (backTo cpos (starEach es X.env)).any (·.1))=false;rw[hplain] <;> rfl) (Calls.evalArgs_plain ?_);exact cK hA λ us s2 ⟨vs,H2,I2,r2,q2⟩=>hm pins s2 σ H2 x vs v us Q I2 r1 r2 q2
end
def MtM (X:Cx) (id:String) (r:V->List V->Hp->VK->Prop):Prop:=
 ∀ (pins:List (Addr×Obj)) (s:Shared) (σ:St) (H:Hp) (x:V) (xs:List V) (v:Value) (us:List Value) (Q:VK),Inv X pins σ H s->aX x v->bL xs us->r x xs H Q->
  wpAny (model X.prog X.w) X.A (call (.builtin id) (v::us)) (EP X pins σ Q) X.xe s
theorem bL.one {x:V}{us:List Value} (h:bL [x] us):∃ u,us=[u]/\aX x u:=pW h
theorem bL.two {x y:V}{us:List Value} (h:bL [x,y] us):∃ u v,us=[u,v]/\aX x u/\aX y v:=HQ h
theorem bL.rep {xs:List V}{us:List Value} (h:bL xs us):∀ k:Nat,bL (List.replicate k xs).flatten (List.replicate k us).flatten
 | 0=>.nil
 | k+1=>by
  rw[List.replicate_succ,List.replicate_succ,List.flatten_cons,List.flatten_cons];exact bL.append h (bL.rep h k)
theorem vO (its:List Value):∀ (k:Nat) (acc:List Value),
  List.foldl (λ x1 x2=>x1++x2) acc.toArray (List.replicate k its.toArray)=(acc++(List.replicate k its).flatten).toArray
 | 0,acc=>by simp
 | k+1,acc=>by
  have e:acc.toArray++its.toArray=(acc++its).toArray:=by simp
  have e2:(acc++its)++(List.replicate k its).flatten=acc++(List.replicate (k+1) its).flatten:=by
   rw[List.replicate_succ,List.flatten_cons,acv]
  rw[<- e2,<- vO its k (acc++its),<- e,List.replicate_succ,ack]
section
variable {X:Cx}{pins:List (Addr×Obj)}{σ:St}{H:Hp}{s:Shared}{l b:Addr}{xs ys zs:List V}
theorem Inv.lset {its its':List Value}{n:Nat}{f:Array Value->Array Value}{t':Nat} (I:Inv X pins σ H s) (hH:H l=some (.lst xs))
  (e:s.heap.get? l=some { cls:=.type "list",data:=.seq its.toArray n }) (hf:f its.toArray=its'.toArray) (hv:bL ys its') (hz:ys.length<=sizeLine) :
  Inv X pins σ (upd H l (.lst ys)) { s with heap:=s.heap.update l (Obj.mapSeq f),toks:=t' }:=by
 have q:=PySem.IsL.update e f;rw[hf] at q;refine I.write (x:=l) (e:=l) (by rw[hH];exact trivial) (.inl rfl) (λ b' u hb hu=>(adi s.heap (Obj.mapSeq f) (Ne.symm hb)).trans hu) ⟨_,q⟩ ?_;exact⟨hz,its',_,hv,q⟩
theorem Inv.lnew {its:List Value}{t':Nat} (I:Inv X pins σ H s) (hv:bL ys its) (hz:ys.length<=sizeLine) :
  Inv X pins σ (upd H s.heap.objs.size (.lst ys)) { s with heap:=s.heap.push { cls:=.type "list",data:=.seq its.toArray },toks:=t' }:=
 I.laid (λ _ _ q=>aac _ q) (aal _) ⟨hz,its,0,hv,aak _ rfl⟩
theorem Inv.fresh (I:Inv X pins σ H s):H s.heap.objs.size=none:=I.hok.fresh (aal _)
theorem Inv.lstM (I:Inv X pins σ H s) (hH:H l=some (.lst xs)):xs.length<=sizeLine/\∃ (its:List Value) (n:Nat),bL xs its/\xs.length=its.length/\s.heap.get? l=some { cls:=.type "list",data:=.seq its.toArray n }:=by
 obtain⟨z,its,n,r,e⟩:=I.hok l _ hH;exact⟨z,its,n,r,r.length,e⟩
end
section
variable {X:Cx}
def M6:V->List V->Hp->VK->Prop:=λ x vs H Q=>∃ l xs y,x=.ref l/\vs=[y]/\H l=some (.lst xs)/\xs.length < sizeLine/\Q .non (upd H l (.lst (xs++[y])))
theorem cX:MtM X "list.append" M6:=by
 intro pins s σ H x vs v us Q I rx rv h;obtain⟨l,xs,y,rfl,rfl,hH,hz,q⟩:=h;cases rx;obtain⟨u,rfl,ru⟩:=rv.one;obtain⟨z,its,n,r,hl,e⟩:=I.lstM hH;refine call_meets F.slot_list_append ⟨_,e,rfl⟩ F.entry_list_append (F.args_list_append_2 _ _) (PySem.list_append l its.toArray n u (by rw[aaw];omega)) ⟨e,?_⟩;refine⟨.non,_,I.lset (its':=its++[u]) hH e (by simp) (r.append (.cons ru .nil)) ?_,rfl,q⟩;rw[aau,ach];omega
def rCat:R2:=λ x y H Q=>∃ l b xs zs,x=.ref l/\y=.ref b/\H l=some (.lst xs)/\H b=some (.lst zs)/\xs.length+zs.length<=sizeLine/\∀ p,H p=none->Q (.ref p) (upd H p (.lst (xs++zs)))
theorem xH:h9 X (binaryOp .Add) rCat:=by
 intro pins s σ H x y v u Q I rx ry h;obtain⟨l,b,xs,zs,rfl,rfl,hH,hB,hz,q⟩:=h;cases rx;cases ry;obtain⟨z,its,n,r,hl,e⟩:=I.lstM hH;obtain⟨z2,its2,n2,r2,hl2,e2⟩:=I.lstM hB;refine PySem.P.add_list e e2 ?_ (by rw[aaw,aaw];omega);have ea:its.toArray++its2.toArray=(its++its2).toArray:=by simp
 rw[ea];exact⟨.ref _,_,I.lnew (t':=s.toks) (r.append r2) (by rw[aau];omega),rfl,q _ I.fresh⟩
theorem DV {α:Type} (xs:List α) (k:Nat):(List.replicate k xs).flatten.length=k * xs.length:=by
 induction k with
 | zero=>simp
 | succ k ih=>rw[List.replicate_succ,List.flatten_cons,aau,ih,Nat.succ_mul,Nat.add_comm]
end
section
variable {prog:Program}{A:Around}{E:Value->Shared->Prop}{s:Shared}
end
section
variable {X:Cx}
end
section
variable {ar:Type}[DecidableEq ar]
def cY (kvs:List (ar×V)) (k:ar):Option V:=(kvs.find? λ kv=>decide (kv.1=k)).map (·.2)
def fG (kvs:List (ar×V)) (k:ar) (v:V):List (ar×V):=
 if (kvs.any λ kv=>decide (kv.1=k))=true then kvs.map (λ kv=>if kv.1=k then (kv.1,v) else kv) else kvs++[(k,v)]
theorem dH {p:ar×V}{r:List (ar×V)}{k:ar} (e:p.1=k):cY (p::r) k=some p.2:=by simp [cY,List.find?_cons,e]
theorem cQ {p:ar×V}{r:List (ar×V)}{k:ar} (e:¬ p.1=k):cY (p::r) k=cY r k:=by simp [cY,List.find?_cons,e]
theorem iT (k:ar):∀ kvs:List (ar×V),(kvs.any λ kv=>decide (kv.1=k))=(cY kvs k).isSome
 | []=>rfl
 | p::r=>by
  rw[List.any_cons]
  by_cases e:p.1=k
  ·simp only [dH e,abt e,Bool.true_or,Option.isSome_some]
  ·rw[cQ e,acp e,Bool.false_or];exact iT k r
theorem yI (k j:ar) (y:V):∀ kvs:List (ar×V),cY (kvs.map λ kv=>if kv.1=k then (kv.1,y) else kv) j=(cY kvs j).map λ x=>if j=k then y else x
 | []=>rfl
 | p::r=>by
  have ih:=yI k j y r;rw[aba]
  by_cases h:p.1=k
  ·rw[if_pos h]
   by_cases e:p.1=j
   ·rw[dH (p:=(p.1,y)) e,dH e,Option.map_some,if_pos (e.symm.trans h)]
   ·rw[cQ (p:=(p.1,y)) e,cQ e,ih]
  ·rw[if_neg h]
   by_cases e:p.1=j
   ·rw[dH (p:=p) e,dH e,Option.map_some,if_neg (λ z=>h (e.trans z))]
   ·rw[cQ (p:=p) e,cQ e,ih]
theorem uV (k j:ar) (y:V):∀ kvs:List (ar×V),cY kvs k=none->cY (kvs++[(k,y)]) j=if j=k then some y else cY kvs j
 | [],_=>by
  by_cases e:k=j
  ·rw[if_pos e.symm];exact dH (p:=(k,y)) e
  ·rw[if_neg (λ z=>e z.symm)];exact cQ (p:=(k,y)) e
 | p::r,hn=>by
  rw[List.cons_append];have hk:¬ p.1=k:=λ z=>by rw[dH z] at hn;cases hn
  rw[cQ hk] at hn;have ih:=uV k j y r hn
  by_cases e:p.1=j
  ·rw[dH e,dH e,if_neg (λ z=>hk (e.trans z))]
  ·rw[cQ e,cQ e,ih]
theorem HR (kvs:List (ar×V)) (k j:ar) (y:V):cY (fG kvs k y) j=if j=k then some y else cY kvs j:=by
 unfold fG
 by_cases a:(kvs.any λ kv=>decide (kv.1=k))=true
 ·rw[if_pos a,yI];rw[iT] at a
  by_cases e:j=k
  ·obtain⟨x,hx⟩:=Option.isSome_iff_exists.mp a;rw[if_pos e,e,hx,Option.map_some,if_pos rfl]
  ·rw[if_neg e];cases cY kvs j with
   | none=>rfl
   | some x=>rw[Option.map_some,if_neg e]
 ·rw[if_neg a];refine uV k j y kvs ?_;rw[iT] at a;cases q:cY kvs k with
  | none=>rfl
  | some x=>rw[q] at a;exact (a rfl).elim
theorem eP (kvs:List (ar×V)) (k:ar) (v:V):(fG kvs k v).length<=kvs.length+1:=by
 unfold fG
 split
 ·rw[aad];omega
 ·rw[aau,abb,List.length_nil];omega
theorem oA {kvs:List (ar×V)}{k:ar} (v:V) (h:cY kvs k=none):fG kvs k v=kvs++[(k,v)]:=by
 unfold fG;rw[iT,h];exact if_neg (by decide)
theorem nL.isSome_eq {o:Option V}{u:Option Value} (r:nL o u):o.isSome=u.isSome:=by
 cases o with
 | none=>cases u with
  | none=>rfl
  | some _=>exact (show False from r).elim
 | some _=>cases u with
  | none=>exact (show False from r).elim
  | some _=>rfl
theorem nL.getD {o:Option V}{u:Option Value}{d:V}{d':Value} (r:nL o u) (rd:aX d d'):aX (o.getD d) (u.getD d'):=by
 cases o with
 | none=>cases u with
  | none=>exact rd
  | some _=>exact (show False from r).elim
 | some _=>cases u with
  | none=>exact (show False from r).elim
  | some _=>exact r
theorem KV.val {kvs:List (ar×V)}{vs:List (ar×Value)} (r:KV kvs vs) (k:ar):nL (cY kvs k) (valueAt vs k):=by
 unfold KV at r
 induction r with
 | nil=>exact True.intro
 | @cons p q ps qs h t ih=>
  obtain⟨h1,h2⟩:=h
  by_cases e:p.1=k
  ·have e':q.1=k:=h1.symm.trans e;have b:valueAt (q::qs) k=some q.2:=by simp [valueAt,List.find?_cons,e']
   rw[dH e,b];exact h2
  ·have e':¬ q.1=k:=λ z=>e (h1.trans z);have b:valueAt (q::qs) k=valueAt qs k:=by simp [valueAt,List.find?_cons,e']
   rw[cQ e,b];exact ih
theorem KV.any {kvs:List (ar×V)}{vs:List (ar×Value)} (r:KV kvs vs) (k:ar):(kvs.any λ kv=>decide (kv.1=k))=vs.any λ kv=>decide (kv.1=k):=by
 unfold KV at r
 induction r with
 | nil=>rfl
 | cons h t ih=>rw[List.any_cons,List.any_cons,ih,h.1]
theorem KV.repl {kvs:List (ar×V)}{vs:List (ar×Value)} (r:KV kvs vs) (k:ar) {y:V}{u:Value} (ry:aX y u) :
  KV (kvs.map λ kv=>if kv.1=k then (kv.1,y) else kv) (vs.map λ kv=>if kv.1=k then (kv.1,u) else kv):=by
 unfold KV at r ⊢
 induction r with
 | nil=>exact .nil
 | @cons p q ps qs h t ih=>
  rw[aba,aba];refine .cons ?_ ih;obtain⟨h1,h2⟩:=h
  by_cases e:p.1=k
  ·rw[if_pos e,if_pos (h1.symm.trans e)];exact⟨h1,ry⟩
  ·rw[if_neg e,if_neg (λ z=>e (h1.trans z))];exact⟨h1,h2⟩
theorem KV.put {kvs:List (ar×V)}{vs:List (ar×Value)} (r:KV kvs vs) (k:ar) {y:V}{u:Value} (ry:aX y u):KV (fG kvs k y) (stored vs k u):=by
 unfold fG stored;rw[r.any k]
 by_cases e:(vs.any λ kv=>decide (kv.1=k))=true
 ·rw[if_pos e,if_pos e];exact r.repl k ry
 ·rw[if_neg e,if_neg e];exact Paired.snoc r ⟨rfl,ry⟩
theorem KV.length {kvs:List (ar×V)}{vs:List (ar×Value)} (r:KV kvs vs):kvs.length=vs.length:=Paired.length r
end
theorem tJ {P:Program}{w:World}{k:eV}{u:Value} (r:aX (kV k) u):(cO P w).is k u=true:=by
 cases k with
 | inl i=>obtain⟨t,e⟩:=(show ∃ t,u=Value.int i t from r);subst e;exact zU P w i t
 | inr z=>cases z with
  | some x=>obtain⟨t,e⟩:=(show ∃ t,u=Value.str x t from r);subst e;exact zT P w x t
  | none=>obtain rfl:=(show u=Value.none from r);rfl
theorem gY {P:Program}{w:World}:∀ {ks:List eV}{us:List Value},bL (ks.map kV) us->ItemsAre (cO P w) ks us
 | [],_,r=>by rw[acl] at r;cases r;exact .nil
 | k::ks,_,r=>by
  rw[aba] at r;cases r with
  | cons h t=>exact .cons (tJ h) (gY t)
abbrev KT (H:Hp):List (List eV×V)->List (List eV×Addr×Value)->Prop:=Paired λ p q=>p.1=q.1/\H q.2.1=some (.tup (p.1.map kV))/\aX p.2 q.2.2
theorem KT.val {H:Hp}{kvs:List (List eV×V)}{xs:List (List eV×Addr×Value)} (r:KT H kvs xs) (k:List eV):nL (cY kvs k) ((atKey xs k).map (·.2)):=by
 induction r with
 | nil=>exact True.intro
 | @cons p q ps qs h t ih=>
  obtain⟨h1,_,h2⟩:=h
  by_cases e:p.1=k
  ·have e':q.1=k:=h1.symm.trans e;have b:atKey (q::qs) k=some q.2:=by simp [atKey,List.find?_cons,e']
   rw[dH e,b];exact h2
  ·have e':¬ q.1=k:=λ z=>e (h1.trans z);have b:atKey (q::qs) k=atKey qs k:=by simp [atKey,List.find?_cons,e']
   rw[cQ e,b];exact ih
theorem KT.repl {H:Hp}{kvs:List (List eV×V)}{xs:List (List eV×Addr×Value)} (r:KT H kvs xs) (k:List eV) {y:V}{u:Value} (ry:aX y u) :
  KT H (kvs.map λ kv=>if kv.1=k then (kv.1,y) else kv) (xs.map (putAt k u)):=by
 induction r with
 | nil=>exact .nil
 | @cons p q ps qs h t ih=>
  rw[aba,aba];refine .cons ?_ ih;obtain⟨h1,h2,h3⟩:=h;unfold putAt
  by_cases e:p.1=k
  ·rw[if_pos e,if_pos (h1.symm.trans e)];exact⟨h1,h2,ry⟩
  ·rw[if_neg e,if_neg (λ z=>e (h1.trans z))];exact⟨h1,h2,h3⟩
theorem KT.put {H:Hp}{kvs:List (List eV×V)}{xs:List (List eV×Addr×Value)} (r:KT H kvs xs) (k:List eV) {b:Addr}{y:V}{u:Value} (hb:H b=some (.tup (k.map kV))) (ry:aX y u) :
  KT H (fG kvs k y) (storedH xs k b u):=by
 have e:(kvs.any λ kv=>decide (kv.1=k))=(atKey xs k).isSome:=by
  rw[iT,(r.val k).isSome_eq,Option.isSome_map]
 unfold fG storedH;rw[e]
 by_cases q:(atKey xs k).isSome=true
 ·rw[if_pos q,if_pos q];exact r.repl k ry
 ·rw[if_neg q,if_neg q];exact Paired.snoc r ⟨rfl,hb,ry⟩
theorem KT.keeps {H H':Hp}{kvs:List (List eV×V)}{xs:List (List eV×Addr×Value)} (r:KT H kvs xs) (ht:∀ b ys,H b=some (.tup ys)->H' b=some (.tup ys)):KT H' kvs xs:=
 Paired.mapP r λ _ _ z=>⟨z.1,ht _ _ z.2.1,z.2.2⟩
section
variable {H:Hp}{h:Heap}{a:Addr}
theorem NQ {u:HO} (ok:mF P w H h) (e:Rd H a u):bQ P w H h a u:=e.ok ok
theorem tU {kvs:List (eV×V)} (ok:mF P w H h) (e:Rd H a (.dK kvs)):kvs.length<=sizeLine/\(a == sysModules)=false/\∃ vs,KV kvs vs/\h.DictOf (cO P w) a vs:=
 show bQ P w H h a (.dK kvs) from NQ ok e
theorem EE {kvs:List (eV×V)} (ok:mF P w H h) (e:H a=some (.dK kvs)):kvs.length<=sizeLine/\(a == sysModules)=false/\∃ vs,KV kvs vs/\h.DictOf (cO P w) a vs:=tU ok (.inl e)
theorem pJ {ks:List eV} (ok:mF P w H h) (e:H a=some (.tup (ks.map kV))):(tupleKind (cO P w)).is h ks a:=by
 obtain⟨_,its,r,o,h1,h2,n,h3⟩:=(show bQ P w H h a (.tup (ks.map kV)) from ok a _ e);exact⟨o,its.toArray,n,h1,h2,h3,by simpa using gY r⟩
theorem tT {kvs:List (List eV×V)} (ok:mF P w H h) (e:Rd H a (.dT kvs)):kvs.length<=sizeLine/\(a == sysModules)=false/\
  ∃ xs,KT H kvs xs/\h.DictOfH (tupleKind (cO P w)) a xs:=by
 obtain⟨z,y,xs,r,o,es,ep,h1,h2,h3,h4,h5⟩:=(show bQ P w H h a (.dT kvs) from NQ ok e);refine⟨z,y,xs,r,o,es,ep,h1,h2,h3,h4,λ x hx=>?_,h5⟩;have all:∀ {l:List (List eV×V)}{m:List (List eV×Addr×Value)},KT H l m->∀ x∈m,(tupleKind (cO P w)).is h x.1 x.2.1:=by
  intro l m q
  induction q with
  | nil=>intro x hx;exact nomatch hx
  | @cons p q ps qs hq t ih=>
   intro x hx;rcases aao.mp hx with e | hx
   ·subst e;exact pJ ok (by rw[<- hq.1];exact hq.2.1)
   ·exact ih x hx
 exact all r x hx
theorem RY {kvs:List (List eV×V)} (ok:mF P w H h) (e:H a=some (.dT kvs)):kvs.length<=sizeLine/\(a == sysModules)=false/\
  ∃ xs,KT H kvs xs/\h.DictOfH (tupleKind (cO P w)) a xs:=tT ok (.inl e)
end
def lT (H:Hp) (a:Addr) (y:V) (r:Option V):Prop:=
 (∃ kvs k,Rd H a (.dK kvs)/\y=kV k/\r=cY kvs k)\/∃ kvs k b,Rd H a (.dT kvs)/\y=.ref b/\H b=some (.tup (k.map kV))/\r=cY kvs k
def LL (H:Hp) (a:Addr) (y v:V) (H':Hp):Prop:=
 (∃ kvs k,H a=some (.dK kvs)/\y=kV k/\kvs.length < sizeLine/\H'=upd H a (.dK (fG kvs k v)))\/
 ∃ kvs k b,H a=some (.dT kvs)/\y=.ref b/\H b=some (.tup (k.map kV))/\kvs.length < sizeLine/\H'=upd H a (.dT (fG kvs k v))
theorem lT.k {H:Hp}{a:Addr}{kvs:List (eV×V)}{k:eV} (e:H a=some (.dK kvs)):lT H a (kV k) (cY kvs k):=.inl ⟨kvs,k,.inl e,rfl,rfl⟩
theorem LL.k {H:Hp}{a:Addr}{kvs:List (eV×V)}{k:eV}{v:V} (e:H a=some (.dK kvs)) (hl:kvs.length < sizeLine):LL H a (kV k) v (upd H a (.dK (fG kvs k v))):=.inl ⟨kvs,k,e,rfl,hl,rfl⟩
section
variable {X:Cx}{pins:List (Addr×Obj)}{σ:St}{H:Hp}{s:Shared}{a:Addr}{y v:V}{u r:Value}{o:Option V}{A:Around}{E:Value->Shared->Prop}
theorem Inv.big (I:Inv X pins σ H s):sysModules < s.heap.objs.size:=by
 have h:mainGlobals < s.heap.objs.size:=(I.mod.glob.keeps I.bk).lt;exact Nat.lt_trans (by decide) h
theorem GR {Q:Value->Shared->Prop} (hu:A.units+1 < cLine) (I:Inv X pins σ H s) (g:lT H a y (some v)) (ry:aX y u) (h:∀ w' s',Inv X pins σ H s'->aX v w'->Q w' s') :
  wpAny (model X.prog X.w) A (getItem (.ref a) u) Q E s:=by
 rcases g with ⟨kvs,k,e,ey,l⟩ | ⟨kvs,k,b,e,ey,eb,l⟩
 ·subst ey;obtain⟨z,hd,vs,rel,dd⟩:=tU I.hok e;obtain⟨w',hw,rw'⟩:=nL.some_of (v:=v) (o:=valueAt vs k) (by rw[l];exact rel.val k);exact wpAny_getItem_of (tJ ry) dd.mapOf hw (h w' _ (I.tok _) rw')
 ·subst ey;cases (show u=Value.ref b from ry);obtain⟨z,hd,xs,rel,dd⟩:=tT I.hok e;obtain⟨w',hw,rw'⟩:=nL.some_of (v:=v) (o:=(atKey xs k).map (·.2)) (by rw[l];exact rel.val k);obtain⟨p,hp,hp2⟩:=aas.mp hw;refine wpAny_getItem_heap (tupleKind_room_in1 hu) (pJ I.hok eb) dd hp ?_;rw[hp2];exact h w' _ (I.tok _) rw'
theorem d_in {Q:Value->Shared->Prop} (hu:A.units+1 < cLine) (I:Inv X pins σ H s) (g:lT H a y o) (ry:aX y u) (h:∀ s',Inv X pins σ H s'->Q (.bool o.isSome) s') :
  wpAny (model X.prog X.w) A (compareOp .In u (.ref a)) Q E s:=by
 rcases g with ⟨kvs,k,e,ey,l⟩ | ⟨kvs,k,b,e,ey,eb,l⟩
 ·subst ey;obtain⟨z,hd,vs,rel,dd⟩:=tU I.hok e;refine wpAny_in_of (tJ ry) hd dd.mapOf ?_;rw[<- (rel.val k).isSome_eq,<- l];exact h _ (I.tok _)
 ·subst ey;cases (show u=Value.ref b from ry);obtain⟨z,hd,xs,rel,dd⟩:=tT I.hok e;refine wpAny_in_heap (tupleKind_room_in1 hu) (pJ I.hok eb) hd dd ?_;have q:=(rel.val k).isSome_eq;rw[Option.isSome_map] at q;rw[<- q,<- l];exact h _ (I.tok _)
theorem iK {h':Heap}{t':Nat}{ob:HO} (I:Inv X pins σ H s) (mu:lS (H a)) (hs:Heap.SameBut a s.heap h') (he:∃ q,h'.get? a=some q) (new:bQ X.prog X.w (upd H a ob) h' a ob) :
  Inv X pins σ (upd H a ob) { s with heap:=h',toks:=t' }:=
 I.write (x:=a) (e:=a) mu (.inl rfl) (λ b q hb z=>(hs.2 b hb).trans z) he new
theorem KZ {P:Program}{w:World}{H':Hp}{h':Heap}{kvs:List (eV×V)}{vs:List (eV×Value)} (z:kvs.length<=sizeLine) (hd:(a == sysModules)=false) (rel:KV kvs vs) (dd:h'.DictOf (cO P w) a vs) :
  bQ P w H' h' a (.dK kvs):=⟨z,hd,vs,rel,dd⟩
theorem GQ {H':Hp}{Q:Unit->Shared->Prop} (hu:A.units+1 < cLine) (I:Inv X pins σ H s) (g:LL H a y v H') (ry:aX y u) (rv:aX v r) (h:∀ s',Inv X pins σ H' s'->Q () s') :
  wpAny (model X.prog X.w) A (setItem (.ref a) u r) Q E s:=by
 rcases g with ⟨kvs,k,e,ey,l,eH⟩ | ⟨kvs,k,b,e,ey,eb,l,eH⟩
 ·subst ey eH;obtain⟨z,hd,vs,rel,dd⟩:=EE I.hok e;have hz:vs.length<=sizeLine:=by rw[<- rel.length];exact z
  have hl:(fG kvs k v).length<=sizeLine:=by have:=eP kvs k v;omega
  refine wpAny_setItem_pairs (hsz:=hz) (tJ ry) dd λ h' dd' hs=>h _ ?_;have he:∃ q,h'.get? a=some q:=let ⟨q,_,_,hq,_⟩:=dd';⟨q,hq⟩;exact iK I (by rw[e];exact True.intro) hs he (KZ hl hd (rel.put k rv) dd')
 ·subst ey eH;cases (show u=Value.ref b from ry);obtain⟨z,hd,xs,rel,dd⟩:=RY I.hok e;have hz:xs.length<=sizeLine:=by rw[<- Paired.length rel];exact z
  have hl:(fG kvs k v).length<=sizeLine:=by have:=eP kvs k v;omega
  refine wpAny_setItem_heap (hsz:=hz) (tupleKind_room_in1 hu) (pJ I.hok eb) dd λ h' dd' hs=>h _ ?_;obtain⟨q,es,ep,hq,h2,h3,h4,_,h5⟩:=dd';refine iK I (by rw[e];exact True.intro) hs ⟨q,hq⟩ ⟨hl,hd,_,(rel.put k eb rv).keeps λ c ys ec=>?_,q,es,ep,hq,h2,h3,h4,h5⟩;rw[aI (O3 ec e (λ z=>nomatch z))];exact ec
end
section
variable {X:Cx}{pins:List (Addr×Obj)}{σ:St}{H:Hp}{s:Shared}{a:Addr}{kvs:List (eV×V)}{k:eV}{u:Value}{A:Around}{E:Value->Shared->Prop}
end
def S8 (i:Expr):Prop:=∀ ov iv,subscripted i false ov iv=operate [ov,iv] (getItem ov iv)
theorem LV {prog:Program}{w:World}{A:Around}{E:Value->Shared->Prop}{s:Shared}{env:Env}{value slice:Expr}{pos:Pos}{T id:String}{Q:Value->Shared->Prop}
  (hl:typeLookup (.type T) "__getitem__" = pure (some (.builtin id))) (hs:S8 slice)
  (h:wpAny (model prog w) A (eval value env) (λ o af=>wpAny (model prog w) A (eval slice env) (λ i be=>be.TypeIs o T/\wpAny (model prog w) A (getItem o i) Q E be) E af) E s) :
  wpAny (model prog w) A (eval (.Subscript value slice pos) env) Q E s:=by
 refine Subscript_ (abl h (λ o af h₁=>abl h₁ (λ i be aj=>?_) λ _ _ x=>x) λ _ _ x=>x);obtain⟨hT,aj⟩:=aj;unfold subscriptTail;refine aaa ?_;rw[getitemInPython_of_ne hT.not_modules];refine aaa (wpAny_specialOf hT hl ?_);have fin:wpAny (model prog w) A (subscripted slice false o i) (λ r bg=>wpAny (model prog w) A (letTemporaryGo value o r >>= λ _=>pure r) Q E bg) E be:=by
  rw[hs o i];exact wpAny_operating (abl aj (λ r bg ai=>aaa (wpAny_letTemporaryGo (aaf ai))) λ _ _ x=>x)
 first
  | exact aaf (aaa fin)
  | exact aaa (aaf (aaa fin))
  | exact aaa fin
theorem AD {X:Cx}{pins:List (Addr×Obj)}{σ:St}{H:Hp}{s:Shared}{a:Addr}{y:V}{o:Option V} (I:Inv X pins σ H s) (g:lT H a y o):s.TypeIs (.ref a) "dict" := by
 rcases g with ⟨kvs,k,e,_,_⟩ | ⟨kvs,k,b,e,_,_,_⟩
 ·obtain⟨_,_,vs,_,dd⟩:=tU I.hok e;exact dd.typeIs
 ·obtain⟨_,_,xs,_,dd⟩:=tT I.hok e;exact dd.typeIs
def QZ (td ty:TE):TE:=λ σ H Q=>td σ H λ x H1=>ty σ H1 λ y H2=>∃ a v,x=.ref a/\lT H2 a y (some v)/\Q v H2
def tDIn (ty td:TE):TE:=λ σ H Q=>ty σ H λ y H1=>td σ H1 λ x H2=>∃ a o,x=.ref a/\lT H2 a y o/\Q (.bl o.isSome) H2
def R5 (td ty tv:TE):TS:=λ D σ H=>tv σ H λ v H1=>td σ H1 λ x H2=>ty σ H2 λ y H3=>∃ a H4,x=.ref a/\LL H3 a y v H4/\D.nx σ H4
section
variable {X:Cx}{o i e value:Expr}{pos pos' tpos:Pos}{td ty tv:TE}
theorem xE (hu:X.A.units+1 < cLine) (ho:PE X o td) (hi:PE X i ty) (hs:S8 i):PE X (.Subscript o i pos) (QZ td ty):=by
 intro pins s σ H Q I h;refine LV PySem.F.slot_dict_getitem.lookup hs (cK (ho pins s σ H _ I h) λ u s1 ⟨x,H1,I1,rx,q1⟩=>cK (hi pins s1 σ H1 _ I1 q1) λ iv s2 ⟨y,H2,I2,ry,a,v,ex,g,q2⟩=>?_);subst ex;obtain rfl:u=Value.ref a:=rx;exact⟨AD I2 g,GR hu I2 g ry λ w' s3 I3 rw'=>⟨v,H2,I3,rw',q2⟩⟩
theorem PK (hu:X.A.units+1 < cLine) (hi:PE X i ty) (ho:PE X o td):PC X .In i o (tDIn ty td):=by
 intro pins s σ H Q I h;refine cK (hi pins s σ H _ I h) λ iv s1 ⟨y,H1,I1,ry,q1⟩=>cK (ho pins s1 σ H1 _ I1 q1) λ u s2 ⟨x,H2,I2,rx,a,ov,ex,g,q2⟩=>?_;subst ex;obtain rfl:u=Value.ref a:=rx;exact d_in hu I2 g ry λ s3 I3=>⟨.bl ov.isSome,H2,I3,rfl,q2⟩
theorem MA (hu:X.A.units+1 < cLine) (ho:PE X o td) (hi:PE X i ty) (hv:PE X value tv) (hs:swapsWith value (some (.Subscript o i pos')) pos.line X.env=pure false) :
  PS X (.Assign [.Subscript o i pos'] value pos) (R5 td ty tv):=by
 intro pins s σ H D I h;refine wpAny_Assign_Subscript (cK (hv pins s σ H _ I h) λ r s1 ⟨v,H1,I1,rv,q1⟩=>cK (ho pins s1 σ H1 _ I1 q1) λ u s2 ⟨x,H2,I2,rx,q2⟩=>cK (hi pins s2 σ H2 _ I2 q2) λ iv s3 ⟨y,H3,I3,ry,a,H4,ex,g,q3⟩=>?_) hs;subst ex;obtain rfl:u=Value.ref a:=rx;exact GQ hu I3 g ry rv λ s4 I4=>⟨σ,H4,I4,q3⟩
end
theorem tV {P:Program}{w:World}{H:Hp} (h:Heap) (hb:sysModules < h.objs.size):bQ P w H (h.push { cls:=.type "dict",data:=.dict #[] }) h.objs.size (.dK []):=
 ⟨abw _,beq_eq_false_iff_ne.mpr (Ne.symm (abc hb)),[],.nil,Heap.DictOf.new h⟩
def ON:TE:=λ _ H Q=>∀ p,H p=none->Q (.ref p) (upd H p (.dK []))
section
variable {X:Cx}{pos:Pos}
theorem zI:PE X (.Dict [] [] pos) ON:=λ pins s σ H Q I h=>
 wpAny_Dict_empty ⟨.ref s.heap.objs.size,_,I.laid (a:=s.heap.objs.size) (o:=.dK []) (t':=s.toks) (λ _ _ q=>aac _ q) (aal _) (tV s.heap I.big),rfl,h _ (I.hok.fresh (aal _))⟩
end
def HY:List (TE×TE)->St->Hp->(List (V×V)->Hp->Prop)->Prop
 | [],_,H,Q=>Q [] H
 | (tk,tv)::r,σ,H,Q=>tk σ H λ x H1=>tv σ H1 λ y H2=>HY r σ H2 λ ps H3=>Q ((x,y)::ps) H3
abbrev VV:List (V×V)->List (Value×Value)->Prop:=Paired λ p q=>aX p.1 q.1/\aX p.2 q.2
def PPs (X:Cx) (pos:Pos) (keys:List (Option Expr)) (values:List Expr) (trs:List (TE×TE)):Prop:=
 ∀ (pins:List (Addr×Obj)) (s:Shared) (σ:St) (H:Hp) (Q:List (V×V)->Hp->Prop),Inv X pins σ H s->HY trs σ H Q->
  wpAny (model X.prog X.w) X.A (evalPairs (pairTrees keys values X.env pos)) (λ vs s'=>∃ ps H',Inv X pins σ H' s'/\VV ps vs/\Q ps H') X.xe s
theorem MC {X:Cx}{pos:Pos}:PPs X pos [] [] []:=λ pins s σ H Q I h=>pairTrees_nil_walk ⟨[],H,I,.nil,h⟩
theorem IY {X:Cx}{pos:Pos}{k v:Expr}{ks:List (Option Expr)}{vs:List Expr}{tk tv:TE}{trs:List (TE×TE)} (hk:PE X k tk) (hv:PE X v tv) (hr:PPs X pos ks vs trs) :
  PPs X pos (some k::ks) (v::vs) ((tk,tv)::trs):=λ pins s σ H Q I h=>
 pairTrees_cons_walk (cK (hk pins s σ H _ I h) λ u s1 ⟨x,H1,I1,rx,q1⟩=>cK (hv pins s1 σ H1 _ I1 q1) λ w2 s2 ⟨y,H2,I2,ry,q2⟩=>
  cK (hr pins s2 σ H2 _ I2 q2) λ ws s3 ⟨ps,H3,I3,rel,q3⟩=>⟨(x,y)::ps,H3,I3,.cons ⟨rx,ry⟩ rel,q3⟩)
structure M1 (X:Cx) (o:Expr) (m:Str) (apos:Pos) (e:Expr) (cpos:Pos):Prop where
 base:attributeBase o m X.env (eval o X.env)=eval o X.env
 few:((backTo cpos (starEach [e] X.env)).all (λ x=>!x.1) && (backToKw cpos (keywordEach [] X.env)).all (λ x=>x.1.isSome)
  && decide (([e]:List Expr).length+([]:List Keyword).length+(if ([]:List Keyword).isEmpty then 0 else 1) < 30))=true
 line:(apos.endLine == cpos.line)=true
 trees:backTo cpos (starEach [e] X.env)=[(false,eval e X.env)]
structure M2 (X:Cx) (o:Expr) (m:Str) (apos:Pos) (e f:Expr) (cpos:Pos):Prop where
 base:attributeBase o m X.env (eval o X.env)=eval o X.env
 few:((backTo cpos (starEach [e,f] X.env)).all (λ x=>!x.1) && (backToKw cpos (keywordEach [] X.env)).all (λ x=>x.1.isSome)
  && decide (([e,f]:List Expr).length+([]:List Keyword).length+(if ([]:List Keyword).isEmpty then 0 else 1) < 30))=true
 line:(apos.endLine == cpos.line)=true
 trees:backTo cpos (starEach [e,f] X.env)=[(false,eval e X.env),(false,eval f X.env)]
def IsD (H:Hp) (a:Addr):Prop:=(∃ kvs,Rd H a (.dK kvs))\/∃ kvs,Rd H a (.dT kvs)
theorem K8 {X:Cx}{pins:List (Addr×Obj)}{σ:St}{H:Hp}{s:Shared}{a:Addr} (I:Inv X pins σ H s) (d:IsD H a) :
  s.TypeIs (.ref a) "dict" /\ (∀ b,Value.ref a=.ref b->∃ ob,s.heap.get? b=some ob/\ob.dict=none)/\(a == sysModules)=false:=by
 rcases d with ⟨kvs,e⟩ | ⟨kvs,e⟩
 ·obtain⟨_,hd,vs,_,dd⟩:=tU I.hok e;refine⟨dd.typeIs,λ b q=>?_,hd⟩;cases q;obtain⟨ob,_,_,h1,h2,_⟩:=dd;exact⟨ob,h1,h2.2.1⟩
 ·obtain⟨_,hd,xs,_,dd⟩:=tT I.hok e;refine⟨dd.typeIs,λ b q=>?_,hd⟩;cases q;obtain⟨ob,_,_,h1,h2,_⟩:=dd;exact⟨ob,h1,h2.2.1⟩
section
variable {X:Cx}{pins:List (Addr×Obj)}{σ:St}{H:Hp}{s:Shared}{a:Addr}{y d:V}{u r:Value}{o:Option V}{A:Around}{E:Value->Shared->Prop}
theorem QA {Q:Value->Shared->Prop} (hu:A.units+1 < cLine) (I:Inv X pins σ H s) (g:lT H a y o) (ry:aX y u) (h:∀ w' s',Inv X pins σ H s'->aX (o.getD .non) w'->Q w' s') :
  wpAny (model X.prog X.w) A (call (.builtin "dict.get") [.ref a,u]) Q E s:=by
 rcases g with ⟨kvs,k,e,ey,l⟩ | ⟨kvs,k,b,e,ey,eb,l⟩
 ·subst ey;obtain⟨z,hd,vs,rel,dd⟩:=tU I.hok e;refine call_meetsIn PySem.F.slot_dict_get dd.typeIs PySem.F.entry_dict_get (PySem.F.args_dict_get_2 _ _) (meets_dict_get (cO X.prog X.w) a (tJ ry) hd) ⟨_,dd.mapOf,h _ _ (I.tok _) ?_⟩;rw[l];exact (rel.val k).getD rfl
 ·subst ey;cases (show u=Value.ref b from ry);obtain⟨z,hd,xs,rel,dd⟩:=tT I.hok e;refine call_meetsIn PySem.F.slot_dict_get dd.typeIs PySem.F.entry_dict_get (PySem.F.args_dict_get_2 _ _) (meetsH_dict_get (tupleKind (cO X.prog X.w)) a b hd) ⟨tupleKind_room_in1 hu,k,xs,pJ I.hok eb,dd,h _ _ (I.tok _) ?_⟩;rw[l];exact (rel.val k).getD rfl
theorem Q9 {Q:Value->Shared->Prop} (hu:A.units+1 < cLine) (I:Inv X pins σ H s) (g:lT H a y o) (ry:aX y u) (rd:aX d r) (h:∀ w' s',Inv X pins σ H s'->aX (o.getD d) w'->Q w' s') :
  wpAny (model X.prog X.w) A (call (.builtin "dict.get") [.ref a,u,r]) Q E s:=by
 rcases g with ⟨kvs,k,e,ey,l⟩ | ⟨kvs,k,b,e,ey,eb,l⟩
 ·subst ey;obtain⟨z,hd,vs,rel,dd⟩:=tU I.hok e;refine call_meetsIn PySem.F.slot_dict_get dd.typeIs PySem.F.entry_dict_get (PySem.F.args_dict_get_3 _ _ _) (meets_dict_get_default (cO X.prog X.w) a (tJ ry) hd r) ⟨_,dd.mapOf,h _ _ (I.tok _) ?_⟩;rw[l];exact (rel.val k).getD rd
 ·subst ey;cases (show u=Value.ref b from ry);obtain⟨z,hd,xs,rel,dd⟩:=tT I.hok e;refine call_meetsIn PySem.F.slot_dict_get dd.typeIs PySem.F.entry_dict_get (PySem.F.args_dict_get_3 _ _ _) (meetsH_dict_get_default (tupleKind (cO X.prog X.w)) a b hd r) ⟨tupleKind_room_in1 hu,k,xs,pJ I.hok eb,dd,h _ _ (I.tok _) ?_⟩;rw[l];exact (rel.val k).getD rd
end
def OP (td ty:TE):TE:=λ σ H Q=>td σ H λ x H1=>∃ a,x=.ref a/\IsD H1 a/\ty σ H1 λ y H2=>∃ o,lT H2 a y o/\Q (o.getD .non) H2
def OO (td ty tx:TE):TE:=λ σ H Q=>td σ H λ x H1=>∃ a,x=.ref a/\IsD H1 a/\ty σ H1 λ y H2=>tx σ H2 λ z H3=>∃ o,lT H3 a y o/\Q (o.getD z) H3
section
variable {X:Cx}{o e f:Expr}{apos cpos:Pos}{td ty tx:TE}
theorem zJ (hu:X.A.units+1 < cLine) (ho:PE X o td) (he:PE X e ty) (m:M1 X o "get" apos e cpos):PE X (.Call (.Attribute o "get" apos) [e] [] cpos) (OP td ty):=by
 intro pins s σ H Q I h;refine wpAny_Call_method m.base m.few m.line PySem.F.plainAttrs_dict PySem.F.slot_dict_get PySem.F.type_dict_get (cK (ho pins s σ H _ I h) λ u s1 ⟨x,H1,I1,rx,a,ex,d,q1⟩=>?_);subst ex;obtain rfl:u=Value.ref a:=rx;obtain⟨t1,t2,_⟩:=K8 I1 d;refine⟨t1,t2,?_⟩;rw[m.trees];refine Calls.callWith_builtin rfl (Calls.evalArgs_plain (Calls.spliced_cons (cK (he pins s1 σ H1 _ I1 q1) λ iv s2 ⟨y,H2,I2,ry,ov,g,q2⟩=>Calls.spliced_nil ?_)));exact QA hu I2 g ry λ w' s3 I3 rw'=>⟨_,H2,I3,rw',q2⟩
theorem sS (hu:X.A.units+1 < cLine) (ho:PE X o td) (he:PE X e ty) (hf:PE X f tx) (m:M2 X o "get" apos e f cpos):PE X (.Call (.Attribute o "get" apos) [e,f] [] cpos) (OO td ty tx):=by
 intro pins s σ H Q I h;refine wpAny_Call_method m.base m.few m.line PySem.F.plainAttrs_dict PySem.F.slot_dict_get PySem.F.type_dict_get (cK (ho pins s σ H _ I h) λ u s1 ⟨x,H1,I1,rx,a,ex,d,q1⟩=>?_);subst ex;obtain rfl:u=Value.ref a:=rx;obtain⟨t1,t2,_⟩:=K8 I1 d;refine⟨t1,t2,?_⟩;rw[m.trees];refine Calls.callWith_builtin rfl (Calls.evalArgs_plain (Calls.spliced_cons (cK (he pins s1 σ H1 _ I1 q1) λ iv s2 ⟨y,H2,I2,ry,q2⟩=>
  Calls.spliced_cons (cK (hf pins s2 σ H2 _ I2 q2) λ fv s3 ⟨z,H3,I3,rz,ov,g,q3⟩=>Calls.spliced_nil ?_))))
 exact Q9 hu I3 g ry rz λ w' s4 I4 rw'=>⟨_,H3,I4,rw',q3⟩
end
section
variable {X:Cx}{pins:List (Addr×Obj)}{σ:St}{H:Hp}{s:Shared}{a:Addr}{kvs:List (eV×V)}{A:Around}{E:Value->Shared->Prop}
end
section
variable {X:Cx}{pins:List (Addr×Obj)}{σ:St}{H:Hp}{s:Shared}{a:Addr}{y:V}{u:Value}{A:Around}{E:Value->Shared->Prop}
end
end L2
namespace Att
open PySem PySem.W PySem.Calls PyProof.Rows
theorem qW {P:Params}{h:Heap}:∀ (ns:List Int) (vs:List Value),WellAll P h vs (ns.map WData.int)->IntsAre vs ns:=by
 intro ns
 induction ns with
 | nil=>
  intro vs w;rw[acl] at w;cases w;exact .nil
 | cons n ns ih=>
  intro vs w;rw[aba] at w;cases w with
  | cons a b=>
   cases a;exact .cons _ _ (ih _ b)
theorem FM {l:OpenLaw}{n:Nat} (hn:l.most=some n) {P:Params}{h:Heap}{args:List WData}{vals:List Value}
  (hpre:l.row.toRowW.claim.pre args=true) (hwl:WellAll P h vals args) :
  ∃ a vs ns,vals=[Value.ref a]/\args=[WData.list (ns.map WData.int)]/\h.get? a=some { cls:=.type "list",data:=.seq vs.toArray }/\IntsAre vs ns/\ns.length<=n:=by
 have hsh:WShape.hasAll [] args [.list .int]=true:=(pre_splitW hpre).1;have hc:l.pre.holds [] { args:=args }=true:=(pre_splitW hpre).2;obtain⟨d,r,rfl,h1,h2⟩:=hasAllW_cons hsh;obtain rfl:=hasAllW_nil h2;obtain⟨xs,rfl,h3⟩:=hasW_list h1;obtain⟨ns,rfl⟩:=items_int h3;have hlen:ns.length<=n:=by
  unfold OpenLaw.pre at hc;have h4:(WTm.not (.lt (.lit (.int (n:Int))) (.len (.arg 0)))).holds [] { args:=[.list (ns.map .int)] }=true:=by
   have h4:=(holds_andW hc).1;rw[hn] at h4;exact h4
  have h5:=condW_of h4 (w_not (w_lt w_lit (w_len_list (w_arg rfl))));rw[aad] at h5;refine Nat.le_of_not_lt λ q=>?_;have q':(n:Int) < ((ns.length:Nat):Int):=by omega
  first
   | (rw[abt q'] at h5;exact absurd h5 (by decide))
   | (simp at h5;omega)
 cases hwl with
 | cons w1 w2=>
  cases w2;cases w1 with
  | list ho hall=>exact⟨_,_,ns,rfl,rfl,ho,qW ns _ hall,hlen⟩
theorem FT (l:OpenLaw) (args:List WData):l.row.toRowW.claim.post args (.bool true) args=true:=
 postW_of (r:=l.row.toRowW) (X:=(true == true))
  (show WShape.has [] (.bool true) .bool=true by first | rfl | decide | simp [WShape.has,WShape.arms,WShape.armsAll])
  (show (WTm.eq .res (.lit (.bool true))).value [] { args:=args,res:=some (.bool true),after:=args }=some (.bool (true == true)) from w_eq_bool (w_res rfl) w_lit) rfl
theorem attach_call {l:OpenLaw}{n:Nat}{q:Program}{loose:List Str}{XP:(Str->Option Value)->Heap->Prop}{YP:World->Heap->Prop}{d:DefRec}
  (hn:l.most=some n) (hdf:d.params.defaults=[])
  (call:∀ (w:World) (s₀ af:Shared) (mg mb:Str->Option Value) (fa:Addr) (o:Obj) (pm cd doc:Value) (a:Addr) (vs:List Value) (ns:List Int),
   Ground q loose [] XP w s₀ mg mb af.heap->YP w af.heap->
   af.heap.get? fa=some o->o.data=.func (docDef d.name d.params d.body d.scope pm cd doc)->af.heap.CodeRec cd d.name->mg d.name=some (.ref fa)->
   af.heap.get? a=some { cls:=.type "list",data:=.seq vs.toArray }->IntsAre vs ns->ns.length<=n->af.gens = #[]->
   codeAny (model l.prog w) callerA (.call (.ref fa) ⟨[.ref a],[]⟩) (λ r s'=>r=.ok (.ret (.bool true))/\OldK af.heap s'.heap/\s'.os=af.os/\AllBare s'.gens) af) :
  WalkO q loose XP YP l.row.toRowW d [] (λ f vs=>PySem.call f vs):=by
 intro w s₀ af mg mb G Y fa o pm cd doc dV kV ho hd hcd hD hmg hg args vals as hpre hlay hrd hwl hlo;obtain rfl:dV=.none:=Dflts.none hD hdf;obtain rfl:kV=.none:=Dflts.noKw hD;obtain⟨a,vs,ns,rfl,rfl,hobj,hints,hlen⟩:=FM hn hpre hwl;refine enter_call (codeAny_mono (call w s₀ af mg mb fa o pm cd doc a vs ns G Y ho (fd_plain hd) hcd hmg hobj hints hlen hg) λ r s' hq=>?_);obtain⟨rfl,h2,h3,h4⟩:=hq;exact⟨.inl ⟨.bool true,.bool true,[],rfl,λ _=>rfl,.bool true,FT l _,λ _=>⟨List.Pairwise.nil,λ _ hm=>(nomatch hm)⟩⟩,h2,h3,h4⟩
section
variable {prog:Program}{A:Around}{E:Value->Shared->Prop}{s:Shared}{K:Frag}
end
end Att
namespace L2
open PySem PySem.Spec PyProof.Rows
theorem uU:∀ {vs:List Value}{ns:List Int},IntsAre vs ns->bL (ns.map V.int) vs
 | _,_,.nil=>.nil
 | _,_,.cons n t h=>.cons ⟨t,rfl⟩ (uU h)
def m9 (s:Stmt):Arguments:=match s with
 | .FunctionDef _ a _ _ _ _ _ _ _ _=>a
 | _=>{ posonlyargs:=[],args:=[],vararg:=none,kwonlyargs:=[],kw_defaults:=[],kwarg:=none,defaults:=[] }
def fB (s:Stmt):List Stmt:=match s with
 | .FunctionDef _ _ b _ _ _ _ _ _ _=>b
 | _=>[]
def aM (s:Stmt):Scope:=match s with
 | .FunctionDef _ _ _ _ _ _ sc _ _ _=>sc
 | _=>{ kind:=.function,names:=[],isGenerator:=false,isCoroutine:=false }
abbrev mG:DE:=λ _ _ _ _ _ _=>False
abbrev E0:XK:=λ _ _ _=>False
theorem RL {X:Cx}:lR mG X E0:=λ _ _ _ _ _ _ _ h=>h.elim
structure Fun (K:aab) (x qual:Str) (st:Stmt) (f:Addr) (fd:FuncData):Prop where
 ex:∃ (oc:Value) (od:Option Addr) (kV doc pm:Value) (an:Option Addr) (cdv ct:Value) (osl:Array (Option Value)),
  fd=PySem.W.fnOf x qual (m9 st) (fB st) (aM st) .none kV doc pm an cdv ct/\K.lookup f=some ⟨oc,od,.func fd,osl⟩/\PySem.W.codeIn K cdv qual=true
 kp:PySem.W.keepIn K (.ref f)=true
theorem Fun.ok {x qual:Str}{st:Stmt}{f:Addr}{fd:FuncData}{N ps:List Str}{k:Nat}{sp:Sp} (F:Fun K x qual st f fd) (S:FnScope N ps (aM st)) (len:∀ vs H Q E,sp vs H Q E->vs.length=ps.length)
  (hbody:∀ (cdv:Value) (A:Around) (outer:List Env) (s:Shared) (H:Hp) (vs:List V) (Q:VK) (E:XK),Room k (A.deeper (envOfC qual (aM st) s.heap.objs.size f cdv))->sp vs H Q E->
   ∃ t,wG (jD mG P w K mg base N qual (aM st) f cdv A outer s H E).nox (fB st) t/\t { nx:=λ _ H'=>Q .non H',rt:=Q } (start N vs) H):FnOk P w K mg base mG (k+1) f fd ps sp:=by
 obtain⟨oc,od,kV,doc,pm,an,cdv,ct,osl,rfl,lk,hcd⟩:=F.ex;refine KS lk hcd S len λ A outer s H vs Q E hr hsp=>?_;obtain⟨t,h,q⟩:=hbody cdv A outer s H vs Q E hr hsp;exact⟨t,h.nox,q⟩
theorem Fun.binds {x qual:Str}{st:Stmt}{f:Addr}{fd:FuncData}{ps:List Str} (F:Fun K x qual st f fd)
  (h:∀ (kV doc pm:Value) (an:Option Addr) (cdv ct:Value) (us:List Value),us.length=ps.length->bindArgs (PySem.W.fnOf x qual (m9 st) (fB st) (aM st) .none kV doc pm an cdv ct) ⟨us,[]⟩=pure (ps.zip us)):oT K fd ps []:=by
 obtain⟨oc,od,kV,doc,pm,an,cdv,ct,osl,rfl,lk,hcd⟩:=F.ex;exact .all (h kV doc pm an cdv ct)
theorem bT {x qual:Str}{st:Stmt}{f:Addr}{oc:Value}{od an:Option Addr}{osl:Array (Option Value)}{kV doc pm cdv ct:Value} (l:K.lookup f=some ⟨oc,od,.func (PySem.W.fnOf x qual (m9 st) (fB st) (aM st) .none kV doc pm an cdv ct),osl⟩)
  (c:PySem.W.codeIn K cdv qual=true) (k:PySem.W.keepIn K (.ref f)=true):Fun K x qual st f (PySem.W.fnOf x qual (m9 st) (fB st) (aM st) .none kV doc pm an cdv ct):=⟨⟨oc,od,kV,doc,pm,an,cdv,ct,osl,rfl,l,c⟩,k⟩
theorem A6 {A:Around}{k:Nat} (hr:Room k A):A.units+1 < cLine:=Nat.lt_of_le_of_lt (Nat.add_le_add_left (by decide:1<=64) _) hr.units
theorem aW {n:Nat} (h:n<=1000):n < sizeLine:=Nat.lt_of_le_of_lt h (by decide)
section
variable {X:Cx}
theorem pv (i:Nat) {x:Str}{pos:Pos} (hN:X.N[i]? = some x:=by rfl) (hv:S4 X.env.scope x:=by first | exact Or.inl rfl | exact Or.inr (Or.inl rfl) | exact Or.inr (Or.inr rfl)) (hd:(x == ("__debug__" : Str))=false:=by decide)
  (hcd:(x == ("__classdict__" : Str))=false:=by decide):PE X (.Name x pos) (dS i):=J9 hN hv hd hcd
end
theorem eE {A B:Prop} (h:B):if false=true then A else B:=by
 rw[if_neg aar];exact h
theorem fH {A B:Prop} (h:A):if true=true then A else B:=by
 rw[if_pos rfl];exact h
theorem kI {c A B:Prop} [Decidable c] (h1:c->A) (h2:¬ c->B):if c then A else B:=by
 by_cases h:c
 ·rw[if_pos h];exact h1 h
 ·rw[if_neg h];exact h2 h
def aG (H H':Hp):Prop:=∀ b o,H b=some o->H' b=some o
theorem aG.refl (H:Hp):aG H H:=λ _ _ h=>h
theorem aG.trans {H H1 H2:Hp} (a:aG H H1) (b:aG H1 H2):aG H H2:=λ c o h=>b c o (a c o h)
theorem aG.free {H H':Hp} (e:aG H H') {l:Addr} (h:H' l=Option.none):H l=Option.none:=by
 cases q:H l with
 | none=>rfl
 | some o=>
  rw[e l o q] at h;cases h
theorem aG.seq {K:aab}{H H':Hp}{a:Addr}{xs:List V} (e:aG H H') (h:bR K H a xs):bR K H' a xs:=by
 rcases h with (h | ⟨o,h⟩) | h
 ·exact .inl (.inl (e _ _ h))
 ·exact .inl (.inr ⟨o,e _ _ h⟩)
 ·exact .inr h
end L2
set_option maxHeartbeats 4000000
namespace L2
open PySem PySem.Spec PyProof.Rows
theorem gO {env:Env} (hk:env.scope.kind=.function):∀ {names:List (Str×NameKind)}{x:Str},names.lookup x=some .free->env.kindOf x=some .cell->
  (names.map λ (n,k)=>if (k == NameKind.free && env.scope.kind == .function && env.kindOf n == some .cell) then (n,NameKind.cell) else (n,k)).lookup x=some .cell
 | [],_,h,_=>by simp at h
 | (n,k)::r,x,h,hc=>by
  have ih:=@gO env hk r x;show List.lookup x ((if (k == NameKind.free && env.scope.kind == .function && env.kindOf n == some .cell)=true then (n,NameKind.cell) else (n,k))::_)=_;cases hx:x == n with
  | true=>
   simp only [List.lookup_cons,hx] at h;cases h;have e:x=n:=by simpa using hx
   subst e;rw[if_pos (by rw[hk,hc];decide)];simp [List.lookup_cons]
  | false=>
   simp only [List.lookup_cons,hx] at h
   by_cases hq:(k == NameKind.free && env.scope.kind == .function && env.kindOf n == some .cell)=true
   ·rw[if_pos hq];simp only [List.lookup_cons,hx];exact ih h hc
   ·rw[if_neg hq];simp only [List.lookup_cons,hx];exact ih h hc
def LN (env:Env):List (Str×Addr)->Prop
 | []=>True
 | p::r=>env.cells.lookup p.1=some p.2/\LN env r
theorem LN.get {env:Env}:∀ {cl:List (Str×Addr)},LN env cl->∀ x c,cl.lookup x=some c->env.cells.lookup x=some c
 | [],_,_,_,e=>by simp at e
 | (n,a)::r,h,x,c,e=>by
  cases hx:x == n with
  | true=>
   simp only [List.lookup_cons,hx] at e;cases e;have e':x=n:=by simpa using hx
   subst e';exact h.1
  | false=>
   simp only [List.lookup_cons,hx] at e;exact LN.get h.2 x c e
def AT (X:Cx) (scope:Scope) (N':List Str):List (Option Nat)->Nat->Prop
 | [],_=>True
 | none::r,i=>AT X scope N' r (i+1)
 | some j::r,i=>(∃ x,N'[i]? = some x/\X.N[j]? = some x/\scope.names.lookup x=some .free/\X.env.kindOf x=some .cell)/\AT X scope N' r (i+1)
theorem AT.get {X:Cx}{scope:Scope}{N':List Str}:∀ {fr:List (Option Nat)}{k:Nat},AT X scope N' fr k->∀ i j,fr[i]? = some (some j)->
  ∃ x,N'[k+i]? = some x/\X.N[j]? = some x/\scope.names.lookup x=some .free/\X.env.kindOf x=some .cell
 | [],_,_,i,j,e=>by simp at e
 | none::r,k,h,0,j,e=>by simp at e
 | some _::r,k,h,0,j,e=>by simp at e;subst e;exact h.1
 | none::r,k,h,i+1,j,e=>by
  have:=AT.get (k:=k+1) (show AT X scope N' r (k+1) from h) i j (by simpa using e)
  rwa [Nat.add_right_comm] at this
 | some _::r,k,h,i+1,j,e=>by
  have:=AT.get (k:=k+1) h.2 i j (by simpa using e)
  rwa [Nat.add_right_comm] at this
structure LcOk (X:Cx) (scope:Scope) (cl:List (Str×Addr)) (N':List Str) (fr:List (Option Nat)):Prop where
 clos:closureFor scope X.env=pure cl
 cls:LN X.env cl
 kind:scope.kind=.function
 nocell:(scope.names.all λ p=>p.2 != NameKind.cell)=true
 locs:(scope.names.all λ p=>p.2 != NameKind.local || scope.names.lookup p.1 == some NameKind.local)=true
 frees:(scope.names.all λ p=>p.2 != NameKind.free || (cl.lookup p.1).isSome)=true
 len:fr.length=N'.length
 fr:AT X scope N' fr 0
def xW (fr:List (Option Nat)) (σ:St):St:=fr.map λ o=>o.bind λ j=>(σ[j]?).join
def jE (X:Cx) (N':List Str) (scope:Scope) (cl:List (Str×Addr)) (fp:List Addr) (s:Shared) (H:Hp):Cx:=
 { X with N:=N',s₀:=s,H₀:=H,env:=compEnvC scope cl s.heap.objs.size X.env,outer:=X.stack,ex:=fp,fn:=λ _=>false,pn:=[] }
def NJ (X:Cx) (ifs:List Expr) (t:TT):Prop:=
 ∀ (pins:List (Addr×Obj)) (s:Shared) (σ:St) (H:Hp) (Q:Bool->Hp->Prop),Inv X pins σ H s->t σ H Q->
  wpAny (model X.prog X.w) X.A (forIn ifs true λ c r=>if r=true then do let ok <- isTrue c X.env (eval c X.env);pure (ForInStep.yield ok) else pure (ForInStep.yield r)) (TP X pins σ Q) X.xe s
def OK:TT:=λ _ H Q=>Q true H
theorem cG {X:Cx}:NJ X [] OK:=λ _ _ _ H _ I h=>wpAny_tests_nil ⟨H,I,h⟩
theorem xC {X:Cx}{c:Expr}{t:TT} (h:PT X c t):NJ X [c] t:=λ pins s σ H Q I hw=>wpAny_tests_one (h pins s σ H Q I hw)
def iN (J:It) (g:TG) (tc:TT) (te:TE) (fr:List (Option Nat)) (σ:St) (H1:Hp) (Q:Addr->Hp->Prop):Prop:=
 ∀ D,H1 D=none->∃ W:Nat->Nat->List V->St->Hp->Prop,(∃ m,W 0 m [] (xW fr σ) (upd H1 D (.lst [])))/\
  ∀ i m ys Z H',W i m ys Z H'->(J.stop i H'/\Q D H')\/
   (J.go i H'/\∃ N:List V->St->Hp->Prop,(∀ ys' cp H'',N ys' cp H''->∃ m',m' < m/\W (i+1) m' ys' cp H'')/\
    ∀ x H2,J.yld i H' x H2->g x Z H2 λ ag H3=>tc ag H3 λ b H4=>
    if b=true then te ag H4 λ y H5=>H5 D=some (.lst ys)/\ys.length < sizeLine/\N (ys++[y]) ag (upd H5 D (.lst (ys++[y])))
    else N ys ag H4)
theorem nE {J:It}{n:Nat}{g:TG}{tc:TT}{te:TE}{fr:List (Option Nat)}{σ:St}{H1:Hp}{Q:Addr->Hp->Prop} (Pv:Addr->Nat->List V->St->Hp->Prop)
  (h0:∀ D,H1 D=none->Pv D 0 [] (xW fr σ) (upd H1 D (.lst [])))
  (hstop:∀ D ys Z H',Pv D n ys Z H'->J.stop n H'/\Q D H')
  (hgo:∀ D i ys Z H',i < n->Pv D i ys Z H'->J.go i H'/\∀ x H2,J.yld i H' x H2->g x Z H2 λ ag H3=>tc ag H3 λ b H4=>
    if b=true then te ag H4 λ y H5=>H5 D=some (.lst ys)/\ys.length < sizeLine/\Pv D (i+1) (ys++[y]) ag (upd H5 D (.lst (ys++[y])))
    else Pv D (i+1) ys ag H4):iN J g tc te fr σ H1 Q:=by
 intro D hD;refine⟨λ i m ys σ H=>m=n - i/\i<=n/\Pv D i ys σ H,⟨n,by simp,abw _,h0 D hD⟩,?_⟩;rintro i m ys Z H' ⟨rfl,hi,p⟩
 by_cases hlt:i < n
 ·obtain⟨go,step⟩:=hgo D i ys Z H' hlt p;exact .inr ⟨go,Pv D (i+1),λ ys' cp H'' p'=>⟨n - (i+1),by omega,rfl,hlt,p'⟩,step⟩
 ·have e:i=n:=by omega
  subst e;exact .inl (hstop D ys Z H' p)
theorem xY {J:It}{n:Nat}{g:TG}{tb:TS}{D:Ends}{σ:St}{H:Hp} (Pv:Nat->St->Hp->Prop) (h0:Pv 0 σ H) (hstop:∀ σ H,Pv n σ H->J.stop n H/\D.nx σ H)
  (hgo:∀ i σ H,i < n->Pv i σ H->J.go i H/\∀ x H',J.yld i H x H'->g x σ H' λ au H2=>tb { D with nx:=Pv (i+1),ct:=Pv (i+1),bk:=D.nx } au H2) :
  ∃ W:Nat->Nat->St->Hp->Prop,(∃ m,W 0 m σ H)/\∀ i m σ H,W i m σ H->
   (J.stop i H/\D.nx σ H)\/(J.go i H/\∃ N:St->Hp->Prop,(∀ Z H',N Z H'->∃ m',m' < m/\W (i+1) m' Z H')/\∀ x H',J.yld i H x H'->g x σ H' λ au H2=>tb { D with nx:=N,ct:=N,bk:=D.nx } au H2):=by
 refine⟨λ i m σ H=>m=n - i/\i<=n/\Pv i σ H,⟨n,by simp,abw _,h0⟩,?_⟩;rintro i m σ H ⟨rfl,hi,p⟩
 by_cases hlt:i < n
 ·obtain⟨go,step⟩:=hgo i σ H hlt p;exact .inr ⟨go,Pv (i+1),λ Z H' p'=>⟨n - (i+1),by omega,rfl,hlt,p'⟩,step⟩
 ·have e:i=n:=by omega
  subst e;exact .inl (hstop σ H p)
def tLC (wi:TI) (fr:List (Option Nat)) (g:TG) (tc:TT) (te:TE):TE:=λ σ H Q=>wi σ H λ J H1=>iN J g tc te fr σ H1 λ D H'=>Q (.ref D) H'
section
variable {prog:Program}{A:Around}{R:Result->Shared->Prop}{s:Shared}
theorem y4 {elt target iter:Expr}{ifs:List Expr}{scope:Scope}{pos:Pos}{it acc:Value}{env:Env} (I:Nat->Shared->Prop)
  (turn:∀ n s,I n s->wpAny (model prog w) A (pyNext it) (λ r af=>match r with
   | none=>R (.ok .next) af
   | some v=>wpAny (model prog w) A (letOwnedTupleGo target it v) (λ _ cq=>wpAny (model prog w) A (assign target env v) (λ _ be=>
     wpAny (model prog w) A (forIn ifs true λ c r=>if r=true then do let ok <- isTrue c env (eval c env);pure (ForInStep.yield ok) else pure (ForInStep.yield r)) (λ ok bg=>
      if ok=true then wpAny (model prog w) A (eval elt env) (λ x ce=>
       wpAny (model prog w) A (call (.builtin "list.append") [acc,x]) (λ _ cx=>∃ m,m < n/\I m cx) (notedBy (model prog w) A env λ e s'=>R (.error e) s') ce) (notedBy (model prog w) A env λ e s'=>R (.error e) s') bg
      else ∃ m,m < n/\I m bg) (notedBy (model prog w) A env λ e s'=>R (.error e) s') be) (notedBy (model prog w) A env λ e s'=>R (.error e) s') cq) (notedBy (model prog w) A env λ e s'=>R (.error e) s') af)
    (notedBy (model prog w) A env λ e s'=>R (.error e) s') s)
  (n:Nat) (h:I n s) :
  codeAny (model prog w) A (.compLoop (.ListComp elt [⟨target,iter,ifs,0⟩] scope pos) 0 it acc env) R s:=by
 refine codeAny_loop rfl I (λ n s hI=>?_) n h;show wpAny _ A ((compTurn (.ListComp elt [⟨target,iter,ifs,0⟩] scope pos) 0 it acc env).onRaise (λ x=>do noteFrame x env;theTreesLotGoes x)) _ _ s;refine wpAny_noted ?_;rw[compTurn_list];refine aaa (wpAny_standAt (aaa (abl (turn n s hI) (λ r af h₁=>?_) λ _ _ h'=>h')));cases r with
 | none=>exact aaf h₁
 | some v=>
  refine aaa (abl h₁ (λ _ cq df=>?_) λ _ _ h'=>h');refine aaa (abl df (λ _ be aj=>aaa (abl aj (λ ok bg ai=>?_) λ _ _ h'=>h')) λ _ _ h'=>h');cases ok with
  | false=>exact aaf ⟨rfl,ai⟩
  | true=>
   exact aaa (aaa (abl ai (λ x ce am=>aaa (abl am (λ _ cx az=>aaf (aaf ⟨rfl,az⟩)) λ _ _ h'=>h')) λ _ _ h'=>h'))
end
section
variable {X:Cx}
theorem LcOk.invC {scope:Scope}{cl:List (Str×Addr)}{N':List Str}{fr:List (Option Nat)}{pins:List (Addr×Obj)}{σ:St}{H:Hp}{s:Shared}{h1:Heap}{fp:List Addr}{m1:Str->Option Value}{tk:Nat}
  (S:LcOk X scope cl N' fr) (I:Inv X pins σ H s) (hf:∀ b∈fp,kB X pins H b) (hfo:∀ b∈fp,b < s.heap.objs.size)
  (k:∀ b o,s.heap.get? b=some o->h1.get? b=some o) (hn:h1.Ns s.heap.objs.size m1):Inv (jE X N' scope cl fp s H) [] (xW fr σ) H { s with heap:=h1,toks:=tk }:=by
 have hfree:=S.frees;have hcell:=S.nocell;rw[acr] at hfree hcell;have fresh:H s.heap.objs.size=none:=I.hok.fresh (aal _);have clg:=S.cls.get;refine⟨⟨I.ok.mod,S.kind,I.ok.glob,I.ok.blt,aal _,λ x y c e1 e2=>I.ok.inj x y c (clg x c e1) (clg y c e2),λ x hx=>?_,(λ x c e=>nomatch e),I.ok.hd,I.ok.frames,.inl rfl,λ b hb=>⟨abc (hfo b hb),λ x c e=>(hf b hb).2.2.2.2.1 x c (clg x c e)⟩,
  I.bs,acd I.ok.bsz I.sz,λ b o e hb=>?_,λ b hb hz=>?_,I.stack,I.stkFree⟩,rfl,I.bare,Un.kept k,⟨m1,hn,λ i x v e1 e2 e3=>?_⟩,λ x c e=>?_,fresh,λ x c e=>I.freeC x c (clg x c e),λ p hp=>absurd (show p∈([]:List (Addr×Obj)) from hp) (by simp),I.hok.kept k,?_⟩
 ·
  have hm:∃ k',(x,k')∈scope.names/\k'=NameKind.free:=by
   have hx':(relabel scope X.env).names.lookup x=some .cell\/(relabel scope X.env).names.lookup x=some .free:=hx;obtain⟨k',e,hk'⟩:∃ k',(relabel scope X.env).names.lookup x=some k'/\(k'=.cell\/k'=.free):=by
    rcases hx' with e | e
    ·exact⟨_,e,.inl rfl⟩
    ·exact⟨_,e,.inr rfl⟩
   have hmem:=abe e;obtain⟨⟨n,kn⟩,hp,he⟩:=aaz.mp hmem;dsimp only at he
   split at he
   ·rename_i hc
    cases he;have:kn=.free:=by
     simp only [Bool.and_eq_true,beq_iff_eq] at hc;exact hc.1.1
    exact⟨kn,hp,this⟩
   ·cases he;rcases hk' with e' | e'
    ·subst e';have:=hcell _ hp;simp at this
    ·exact⟨_,hp,e'⟩
  obtain⟨k',hp,rfl⟩:=hm;have:=hfree _ hp;simp only [bne_self_eq_false,Bool.false_or] at this;exact Option.isSome_iff_exists.mp this
 ·rcases (hf b hb).2.2.2.1 with z | z
  ·exact I.ok.noex b o e z
  ·have:=aaq e;exact absurd (aax this (acd I.ok.bsz z)) (acn _)
 ·obtain⟨_,f1,f2,_⟩:=hf b hb;rcases aao.mp (I.stkSub b hz) with e | e
  ·exact f1 e
  ·exact f2 e
 ·
  unfold xW at e2;rw[aaj] at e2;cases ef:fr[i]? with
  | none=>rw[ef] at e2;cases e2
  | some o=>
   rw[ef] at e2;cases o with
   | none=>simp at e2
   | some j=>
    have e2':(σ[j]?).join=some v:=by simpa using e2
    obtain⟨x',h1',h2',h3',h4'⟩:=S.fr.get i j ef;rw[Nat.zero_add] at h1';have ex:x'=x:=by
     have:N'[i]? = some x:=e1;rw[h1'] at this;exact abf this
    subst ex;have e2'':σ[j]? = some (some v):=by
     cases q:σ[j]? with
     | none=>rw[q] at e2';cases e2'
     | some z=>rw[q] at e2';simp at e2';rw[e2']
    obtain⟨m,hm,hl⟩:=I.loc;obtain⟨u,r,lk⟩:=hl j x' v h2' e2'' (.inr (.inl h4'));refine⟨u,r,?_⟩;rcases lk with ⟨q,_⟩ | ⟨_,c,hc,z⟩
    ·rw[h4'] at q;cases q
    ·have hcl:∃ c',cl.lookup x'=some c':=by
      have:=hfree _ (abe h3');simp only [bne_self_eq_false,Bool.false_or] at this;exact Option.isSome_iff_exists.mp this
     obtain⟨c',hc'⟩:=hcl;have e':=clg x' c' hc';rw[hc] at e';cases e';obtain⟨oc,hoc,hd⟩:=z;refine .inr ⟨.inl ?_,c,hc',oc,k c oc hoc,hd⟩;exact gO I.ok.kind h3' h4'
 ·obtain⟨v,oc,hoc,hd⟩:=I.cell x c (clg x c e);exact⟨v,oc,k c oc hoc,hd⟩
 ·show (xW fr σ).length=N'.length;unfold xW;rw[aad,S.len]
theorem Inv.outC {scope:Scope}{cl:List (Str×Addr)}{N':List Str}{pins pins':List (Addr×Obj)}{σ Z:St}{H H':Hp}{s s':Shared}{fp:List Addr} (I:Inv X pins σ H s) (J:Inv (jE X N' scope cl fp s H) pins' Z H' s')
  (hf:∀ b∈fp,kB X pins H b):Inv X pins σ H' s':=
 I.call' (ch:=fp) J.os J.base J.hok J.bare λ b hb=>by
  obtain⟨_,f1,_,f3,f4,f5⟩:=hf b hb;exact⟨f3,f1,f4,f5⟩
theorem Inv.letgo {pins:List (Addr×Obj)}{σ:St}{H:Hp}{s:Shared}{C:Addr}{h':Heap} (I:Inv X pins σ H s) (f:kB X pins H C) (hsb:Heap.SameBut C s.heap h'):Inv X pins σ H { s with heap:=h' }:=by
 obtain⟨f0,f1,f2,f3,f4,f5⟩:=f;exact I.turned (t':=s.toks) (it:=C) (h':=h') (λ b o hb e=>(hsb.2 b hb).trans e) f0 f1 f3 f4 f5
theorem A1 {elt tg iter:Expr}{ifs:List Expr}{scope:Scope}{pos:Pos}{N':List Str}{fr:List (Option Nat)}{cl:List (Str×Addr)}{g:TG}{tc:TT}{te:TE}
  {pins:List (Addr×Obj)}{σ:St}{H:Hp}{s:Shared}{J:It}{fp:List Addr}{it:Addr}{tn:Nat->Heap->Prop}{Q:Addr->Hp->Prop}{RR:Value->Addr->Result->Shared->Prop}{E:Value->Shared->Prop}
  (hx:∀ e s,¬ X.xe e s) (hc:X.calm=true) (S:LcOk X scope cl N' fr)
  (hg:∀ fp s H,PG (jE X N' scope cl fp s H) tg g) (ht:∀ fp s H,NJ (jE X N' scope cl fp s H) ifs tc) (he:∀ fp s H,PE (jE X N' scope cl fp s H) elt te)
  (I:Inv X pins σ H s) (T:Turn X.prog X.w X.K tg J fp it tn) (st:tn 0 s.heap) (hf:∀ b∈fp,kB X pins H b) (h:iN J g tc te fr σ H Q)
  (hRR:∀ D C H' s' m',Inv X pins σ H' s'->Q D H'->s'.heap.Ns C m'->kB X pins H' C->RR (.ref D) C (.ok .next) s') :
  wpAny (model X.prog X.w) X.A (newList []) (λ acc bg=>wpAny (model X.prog X.w) X.A (newFunctionEnv scope X.env.globals cl [] X.env.qual none .none (some X.env)) (λ cenv ce=>
   codeAny (model X.prog X.w) X.A (.compStart (.ListComp elt [⟨tg,iter,ifs,0⟩] scope pos) 0 (.ref it) acc { cenv with scope:=relabel scope X.env }) (RR acc cenv.locals) ce) E bg) E s:=by
 have hcell:=S.nocell;rw[acr] at hcell;refine wpAny_newObj_type (wpAny_newFunctionEnv (λ x hx'=>by simpa using hcell x hx') (by intro y hy;simp at hy) (λ h₁ bx bz=>?_) S.kind);dsimp only at bx bz ⊢;have fresh:H s.heap.objs.size=none:=I.hok.fresh (aal _);have I3:Inv X pins σ (upd H s.heap.objs.size (.lst [])) { s with heap:=s.heap.push { cls:=.type "list",data:=.seq ([]:List Value).toArray },toks:=s.toks }:=I.lnew (ys:=[]) (its:=[]) .nil (abw _);have hf3:∀ b∈fp,kB X pins (upd H s.heap.objs.size (.lst [])) b:=λ b hb=>by
  obtain⟨o,ho,_⟩:=T.obj _ _ st b hb;exact⟨by rw[aI (abc (aaq ho))];exact (hf b hb).1,(hf b hb).2⟩
 generalize hs3:({ s with heap:=s.heap.push { cls:=.type "list",data:=.seq ([]:List Value).toArray },toks:=s.toks }:Shared)=s3 at I3;have e3:s3.heap=s.heap.push { cls:=.type "list",dict:=none,data:=.seq ([]:List Value).toArray }:=by rw[<- hs3]
 have e3s:({ s with heap:=s.heap.push { cls:=.type "list",dict:=none,data:=.seq ([]:List Value).toArray } }:Shared)=s3:=hs3;have hsz3:s3.heap.objs.size=s.heap.objs.size+1:=by rw[e3,aci]
 have hfo:∀ b∈fp,b < s3.heap.objs.size:=λ b hb=>by
  obtain⟨o,ho,_⟩:=T.obj _ _ st b hb;rw[hsz3];exact Nat.lt_succ_of_lt (aaq ho)
 rw[<- e3] at bx bz ⊢;have old3:∀ b o,s3.heap.get? b=some o->h₁.get? b=some o:=λ b o e=>bz.extBut b o (abc (aaq e)) (aac _ e);have old:∀ b o,s.heap.get? b=some o->s3.heap.get? b=some o:=λ b o e=>by rw[e3];exact aac _ e
 have I4:=S.invC (tk:=s3.toks) I3 hf3 hfo old3 bx;obtain⟨W,⟨m0,w0⟩,turn⟩:=h s.heap.objs.size fresh;have stat:∀ {H':Hp},(∀ b∈fp,H' b=none)->∀ b∈fp,kB (jE X N' scope cl fp s3 (upd H s.heap.objs.size (.lst []))) [] H' b:=λ hn b hb=>by
  refine⟨hn b hb,abc (hfo b hb),?_,.inl hb,λ x c e=>(hf b hb).2.2.2.2.1 x c (S.cls.get x c e),λ p hp=>absurd (show p∈([]:List (Addr×Obj)) from hp) (by simp)⟩;intro hz;obtain⟨_,f1,f2,_⟩:=hf b hb;rcases aao.mp (I.stkSub b hz) with e | e
  ·exact f1 e
  ·exact f2 e
 have loop:∀ s4:Shared,s4={ s3 with heap:=h₁,toks:=s3.toks }->
   codeAny (model X.prog X.w) X.A (.compLoop (.ListComp elt [⟨tg,iter,ifs,0⟩] scope pos) 0 (.ref it) (.ref s.heap.objs.size) (compEnvC scope cl s3.heap.objs.size X.env)) (RR (.ref s.heap.objs.size) s3.heap.objs.size) s4:=by
  intro s4 hs4;refine y4 (λ n s'=>∃ i ys Z H',Inv (jE X N' scope cl fp s3 (upd H s.heap.objs.size (.lst []))) [] Z H' s'/\tn i s'.heap/\(∀ b∈fp,H' b=none)/\W i n ys Z H') ?_ m0
   ⟨0,[],xW fr σ,_,by rw[hs4];exact I4,by rw[hs4];exact T.keep _ _ _ st λ b _ o e=>old3 b o (old b o e),λ b hb=>(hf3 b hb).1,w0⟩
  rintro n s5 ⟨i,ys,cn,H5,I5,st5,fr5,w5⟩;rcases turn i n ys cn H5 w5 with ⟨stop,qn⟩ | ⟨go,N,hN,step⟩
  ·refine cK (T.done (jE X N' scope cl fp s3 (upd H s.heap.objs.size (.lst []))) rfl rfl rfl hc i [] s5 cn H5 _ I5 (stat fr5) st5 stop) λ r s6 ⟨hr,I6⟩=>?_;subst hr;obtain⟨m',hm',_⟩:=I6.loc;exact hRR _ _ H5 s6 m' (I3.outC I6 hf3) qn hm' (I3.fpOk (aal _) I6.free)
  ·refine cK (T.item (jE X N' scope cl fp s3 (upd H s.heap.objs.size (.lst []))) rfl rfl rfl hc i [] s5 cn H5 _ I5 (stat fr5) st5 go) λ r s6 ⟨u,hr,h6⟩=>?_;subst hr;refine cK h6 λ _ s7 ⟨x,H7,I7,r7,y7,st7,fr7⟩=>?_;have I7':=I7.pinned (stat fr7) (T.obj _ _ st7);refine abl (hg fp s3 _ _ s7 cn H7 x u _ I7' r7 (step x H7 y7)) (λ _ s8 ⟨bq,H8,I8,q8⟩=>?_) λ e s' z=>(hx e s' z).elim;refine abl (ht fp s3 _ _ s8 bq H8 _ I8 q8) (λ ok s9 ⟨H9,I9,q9⟩=>?_) λ e s' z=>(hx e s' z).elim;have again:∀ {s10:Shared}{H10:Hp}{ys':List V},Inv (jE X N' scope cl fp s3 (upd H s.heap.objs.size (.lst []))) ([]++pE fp s7.heap) bq H10 s10->N ys' bq H10->
     ∃ m,m < n/\∃ i ys Z H',Inv (jE X N' scope cl fp s3 (upd H s.heap.objs.size (.lst []))) [] Z H' s10/\tn i s10.heap/\(∀ b∈fp,H' b=none)/\W i m ys Z H':=λ {s10 H10 ys'} I10 n10=>by
    obtain⟨m',hm,w10⟩:=hN ys' bq H10 n10;refine⟨m',hm,i+1,ys',bq,H10,I10.unpinned,T.keep _ _ _ st7 λ b hb o e=>(I10.pin (b,o) (abj _ (abj _ (gC hb e)))).1,λ b hb=>?_,w10⟩;obtain⟨o,e,d⟩:=T.obj _ _ st7 b hb;exact (I10.pin (b,o) (abj _ (abj _ (gC hb e)))).2.1
   cases ok with
   | false=>
    rw[if_neg aar] at q9 ⊢;exact again I9 q9
   | true=>
    rw[if_pos rfl] at q9 ⊢;refine abl (he fp s3 _ _ s9 bq H9 _ I9 q9) (λ y s10 ⟨yv,H10,I10,r10,hD,hlen,q10⟩=>?_) λ e s' z=>(hx e s' z).elim;refine abl (cX (X:=jE X N' scope cl fp s3 (upd H s.heap.objs.size (.lst []))) _ s10 bq H10 (.ref s.heap.objs.size) [yv] (.ref s.heap.objs.size) [y] (λ _ H11=>H11=upd H10 s.heap.objs.size (.lst (ys++[yv]))) I10 rfl (.cons r10 .nil)
     ⟨_,ys,yv,rfl,rfl,hD,hlen,rfl⟩) (λ _ s11 ⟨_,H11,I11,_,e11⟩=>?_) λ e s' z=>(hx e s' z).elim
    subst e11;exact again I11 q10
 exact codeAny_compStart_list (loop _ (by rw[<- e3s];rfl)) (T.self X.A 0 _ _ _ (T.keep _ _ _ st λ b _ o e=>old3 b o (old b o e)) (loop _ (by rw[<- e3s];rfl)))
theorem i5 {elt tg iter:Expr}{ifs:List Expr}{scope:Scope}{pos:Pos}{N':List Str}{fr:List (Option Nat)}{cl:List (Str×Addr)}{wi:TI}{g:TG}{tc:TT}{te:TE}
  (hx:∀ e s,¬ X.xe e s) (hc:X.calm=true) (S:LcOk X scope cl N' fr) (hi:PI X tg iter wi)
  (hg:∀ fp s H,PG (jE X N' scope cl fp s H) tg g) (ht:∀ fp s H,NJ (jE X N' scope cl fp s H) ifs tc) (he:∀ fp s H,PE (jE X N' scope cl fp s H) elt te)
  (hs:∀ x,foldedSetIterable iter X.env x=pure x:=by intro _;rfl):PE X (.ListComp elt [⟨tg,iter,ifs,0⟩] scope pos) (tLC wi fr g tc te):=by
 intro pins s σ H Q I h;have hloc:=S.locs;rw[acr] at hloc;rw[eval_ListComp];refine wpAny_comprehension_free (use:=none) rfl hs S.clos S.kind (λ x hx' hl=>by have:=hloc x hx';rw[hl] at this;simpa using this) (cK (hi pins s σ H _ I h) λ v s1 h1=>cK h1 λ itv s2 h2=>?_);obtain⟨it,fp,tn,J,H2,e,I2,T,st2,f2,rest⟩:=h2;subst e;refine A1 (RR:=λ acc C=>compPost (model X.prog X.w) X.A X.xe none (EP X pins σ Q) acc C) hx hc S hg ht he I2 T st2 f2 rest ?_;intro D C H' s' m' I' q hn f;exact⟨m',hn,λ h' hsb=>⟨.ref D,H',I'.letgo f hsb,rfl,q⟩⟩
theorem fJ {i:Nat}{y:Str}{py:Pos}{spos:Pos}{elt tg iter:Expr}{ifs:List Expr}{scope:Scope}{pos:Pos}{N':List Str}{fr:List (Option Nat)}{cl:List (Str×Addr)}{wi:TI}{g:TG}{tc:TT}{te:TE}
  (hN:X.N.Nodup) (hy:X.N[i]? = some y) (hk:X.env.scope.names.lookup y=some .local)
  (hx:∀ e s,¬ X.xe e s) (hc:X.calm=true) (S:LcOk X scope cl N' fr) (hi:PI X tg iter wi)
  (hg:∀ fp s H,PG (jE X N' scope cl fp s H) tg g) (ht:∀ fp s H,NJ (jE X N' scope cl fp s H) ifs tc) (he:∀ fp s H,PE (jE X N' scope cl fp s H) elt te)
  (hsw:swapsWith (.ListComp elt [⟨tg,iter,ifs,0⟩] scope pos) (some (.Name y py)) spos.line X.env=pure true:=by rfl)
  (hs:∀ x,foldedSetIterable iter X.env x=pure x:=by intro _;rfl):PS X (.Assign [.Name y py] (.ListComp elt [⟨tg,iter,ifs,0⟩] scope pos) spos) (nR (tLC wi fr g tc te) (gP i)):=by
 intro pins s σ H D I h;have hloc:=S.locs;rw[acr] at hloc;rw[exec_Assign_Name_used _ _ _ _ hsw];refine aaa (wpAny_standAt (aaa ?_));show wpAny _ X.A (do let _ <- comprehension (.ListComp elt [⟨tg,iter,ifs,0⟩] scope pos) scope X.env _ (newList []) false (eval iter X.env) (some (assign (.Name y py) X.env))) _ _ s;refine aaa (abl (wpAny_comprehension_free (use:=some (assign (.Name y py) X.env)) (Q:=λ _ s'=>SP X pins D .next s') rfl hs S.clos S.kind (λ x hx' hl=>by have:=hloc x hx';rw[hl] at this;simpa using this)
  (cK (hi pins s σ H _ I h) λ v s1 h1=>cK h1 λ itv s2 h2=>?_)) (λ _ s' hq=>aaf (aaf hq)) λ _ _ e=>e)
 obtain⟨it,fp,tn,J,H2,e,I2,T,st2,f2,rest⟩:=h2;subst e;refine A1 (RR:=λ acc C=>compPost (model X.prog X.w) X.A X.xe (some (assign (.Name y py) X.env)) (λ _ s'=>SP X pins D .next s') acc C) hx hc S hg ht he I2 T st2 f2 rest ?_;intro Da C H' s' m' I' q hn f;show wpAny _ X.A (assign (.Name y py) X.env (.ref Da)) _ _ _;refine wpAny_assign_Name (vA I' hN hy (.inl hk) (v:=.ref Da) rfl (λ s'' I'' hch=>?_) (.inr hk));obtain⟨a,hsb,ha⟩:=hch;have haC:a≠C:=by
  rcases ha with e | e
  ·rw[e];exact Ne.symm f.2.1
  ·exact f.2.2.2.2.1 _ _ e
 exact⟨m',hn.sameBut hsb (Ne.symm haC),λ h' hs'=>⟨_,H',I''.letgo f hs',q⟩⟩
end
end L2
namespace TwZ
open PySem
open Sem (wp)
def dJ (h:Heap) (t:Bool) (it a:Addr) (i:Nat):Prop:=if t=true then h.IsTupleIter it a i else h.IsListIter it a i
def bW (h:Heap) (t:Bool) (a:Addr) (items:Array Value):Prop:=if t=true then h.IsTuple a items else h.IsList a items
theorem dJ.at {h h':Heap}{t:Bool}{it a:Addr}{i:Nat} (x:dJ h t it a i) (k:∀ o,h.get? it=some o->h'.get? it=some o):dJ h' t it a i:=by
 cases t <;> (obtain⟨o,ho,r⟩:=x;exact⟨o,k o ho,r⟩)
theorem ex {h h':Heap}{b c:Addr}{o:Obj} (hs:Heap.SameBut b h h') (hc:@Ne Nat c b) (e:h.get? c=some o):h'.get? c=some o:=hs.extBut _ _ hc e
theorem dJ.ext {h h':Heap}{t:Bool}{it a b:Addr}{i:Nat} (x:dJ h t it a i) (hs:Heap.SameBut b h h') (hab:@Ne Nat it b):dJ h' t it a i:=x.at λ o e=>hs.extBut _ _ hab e
theorem bW.at {h h':Heap}{t:Bool}{a:Addr}{xs:Array Value} (x:bW h t a xs) (k:∀ o,h.get? a=some o->h'.get? a=some o):bW h' t a xs:=by
 cases t <;> (obtain⟨o,ho,r⟩:=x;exact⟨o,k o ho,r⟩)
theorem bW.ext {h h':Heap}{t:Bool}{a b:Addr}{xs:Array Value} (x:bW h t a xs) (hs:Heap.SameBut b h h') (hab:@Ne Nat a b):bW h' t a xs:=x.at λ o e=>hs.extBut _ _ hab e
theorem bW.lt {h:Heap}{t:Bool}{a:Addr}{xs:Array Value} (x:bW h t a xs):a < h.objs.size:=by
 cases t <;> (obtain⟨o,ho,r⟩:=x;exact aaq ho)
theorem dJ.obj {h:Heap}{t:Bool}{it a:Addr}{i:Nat} (x:dJ h t it a i):∃ o,h.get? it=some o/\∀ v,o.data≠.cell v:=by
 cases t <;> (obtain⟨o,ho,_,d⟩:=x;exact⟨o,ho,λ v z=>by rw[d] at z;cases z⟩)
section
variable {prog:Program}{M:Model}{A:Around}{E:Value->Shared->Prop}{s:Shared}
theorem pU {a:Addr}{Q:Option Obj->Shared->Prop} (h:Q (s.heap.get? a) s):wpAny M A (loadIfAlive a) Q E s:=λ Γ p _=>by
 unfold loadIfAlive;rw[Sem.wp_loadIfAlive];exact h
theorem oD {it l:Addr}{i:Nat}{items}{x:Value}{Q:Value->Shared->Prop} (hit:s.heap.IsTupleIter it l i)
  (hl:s.heap.IsTuple l items) (hx:items[i]? = some x)
  (hQ:∀ h',h'.IsTupleIter it l (i+1)->Heap.SameBut it s.heap h'->Q x { s with heap:=h' }) :
  wpAny (model prog w) A (Builtin.SmallTypes.nextOf (.ref it)) Q E s:=by
 obtain⟨o,ho,hc,hd⟩:=id hit;obtain⟨ol,hol,_,nl,hdl⟩:=hl;unfold Builtin.SmallTypes.nextOf;refine aaa (wpAny_callSpecial?_slot (name:=Str.ofString "__next__") hit.typeIs F.slot_tuple_iterator_next
  (wpAny_call_entry F.slot_tuple_iterator_next hit.typeIs F.entry_tuple_iterator_next ?_ (F.args_tuple_iterator_next_1 _)))
 show wpAny _ _ (field (.ref it) 0 >>= _) _ _ s;refine aaa (abv ho hd (x:=.ref l) rfl ?_);show wpAny _ _ (if (Value.ref l == Value.none)=true then _ else _) _ _ s;rw[if_neg (show ¬ ((Value.ref l == Value.none)=true) from aar)];show wpAny _ _ (field (.ref it) 1 >>= _) _ _ s;refine aaa (abv ho hd (x:=.int i 0) rfl ?_);show wpAny _ _ (seqItems? (.ref l) >>= _) _ _ s;refine aaa (wpAny_seqItems hol hdl ?_);simp only [abu,hx];refine aaa (wpAny_setField ho hd (by simp) (aaf ⟨x,rfl,aaf (hQ _ ?_ (Heap.SameBut.update ..))⟩));exact⟨_,acw _ ho (Obj.isFreed_of_fields (Obj.data_mapFields hd _)),(Obj.cls_mapFields ..).trans hc,by
  rw[Obj.data_mapFields hd];simp [rawInt]⟩
theorem pI {it l:Addr}{i:Nat}{items}{Q:Value->Shared->Prop} (hh:A.handled=none)
  (hit:s.heap.IsTupleIter it l i) (hl:s.heap.IsTuple l items) (hx:items[i]? = none)
  (hE:∀ h' e,Heap.ExtBut it s.heap h'->(∃ o,h'.get? e=some o/\o.cls=.type "StopIteration")->E (.ref e) { s with heap:=h' }) :
  wpAny (model prog w) A (Builtin.SmallTypes.nextOf (.ref it)) Q E s:=by
 obtain⟨o,ho,hc,hd⟩:=id hit;obtain⟨ol,hol,_,nl,hdl⟩:=hl;unfold Builtin.SmallTypes.nextOf;refine aaa (wpAny_callSpecial?_slot (name:=Str.ofString "__next__") hit.typeIs F.slot_tuple_iterator_next
  (wpAny_call_entry F.slot_tuple_iterator_next hit.typeIs F.entry_tuple_iterator_next ?_ (F.args_tuple_iterator_next_1 _)))
 show wpAny _ _ (field (.ref it) 0 >>= _) _ _ s;refine aaa (abv ho hd (x:=.ref l) rfl ?_);show wpAny _ _ (if (Value.ref l == Value.none)=true then _ else _) _ _ s;rw[if_neg (show ¬ ((Value.ref l == Value.none)=true) from aar)];show wpAny _ _ (field (.ref it) 1 >>= _) _ _ s;refine aaa (abv ho hd (x:=.int i 0) rfl ?_);show wpAny _ _ (seqItems? (.ref l) >>= _) _ _ s;refine aaa (wpAny_seqItems hol hdl ?_);simp only [abu,hx];refine aaa (acz (aaa (wpAny_setField ho hd (by simp) ?_)));show wpAny _ _ (newExc (.type "StopIteration") [] >>= _) _ _ _;refine aaa ?_;simp only [newExc,newTuple];refine aaa (wpAny_newObj_type ?_ (by size_fits));refine aaa (m:=firstArgMember _ _) (wpAny_of_eq (a:=Value.none) (by first | rfl | (simp only [firstArgMember];rfl)) ?_);refine wpAny_newObj_type ?_ (by size_fits);simp only [raiseNew];refine aaa (wpAny_handled ?_)
 first | rw[show A.in1.handled=none from hh] | rw[hh]
 refine aaa (aaf (wpAny_throw ?_));exact hE _ _ (((Heap.SameBut.update ..).extBut.push _).push _) ⟨_,aak _ rfl,rfl⟩
theorem bG {t:Bool}{it l:Addr}{i:Nat}{items}{x:Value}{Q:Value->Shared->Prop} (hit:dJ s.heap t it l i)
  (hl:bW s.heap t l items) (hx:items[i]? = some x)
  (hQ:∀ h',dJ h' t it l (i+1)->Heap.SameBut it s.heap h'->Q x { s with heap:=h' }) :
  wpAny (model prog w) A (Builtin.SmallTypes.nextOf (.ref it)) Q E s:=by
 cases t with
 | true=>exact oD hit hl hx hQ
 | false=>exact wpAny_nextOf_list_item hit hl hx hQ
theorem d6 {t:Bool}{it l:Addr}{i:Nat}{items}{Q:Value->Shared->Prop} (hh:A.handled=none)
  (hit:dJ s.heap t it l i) (hl:bW s.heap t l items) (hx:items[i]? = none)
  (hE:∀ h' e,Heap.ExtBut it s.heap h'->(∃ o,h'.get? e=some o/\o.cls=.type "StopIteration")->E (.ref e) { s with heap:=h' }) :
  wpAny (model prog w) A (Builtin.SmallTypes.nextOf (.ref it)) Q E s:=by
 cases t with
 | true=>exact pI hh hit hl hx hE
 | false=>exact wpAny_nextOf_list_end hh hit hl hx hE
abbrev nM (h:Heap) (z TI TO:Addr) (f0:Value) (f1:Bool):Prop:=
 h.get? z=some { cls:=.type "zip",dict:=none,data:=.fields #[f0,.bool f1,.bool false,.ref TI,.ref TO],slots:=#[] }
abbrev dG (h:Heap) (T:Addr) (vs:Array Value):Prop:=h.get? T=some { cls:=.type "tuple",data:=.seq vs }
def gN (f0:Value):Prop:=f0=.none\/∃ a:Int,f0=.int a 0
theorem jX {z TI TO:Addr}{f0:Value}{f1:Bool}{Q:Bool->Shared->Prop} (hz:nM s.heap z TI TO f0 f1) (hf:gN f0) (yes:Q true s)
  (no:∀ h',nM h' z TI TO f0 true->Heap.SameBut z s.heap h'->Q false { s with heap:=h' }):wpAny (model prog w) A (Builtin.SmallTypes.ownedTupleIsFree (.ref z)) Q E s:=by
 unfold Builtin.SmallTypes.ownedTupleIsFree;refine aaa (abv hz rfl (x:=f0) rfl ?_);rcases hf with rfl | ⟨a,rfl⟩
 ·exact aaf yes
 ·refine aaa (pU ?_);cases h:s.heap.get? a.toNat with
  | none=>exact aaf yes
  | some o=>
   show wpAny _ _ (field (.ref z) 1 >>= _) _ _ _;refine aaa (abv hz rfl (x:=.bool f1) rfl ?_);cases f1 with
   | true=>exact aaf (no s.heap hz (Heap.SameBut.refl ..))
   | false=>
    show wpAny _ _ (setField (.ref z) 1 (.bool true) >>= _) _ _ _;refine aaa (wpAny_setField_rec hz (by simp) λ h₁ ak ac=>aaf (no h₁ ak ac))
theorem E7 {z TI TO:Addr}{f0:Value}{f1:Bool}{T:Addr}{Q:Unit->Shared->Prop} (hz:nM s.heap z TI TO f0 f1)
  (h:∀ h',nM h' z TI TO (rawInt T) false->Heap.SameBut z s.heap h'->Q () { s with heap:=h' }):wpAny (model prog w) A (Builtin.SmallTypes.ownedTupleHandOut (.ref z) (.ref T)) Q E s:=by
 unfold Builtin.SmallTypes.ownedTupleHandOut;refine aaa (wpAny_setField_rec hz (by simp) λ h₁ ak ac=>?_);replace ak:nM h₁ z TI TO (rawInt T) f1:=ak;refine wpAny_setField_rec ak (by simp) λ aj cg ad=>?_;exact h aj cg (Heap.SameBut.trans ac ad)
theorem iF {T:Addr}{vs:Array Value}{x:Value}{k:Nat}{Q:Unit->Shared->Prop} (hT:dG s.heap T vs) (h3:vs.size<=3)
  (h:∀ h',dG h' T (vs.setIfInBounds k x)->Heap.SameBut T s.heap h'->Q () { s with heap:=h' }):wpAny (model prog w) A (updateSeq T (·.setIfInBounds k x)) Q E s:=by
 have hl:vs.size<=sizeLine:=acd h3 (by decide);refine wpAny_updateSeq (hz:=hl) (_hz':=by rw[Array.size_setIfInBounds];omega) hT rfl (h _ ?_ (Heap.SameBut.update ..));show Heap.get? _ _=_;rw[acw _ hT rfl];simp [Obj.mapSeq]
theorem nn {n i j:Nat} (h:i≠j):n+i≠n+j:=λ e=>h (Nat.add_left_cancel e)
theorem n0 {n j:Nat} (h:0 < j):n≠n+j:=λ e=>absurd e (abc (Nat.lt_add_of_pos_right h))
theorem n0' {n j:Nat} (h:0 < j):n+j≠n:=Ne.symm (n0 h)
theorem al {a n:Nat} (h:a < n) (j:Nat):a≠n+j:=abc (aax h (Nat.le_add_right n j))
theorem al0 {a n:Nat} (h:a < n):a≠n:=abc h
theorem co {c n m k:Nat} (h:c < n\/n+m < c) (hk:k<=m):c≠n+k:=λ e=>h.elim (λ h=>absurd e (al h k)) λ h=>absurd (Nat.lt_of_le_of_lt (Nat.add_le_add_left hk n) h) (by rw[e];exact acn _)
theorem co0 {c n m:Nat} (h:c < n\/n+m < c):c≠n:=co (k:=0) h (abw m)
theorem aR {a b:Nat} (h:@Ne Nat a b:=by first | exact nn (by decide) | exact n0 (by decide) | exact n0' (by decide) | exact al l1 _ | exact al l2 _ | exact al l3 _ | exact al0 l1 | exact al0 l2 | exact al0 l3 | exact co hc (by decide) | exact co0 hc | omega):@Ne Nat a b:=h
theorem ET {n a1 a2 a3:Nat}{t1 t2 t3:Bool}{k:Nat}{xs ys zs:Array Value}{x y z c1 c2 c3 f0:Value}{f1:Bool}{Q:Value->Shared->Prop} (hf:gN f0)
  (hz:nM s.heap (n+5) (n+3) (n+4) f0 f1) (hTI:dG s.heap (n+3) #[.ref n,.ref (n+1),.ref (n+2)]) (hTO:dG s.heap (n+4) #[c1,c2,c3])
  (i1:dJ s.heap t1 n a1 k) (i2:dJ s.heap t2 (n+1) a2 k) (i3:dJ s.heap t3 (n+2) a3 k) (s1:bW s.heap t1 a1 xs) (s2:bW s.heap t2 a2 ys) (s3:bW s.heap t3 a3 zs)
  (l1:a1 < n) (l2:a2 < n) (l3:a3 < n) (hx:xs[k]? = some x) (hy:ys[k]? = some y) (hw:zs[k]? = some z)
  (hQ:∀ (T:Nat) h' f0' f1' d1 d2 d3,s.heap.objs.size<=T->gN f0'->nM h' (n+5) (n+3) (n+4) f0' f1'->dG h' (n+3) #[.ref n,.ref (n+1),.ref (n+2)]->dG h' (n+4) #[d1,d2,d3]->
   dJ h' t1 n a1 (k+1)->dJ h' t2 (n+1) a2 (k+1)->dJ h' t3 (n+2) a3 (k+1)->dG h' T #[x,y,z]->
   (∀ (c:Nat) o,(c < n\/n+5 < c)->s.heap.get? c=some o->h'.get? c=some o)->Q (.ref T) { s with heap:=h' }) :
  wpAny (model prog w) A (Builtin.«zip.__next__» ⟨[.ref (n+5)],[]⟩) (λ fin s'=>∃ v,fin=.done (.ret v)/\Q v s') E s:=by
 have hzlt:n+5 < s.heap.objs.size:=aaq hz;show wpAny _ _ (field (.ref (n+5)) 2 >>= _) _ _ _;refine aaa (abv hz rfl (x:=.bool false) rfl ?_);show wpAny _ _ (field (.ref (n+5)) 3 >>= _) _ _ _;refine aaa (abv hz rfl (x:=.ref (n+3)) rfl ?_);refine aaa (wpAny_seqItems hTI rfl ?_);show wpAny _ _ (Builtin.SmallTypes.ownedTupleIsFree (.ref (n+5)) >>= _) _ _ _;refine aaa (jX hz hf ?_ ?_)
 ·simp only [if_true];refine aaa (acz ?_);refine aaa (abv hz rfl (x:=.ref (n+4)) rfl ?_);refine aaa (wpAny_setField_rec hz (by simp) λ h₁ ak ac=>?_);replace ak:nM h₁ (n+5) (n+3) (n+4) .ellipsis f1:=ak;refine aaa ?_;simp only [List.zipIdx_cons,List.zipIdx_nil,List.forIn_cons,List.forIn_nil];refine aaa (aaa (wpAny_onRaise ?_));show wpAny _ _ (Builtin.SmallTypes.nextOf (.ref n) >>= _) _ _ _;refine aaa (bG (i1.ext ac aR) (s1.ext ac aR) hx λ aj bi ad=>aaf ?_);have bf:dG aj (n+4) #[c1,c2,c3]:=ex ad aR (ex ac aR hTO);refine aaa (wpAny_seqItems bf rfl ?_);refine aaa (iF bf (by simp) λ ai bb ae=>?_);replace bb:dG ai (n+4) #[x,c2,c3]:=bb;refine aaa (wpAny_letGo (aaf ?_));refine aaa (aaa (wpAny_onRaise ?_));show wpAny _ _ (Builtin.SmallTypes.nextOf (.ref (n+1)) >>= _) _ _ _;refine aaa (bG (((i2.ext ac aR).ext ad aR).ext ae aR) (((s2.ext ac aR).ext ad aR).ext ae aR) hy λ am cm ah=>aaf ?_);have bu:dG am (n+4) #[x,c2,c3]:=ex ah aR bb;refine aaa (wpAny_seqItems bu rfl ?_);refine aaa (iF bu (by simp) λ az cr ao=>?_);replace cr:dG az (n+4) #[x,y,c3]:=cr;refine aaa (wpAny_letGo (aaf ?_));refine aaa (aaa (wpAny_onRaise ?_));show wpAny _ _ (Builtin.SmallTypes.nextOf (.ref (n+2)) >>= _) _ _ _;refine aaa (bG (((((i3.ext ac aR).ext ad aR).ext ae aR).ext ah aR).ext ao aR)
   (((((s3.ext ac aR).ext ad aR).ext ae aR).ext ah aR).ext ao aR) hw λ cb i3₆ ba=>aaf ?_)
  have fb:dG cb (n+4) #[x,y,c3]:=ex ba aR cr;refine aaa (wpAny_seqItems fb rfl ?_);refine aaa (iF fb (by simp) λ aq bj bc=>?_);replace bj:dG aq (n+4) #[x,y,z]:=bj;refine aaa (wpAny_letGo (aaf (aaf ?_)));refine aaa (wpAny_seqItems bj rfl ?_);refine aaa (wpAny_newTuple ?_);have hsz:aq.objs.size=s.heap.objs.size:=by rw[bc.1,ba.1,ao.1,ah.1,ae.1,ad.1,ac.1]
  have keep:∀ (c:Nat) o,(c < n\/n+5 < c)->s.heap.get? c=some o->aq.get? c=some o:=λ c o hc e=>
   ex bc aR (ex ba aR (ex ao aR (ex ah aR (ex ae aR (ex ad aR (ex ac aR e))))))
  have dh:nM aq (n+5) (n+3) (n+4) .ellipsis f1:=ex bc aR (ex ba aR (ex ao aR (ex ah aR (ex ae aR (ex ad aR ak)))));have cz:dG aq (n+3) #[.ref n,.ref (n+1),.ref (n+2)]:=ex bc aR (ex ba aR (ex ao aR (ex ah aR (ex ae aR (ex ad aR (ex ac aR hTI))))));have di:=((((bi.ext ae aR).ext ah aR).ext ao aR).ext ba aR).ext bc aR;have dj:=((cm.ext ao aR).ext ba aR).ext bc aR;have i3₇:=i3₆.ext bc aR;have fk:n+5 < aq.objs.size:=by rw[hsz];exact hzlt
  have up:∀ {c o},aq.get? c=some o->(aq.push { cls:=.type "tuple",data:=.seq #[x,y,z] }).get? c=some o:=λ e=>aac _ e;refine aaa (E7 (z:=n+5) (TI:=n+3) (TO:=n+4) (f0:=.ellipsis) (f1:=f1) (up dh) λ db dn cu=>?_);have up8:∀ {c:Nat}{o},c≠n+5->aq.get? c=some o->db.get? c=some o:=λ hc e=>ex cu hc (up e);refine aaf ⟨_,rfl,hQ aq.objs.size db (rawInt aq.objs.size) false x y z (by rw[hsz];exact aal _) (.inr ⟨_,rfl⟩) dn (up8 aR cz) (up8 aR bj) (di.at λ o e=>up8 aR e) (dj.at λ o e=>up8 aR e) (i3₇.at λ o e=>up8 aR e)
   (ex cu aR (aak _ rfl)) λ c o hc e=>up8 aR (keep c o hc e)⟩
 ·intro h₁ ak ac;simp only [Bool.false_eq_true,if_false];refine aaa ?_;rw[<- Array.forIn_toList];simp only [List.forIn_cons,List.forIn_nil];refine aaa (aaa (abq ?_));show wpAny _ _ (Builtin.SmallTypes.nextOf (.ref n) >>= _) _ _ _;refine aaa (bG (i1.ext ac aR) (s1.ext ac aR) hx λ aj bi ad=>aaf (aaf ?_));refine aaa (aaa (abq ?_));show wpAny _ _ (Builtin.SmallTypes.nextOf (.ref (n+1)) >>= _) _ _ _;refine aaa (bG ((i2.ext ac aR).ext ad aR) ((s2.ext ac aR).ext ad aR) hy λ ai fg ae=>aaf (aaf ?_));refine aaa (aaa (abq ?_));show wpAny _ _ (Builtin.SmallTypes.nextOf (.ref (n+2)) >>= _) _ _ _;refine aaa (bG (((i3.ext ac aR).ext ad aR).ext ae aR) (((s3.ext ac aR).ext ad aR).ext ae aR) hw λ am i3₄ ah=>aaf (aaf (aaf ?_)));refine aaa (wpAny_newTuple (hsz:=by show 3<=sizeLine;decide) (aaf ⟨_,rfl,?_⟩));have hsz:am.objs.size=s.heap.objs.size:=by rw[ah.1,ae.1,ad.1,ac.1]
  have up:∀ {c o},am.get? c=some o->(am.push { cls:=.type "tuple",data:=.seq #[x,y,z] }).get? c=some o:=λ e=>aac _ e;have keep:∀ (c:Nat) o,(c < n\/n+5 < c)->s.heap.get? c=some o->am.get? c=some o:=λ c o hc e=>ex ah aR (ex ae aR (ex ad aR (ex ac aR e)));refine hQ am.objs.size (am.push { cls:=.type "tuple",data:=.seq #[x,y,z] }) f0 true c1 c2 c3 (by rw[hsz];exact aal _) hf (up (ex ah aR (ex ae aR (ex ad aR ak))))
   (up (ex ah aR (ex ae aR (ex ad aR (ex ac aR hTI))))) (up (ex ah aR (ex ae aR (ex ad aR (ex ac aR hTO)))))
   (((bi.ext ae aR).ext ah aR).at λ o e=>up e) ((fg.ext ah aR).at λ o e=>up e) (i3₄.at λ o e=>up e) (aak _ rfl) λ c o hc e=>up (keep c o hc e)
theorem HM {n a1 a2 a3:Nat}{t1 t2 t3:Bool}{k:Nat}{xs ys zs:Array Value}{c1 c2 c3 f0:Value}{f1:Bool}{Q:Fin->Shared->Prop} (hh:A.handled=none) (hf:gN f0)
  (hz:nM s.heap (n+5) (n+3) (n+4) f0 f1) (hTI:dG s.heap (n+3) #[.ref n,.ref (n+1),.ref (n+2)]) (hTO:dG s.heap (n+4) #[c1,c2,c3])
  (i1:dJ s.heap t1 n a1 k) (i2:dJ s.heap t2 (n+1) a2 k) (i3:dJ s.heap t3 (n+2) a3 k) (s1:bW s.heap t1 a1 xs) (s2:bW s.heap t2 a2 ys) (s3:bW s.heap t3 a3 zs)
  (l1:a1 < n) (l2:a2 < n) (l3:a3 < n) (hend:xs[k]? = none\/ys[k]? = none\/zs[k]? = none)
  (hE:∀ h' e,(∀ (c:Nat) o,(c < n\/n+5 < c)->s.heap.get? c=some o->h'.get? c=some o)->(∃ o,h'.get? e=some o/\o.cls=.type "StopIteration")->E (.ref e) { s with heap:=h' }) :
  wpAny (model prog w) A (Builtin.«zip.__next__» ⟨[.ref (n+5)],[]⟩) Q E s:=by
 show wpAny _ _ (field (.ref (n+5)) 2 >>= _) _ _ _;refine aaa (abv hz rfl (x:=.bool false) rfl ?_);show wpAny _ _ (field (.ref (n+5)) 3 >>= _) _ _ _;refine aaa (abv hz rfl (x:=.ref (n+3)) rfl ?_);refine aaa (wpAny_seqItems hTI rfl ?_);show wpAny _ _ (Builtin.SmallTypes.ownedTupleIsFree (.ref (n+5)) >>= _) _ _ _;refine aaa (jX hz hf ?_ ?_)
 ·simp only [if_true];refine aaa (acz ?_);refine aaa (abv hz rfl (x:=.ref (n+4)) rfl ?_);refine aaa (wpAny_setField_rec hz (by simp) λ h₁ ak ac=>?_);replace ak:nM h₁ (n+5) (n+3) (n+4) .ellipsis f1:=ak;refine aaa ?_;simp only [List.zipIdx_cons,List.zipIdx_nil,List.forIn_cons,List.forIn_nil];have fin:∀ {aj ai:Heap}{e j:Nat}{oe:Obj},nM aj (n+5) (n+3) (n+4) .ellipsis f1->Heap.ExtBut j aj ai->@Ne Nat (n+5) j->(n<=j/\j<=n+5)->(∀ (c:Nat) o,(c < n\/n+5 < c)->s.heap.get? c=some o->aj.get? c=some o)->ai.get? e=some oe->oe.cls=.type "StopIteration" ->
    wpAny (model prog w) A (setField (.ref (n+5)) 0 .none) (λ _ s'=>E (.ref e) s') E { s with heap:=ai }:=λ {aj ai e j oe} cg hx hj hr hk hoe hce=>by
   have bp:nM ai (n+5) (n+3) (n+4) .ellipsis f1:=hx _ _ hj cg;have hez:e≠n+5:=λ q=>by subst q;rw[bp] at hoe;cases hoe;simp at hce
   refine wpAny_setField_rec bp (by simp) λ am _ ah=>hE am e (λ c o hc q=>ex ah aR (hx c o (show @Ne Nat c j by omega) (hk c o hc q))) ⟨oe,ah.extBut _ _ hez hoe,hce⟩
  refine aaa (aaa (wpAny_onRaise ?_));show wpAny _ _ (Builtin.SmallTypes.nextOf (.ref n) >>= _) _ _ _;cases hx:xs[k]? with
  | none=>
   refine aaa (d6 hh (i1.ext ac aR) (s1.ext ac aR) hx λ aj e ad he=>?_);obtain⟨oe,hoe,hce⟩:=he;exact fin ak ad aR (by omega) (λ c o hc q=>ex ac aR q) hoe hce
  | some x=>
   refine aaa (bG (i1.ext ac aR) (s1.ext ac aR) hx λ aj bi ad=>aaf ?_);have bf:dG aj (n+4) #[c1,c2,c3]:=ex ad aR (ex ac aR hTO);refine aaa (wpAny_seqItems bf rfl ?_);refine aaa (iF bf (by simp) λ ai bb ae=>?_);replace bb:dG ai (n+4) #[x,c2,c3]:=bb;refine aaa (wpAny_letGo (aaf ?_));have bp:nM ai (n+5) (n+3) (n+4) .ellipsis f1:=ex ae aR (ex ad aR ak);have dq:∀ (c:Nat) o,(c < n\/n+5 < c)->s.heap.get? c=some o->ai.get? c=some o:=λ c o hc e=>ex ae aR (ex ad aR (ex ac aR e));refine aaa (aaa (wpAny_onRaise ?_));show wpAny _ _ (Builtin.SmallTypes.nextOf (.ref (n+1)) >>= _) _ _ _;cases hy:ys[k]? with
   | none=>
    refine aaa (d6 hh (((i2.ext ac aR).ext ad aR).ext ae aR) (((s2.ext ac aR).ext ad aR).ext ae aR) hy λ am e ah he=>?_);obtain⟨oe,hoe,hce⟩:=he;exact fin bp ah aR (by omega) dq hoe hce
   | some y=>
    have hw:zs[k]? = none:=by rcases hend with h | h | h;rw[hx] at h;cases h;rw[hy] at h;cases h;exact h
    refine aaa (bG (((i2.ext ac aR).ext ad aR).ext ae aR) (((s2.ext ac aR).ext ad aR).ext ae aR) hy λ am cm ah=>aaf ?_);have bu:dG am (n+4) #[x,c2,c3]:=ex ah aR bb;refine aaa (wpAny_seqItems bu rfl ?_);refine aaa (iF bu (by simp) λ az cr ao=>?_);refine aaa (wpAny_letGo (aaf ?_));refine aaa (aaa (wpAny_onRaise ?_));show wpAny _ _ (Builtin.SmallTypes.nextOf (.ref (n+2)) >>= _) _ _ _;refine aaa (d6 hh (((((i3.ext ac aR).ext ad aR).ext ae aR).ext ah aR).ext ao aR)
     (((((s3.ext ac aR).ext ad aR).ext ae aR).ext ah aR).ext ao aR) hw λ cb e ba he=>?_)
    obtain⟨oe,hoe,hce⟩:=he;exact fin (ex ao aR (ex ah aR bp)) ba aR (by omega) (λ c o hc q=>ex ao aR (ex ah aR (dq c o hc q))) hoe hce
 ·intro h₁ ak ac;simp only [Bool.false_eq_true,if_false];refine aaa ?_;rw[<- Array.forIn_toList];simp only [List.forIn_cons,List.forIn_nil];refine aaa (aaa (abq ?_));show wpAny _ _ (Builtin.SmallTypes.nextOf (.ref n) >>= _) _ _ _;cases hx:xs[k]? with
  | none=>
   refine aaa (d6 hh (i1.ext ac aR) (s1.ext ac aR) hx λ aj e ad he=>?_);exact hE aj e (λ c o hc q=>ad c o (show @Ne Nat c n by omega) (ex ac aR q)) he
  | some x=>
   refine aaa (bG (i1.ext ac aR) (s1.ext ac aR) hx λ aj bi ad=>aaf (aaf ?_));refine aaa (aaa (abq ?_));show wpAny _ _ (Builtin.SmallTypes.nextOf (.ref (n+1)) >>= _) _ _ _;cases hy:ys[k]? with
   | none=>
    refine aaa (d6 hh ((i2.ext ac aR).ext ad aR) ((s2.ext ac aR).ext ad aR) hy λ ai e ae he=>?_);exact hE ai e (λ c o hc q=>ae c o (show @Ne Nat c (n+1) by omega) (ex ad aR (ex ac aR q))) he
   | some y=>
    have hw:zs[k]? = none:=by rcases hend with h | h | h;rw[hx] at h;cases h;rw[hy] at h;cases h;exact h
    refine aaa (bG ((i2.ext ac aR).ext ad aR) ((s2.ext ac aR).ext ad aR) hy λ ai fg ae=>aaf (aaf ?_));refine aaa (aaa (abq ?_));show wpAny _ _ (Builtin.SmallTypes.nextOf (.ref (n+2)) >>= _) _ _ _;refine aaa (d6 hh (((i3.ext ac aR).ext ad aR).ext ae aR) (((s3.ext ac aR).ext ad aR).ext ae aR) hw λ am e ah he=>?_);exact hE am e (λ c o hc q=>ah c o (show @Ne Nat c (n+2) by omega) (ex ae aR (ex ad aR (ex ac aR q)))) he
theorem EU {n a1 a2:Nat}{t1 t2:Bool}{k:Nat}{xs ys:Array Value}{x y c1 c2 f0:Value}{f1:Bool}{Q:Value->Shared->Prop} (hf:gN f0)
  (hz:nM s.heap (n+4) (n+2) (n+3) f0 f1) (hTI:dG s.heap (n+2) #[.ref n,.ref (n+1)]) (hTO:dG s.heap (n+3) #[c1,c2])
  (i1:dJ s.heap t1 n a1 k) (i2:dJ s.heap t2 (n+1) a2 k) (s1:bW s.heap t1 a1 xs) (s2:bW s.heap t2 a2 ys)
  (l1:a1 < n) (l2:a2 < n) (hx:xs[k]? = some x) (hy:ys[k]? = some y)
  (hQ:∀ (T:Nat) h' f0' f1' d1 d2,s.heap.objs.size<=T->gN f0'->nM h' (n+4) (n+2) (n+3) f0' f1'->dG h' (n+2) #[.ref n,.ref (n+1)]->dG h' (n+3) #[d1,d2]->
   dJ h' t1 n a1 (k+1)->dJ h' t2 (n+1) a2 (k+1)->dG h' T #[x,y]->
   (∀ (c:Nat) o,(c < n\/n+4 < c)->s.heap.get? c=some o->h'.get? c=some o)->Q (.ref T) { s with heap:=h' }) :
  wpAny (model prog w) A (Builtin.«zip.__next__» ⟨[.ref (n+4)],[]⟩) (λ fin s'=>∃ v,fin=.done (.ret v)/\Q v s') E s:=by
 have hzlt:n+4 < s.heap.objs.size:=aaq hz;show wpAny _ _ (field (.ref (n+4)) 2 >>= _) _ _ _;refine aaa (abv hz rfl (x:=.bool false) rfl ?_);show wpAny _ _ (field (.ref (n+4)) 3 >>= _) _ _ _;refine aaa (abv hz rfl (x:=.ref (n+2)) rfl ?_);refine aaa (wpAny_seqItems hTI rfl ?_);show wpAny _ _ (Builtin.SmallTypes.ownedTupleIsFree (.ref (n+4)) >>= _) _ _ _;refine aaa (jX hz hf ?_ ?_)
 ·simp only [if_true];refine aaa (acz ?_);refine aaa (abv hz rfl (x:=.ref (n+3)) rfl ?_);refine aaa (wpAny_setField_rec hz (by simp) λ h₁ ak ac=>?_);replace ak:nM h₁ (n+4) (n+2) (n+3) .ellipsis f1:=ak;refine aaa ?_;simp only [List.zipIdx_cons,List.zipIdx_nil,List.forIn_cons,List.forIn_nil];refine aaa (aaa (wpAny_onRaise ?_));show wpAny _ _ (Builtin.SmallTypes.nextOf (.ref n) >>= _) _ _ _;refine aaa (bG (i1.ext ac aR) (s1.ext ac aR) hx λ aj bi ad=>aaf ?_);have bf:dG aj (n+3) #[c1,c2]:=ex ad aR (ex ac aR hTO);refine aaa (wpAny_seqItems bf rfl ?_);refine aaa (iF bf (by simp) λ ai bb ae=>?_);replace bb:dG ai (n+3) #[x,c2]:=bb;refine aaa (wpAny_letGo (aaf ?_));refine aaa (aaa (wpAny_onRaise ?_));show wpAny _ _ (Builtin.SmallTypes.nextOf (.ref (n+1)) >>= _) _ _ _;refine aaa (bG (((i2.ext ac aR).ext ad aR).ext ae aR) (((s2.ext ac aR).ext ad aR).ext ae aR) hy λ am cm ah=>aaf ?_);have bu:dG am (n+3) #[x,c2]:=ex ah aR bb;refine aaa (wpAny_seqItems bu rfl ?_);refine aaa (iF bu (by simp) λ aq bj bc=>?_);replace bj:dG aq (n+3) #[x,y]:=bj;refine aaa (wpAny_letGo (aaf (aaf ?_)));refine aaa (wpAny_seqItems bj rfl ?_);refine aaa (wpAny_newTuple ?_);have hsz:aq.objs.size=s.heap.objs.size:=by rw[bc.1,ah.1,ae.1,ad.1,ac.1]
  have keep:∀ (c:Nat) o,(c < n\/n+4 < c)->s.heap.get? c=some o->aq.get? c=some o:=λ c o hc e=>
   ex bc aR (ex ah aR (ex ae aR (ex ad aR (ex ac aR e))))
  have dh:nM aq (n+4) (n+2) (n+3) .ellipsis f1:=ex bc aR (ex ah aR (ex ae aR (ex ad aR ak)));have cz:dG aq (n+2) #[.ref n,.ref (n+1)]:=ex bc aR (ex ah aR (ex ae aR (ex ad aR (ex ac aR hTI))));have di:=((bi.ext ae aR).ext ah aR).ext bc aR;have dj:=cm.ext bc aR;have fk:n+4 < aq.objs.size:=by rw[hsz];exact hzlt
  have up:∀ {c o},aq.get? c=some o->(aq.push { cls:=.type "tuple",data:=.seq #[x,y] }).get? c=some o:=λ e=>aac _ e;refine aaa (E7 (z:=n+4) (TI:=n+2) (TO:=n+3) (f0:=.ellipsis) (f1:=f1) (up dh) λ db dn cu=>?_);have up8:∀ {c:Nat}{o},c≠n+4->aq.get? c=some o->db.get? c=some o:=λ hc e=>ex cu hc (up e);refine aaf ⟨_,rfl,hQ aq.objs.size db (rawInt aq.objs.size) false x y (by rw[hsz];exact aal _) (.inr ⟨_,rfl⟩) dn (up8 aR cz) (up8 aR bj) (di.at λ o e=>up8 aR e) (dj.at λ o e=>up8 aR e)
   (ex cu aR (aak _ rfl)) λ c o hc e=>up8 aR (keep c o hc e)⟩
 ·intro h₁ ak ac;simp only [Bool.false_eq_true,if_false];refine aaa ?_;rw[<- Array.forIn_toList];simp only [List.forIn_cons,List.forIn_nil];refine aaa (aaa (abq ?_));show wpAny _ _ (Builtin.SmallTypes.nextOf (.ref n) >>= _) _ _ _;refine aaa (bG (i1.ext ac aR) (s1.ext ac aR) hx λ aj bi ad=>aaf (aaf ?_));refine aaa (aaa (abq ?_));show wpAny _ _ (Builtin.SmallTypes.nextOf (.ref (n+1)) >>= _) _ _ _;refine aaa (bG ((i2.ext ac aR).ext ad aR) ((s2.ext ac aR).ext ad aR) hy λ am cm ah=>aaf (aaf (aaf ?_)));refine aaa (wpAny_newTuple (hsz:=by show 2<=sizeLine;decide) (aaf ⟨_,rfl,?_⟩));have hsz:am.objs.size=s.heap.objs.size:=by rw[ah.1,ad.1,ac.1]
  have up:∀ {c o},am.get? c=some o->(am.push { cls:=.type "tuple",data:=.seq #[x,y] }).get? c=some o:=λ e=>aac _ e;have keep:∀ (c:Nat) o,(c < n\/n+4 < c)->s.heap.get? c=some o->am.get? c=some o:=λ c o hc e=>ex ah aR (ex ad aR (ex ac aR e));refine hQ am.objs.size (am.push { cls:=.type "tuple",data:=.seq #[x,y] }) f0 true c1 c2 (by rw[hsz];exact aal _) hf (up (ex ah aR (ex ad aR ak)))
   (up (ex ah aR (ex ad aR (ex ac aR hTI)))) (up (ex ah aR (ex ad aR (ex ac aR hTO))))
   ((bi.ext ah aR).at λ o e=>up e) (cm.at λ o e=>up e) (aak _ rfl) λ c o hc e=>up (keep c o hc e)
theorem HN {n a1 a2:Nat}{t1 t2:Bool}{k:Nat}{xs ys:Array Value}{c1 c2 f0:Value}{f1:Bool}{Q:Fin->Shared->Prop} (hh:A.handled=none) (hf:gN f0)
  (hz:nM s.heap (n+4) (n+2) (n+3) f0 f1) (hTI:dG s.heap (n+2) #[.ref n,.ref (n+1)]) (hTO:dG s.heap (n+3) #[c1,c2])
  (i1:dJ s.heap t1 n a1 k) (i2:dJ s.heap t2 (n+1) a2 k) (s1:bW s.heap t1 a1 xs) (s2:bW s.heap t2 a2 ys)
  (l1:a1 < n) (l2:a2 < n) (hend:xs[k]? = none\/ys[k]? = none)
  (hE:∀ h' e,(∀ (c:Nat) o,(c < n\/n+4 < c)->s.heap.get? c=some o->h'.get? c=some o)->(∃ o,h'.get? e=some o/\o.cls=.type "StopIteration")->E (.ref e) { s with heap:=h' }) :
  wpAny (model prog w) A (Builtin.«zip.__next__» ⟨[.ref (n+4)],[]⟩) Q E s:=by
 show wpAny _ _ (field (.ref (n+4)) 2 >>= _) _ _ _;refine aaa (abv hz rfl (x:=.bool false) rfl ?_);show wpAny _ _ (field (.ref (n+4)) 3 >>= _) _ _ _;refine aaa (abv hz rfl (x:=.ref (n+2)) rfl ?_);refine aaa (wpAny_seqItems hTI rfl ?_);show wpAny _ _ (Builtin.SmallTypes.ownedTupleIsFree (.ref (n+4)) >>= _) _ _ _;refine aaa (jX hz hf ?_ ?_)
 ·simp only [if_true];refine aaa (acz ?_);refine aaa (abv hz rfl (x:=.ref (n+3)) rfl ?_);refine aaa (wpAny_setField_rec hz (by simp) λ h₁ ak ac=>?_);replace ak:nM h₁ (n+4) (n+2) (n+3) .ellipsis f1:=ak;refine aaa ?_;simp only [List.zipIdx_cons,List.zipIdx_nil,List.forIn_cons,List.forIn_nil];have fin:∀ {aj ai:Heap}{e j:Nat}{oe:Obj},nM aj (n+4) (n+2) (n+3) .ellipsis f1->Heap.ExtBut j aj ai->@Ne Nat (n+4) j->(n<=j/\j<=n+4)->(∀ (c:Nat) o,(c < n\/n+4 < c)->s.heap.get? c=some o->aj.get? c=some o)->ai.get? e=some oe->oe.cls=.type "StopIteration" ->
    wpAny (model prog w) A (setField (.ref (n+4)) 0 .none) (λ _ s'=>E (.ref e) s') E { s with heap:=ai }:=λ {aj ai e j oe} cg hx hj hr hk hoe hce=>by
   have bp:nM ai (n+4) (n+2) (n+3) .ellipsis f1:=hx _ _ hj cg;have hez:e≠n+4:=λ q=>by subst q;rw[bp] at hoe;cases hoe;simp at hce
   refine wpAny_setField_rec bp (by simp) λ am _ ah=>hE am e (λ c o hc q=>ex ah aR (hx c o (show @Ne Nat c j by omega) (hk c o hc q))) ⟨oe,ah.extBut _ _ hez hoe,hce⟩
  refine aaa (aaa (wpAny_onRaise ?_));show wpAny _ _ (Builtin.SmallTypes.nextOf (.ref n) >>= _) _ _ _;cases hx:xs[k]? with
  | none=>
   refine aaa (d6 hh (i1.ext ac aR) (s1.ext ac aR) hx λ aj e ad he=>?_);obtain⟨oe,hoe,hce⟩:=he;exact fin ak ad aR (by omega) (λ c o hc q=>ex ac aR q) hoe hce
  | some x=>
   have hy:ys[k]? = none:=by rcases hend with h | h;rw[hx] at h;cases h;exact h
   refine aaa (bG (i1.ext ac aR) (s1.ext ac aR) hx λ aj bi ad=>aaf ?_);have bf:dG aj (n+3) #[c1,c2]:=ex ad aR (ex ac aR hTO);refine aaa (wpAny_seqItems bf rfl ?_);refine aaa (iF bf (by simp) λ ai bb ae=>?_);refine aaa (wpAny_letGo (aaf ?_));have bp:nM ai (n+4) (n+2) (n+3) .ellipsis f1:=ex ae aR (ex ad aR ak);have dq:∀ (c:Nat) o,(c < n\/n+4 < c)->s.heap.get? c=some o->ai.get? c=some o:=λ c o hc e=>ex ae aR (ex ad aR (ex ac aR e));refine aaa (aaa (wpAny_onRaise ?_));show wpAny _ _ (Builtin.SmallTypes.nextOf (.ref (n+1)) >>= _) _ _ _;refine aaa (d6 hh (((i2.ext ac aR).ext ad aR).ext ae aR) (((s2.ext ac aR).ext ad aR).ext ae aR) hy λ am e ah he=>?_);obtain⟨oe,hoe,hce⟩:=he;exact fin bp ah aR (by omega) dq hoe hce
 ·intro h₁ ak ac;simp only [Bool.false_eq_true,if_false];refine aaa ?_;rw[<- Array.forIn_toList];simp only [List.forIn_cons,List.forIn_nil];refine aaa (aaa (abq ?_));show wpAny _ _ (Builtin.SmallTypes.nextOf (.ref n) >>= _) _ _ _;cases hx:xs[k]? with
  | none=>
   refine aaa (d6 hh (i1.ext ac aR) (s1.ext ac aR) hx λ aj e ad he=>?_);exact hE aj e (λ c o hc q=>ad c o (show @Ne Nat c n by omega) (ex ac aR q)) he
  | some x=>
   have hy:ys[k]? = none:=by rcases hend with h | h;rw[hx] at h;cases h;exact h
   refine aaa (bG (i1.ext ac aR) (s1.ext ac aR) hx λ aj bi ad=>aaf (aaf ?_));refine aaa (aaa (abq ?_));show wpAny _ _ (Builtin.SmallTypes.nextOf (.ref (n+1)) >>= _) _ _ _;refine aaa (d6 hh ((i2.ext ac aR).ext ad aR) ((s2.ext ac aR).ext ad aR) hy λ ai e ae he=>?_);exact hE ai e (λ c o hc q=>ae c o (show @Ne Nat c (n+1) by omega) (ex ad aR (ex ac aR q))) he
theorem jR {z TI TO:Addr}{f0:Value}{f1:Bool}{Q:Option Value->Shared->Prop} (hz:nM s.heap z TI TO f0 f1)
  (h:wpAny (model prog w) A.in1 (Builtin.«zip.__next__» ⟨[.ref z],[]⟩) (λ fin s'=>∃ v,fin=.done (.ret v)/\Q (some v) s') (λ e s'=>(∃ a o,e=.ref a/\s'.heap.get? a=some o/\o.cls=.type "StopIteration")/\Q none s') s) :
  wpAny (model prog w) A (pyNext (.ref z)) Q E s:=by
 have hT:s.TypeIs (.ref z) "zip" := ⟨_,hz,rfl⟩;unfold pyNext;refine aaa (wpAny_attempt (wpAny_callSpecial?_slot (name:=Str.ofString "__next__") hT F.slot_zip_next
  (wpAny_call_entry F.slot_zip_next hT F.entry_zip_next (abl h (λ fin s' h'=>?_) λ e s' h'=>?_) (F.args_zip_next_1 _))))
 ·obtain⟨v,rfl,q⟩:=h';exact⟨v,rfl,aaf q⟩
 ·obtain⟨⟨a,o,rfl,ho,hc⟩,q⟩:=h';exact aaa (wpAny_isInstance (T := "StopIteration") (b:=true) ⟨o,ho,hc⟩ isSubtype_stop (aaf q))
theorem vI {tg:Expr}{z TI TO T:Addr}{f0:Value}{f1:Bool}{Q:Unit->Shared->Prop} (hf:gN f0) (hz:nM s.heap z TI TO f0 f1)
  (hQ:∀ h' f0',gN f0'->nM h' z TI TO f0' f1->Heap.SameBut z s.heap h'->Q () { s with heap:=h' }):wpAny (model prog w) A (letOwnedTupleGo tg (.ref z) (.ref T)) Q E s:=by
 have same:Q () s:=hQ s.heap f0 hf hz (Heap.SameBut.refl ..);have core:wpAny (model prog w) A (do
   let o <- load z
   match o.cls,o.data with
   | .type n,.fields vs=>
    if ["enumerate","zip","dict_itemiterator","dict_reverseitemiterator","odict_iterator","itertools.zip_longest","itertools.pairwise"].contains n && vs[0]? == some (rawInt T) then
     rule "for.unpacks-the-owned-tuple"
     updateField z 0 .none
   | _,_=>pure ()) Q E s:=by
  refine aaa (wpAny_load hz ?_);show wpAny _ _ (if (["enumerate","zip","dict_itemiterator","dict_reverseitemiterator","odict_iterator","itertools.zip_longest","itertools.pairwise"].contains "zip" &&
   (#[f0,.bool f1,.bool false,.ref TI,.ref TO]:Array Value)[0]? == some (rawInt T))=true then _ else _) Q E s
  split
  ·refine aaa (acz ?_);show wpAny _ _ (setField (.ref z) 0 .none) Q E s;exact wpAny_setField_rec hz (by simp) λ h' hz' hs'=>hQ h' .none (.inl rfl) hz' hs'
  ·exact aaf same
 unfold letOwnedTupleGo;cases tg <;> first
  | exact aaf same
  | exact core
theorem jT {z TI TO:Addr}{f0:Value}{f1:Bool}{Q:Value->Shared->Prop} (hz:nM s.heap z TI TO f0 f1) (h:Q (.ref z) s):wpAny (model prog w) A (pyIter (.ref z)) Q E s:=by
 have hT:s.TypeIs (.ref z) "zip" := ⟨_,hz,rfl⟩;refine wpAny_pyIter_slot hT F.slot_zip_iter (wpAny_call_entry F.slot_zip_iter hT F.entry_zip_iter ?_ (F.args_zip_iter_1 _));show wpAny _ _ (ret (.ref z)) _ _ s;exact aaf ⟨_,rfl,"zip",_,hT,F.slot_zip_next.lookup,h⟩
def tK (t:Bool) (a:Addr):Obj:={ cls:=.type (if t=true then "tuple_iterator" else "list_iterator"),data:=.fields #[.ref a,.int 0 0] }
theorem eO {t:Bool}{a:Addr}{items:Array Value}{Q:Value->Shared->Prop} (hs:bW s.heap t a items) (hQ:Q (.ref s.heap.objs.size) { s with heap:=s.heap.push (tK t a) }) :
  wpAny (model prog w) A (pyIter (.ref a)) Q E s:=by
 cases t with
 | true=>exact wpAny_pyIter_tuple hs hQ
 | false=>exact wpAny_pyIter_list hs hQ
theorem j6 {h:Heap}{t:Bool}{a it:Addr} (e:h.get? it=some (tK t a)):dJ h t it a 0:=by
 cases t <;> exact⟨_,e,rfl,rfl⟩
abbrev zA (h:Heap) (t:Bool) (a:Addr):Heap:=h.push (tK t a)
abbrev LP (h:Heap) (vs:List Value):Heap:=h.push { cls:=.type "tuple",data:=.seq vs.toArray }
abbrev z2B (h:Heap) (t1 t2:Bool) (l1 l2:Addr):Heap:=LP (zA (zA h t1 l1) t2 l2) [.ref h.objs.size,.ref (zA h t1 l1).objs.size]
abbrev z2H (h:Heap) (t1 t2:Bool) (l1 l2:Addr):Heap:=LP (z2B h t1 t2 l1 l2) [.none,.none]
abbrev QM (h:Heap) (t1 t2:Bool) (l1 l2:Addr):Heap:=(z2H h t1 t2 l1 l2).push { cls:=.type "zip",data:=.fields #[.none,.bool false,.bool false,.ref (zA (zA h t1 l1) t2 l2).objs.size,.ref (z2B h t1 t2 l1 l2).objs.size] }
abbrev z3B (h:Heap) (t1 t2 t3:Bool) (l1 l2 l3:Addr):Heap:=LP (zA (zA (zA h t1 l1) t2 l2) t3 l3) [.ref h.objs.size,.ref (zA h t1 l1).objs.size,.ref (zA (zA h t1 l1) t2 l2).objs.size]
abbrev z3H (h:Heap) (t1 t2 t3:Bool) (l1 l2 l3:Addr):Heap:=LP (z3B h t1 t2 t3 l1 l2 l3) [.none,.none,.none]
abbrev OG (h:Heap) (t1 t2 t3:Bool) (l1 l2 l3:Addr):Heap:=(z3H h t1 t2 t3 l1 l2 l3).push { cls:=.type "zip",data:=.fields #[.none,.bool false,.bool false,.ref (zA (zA (zA h t1 l1) t2 l2) t3 l3).objs.size,.ref (z3B h t1 t2 t3 l1 l2 l3).objs.size] }
theorem CI (t1 t2:Bool) (l1 l2:Addr) (xs ys:Array Value) :
  Meets (Builtin.«zip.__new__» ⟨[.type "zip",.ref l1,.ref l2],[]⟩) (λ _ R s=>bW s.heap t1 l1 xs/\bW s.heap t2 l2 ys/\
   R (.ok (.ret (.ref (z2H s.heap t1 t2 l1 l2).objs.size))) { s with heap:=QM s.heap t1 t2 l1 l2 }):=
 .of_wp λ prog w A R s h=>by
  obtain⟨hp,g,d,tk,os⟩:=s;obtain⟨hl1,hl2,h⟩:=h;have hsub:=sub_zip;have hL1:bW (Shared.heap ⟨hp,g,d,tk,os⟩) t1 l1 xs:=hl1;have hL2:bW (Shared.heap ⟨hp.push (tK t1 l1),g,d,tk,os⟩) t2 l2 ys:=hl2.at λ o e=>aac _ e
  wp_walk using eO hL1,eO hL2
  exact⟨_,rfl,h⟩
theorem CH (t1 t2 t3:Bool) (l1 l2 l3:Addr) (xs ys zs:Array Value) :
  Meets (Builtin.«zip.__new__» ⟨[.type "zip",.ref l1,.ref l2,.ref l3],[]⟩) (λ _ R s=>bW s.heap t1 l1 xs/\bW s.heap t2 l2 ys/\bW s.heap t3 l3 zs/\
   R (.ok (.ret (.ref (z3H s.heap t1 t2 t3 l1 l2 l3).objs.size))) { s with heap:=OG s.heap t1 t2 t3 l1 l2 l3 }):=
 .of_wp λ prog w A R s h=>by
  obtain⟨hp,g,d,tk,os⟩:=s;obtain⟨hl1,hl2,hl3,h⟩:=h;have hsub:=sub_zip;have hL1:bW (Shared.heap ⟨hp,g,d,tk,os⟩) t1 l1 xs:=hl1;have hL2:bW (Shared.heap ⟨hp.push (tK t1 l1),g,d,tk,os⟩) t2 l2 ys:=hl2.at λ o e=>aac _ e;have hL3:bW (Shared.heap ⟨(hp.push (tK t1 l1)).push (tK t2 l2),g,d,tk,os⟩) t3 l3 zs:=hl3.at λ o e=>aac _ (aac _ e)
  wp_walk using eO hL1,eO hL2,eO hL3
  exact⟨_,rfl,h⟩
theorem rL (a b c:Value):checkTypeCall "zip" ⟨[a,b,c],[]⟩=pure ():=by kernel_rfl
theorem uL (a b c:Value):checkBuiltinCall "zip.__new__" ⟨[.type "zip",a,b,c],[]⟩=pure ():=by kernel_rfl
theorem nK (a b c d:Value):argsOk "object.__init__" ⟨[a,b,c,d],[]⟩:=by
 unfold argsOk;rw[signature?_of (id := "object.__init__") (n:=['_','_','t','i','n','i','_','_']) (o:=['t','c','e','j','b','o']) (by kernel_rfl) F.owner_object];kernel_rfl
theorem GU {t1 t2:Bool}{l1 l2:Addr}{xs ys:Array Value}{Q:Value->Shared->Prop} (hl1:bW s.heap t1 l1 xs) (hl2:bW s.heap t2 l2 ys)
  (h:∀ h',nM h' (s.heap.objs.size+4) (s.heap.objs.size+2) (s.heap.objs.size+3) .none false->dG h' (s.heap.objs.size+2) #[.ref s.heap.objs.size,.ref (s.heap.objs.size+1)]->
   dG h' (s.heap.objs.size+3) #[.none,.none]->dJ h' t1 s.heap.objs.size l1 0->dJ h' t2 (s.heap.objs.size+1) l2 0->
   (∀ c o,s.heap.get? c=some o->h'.get? c=some o)->Q (.ref (s.heap.objs.size+4)) { s with heap:=h' }):wpAny (model prog w) A (call (.type "zip") [.ref l1,.ref l2]) Q E s:=by
 refine callType_new F.called_zip (by decide) (F.typeCall_zip_2 _ _) (F.newCall_zip_2 _ _) (λ obj=>F.args_object_init_3 obj _ _) F.entry_zip_new (CI t1 t2 l1 l2 xs ys) ⟨hl1,hl2,?_⟩;generalize s.heap=h0 at *;have z1:(zA h0 t1 l1).objs.size=h0.objs.size+1:=aci ..;have z2:(zA (zA h0 t1 l1) t2 l2).objs.size=h0.objs.size+2:=by rw[aci,z1]
 have z3:(z2B h0 t1 t2 l1 l2).objs.size=h0.objs.size+3:=by rw[aci,z2]
 have z4:(z2H h0 t1 t2 l1 l2).objs.size=h0.objs.size+4:=by rw[aci,z3]
 have g5:(QM h0 t1 t2 l1 l2).get? (z2H h0 t1 t2 l1 l2).objs.size=some _:=aak _ rfl;have g4:(QM h0 t1 t2 l1 l2).get? (z2B h0 t1 t2 l1 l2).objs.size=some _:=aac _ (aak _ rfl);have g3:(QM h0 t1 t2 l1 l2).get? (zA (zA h0 t1 l1) t2 l2).objs.size=some _:=aac _ (aac _ (aak _ rfl));have g2:(QM h0 t1 t2 l1 l2).get? (zA h0 t1 l1).objs.size=some _:=aac _ (aac _ (aac _ (aak _ rfl)));have g1:(QM h0 t1 t2 l1 l2).get? h0.objs.size=some _:=aac _ (aac _ (aac _ (aac _ (aak _ rfl))));show _/\_;rw[z2,z3,z4] at g5;rw[z1,z2] at g3;rw[z3] at g4;rw[z1] at g2;rw[z4];exact⟨⟨_,g5,rfl⟩,h _ g5 g3 g4 (j6 g1) (j6 g2) λ c o x=>aac _ (aac _ (aac _ (aac _ (aac _ x))))⟩
theorem GT {t1 t2 t3:Bool}{l1 l2 l3:Addr}{xs ys zs:Array Value}{Q:Value->Shared->Prop} (hl1:bW s.heap t1 l1 xs) (hl2:bW s.heap t2 l2 ys) (hl3:bW s.heap t3 l3 zs)
  (h:∀ h',nM h' (s.heap.objs.size+5) (s.heap.objs.size+3) (s.heap.objs.size+4) .none false->dG h' (s.heap.objs.size+3) #[.ref s.heap.objs.size,.ref (s.heap.objs.size+1),.ref (s.heap.objs.size+2)]->
   dG h' (s.heap.objs.size+4) #[.none,.none,.none]->dJ h' t1 s.heap.objs.size l1 0->dJ h' t2 (s.heap.objs.size+1) l2 0->dJ h' t3 (s.heap.objs.size+2) l3 0->
   (∀ c o,s.heap.get? c=some o->h'.get? c=some o)->Q (.ref (s.heap.objs.size+5)) { s with heap:=h' }):wpAny (model prog w) A (call (.type "zip") [.ref l1,.ref l2,.ref l3]) Q E s:=by
 refine callType_new F.called_zip (by decide) (rL _ _ _) (uL _ _ _) (λ obj=>nK obj _ _ _) F.entry_zip_new (CH t1 t2 t3 l1 l2 l3 xs ys zs) ⟨hl1,hl2,hl3,?_⟩;generalize s.heap=h0 at *;have z1:(zA h0 t1 l1).objs.size=h0.objs.size+1:=aci ..;have z2:(zA (zA h0 t1 l1) t2 l2).objs.size=h0.objs.size+2:=by rw[aci,z1]
 have z2':(zA (zA (zA h0 t1 l1) t2 l2) t3 l3).objs.size=h0.objs.size+3:=by rw[aci,z2]
 have z3:(z3B h0 t1 t2 t3 l1 l2 l3).objs.size=h0.objs.size+4:=by rw[aci,z2']
 have z4:(z3H h0 t1 t2 t3 l1 l2 l3).objs.size=h0.objs.size+5:=by rw[aci,z3]
 have g5:(OG h0 t1 t2 t3 l1 l2 l3).get? (z3H h0 t1 t2 t3 l1 l2 l3).objs.size=some _:=aak _ rfl;have g4:(OG h0 t1 t2 t3 l1 l2 l3).get? (z3B h0 t1 t2 t3 l1 l2 l3).objs.size=some _:=aac _ (aak _ rfl);have g3:(OG h0 t1 t2 t3 l1 l2 l3).get? (zA (zA (zA h0 t1 l1) t2 l2) t3 l3).objs.size=some _:=aac _ (aac _ (aak _ rfl));have g2':(OG h0 t1 t2 t3 l1 l2 l3).get? (zA (zA h0 t1 l1) t2 l2).objs.size=some _:=aac _ (aac _ (aac _ (aak _ rfl)));have g2:(OG h0 t1 t2 t3 l1 l2 l3).get? (zA h0 t1 l1).objs.size=some _:=aac _ (aac _ (aac _ (aac _ (aak _ rfl))));have g1:(OG h0 t1 t2 t3 l1 l2 l3).get? h0.objs.size=some _:=aac _ (aac _ (aac _ (aac _ (aac _ (aak _ rfl)))));show _/\_;rw[z2',z3,z4] at g5;rw[z1,z2,z2'] at g3;rw[z3] at g4;rw[z2] at g2';rw[z1] at g2;rw[z4];exact⟨⟨_,g5,rfl⟩,h _ g5 g3 g4 (j6 g1) (j6 g2) (j6 g2') λ c o x=>aac _ (aac _ (aac _ (aac _ (aac _ (aac _ x)))))⟩
end
end TwZ
namespace TwZ
open PySem
open Sem (wp)
open AutoSeq1 (wpAny_loadPart')
section
variable {prog:Program}{M:Model}{A:Around}{E:Value->Shared->Prop}{s:Shared}
abbrev iS (h:Heap) (e it:Addr) (f0:Value) (f1:Bool) (i:Int) (old:Value):Prop:=
 h.get? e=some { cls:=.type "enumerate",dict:=none,data:=.fields #[f0,.bool f1,.ref it,rawInt i,.none,old],slots:=#[] }
theorem zK {e it:Addr}{f0:Value}{f1:Bool}{i:Int}{old:Value}{Q:Bool->Shared->Prop} (hz:iS s.heap e it f0 f1 i old) (hf:gN f0) (yes:Q true s)
  (no:∀ h',iS h' e it f0 true i old->Heap.SameBut e s.heap h'->Q false { s with heap:=h' }):wpAny (model prog w) A (Builtin.SmallTypes.ownedTupleIsFree (.ref e)) Q E s:=by
 unfold Builtin.SmallTypes.ownedTupleIsFree;refine aaa (abv hz rfl (x:=f0) rfl ?_);rcases hf with rfl | ⟨a,rfl⟩
 ·exact aaf yes
 ·refine aaa (pU ?_);cases h:s.heap.get? a.toNat with
  | none=>exact aaf yes
  | some o=>
   show wpAny _ _ (field (.ref e) 1 >>= _) _ _ _;refine aaa (abv hz rfl (x:=.bool f1) rfl ?_);cases f1 with
   | true=>exact aaf (no s.heap hz (Heap.SameBut.refl ..))
   | false=>
    show wpAny _ _ (setField (.ref e) 1 (.bool true) >>= _) _ _ _;refine aaa (wpAny_setField_rec hz (by simp) λ h₁ ak ac=>aaf (no h₁ ak ac))
theorem KI {e it:Addr}{f0:Value}{f1:Bool}{i:Int}{old:Value}{T:Addr}{Q:Unit->Shared->Prop} (hz:iS s.heap e it f0 f1 i old)
  (h:∀ h',iS h' e it (rawInt T) false i old->Heap.SameBut e s.heap h'->Q () { s with heap:=h' }):wpAny (model prog w) A (Builtin.SmallTypes.ownedTupleHandOut (.ref e) (.ref T)) Q E s:=by
 unfold Builtin.SmallTypes.ownedTupleHandOut;refine aaa (wpAny_setField_rec hz (by simp) λ h₁ ak ac=>?_);replace ak:iS h₁ e it (rawInt T) f1 i old:=ak;refine wpAny_setField_rec ak (by simp) λ aj cg ad=>?_;exact h aj cg (Heap.SameBut.trans ac ad)
theorem GK {n a:Nat}{t:Bool}{k:Nat}{xs:Array Value}{x old f0:Value}{f1:Bool}{Q:Value->Shared->Prop} (hf:gN f0)
  (he:iS s.heap (n+1) n f0 f1 k old) (i1:dJ s.heap t n a k) (s1:bW s.heap t a xs) (l1:a < n) (hx:xs[k]? = some x)
  (hQ:∀ (T:Nat) h' f0' f1' old',s.heap.objs.size<=T->gN f0'->iS h' (n+1) n f0' f1' ((k:Int)+1) old'->dJ h' t n a (k+1)->dG h' T #[.int k s.toks,x]->
   (∀ (c:Nat) o,(c < n\/n+1 < c)->s.heap.get? c=some o->h'.get? c=some o)->Q (.ref T) { s with heap:=h',toks:=s.toks+1 }) :
  wpAny (model prog w) A (Builtin.«enumerate.__next__» ⟨[.ref (n+1)],[]⟩) (λ fin s'=>∃ v,fin=.done (.ret v)/\Q v s') E s:=by
 obtain⟨hp,g,d,tk,os⟩:=s;have helt:n+1 < hp.objs.size:=aaq he;show wpAny _ _ (field (.ref (n+1)) 2 >>= _) _ _ _;refine aaa (abv he rfl (x:=.ref n) rfl ?_);refine aaa (bG i1 s1 hx λ h₁ i1₁ ac=>?_);replace ac:Heap.SameBut n hp h₁:=ac;have dt:iS h₁ (n+1) n f0 f1 k old:=ex ac (by omega) he;show wpAny _ _ (field (.ref (n+1)) 3 >>= _) _ _ ⟨h₁,g,d,tk,os⟩;refine aaa (abv dt rfl (x:=rawInt k) rfl ?_);show wpAny _ _ (field (.ref (n+1)) 4 >>= _) _ _ ⟨h₁,g,d,tk,os⟩;refine aaa (abv dt rfl (x:=.none) rfl ?_);show wpAny _ _ (mkInt k >>= _) _ _ ⟨h₁,g,d,tk,os⟩;refine aaa (wpAny_mkInt ?_);show wpAny _ _ (setField (.ref (n+1)) 3 (rawInt ((k:Int)+1)) >>= _) _ _ ⟨h₁,g,d,tk+1,os⟩;refine aaa (wpAny_setField_rec dt (by simp) λ aj du ad=>?_);replace ad:Heap.SameBut (n+1) h₁ aj:=ad;replace du:iS aj (n+1) n f0 f1 ((k:Int)+1) old:=du;show wpAny _ _ (setField (.ref (n+1)) 4 .none >>= _) _ _ ⟨aj,g,d,tk+1,os⟩;refine aaa (wpAny_setField_rec du (by simp) λ ai dw ae=>?_);replace ae:Heap.SameBut (n+1) aj ai:=ae;replace dw:iS ai (n+1) n f0 f1 ((k:Int)+1) old:=dw;show wpAny _ _ (newTuple [.int k tk,x] >>= _) _ _ ⟨ai,g,d,tk+1,os⟩;refine aaa (wpAny_newTuple ?_);have cw:iS (ai.push { cls:=.type "tuple",data:=.seq #[.int k tk,x] }) (n+1) n f0 f1 ((k:Int)+1) old:=aac _ dw;have hsz:ai.objs.size=hp.objs.size:=by rw[ae.1,ad.1,ac.1]
 have dy:dG (ai.push { cls:=.type "tuple",data:=.seq #[.int k tk,x] }) ai.objs.size #[.int k tk,x]:=aak _ rfl;have fe:∀ (c:Nat) o,(c < n\/n+1 < c)->hp.get? c=some o->(ai.push { cls:=.type "tuple",data:=.seq #[.int k tk,x] }).get? c=some o:=λ c o hc e=>
  aac _ (ex ae (by omega) (ex ad (by omega) (ex ac (by omega) e)))
 have dz:dJ (ai.push { cls:=.type "tuple",data:=.seq #[.int k tk,x] }) t n a (k+1):=((i1₁.ext ad (by omega)).ext ae (by omega)).at λ o e=>aac _ e;have hlt₃:n+1 < ai.objs.size:=by rw[hsz];exact helt
 generalize hh₄:ai.push { cls:=.type "tuple",data:=.seq #[.int k tk,x] }=am at cw dy fe dz;have hTle:hp.objs.size<=ai.objs.size:=Nat.le_of_eq hsz.symm;show wpAny _ _ (Builtin.SmallTypes.ownedTupleIsFree (.ref (n+1)) >>= _) _ _ ⟨am,g,d,tk+1,os⟩;refine aaa (zK cw hf ?_ ?_)
 ·simp only [if_true];refine aaa (acz ?_);refine aaa (abv cw rfl (x:=old) rfl ?_);refine aaa (wpAny_setField_rec cw (by simp) λ az cv ao=>?_);replace ao:Heap.SameBut (n+1) am az:=ao;replace cv:iS az (n+1) n f0 f1 ((k:Int)+1) x:=cv;refine aaa (KI (s:=⟨az,g,d,tk+1,os⟩) cv λ cb he₆ ba=>?_);replace ba:Heap.SameBut (n+1) az cb:=ba;refine aaa (wpAny_letGo (aaf ⟨_,rfl,?_⟩));exact hQ ai.objs.size cb _ _ _ hTle (.inr ⟨_,rfl⟩) he₆ ((dz.ext ao (by omega)).ext ba (by omega)) (ex ba (by omega) (ex ao (by omega) dy)) λ c o hc e=>ex ba (by omega) (ex ao (by omega) (fe c o hc e))
 ·intro az cv ao;replace ao:Heap.SameBut (n+1) am az:=ao;simp only [Bool.false_eq_true,if_false];refine aaf ⟨_,rfl,?_⟩;exact hQ ai.objs.size az _ _ _ hTle hf cv (dz.ext ao (by omega)) (ex ao (by omega) dy) λ c o hc e=>ex ao (by omega) (fe c o hc e)
theorem KW {n a:Nat}{t:Bool}{k:Nat}{xs:Array Value}{old f0:Value}{f1:Bool}{Q:Fin->Shared->Prop} (hh:A.handled=none)
  (he:iS s.heap (n+1) n f0 f1 k old) (i1:dJ s.heap t n a k) (s1:bW s.heap t a xs) (hx:xs[k]? = none)
  (hE:∀ h' e,(∀ (c:Nat) o,(c < n\/n+1 < c)->s.heap.get? c=some o->h'.get? c=some o)->(∃ o,h'.get? e=some o/\o.cls=.type "StopIteration")->E (.ref e) { s with heap:=h' }) :
  wpAny (model prog w) A (Builtin.«enumerate.__next__» ⟨[.ref (n+1)],[]⟩) Q E s:=by
 show wpAny _ _ (field (.ref (n+1)) 2 >>= _) _ _ _;refine aaa (abv he rfl (x:=.ref n) rfl ?_);refine aaa (d6 hh i1 s1 hx λ h' e hk he'=>hE h' e (λ c o hc q=>hk c o (show @Ne Nat c n by omega) q) he')
theorem qF {e it:Addr}{f0:Value}{f1:Bool}{i:Int}{old:Value}{Q:Option Value->Shared->Prop} (he:iS s.heap e it f0 f1 i old)
  (h:wpAny (model prog w) A.in1 (Builtin.«enumerate.__next__» ⟨[.ref e],[]⟩) (λ fin s'=>∃ v,fin=.done (.ret v)/\Q (some v) s') (λ e s'=>(∃ a o,e=.ref a/\s'.heap.get? a=some o/\o.cls=.type "StopIteration")/\Q none s') s) :
  wpAny (model prog w) A (pyNext (.ref e)) Q E s:=by
 have hT:s.TypeIs (.ref e) "enumerate" := ⟨_,he,rfl⟩;unfold pyNext;refine aaa (wpAny_attempt (wpAny_callSpecial?_slot (name:=Str.ofString "__next__") hT F.slot_enumerate_next
  (wpAny_call_entry F.slot_enumerate_next hT F.entry_enumerate_next (abl h (λ fin s' h'=>?_) λ e s' h'=>?_) (F.args_enumerate_next_1 _))))
 ·obtain⟨v,rfl,q⟩:=h';exact⟨v,rfl,aaf q⟩
 ·obtain⟨⟨a,o,rfl,ho,hc⟩,q⟩:=h';exact aaa (wpAny_isInstance (T := "StopIteration") (b:=true) ⟨o,ho,hc⟩ isSubtype_stop (aaf q))
theorem CM {tg:Expr}{e it T:Addr}{f0:Value}{f1:Bool}{i:Int}{old:Value}{Q:Unit->Shared->Prop} (hf:gN f0) (hz:iS s.heap e it f0 f1 i old)
  (hQ:∀ h' f0',gN f0'->iS h' e it f0' f1 i old->Heap.SameBut e s.heap h'->Q () { s with heap:=h' }):wpAny (model prog w) A (letOwnedTupleGo tg (.ref e) (.ref T)) Q E s:=by
 have same:Q () s:=hQ s.heap f0 hf hz (Heap.SameBut.refl ..);have core:wpAny (model prog w) A (do
   let o <- load e
   match o.cls,o.data with
   | .type n,.fields vs=>
    if ["enumerate","zip","dict_itemiterator","dict_reverseitemiterator","odict_iterator","itertools.zip_longest","itertools.pairwise"].contains n && vs[0]? == some (rawInt T) then
     rule "for.unpacks-the-owned-tuple"
     updateField e 0 .none
   | _,_=>pure ()) Q E s:=by
  refine aaa (wpAny_load hz ?_);show wpAny _ _ (if (["enumerate","zip","dict_itemiterator","dict_reverseitemiterator","odict_iterator","itertools.zip_longest","itertools.pairwise"].contains "enumerate" &&
   (#[f0,.bool f1,.ref it,rawInt i,.none,old]:Array Value)[0]? == some (rawInt T))=true then _ else _) Q E s
  split
  ·refine aaa (acz ?_);show wpAny _ _ (setField (.ref e) 0 .none) Q E s;exact wpAny_setField_rec hz (by simp) λ h' hz' hs'=>hQ h' .none (.inl rfl) hz' hs'
  ·exact aaf same
 unfold letOwnedTupleGo;cases tg <;> first
  | exact aaf same
  | exact core
theorem qG {e it:Addr}{f0:Value}{f1:Bool}{i:Int}{old:Value}{Q:Value->Shared->Prop} (he:iS s.heap e it f0 f1 i old) (h:Q (.ref e) s):wpAny (model prog w) A (pyIter (.ref e)) Q E s:=by
 have hT:s.TypeIs (.ref e) "enumerate" := ⟨_,he,rfl⟩;refine wpAny_pyIter_slot hT F.slot_enumerate_iter (wpAny_call_entry F.slot_enumerate_iter hT F.entry_enumerate_iter ?_ (F.args_enumerate_iter_1 _));show wpAny _ _ (ret (.ref e)) _ _ s;exact aaf ⟨_,rfl,"enumerate",_,hT,F.slot_enumerate_next.lookup,h⟩
theorem CJ (t:Bool) (l:Addr) (xs:Array Value) :
  Meets (Builtin.«enumerate.__new__» ⟨[.type "enumerate",.ref l],[]⟩) (λ _ R s=>bW s.heap t l xs/\
   R (.ok (.ret (.ref (zA s.heap t l).objs.size))) { s with heap:=(zA s.heap t l).push { cls:=.type "enumerate",data:=.fields #[.none,.bool false,.ref s.heap.objs.size,rawInt 0,.none,.none] } }):=
 .of_wp λ prog w A R s h=>by
  obtain⟨hp,g,d,tk,os⟩:=s;obtain⟨hl,h⟩:=h;have hsub:=sub_enumerate;have hL:bW (Shared.heap ⟨hp,g,d,tk,os⟩) t l xs:=hl
  wp_walk
  refine wpAny_stack_any λ st=>aaf ?_
  split
  ·rename_i c _ _ _ _ _
   cases (c == Value.type "enumerate")
   ·wp_walk using eO hL
    exact⟨_,rfl,h⟩
   ·wp_walk using eO hL
    exact⟨_,rfl,h⟩
  ·wp_walk using eO hL
   exact⟨_,rfl,h⟩
theorem HD {t:Bool}{l:Addr}{xs:Array Value}{Q:Value->Shared->Prop} (hL:bW s.heap t l xs)
  (h:∀ h',iS h' (s.heap.objs.size+1) s.heap.objs.size .none false 0 .none->dJ h' t s.heap.objs.size l 0->(∀ b o,s.heap.get? b=some o->h'.get? b=some o)->Q (.ref (s.heap.objs.size+1)) { s with heap:=h' }) :
  wpAny (model prog w) A (call (.type "enumerate") [.ref l]) Q E s:=by
 refine callType_new F.called_enumerate (by decide) (F.typeCall_enumerate_1 _) (F.newCall_enumerate_1 _) (λ obj=>F.args_object_init_2 obj _) F.entry_enumerate_new (CJ t l xs) ⟨hL,?_⟩;have hz:(zA s.heap t l).objs.size=s.heap.objs.size+1:=aci ..;show _/\_;rw[hz];have he:iS ((zA s.heap t l).push { cls:=.type "enumerate",data:=.fields #[.none,.bool false,.ref s.heap.objs.size,rawInt 0,.none,.none] }) (s.heap.objs.size+1) s.heap.objs.size .none false 0 .none:=by
  have:=aak (zA s.heap t l) (o:={ cls:=.type "enumerate",data:=.fields #[.none,.bool false,.ref s.heap.objs.size,rawInt 0,.none,.none] }) rfl;rw[hz] at this;exact this
 exact⟨⟨_,he,rfl⟩,h _ he (j6 (aac _ (aak _ rfl))) λ b o x=>aac _ (aac _ x)⟩
end
end TwZ
namespace L2
open PySem PySem.Spec PyProof.Rows TwZ
def jK (K:aab) (H:Hp) (t:Bool) (a:Addr) (xs:List V):Prop:=if t=true then bC K H a xs else bR K H a xs
section
variable {X:Cx}{pins:List (Addr×Obj)}{σ:St}{H:Hp}{s:Shared}
theorem Inv.src {t:Bool}{a:Addr}{xs:List V} (I:Inv X pins σ H s) (h:jK X.K H t a xs):∃ its:List Value,bL xs its/\bW s.heap t a its.toArray/\xs.length<=sizeLine:=by
 cases t with
 | true=>
  obtain⟨its,r,p,z⟩:=I.tuple h;exact⟨its,r,(show s.heap.IsTuple a its.toArray from p),z⟩
 | false=>
  obtain⟨its,r,p,z⟩:=I.list h;exact⟨its,r,p.isList,z⟩
theorem Inv.src_inj {t:Bool}{a:Addr}{xs ys:List V} (I:Inv X pins σ H s) (h:jK X.K H t a xs) (h':jK X.K H t a ys):xs=ys:=by
 cases t with
 | true=>exact I.tuple_inj h h'
 | false=>exact I.list_inj h h'
theorem Inv.turnedT {fp:List Addr}{h':Heap}{t':Nat}{T:Addr}{xs:List V}{its:List Value} (I:Inv X pins σ H s) (hf:∀ b∈fp,kB X pins H b) (k:∀ b o,b∉fp->s.heap.get? b=some o->h'.get? b=some o)
  (hT:s.heap.objs.size<=T) (hv:bL xs its) (hz:xs.length<=sizeLine) (ht:IsTup h' T its.toArray):Inv X pins σ (upd H T (.tup xs)) { s with heap:=h',toks:=t' }:=by
 have hn:H T=none:=I.hok.fresh hT;have nT:∀ b u,H b=some u->b≠T:=λ b u e=>aK e hn;have nfp:∀ b u,H b=some u->b∉fp:=λ b u e hb=>by rw[(hf b hb).1] at e;cases e
 have nTh:∀ b o,s.heap.get? b=some o->b≠T:=λ b o e z=>by rw[z] at e;exact absurd (aax (aaq e) hT) (acn _)
 refine I.step (g':=s.gens) (d':=s.drawn) (ch:=fp) (λ b hb=>?_) (λ b o _ _ hc e _=>k b o hc e) (λ b o _ _ hc e _=>⟨o.slots,k b o hc e⟩) (λ b o hc e n=>by rw[aI (nTh b o e)];exact n)
  (λ b o hc e=>⟨o,k b o hc e⟩) (λ b ys e=>by rw[aI (nT b _ e)];exact e) (λ b o u e=>by rw[aI (nT b _ e)];exact e) (λ b ps e=>⟨#[],by rw[aI (nT b _ e),e];simp⟩) (λ m hm=>?_) (λ b u e=>?_) I.bare
 ·obtain⟨_,f1,_,f3,f4,f5⟩:=hf b hb;exact⟨f3,f1,f4,f5⟩
 ·obtain⟨o,es,ep,ho,r⟩:=hm;exact⟨o,es,ep,k _ o (λ hb=>(hf _ hb).2.1 rfl) ho,r⟩
 ·by_cases hb:b=T
  ·subst hb;rw[aB] at e;cases e;exact⟨hz,its,hv,ht⟩
  ·rw[aI hb] at e;refine (I.hok b u e).stay (λ c v hc q=>k c v ?_ q) (λ c q=>by rw[aI (nT c _ q)];exact q) λ c ys q=>by rw[aI (nT c _ q)];exact q
   rcases hc with z | z
   ·rw[z];exact nfp b u e
   ·exact nfp c _ z
theorem Inv.turnedL {fp:List Addr}{h':Heap}{t':Nat} (I:Inv X pins σ H s) (hf:∀ b∈fp,kB X pins H b) (k:∀ b o,b∉fp->s.heap.get? b=some o->h'.get? b=some o):Inv X pins σ H { s with heap:=h',toks:=t' }:=by
 have nfp:∀ b u,H b=some u->b∉fp:=λ b u e hb=>by rw[(hf b hb).1] at e;cases e
 refine I.step (g':=s.gens) (d':=s.drawn) (ch:=fp) (λ b hb=>?_) (λ b o _ _ hc e _=>k b o hc e) (λ b o _ _ hc e _=>⟨o.slots,k b o hc e⟩) (λ b o hc e n=>n)
  (λ b o hc e=>⟨o,k b o hc e⟩) (λ b ys e=>e) (λ b o u e=>e) (λ b ps e=>⟨#[],by rw[e];simp⟩) (λ m hm=>?_) (λ b u e=>?_) I.bare
 ·obtain⟨_,f1,_,f3,f4,f5⟩:=hf b hb;exact⟨f3,f1,f4,f5⟩
 ·obtain⟨o,es,ep,ho,r⟩:=hm;exact⟨o,es,ep,k _ o (λ hb=>(hf _ hb).2.1 rfl) ho,r⟩
 ·refine (I.hok b u e).stay (λ c v hc q=>k c v ?_ q) (λ c q=>q) λ c ys q=>q;rcases hc with z | z
  ·rw[z];exact nfp b u e
  ·exact nfp c _ z
end
def QH (K:aab) (t1 t2 t3:Bool) (a1 a2 a3:Addr):It:=
 ⟨λ i H=>∃ xs ys zs x y z,jK K H t1 a1 xs/\jK K H t2 a2 ys/\jK K H t3 a3 zs/\xs[i]? = some x/\ys[i]? = some y/\zs[i]? = some z,
  λ i H v H'=>∃ T x y z,H T=none/\v=.ref T/\(∀ xs,jK K H t1 a1 xs->xs[i]? = some x)/\(∀ xs,jK K H t2 a2 xs->xs[i]? = some y)/\(∀ xs,jK K H t3 a3 xs->xs[i]? = some z)/\H'=upd H T (.tup [x,y,z]),
  λ i H=>∃ xs ys zs,jK K H t1 a1 xs/\jK K H t2 a2 ys/\jK K H t3 a3 zs/\(xs.length<=i\/ys.length<=i\/zs.length<=i)⟩
def QS (n a1 a2 a3:Nat) (t1 t2 t3:Bool) (i:Nat) (h:Heap):Prop:=
 ∃ f0 f1 c1 c2 c3,gN f0/\nM h (n+5) (n+3) (n+4) f0 f1/\dG h (n+3) #[.ref n,.ref (n+1),.ref (n+2)]/\dG h (n+4) #[c1,c2,c3]/\
  dJ h t1 n a1 i/\dJ h t2 (n+1) a2 i/\dJ h t3 (n+2) a3 i/\a1 < n/\a2 < n/\a3 < n
def CU (n:Nat) (m:Nat):List Addr:=(List.range m).map λ k=>(n+k:Nat)
theorem dO {n m:Nat}{b:Addr}:b∈CU n m↔∃ k,k < m/\b=n+k:=by
 unfold CU;rw[aaz];constructor
 ·rintro⟨k,hk,e⟩;exact⟨k,abz.mp hk,e.symm⟩
 ·rintro⟨k,hk,e⟩;exact⟨k,abz.mpr hk,e.symm⟩
theorem gR {n m:Nat}{b:Nat} (h:(b:Addr)∉CU n m) (hm:0 < m):b < n\/n+(m - 1) < b:=by
 by_cases h1:b < n
 ·exact .inl h1
 ·by_cases h2:n+(m - 1) < b
  ·exact .inr h2
  ·exact absurd (dO.mpr ⟨b - n,by omega,by show (b:Nat)=n+(b - n);omega⟩) h
theorem FD {P:Program}{w:World}{K:aab}{tg:Expr} (n a1 a2 a3:Nat) (t1 t2 t3:Bool):Turn P w K tg (QH K t1 t2 t3 a1 a2 a3) (CU n 6) (n+5) (QS n a1 a2 a3 t1 t2 t3) where
 mem:=dO.mpr ⟨5,by decide,rfl⟩
 obj:=λ i h st b hb=>by
  obtain⟨f0,f1,c1,c2,c3,hf,hz,hTI,hTO,i1,i2,i3,_⟩:=st;obtain⟨k,hk,rfl⟩:=dO.mp hb;have hk':k=0\/k=1\/k=2\/k=3\/k=4\/k=5:=by omega
  rcases hk' with rfl | rfl | rfl | rfl | rfl | rfl
  ·exact i1.obj
  ·exact i2.obj
  ·exact i3.obj
  ·exact⟨_,hTI,λ v z=>by cases z⟩
  ·exact⟨_,hTO,λ v z=>by cases z⟩
  ·exact⟨_,hz,λ v z=>by cases z⟩
 keep:=λ i h h' st k=>by
  obtain⟨f0,f1,c1,c2,c3,hf,hz,hTI,hTO,i1,i2,i3,l⟩:=st;have m:∀ j,j < 6->((n+j:Nat):Addr)∈CU n 6:=λ j hj=>dO.mpr ⟨j,hj,rfl⟩;exact⟨f0,f1,c1,c2,c3,hf,k _ (m 5 (by decide)) _ hz,k _ (m 3 (by decide)) _ hTI,k _ (m 4 (by decide)) _ hTO,i1.at λ o e=>k _ (m 0 (by decide)) _ e,i2.at λ o e=>k _ (m 1 (by decide)) _ e,i3.at λ o e=>k _ (m 2 (by decide)) _ e,l⟩
 item:=by
  intro X hP hw hK hc i pins s σ H E I hf st hg;subst hP hw hK;obtain⟨f0,f1,c1,c2,c3,f,hz,hTI,hTO,i1,i2,i3,l1,l2,l3⟩:=st;obtain⟨xs,ys,zs,x,y,z,q1,q2,q3,hx,hy,hw⟩:=hg;obtain⟨us,r1,p1,_⟩:=I.src q1;obtain⟨vs,r2,p2,_⟩:=I.src q2;obtain⟨ws,r3,p3,_⟩:=I.src q3;obtain⟨u,hu,ru⟩:=r1.get hx;obtain⟨v,hv,rv⟩:=r2.get hy;obtain⟨w',hw',rw'⟩:=r3.get hw;refine jR hz (ET f hz hTI hTO i1 i2 i3 p1 p2 p3 l1 l2 l3 (by simpa using hu) (by simpa using hv) (by simpa using hw') λ T h' f0' f1' d1 d2 d3 hT f' hz' hTI' hTO' i1' i2' i3' hTp hk=>?_);refine⟨_,rfl,vI (s:={ s with heap:=h' }) f' hz' λ h'' f0'' f'' hz'' hs=>?_⟩;replace hs:Heap.SameBut (n+5) h' h'':=hs;have hTn:n+5 < T:=aax (aaq hz) hT;have hTp':dG h'' T #[u,v,w']:=ex hs (by omega) hTp;have IT:Inv X pins σ (upd H T (.tup [x,y,z])) { s with heap:=h'',toks:=s.toks }:=I.turnedT (fp:=CU n 6) hf (λ b o hb e=>ex (c:=b) hs (by have:=gR (b:=b) hb (by decide);have:n+(6 - 1)=n+5:=rfl;omega) (hk b o (gR (b:=b) hb (by decide)) e)) hT (its:=[u,v,w']) (.cons ru (.cons rv (.cons rw' .nil))) (by show 3<=sizeLine;decide) ⟨_,hTp',rfl,_,rfl⟩;refine⟨.ref T,upd H T (.tup [x,y,z]),IT,rfl,
   ⟨T,x,y,z,I.hok.fresh hT,rfl,λ as q=>by rw[I.src_inj q q1];exact hx,λ as q=>by rw[I.src_inj q q2];exact hy,λ as q=>by rw[I.src_inj q q3];exact hw,rfl⟩,
   ⟨f0'',f1',d1,d2,d3,f'',hz'',ex hs (by omega) hTI',ex hs (by omega) hTO',i1'.ext hs (by omega),i2'.ext hs (by omega),i3'.ext hs (by omega),l1,l2,l3⟩,λ b hb=>?_⟩
  ·obtain⟨j,hj,rfl⟩:=dO.mp hb;rw[aI (show ((n+j:Nat):Addr)≠T from (show @Ne Nat (n+j) T by omega))];exact (hf _ hb).1
 done:=by
  intro X hP hw hK hc i pins s σ H E I hf st hg;subst hP hw hK;obtain⟨f0,f1,c1,c2,c3,f,hz,hTI,hTO,i1,i2,i3,l1,l2,l3⟩:=st;obtain⟨xs,ys,zs,q1,q2,q3,hend⟩:=hg;obtain⟨us,r1,p1,_⟩:=I.src q1;obtain⟨vs,r2,p2,_⟩:=I.src q2;obtain⟨ws,r3,p3,_⟩:=I.src q3;have e1:=r1.length;have e2:=r2.length;have e3:=r3.length;refine jR hz (HM (I.ok.hd hc) f hz hTI hTO i1 i2 i3 p1 p2 p3 l1 l2 l3 (by
   rcases hend with h | h | h
   ·exact .inl (by simp;omega)
   ·exact .inr (.inl (by simp;omega))
   ·exact .inr (.inr (by simp;omega))) λ h' e hk he=>?_)
  obtain⟨o,ho,hcl⟩:=he;exact⟨⟨e,o,rfl,ho,hcl⟩,rfl,I.turnedL (t':=s.toks) hf λ b o hb q=>hk b o (gR (b:=b) hb (by decide)) q⟩
 self:=λ _ _ _ _ _ st h=>by
  obtain⟨f0,f1,c1,c2,c3,f,hz,_⟩:=st;exact jT hz h
def QI (K:aab) (t1 t2:Bool) (a1 a2:Addr):It:=
 ⟨λ i H=>∃ xs ys x y,jK K H t1 a1 xs/\jK K H t2 a2 ys/\xs[i]? = some x/\ys[i]? = some y,
  λ i H v H'=>∃ T x y,H T=none/\v=.ref T/\(∀ xs,jK K H t1 a1 xs->xs[i]? = some x)/\(∀ xs,jK K H t2 a2 xs->xs[i]? = some y)/\H'=upd H T (.tup [x,y]),
  λ i H=>∃ xs ys,jK K H t1 a1 xs/\jK K H t2 a2 ys/\(xs.length<=i\/ys.length<=i)⟩
def QT (n a1 a2:Nat) (t1 t2:Bool) (i:Nat) (h:Heap):Prop:=
 ∃ f0 f1 c1 c2,gN f0/\nM h (n+4) (n+2) (n+3) f0 f1/\dG h (n+2) #[.ref n,.ref (n+1)]/\dG h (n+3) #[c1,c2]/\dJ h t1 n a1 i/\dJ h t2 (n+1) a2 i/\a1 < n/\a2 < n
theorem FE {P:Program}{w:World}{K:aab}{tg:Expr} (n a1 a2:Nat) (t1 t2:Bool):Turn P w K tg (QI K t1 t2 a1 a2) (CU n 5) (n+4) (QT n a1 a2 t1 t2) where
 mem:=dO.mpr ⟨4,by decide,rfl⟩
 obj:=λ i h st b hb=>by
  obtain⟨f0,f1,c1,c2,hf,hz,hTI,hTO,i1,i2,_⟩:=st;obtain⟨k,hk,rfl⟩:=dO.mp hb;have hk':k=0\/k=1\/k=2\/k=3\/k=4:=by omega
  rcases hk' with rfl | rfl | rfl | rfl | rfl
  ·exact i1.obj
  ·exact i2.obj
  ·exact⟨_,hTI,λ v z=>by cases z⟩
  ·exact⟨_,hTO,λ v z=>by cases z⟩
  ·exact⟨_,hz,λ v z=>by cases z⟩
 keep:=λ i h h' st k=>by
  obtain⟨f0,f1,c1,c2,hf,hz,hTI,hTO,i1,i2,l⟩:=st;have m:∀ j,j < 5->((n+j:Nat):Addr)∈CU n 5:=λ j hj=>dO.mpr ⟨j,hj,rfl⟩;exact⟨f0,f1,c1,c2,hf,k _ (m 4 (by decide)) _ hz,k _ (m 2 (by decide)) _ hTI,k _ (m 3 (by decide)) _ hTO,i1.at λ o e=>k _ (m 0 (by decide)) _ e,i2.at λ o e=>k _ (m 1 (by decide)) _ e,l⟩
 item:=by
  intro X hP hw hK hc i pins s σ H E I hf st hg;subst hP hw hK;obtain⟨f0,f1,c1,c2,f,hz,hTI,hTO,i1,i2,l1,l2⟩:=st;obtain⟨xs,ys,x,y,q1,q2,hx,hy⟩:=hg;obtain⟨us,r1,p1,_⟩:=I.src q1;obtain⟨vs,r2,p2,_⟩:=I.src q2;obtain⟨u,hu,ru⟩:=r1.get hx;obtain⟨v,hv,rv⟩:=r2.get hy;refine jR hz (EU f hz hTI hTO i1 i2 p1 p2 l1 l2 (by simpa using hu) (by simpa using hv) λ T h' f0' f1' d1 d2 hT f' hz' hTI' hTO' i1' i2' hTp hk=>?_);refine⟨_,rfl,vI (s:={ s with heap:=h' }) f' hz' λ h'' f0'' f'' hz'' hs=>?_⟩;replace hs:Heap.SameBut (n+4) h' h'':=hs;have hTn:n+4 < T:=aax (aaq hz) hT;have hTp':dG h'' T #[u,v]:=ex hs (by omega) hTp;have IT:Inv X pins σ (upd H T (.tup [x,y])) { s with heap:=h'',toks:=s.toks }:=I.turnedT (fp:=CU n 5) hf (λ b o hb e=>ex (c:=b) hs (by have:=gR (b:=b) hb (by decide);have:n+(5 - 1)=n+4:=rfl;omega) (hk b o (gR (b:=b) hb (by decide)) e)) hT (its:=[u,v]) (.cons ru (.cons rv .nil)) (by show 2<=sizeLine;decide) ⟨_,hTp',rfl,_,rfl⟩;refine⟨.ref T,upd H T (.tup [x,y]),IT,rfl,
   ⟨T,x,y,I.hok.fresh hT,rfl,λ as q=>by rw[I.src_inj q q1];exact hx,λ as q=>by rw[I.src_inj q q2];exact hy,rfl⟩,
   ⟨f0'',f1',d1,d2,f'',hz'',ex hs (by omega) hTI',ex hs (by omega) hTO',i1'.ext hs (by omega),i2'.ext hs (by omega),l1,l2⟩,λ b hb=>?_⟩
  ·obtain⟨j,hj,rfl⟩:=dO.mp hb;rw[aI (show ((n+j:Nat):Addr)≠T from (show @Ne Nat (n+j) T by omega))];exact (hf _ hb).1
 done:=by
  intro X hP hw hK hc i pins s σ H E I hf st hg;subst hP hw hK;obtain⟨f0,f1,c1,c2,f,hz,hTI,hTO,i1,i2,l1,l2⟩:=st;obtain⟨xs,ys,q1,q2,hend⟩:=hg;obtain⟨us,r1,p1,_⟩:=I.src q1;obtain⟨vs,r2,p2,_⟩:=I.src q2;have e1:=r1.length;have e2:=r2.length;refine jR hz (HN (I.ok.hd hc) f hz hTI hTO i1 i2 p1 p2 l1 l2 (by
   rcases hend with h | h
   ·exact .inl (by simp;omega)
   ·exact .inr (by simp;omega)) λ h' e hk he=>?_)
  obtain⟨o,ho,hcl⟩:=he;exact⟨⟨e,o,rfl,ho,hcl⟩,rfl,I.turnedL (t':=s.toks) hf λ b o hb q=>hk b o (gR (b:=b) hb (by decide)) q⟩
 self:=λ _ _ _ _ _ st h=>by
  obtain⟨f0,f1,c1,c2,f,hz,_⟩:=st;exact jT hz h
def QJ (K:aab) (t:Bool) (a:Addr):It:=
 ⟨λ i H=>∃ xs x,jK K H t a xs/\xs[i]? = some x,
  λ i H v H'=>∃ T x,H T=none/\v=.ref T/\(∀ xs,jK K H t a xs->xs[i]? = some x)/\H'=upd H T (.tup [.int i,x]),
  λ i H=>∃ xs,jK K H t a xs/\xs.length<=i⟩
def tne (n a:Nat) (t:Bool) (i:Nat) (h:Heap):Prop:=∃ f0 f1 old,gN f0/\iS h (n+1) n f0 f1 i old/\dJ h t n a i/\a < n
theorem FG {P:Program}{w:World}{K:aab}{tg:Expr} (n a:Nat) (t:Bool):Turn P w K tg (QJ K t a) (CU n 2) (n+1) (tne n a t) where
 mem:=dO.mpr ⟨1,by decide,rfl⟩
 obj:=λ i h st b hb=>by
  obtain⟨f0,f1,old,hf,he,i1,_⟩:=st;obtain⟨k,hk,rfl⟩:=dO.mp hb;have hk':k=0\/k=1:=by omega
  rcases hk' with rfl | rfl
  ·exact i1.obj
  ·exact⟨_,he,λ v z=>by cases z⟩
 keep:=λ i h h' st k=>by
  obtain⟨f0,f1,old,hf,he,i1,l⟩:=st;have m:∀ j,j < 2->((n+j:Nat):Addr)∈CU n 2:=λ j hj=>dO.mpr ⟨j,hj,rfl⟩;exact⟨f0,f1,old,hf,k _ (m 1 (by decide)) _ he,i1.at λ o e=>k _ (m 0 (by decide)) _ e,l⟩
 item:=by
  intro X hP hw hK hc i pins s σ H E I hf st hg;subst hP hw hK;obtain⟨f0,f1,old,f,he,i1,l1⟩:=st;obtain⟨xs,x,q1,hx⟩:=hg;obtain⟨us,r1,p1,_⟩:=I.src q1;obtain⟨u,hu,ru⟩:=r1.get hx;refine qF he (GK f he i1 p1 l1 (by simpa using hu) λ T h' f0' f1' old' hT f' he' i1' hTp hk=>?_);refine⟨_,rfl,CM (s:={ s with heap:=h',toks:=s.toks+1 }) f' he' λ h'' f0'' f'' he'' hs=>?_⟩;replace hs:Heap.SameBut (n+1) h' h'':=hs;have hTn:n+1 < T:=aax (aaq he) hT;have hTp':dG h'' T #[.int i s.toks,u]:=ex hs (by omega) hTp;have IT:Inv X pins σ (upd H T (.tup [.int i,x])) { s with heap:=h'',toks:=s.toks+1 }:=I.turnedT (fp:=CU n 2) hf (λ b o hb e=>ex (c:=b) hs (by have:=gR (b:=b) hb (by decide);have:n+(2 - 1)=n+1:=rfl;omega) (hk b o (gR (b:=b) hb (by decide)) e)) hT (its:=[.int i s.toks,u]) (.cons ⟨_,rfl⟩ (.cons ru .nil)) (by show 2<=sizeLine;decide) ⟨_,hTp',rfl,_,rfl⟩;have he2:iS h'' (n+1) n f0'' f1' ((i+1:Nat):Int) old':=by
   have:((i+1:Nat):Int)=(i:Int)+1:=by push_cast;rfl
   rw[this];exact he''
  refine⟨.ref T,upd H T (.tup [.int i,x]),IT,rfl,⟨T,x,I.hok.fresh hT,rfl,λ as q=>by rw[I.src_inj q q1];exact hx,rfl⟩,⟨f0'',f1',old',f'',he2,i1'.ext hs (by omega),l1⟩,λ b hb=>?_⟩
  ·obtain⟨j,hj,rfl⟩:=dO.mp hb;rw[aI (show ((n+j:Nat):Addr)≠T from (show @Ne Nat (n+j) T by omega))];exact (hf _ hb).1
 done:=by
  intro X hP hw hK hc i pins s σ H E I hf st hg;subst hP hw hK;obtain⟨f0,f1,old,f,he,i1,l1⟩:=st;obtain⟨xs,q1,hend⟩:=hg;obtain⟨us,r1,p1,_⟩:=I.src q1;have e1:=r1.length;refine qF he (KW (I.ok.hd hc) he i1 p1 (by simp;omega) λ h' e hk he=>?_);obtain⟨o,ho,hcl⟩:=he;exact⟨⟨e,o,rfl,ho,hcl⟩,rfl,I.turnedL (t':=s.toks) hf λ b o hb q=>hk b o (gR (b:=b) hb (by decide)) q⟩
 self:=λ _ _ _ _ _ st h=>by
  obtain⟨f0,f1,old,f,he,_⟩:=st;exact qG he h
section
variable {X:Cx}{tg:Expr}
theorem AI:bootBuiltins "zip" = some (.type "zip"):=by decide +kernel
theorem HF:bootBuiltins "enumerate" = some (.type "enumerate"):=by decide +kernel
def O6 (K:aab) (ta:TA):TI:=λ σ H R=>ta σ H λ vs H1=>∃ t1 t2 a1 a2,vs=[.ref a1,.ref a2]/\(∃ xs,jK K H1 t1 a1 xs)/\(∃ xs,jK K H1 t2 a2 xs)/\R (QI K t1 t2 a1 a2) H1
def O5 (K:aab) (ta:TA):TI:=λ σ H R=>ta σ H λ vs H1=>∃ t1 t2 t3 a1 a2 a3,vs=[.ref a1,.ref a2,.ref a3]/\(∃ xs,jK K H1 t1 a1 xs)/\(∃ xs,jK K H1 t2 a2 xs)/\(∃ xs,jK K H1 t3 a3 xs)/\R (QH K t1 t2 t3 a1 a2 a3) H1
def O8 (K:aab) (ta:TA):TI:=λ σ H R=>ta σ H λ vs H1=>∃ t a,vs=[.ref a]/\(∃ xs,jK K H1 t a xs)/\R (QJ K t a) H1
theorem MG {a:Expr}{ta:TA}{p pos:Pos} (hg:Gl X "enumerate") (hm:X.mg "enumerate" = none) (ha:PA X [a] ta) (hs:starEach [a] X.env=[(false,eval a X.env)]:=by rfl):PI X tg (.Call (.Name "enumerate" p) [a] [] pos) (O8 X.K ta):=by
 intro pins s σ H R I h;refine Call_ (lH I hg hm HF (PyProof.Rows.callWith_type1 (cK (ha pos pins s σ H _ I h) λ us s1 ⟨vs,H1,I1,r1,q1⟩=>?_) hs rfl));obtain⟨t,a1,e,⟨xs,hq⟩,q⟩:=q1;subst e;cases r1 with
 | cons r rr=>
  cases rr;cases r;obtain⟨its,rv,p,hz⟩:=I1.src hq;refine HD p λ h' he i1 hk=>?_;refine qG (s:={ s1 with heap:=h' }) he ?_;refine⟨_,CU s1.heap.objs.size 2,tne s1.heap.objs.size a1 t,_,H1,rfl,I1.kept (t':=s1.toks) hk,FG _ _ _,⟨.none,false,.none,.inl rfl,he,i1,p.lt⟩,λ b hb=>?_,q⟩;obtain⟨k,_,rfl⟩:=dO.mp hb;exact I1.fpOk (Nat.le_add_right _ _) (I1.hok.fresh (Nat.le_add_right _ _))
theorem ME {a b:Expr}{ta:TA}{p pos:Pos} (hg:Gl X "zip") (hm:X.mg "zip" = none) (ha:PA X [a,b] ta) (hs:starEach [a,b] X.env=[(false,eval a X.env),(false,eval b X.env)]:=by rfl) (hs2:starEach [b] X.env=[(false,eval b X.env)]:=by rfl) :
  PI X tg (.Call (.Name "zip" p) [a,b] [] pos) (O6 X.K ta):=by
 intro pins s σ H R I h;refine Call_ (lH I hg hm AI (PyProof.Rows.callWith_type1 (cK (ha pos pins s σ H _ I h) λ us s1 ⟨vs,H1,I1,r1,q1⟩=>?_) (by rw[hs,hs2]) (by rw[hs2];rfl)));obtain⟨t1,t2,a1,a2,e,⟨xs,hq1⟩,⟨ys,hq2⟩,q⟩:=q1;subst e;cases r1 with
 | cons r rr=>
  cases rr with
  | cons r' rr=>
   cases rr;cases r;cases r';obtain⟨its,rv,p1,hz⟩:=I1.src hq1;obtain⟨its2,rv2,p2,hz2⟩:=I1.src hq2;refine GU p1 p2 λ h' hz' hTI hTO i1 i2 hk=>?_;refine jT (s:={ s1 with heap:=h' }) hz' ?_;refine⟨_,CU s1.heap.objs.size 5,QT s1.heap.objs.size a1 a2 t1 t2,_,H1,rfl,I1.kept (t':=s1.toks) hk,FE _ _ _ _ _,⟨.none,false,_,_,.inl rfl,hz',hTI,hTO,i1,i2,p1.lt,p2.lt⟩,λ b hb=>?_,q⟩;obtain⟨k,_,rfl⟩:=dO.mp hb;exact I1.fpOk (Nat.le_add_right _ _) (I1.hok.fresh (Nat.le_add_right _ _))
theorem MD {a b c:Expr}{ta:TA}{p pos:Pos} (hg:Gl X "zip") (hm:X.mg "zip" = none) (ha:PA X [a,b,c] ta) (hs:starEach [a,b,c] X.env=[(false,eval a X.env),(false,eval b X.env),(false,eval c X.env)]:=by rfl)
  (hs2:starEach [b,c] X.env=[(false,eval b X.env),(false,eval c X.env)]:=by rfl) :
  PI X tg (.Call (.Name "zip" p) [a,b,c] [] pos) (O5 X.K ta):=by
 intro pins s σ H R I h;refine Call_ (lH I hg hm AI (PyProof.Rows.callWith_type1 (cK (ha pos pins s σ H _ I h) λ us s1 ⟨vs,H1,I1,r1,q1⟩=>?_) (by rw[hs,hs2]) (by rw[hs2];rfl)));obtain⟨t1,t2,t3,a1,a2,a3,e,⟨xs,hq1⟩,⟨ys,hq2⟩,⟨zs,hq3⟩,q⟩:=q1;subst e;cases r1 with
 | cons r rr=>
  cases rr with
  | cons r' rr=>
   cases rr with
   | cons r'' rr=>
    cases rr;cases r;cases r';cases r'';obtain⟨its,rv,p1,hz⟩:=I1.src hq1;obtain⟨its2,rv2,p2,hz2⟩:=I1.src hq2;obtain⟨its3,rv3,p3,hz3⟩:=I1.src hq3;refine GT p1 p2 p3 λ h' hz' hTI hTO i1 i2 i3 hk=>?_;refine jT (s:={ s1 with heap:=h' }) hz' ?_;refine⟨_,CU s1.heap.objs.size 6,QS s1.heap.objs.size a1 a2 a3 t1 t2 t3,_,H1,rfl,I1.kept (t':=s1.toks) hk,FD _ _ _ _ _ _ _,⟨.none,false,_,_,_,.inl rfl,hz',hTI,hTO,i1,i2,i3,p1.lt,p2.lt,p3.lt⟩,λ b hb=>?_,q⟩;obtain⟨k,_,rfl⟩:=dO.mp hb;exact I1.fpOk (Nat.le_add_right _ _) (I1.hok.fresh (Nat.le_add_right _ _))
end
section
variable {prog:Program}{A:Around}{E:Value->Shared->Prop}{s:Shared}{l:Addr}{xs:Array (Int×Tok)}
theorem BC {Q:Value->Shared->Prop} (hh:A.handled=none) (hl:s.heap.IsTuple l (intItems xs))
  (h:∀ h' tk t',(∀ b o,s.heap.get? b=some o->h'.get? b=some o)->Q (.int (preSum (numAt xs) xs.size) t') { s with heap:=h',toks:=tk }) :
  wpAny (model prog w) A (call (.builtin "sum") [.ref l]) Q E s:=by
 have hlt:l < s.heap.objs.size:=by obtain⟨_,e,_⟩:=hl;exact aaq e
 refine call_sum_walkG (wpAny_pyIter_tuple hl ?_);refine⟨_,_,_,_,_,_,numAt xs,rfl,Walks.tuple (A:=A.in1) hh _ l (abc hlt) (intItems xs),⟨⟨_,aak _ rfl,rfl,rfl⟩,hl.push _⟩,λ b hb=>?_,(λ _ _=>intItems_at),λ h' tk t' hk=>?_⟩
 ·show b < (s.heap.push _).objs.size;rw[aci];rcases aao.mp hb with rfl | hb
  ·exact Nat.lt_succ_self _
  ·rcases aao.mp hb with rfl | hb
   ·exact Nat.lt_succ_of_lt hlt
   ·cases hb
 ·have:=h h' tk t' (λ b o e=>hk b o (λ hm=>by rw[aan.mp hm] at e;exact acn _ (aaq e)) (aac _ e));simpa [intItems] using this
theorem BD {t:Bool}{vs:List Value}{ns:List Int}{Q:Value->Shared->Prop} (hh:A.handled=none) (hl:bW s.heap t l vs.toArray) (hi:IntsAre vs ns)
  (h:∀ h' tk t',(∀ b o,s.heap.get? b=some o->h'.get? b=some o)->Q (.int ns.sum t') { s with heap:=h',toks:=tk }) :
  wpAny (model prog w) A (call (.builtin "sum") [.ref l]) Q E s:=by
 obtain⟨xs,hx⟩:=hi.allInts.items;have hn:numsOf vs.toArray.toList=ns:=by rw[show vs.toArray.toList=vs from rfl,hi.numsOf]
 rw[hx] at hl hn;rw[nums_intItems] at hn;have e:preSum (numAt xs) xs.size=ns.sum:=by rw[preSum_eq,acq (by simp),hn]
 cases t with
 | true=>exact BC hh hl λ h' tk t' hk=>by rw[e];exact h h' tk t' hk
 | false=>exact sum_intListG hh hl λ h' tk t' hk=>by rw[e];exact h h' tk t' hk
end
section
variable {X:Cx}
def R7 (K:aab):List V->Hp->VK->Prop:=λ xs H Q=>∃ (t:Bool) (p:Addr) (ns:List Int),xs=[.ref p]/\jK K H t p (ns.map V.int)/\Q (.int ns.sum) H
theorem GW (hc:X.calm=true):dZ X (.builtin "sum") (R7 X.K):=by
 intro pins s σ H xs us Q I r h;obtain⟨t,p,ns,rfl,hq,q⟩:=h;obtain⟨u,rfl,ru⟩:=r.one;cases ru;obtain⟨its,rv,p1,hz⟩:=I.src hq;refine BD (I.ok.hd hc) p1 (nF rv) λ h' tk t' hk=>⟨.int ns.sum,H,I.kept hk,⟨t',rfl⟩,q⟩
def TyS (K:aab) (H:Hp) (x:V) (t:Value):Prop:=TyOf K H x t\/∃ a ys,x=.ref a/\bC K H a ys/\t=.type "tuple"
def RH (K:aab):List V->Hp->VK->Prop:=λ xs H Q=>∃ x T t b,xs=[x,.ty T]/\TyS K H x t/\PySem.W.kitOne K t (.type T)=some b/\Q (.bl b) H
theorem L9:dZ X (.builtin "isinstance") (RH X.K):=by
 intro pins s σ H xs us Q I r h;obtain⟨x,T,t,b,rfl,ty,e,q⟩:=h;obtain⟨u,v,rfl,ru,rv⟩:=r.two;cases rv;rcases ty with ty | ⟨a,ys,rfl,hq,rfl⟩
 ·exact GC I ru ty e λ tk=>⟨.bl b,H,I.tok tk,rfl,q⟩
 ·cases (show u=Value.ref a from ru);obtain⟨its,rv',⟨o,h1,h2,_⟩,_⟩:=I.tuple hq;exact PySem.W.kia_one PySem.W.kitx_tuple I.kIn ⟨o,h1,h2⟩ e (λ z=>nomatch z) λ tk=>⟨.bl b,H,I.tok tk,rfl,q⟩
end
theorem j4:fillsNumberSlot (.type "tuple") "mul" = pure false:=
 PySem.fillsNumberSlot_seq (id := "tuple.__mul__") (r:=some (.builtin "tuple.__rmul__")) F.slot_tuple_mul.lookup (by decide +kernel) F.slot_tuple_rmul.lookup (by decide +kernel)
theorem o9:seqRepeat? (.type "tuple")=pure (some (.builtin "tuple.__mul__")):=by
 unfold seqRepeat?;rw[PySem.seqSlot_of (T := "tuple") (name := "__mul__") (id := "tuple.__mul__") F.slot_tuple_mul.lookup (by decide +kernel),PySem.seqSlot_of (T := "tuple") (name := "__rmul__") (id := "tuple.__rmul__") F.slot_tuple_rmul.lookup (by decide +kernel)];rfl
theorem lJ (a:Int) (t:Tok) (l:Addr) (items:Array Value) (n:Nat) (dd:Option Addr) (sl:Array (Option Value)) :
  Meets (Builtin.«int.__rmul__» ⟨[.int a t,.ref l],[]⟩) (λ _ R s=>s.heap.get? l=some { cls:=.type "tuple",dict:=dd,data:=.seq items n,slots:=sl }/\R (.ok (.ret Value.notImplemented)) s):=
 .of_wp λ prog w A R s h=>by obtain⟨hp,g,d,tk,os⟩:=s;obtain⟨hl,h⟩:=h;wp_walk;exact⟨_,rfl,h⟩
theorem uF (l:Addr) (items:Array Value) (n:Nat) (u:Tok) (dd:Option Addr) (sl:Array (Option Value)) :
  Meets (Builtin.«tuple.__mul__» ⟨[.ref l,.int 1 u],[]⟩) (λ _ R s=>s.heap.get? l=some { cls:=.type "tuple",dict:=dd,data:=.seq items n,slots:=sl }/\R (.ok (.ret (.ref l))) s):=
 .of_wp λ prog w A R s h=>by
  obtain⟨hp,g,d,tk,os⟩:=s;obtain⟨hl,h⟩:=h;have c1:(items.isEmpty || (1:Int) == 1)=true:=by simp
  wp_walk
  exact⟨_,rfl,h⟩
theorem rN (l:Addr) (items:Array Value) (n:Nat) (x:Int) (u:Tok) (dd:Option Addr) (sl:Array (Option Value)) (c0:¬ (decide (x < -(2 ^ 63)) || decide (x ≥ 2 ^ 63))=true) (c1:¬ (items.isEmpty || x == 1)=true)
  (c2:¬ (decide (x<=0) || items.isEmpty)=true) (c3:¬ (items.size:Int) * x > (2 ^ 63 - 1) / 8) (c4:¬ Builtin.Tuple.tupleTooMany ((items.size:Int) * x)=true) (hsz:(List.foldl (λ x1 x2=>x1++x2) #[] (List.replicate x.toNat items)).size<=sizeLine) :
  Meets (Builtin.«tuple.__mul__» ⟨[.ref l,.int x u],[]⟩) (λ _ R s=>s.heap.get? l=some { cls:=.type "tuple",dict:=dd,data:=.seq items n,slots:=sl }/\
   R (.ok (.ret (.ref s.heap.objs.size))) { s with heap:=s.heap.push { cls:=.type "tuple",data:=.seq (List.foldl (λ x1 x2=>x1++x2) #[] (List.replicate x.toNat items)) } }):=
 .of_wp λ prog w A R s h=>by
  obtain⟨hp,g,d,tk,os⟩:=s;obtain⟨hl,h⟩:=h
  wp_walk
  rw[if_neg c0]
  wp_walk
  all_goals (try rw[if_neg c1])
  wp_walk
  all_goals (try rw[if_neg c2])
  wp_walk
  all_goals (try rw[if_neg c3])
  wp_walk
  all_goals (try rw[if_neg c4])
  wp_walk
  exact⟨_,rfl,h⟩
theorem aG.tup {K:aab}{H H':Hp}{a:Addr}{xs:List V} (e:aG H H') (h:bC K H a xs):bC K H' a xs:=by
 rcases h with (h | ⟨o,h⟩) | h
 ·exact .inl (.inl (e _ _ h))
 ·exact .inl (.inr ⟨o,e _ _ h⟩)
 ·exact .inr h
theorem aG.new {H:Hp}{p:Addr}{o:HO} (h:H p=none):aG H (upd H p o):=λ b u e=>by rw[aI (aK e h)];exact e
section
variable {X:Cx}
def NU (K:aab):R2:=λ x y H Q=>∃ (l:Addr) (k:Int) (xs:List V),x=.ref l/\y=.int k/\bC K H l xs/\1<=k/\k < 1000000/\xs≠[]/\xs.length<=10/\
 ∀ p H',aG H H'->bC K H' p (List.replicate k.toNat xs).flatten->Q (.ref p) H'
theorem DT:h9 X (binaryOp .Mult) (NU X.K):=by
 intro pins s σ H x y v u Q I rx ry h;obtain⟨l,k,xs,rfl,rfl,hq,h1,h2,hne,hl10,q⟩:=h;cases rx;obtain⟨t,rfl⟩:=ry;obtain⟨its,r,ht,z⟩:=I.tuple hq;have hlen:=r.length;obtain⟨⟨cls,dd,data,sl⟩,e,hc,n,hd⟩:=id ht;simp only at hc hd;subst hc hd;refine wpAny_binaryOp_repeat_ref (T := "tuple") (U := "int") (by decide) ⟨_,e,rfl⟩ (λ s'=>typeIs_int s' k t) j4 F.fills_int_mul F.slot_int_rmul o9 F.slot_int_index.lookup
  (call_meets F.slot_int_rmul (typeIs_int s k t) F.entry_int_rmul (F.args_int_rmul_2 _ _) (lJ k t l its.toArray n dd sl) ⟨e,rfl,⟨_,e,rfl⟩,?_⟩)
 by_cases hk:k=1
 ·subst hk;refine call_meets F.slot_tuple_mul ⟨_,e,rfl⟩ F.entry_tuple_mul (F.args_tuple_mul_2 _ _) (uF l its.toArray n t dd sl) ⟨e,?_⟩;refine⟨.ref l,H,I,rfl,q l H (aG.refl H) ?_⟩;have e1:(List.replicate (1:Int).toNat xs).flatten=xs:=by simp
  rw[e1];exact hq
 ·have hne':its≠[]:=λ z=>by rw[z] at hlen;exact hne (List.eq_nil_of_length_eq_zero hlen)
  have f0:List.foldl (λ x1 x2=>x1++x2) #[] (List.replicate k.toNat its.toArray)=(List.replicate k.toNat its).flatten.toArray:=by
   have:=vO its k.toNat [];rw[List.nil_append] at this;exact this
  have hemp:its.toArray.isEmpty=false:=by cases its with
   | nil=>exact absurd rfl hne'
   | cons a r=>rfl
  have hszN:k.toNat * its.length<=sizeLine:=by
   have a1:its.length<=10:=by omega
   have a2:k.toNat<=1000000:=by omega
   have:=Nat.mul_le_mul a2 a1;rw[sizeLine_eq];omega
  have hprod:((its.toArray.size:Nat):Int) * k<=16777216:=by
   have a1:((its.toArray.size:Nat):Int)<=10:=by rw[aaw];omega
   have:=Int.mul_le_mul a1 (show k<=1000000 by omega) (by omega) (by omega);omega
  refine call_meets F.slot_tuple_mul ⟨_,e,rfl⟩ F.entry_tuple_mul (F.args_tuple_mul_2 _ _) (rN l its.toArray n k t dd sl (by simp;omega) (by rw[hemp];simp;exact hk) (by rw[hemp];simp;omega) (by omega) (by
    unfold Builtin.Tuple.tupleTooMany;rw[decide_eq_true_iff];rw[sizeLine_eq];omega) (by rw[f0,aaw,DV];exact hszN)) ⟨e,?_⟩
  have I1:=I.laid (a:=s.heap.objs.size) (o:=.tup (List.replicate k.toNat xs).flatten) (h':=s.heap.push { cls:=.type "tuple",data:=.seq (List.foldl (λ x1 x2=>x1++x2) #[] (List.replicate k.toNat its.toArray)) }) (t':=s.toks)
   (λ _ _ q=>aac _ q) (aal _) ⟨by rw[DV,hlen];exact hszN,(List.replicate k.toNat its).flatten,r.rep k.toNat,⟨_,aak _ rfl,rfl,0,by simp only [f0]⟩⟩
  exact⟨.ref _,_,I1,rfl,q _ _ (aG.new I.fresh) (bC.of aB)⟩
end
inductive D where
 | non | bl (b:Bool) | int (i:Int) | str (x:Str) | tup (ds:List D)
mutual
def Is (K:aab) (H:Hp):D->V->Prop
 | .non,v=>v=.non
 | .bl b,v=>v=.bl b
 | .int i,v=>v=.int i
 | .str x,v=>v=.str x
 | .tup ds,v=>∃ a xs,v=.ref a/\bC K H a xs/\IsL K H ds xs
def IsL (K:aab) (H:Hp):List D->List V->Prop
 | [],xs=>xs=[]
 | d::ds,xs=>∃ x r,xs=x::r/\Is K H d x/\IsL K H ds r
end
def bI (K:aab) (H H':Hp):Prop:=∀ a xs,bC K H a xs->bC K H' a xs
theorem bI.refl {K:aab} (H:Hp):bI K H H:=λ _ _ h=>h
theorem bI.trans {K:aab}{H H1 H2:Hp} (a:bI K H H1) (b:bI K H1 H2):bI K H H2:=λ c xs h=>b c xs (a c xs h)
theorem aG.ts {K:aab}{H H':Hp} (e:aG H H'):bI K H H':=λ _ _ h=>e.tup h
mutual
theorem Is.mono {K:aab}{H H':Hp} (t:bI K H H'):∀ (d:D) (v:V),Is K H d v->Is K H' d v
 | .non,_,h=>h
 | .bl _,_,h=>h
 | .int _,_,h=>h
 | .str _,_,h=>h
 | .tup ds,v,h=>by
  rw[Is] at h ⊢;obtain⟨a,xs,e,q,l⟩:=h;exact⟨a,xs,e,t a xs q,IsL.mono t ds xs l⟩
theorem IsL.mono {K:aab}{H H':Hp} (t:bI K H H'):∀ (ds:List D) (xs:List V),IsL K H ds xs->IsL K H' ds xs
 | [],xs,h=>h
 | d::ds,xs,h=>by
  rw[IsL] at h ⊢;obtain⟨x,r,e,hx,hr⟩:=h;exact⟨x,r,e,Is.mono t d x hx,IsL.mono t ds r hr⟩
end
theorem IsL.length {K:aab}{H:Hp}:∀ {ds:List D}{xs:List V},IsL K H ds xs->xs.length=ds.length
 | [],xs,h=>by rw[IsL] at h;subst h;rfl
 | d::ds,xs,h=>by
  rw[IsL] at h;obtain⟨x,r,rfl,_,hr⟩:=h;rw[abb,abb,IsL.length hr]
theorem IsL.get {K:aab}{H:Hp}:∀ {ds:List D}{xs:List V}{i:Nat}{d:D},IsL K H ds xs->ds[i]? = some d->∃ x,xs[i]? = some x/\Is K H d x
 | [],_,_,_,_,e=>by simp at e
 | d::ds,xs,0,d',h,e=>by
  rw[IsL] at h;obtain⟨x,r,rfl,hx,hr⟩:=h;simp at e;subst e;exact⟨x,rfl,hx⟩
 | d::ds,xs,i+1,d',h,e=>by
  rw[IsL] at h;obtain⟨x,r,rfl,hx,hr⟩:=h;obtain⟨y,h1,h2⟩:=IsL.get hr (i:=i) (by simpa using e);exact⟨y,by simpa using h1,h2⟩
theorem IsL.get' {K:aab}{H:Hp}{ds:List D}{xs:List V}{i:Nat}{x:V} (h:IsL K H ds xs) (e:xs[i]? = some x):∃ d,ds[i]? = some d/\Is K H d x:=by
 have hl:=h.length;have hi:i < ds.length:=by rw[<- hl];exact (aae.mp e).1
 obtain⟨y,h1,h2⟩:=h.get (i:=i) (d:=ds[i]) (by simp [hi]);rw[e] at h1;cases h1;exact⟨ds[i],by simp [hi],h2⟩
theorem IsL.snoc {K:aab}{H:Hp}{d:D}{x:V} (hd:Is K H d x):∀ {ds:List D}{xs:List V},IsL K H ds xs->IsL K H (ds++[d]) (xs++[x])
 | [],xs,h=>by
  rw[IsL] at h;subst h;show IsL K H [d] [x];rw[IsL];exact⟨x,[],rfl,hd,by rw[IsL]⟩
 | d'::ds,xs,h=>by
  rw[IsL] at h;obtain⟨y,r,rfl,hy,hr⟩:=h;show IsL K H (d'::(ds++[d])) (y::(r++[x]));rw[IsL];exact⟨y,r++[x],rfl,hy,IsL.snoc hd hr⟩
theorem IsL.ints {K:aab}{H:Hp}:∀ {ns:List Int}{xs:List V},IsL K H (ns.map D.int) xs->xs=ns.map V.int
 | [],xs,h=>by rw[acl,IsL] at h;exact h
 | n::ns,xs,h=>by
  rw[aba,IsL] at h;obtain⟨x,r,rfl,hx,hr⟩:=h;rw[Is] at hx;rw[hx,IsL.ints hr,aba]
theorem IsL.of_ints {K:aab}{H:Hp}:∀ (ns:List Int),IsL K H (ns.map D.int) (ns.map V.int)
 | []=>by rw[acl,acl,IsL]
 | n::ns=>by
  rw[aba,aba,IsL];exact⟨_,_,rfl,by rw[Is],IsL.of_ints ns⟩
theorem IsL.bools {K:aab}{H:Hp}:∀ {ns:List Bool}{xs:List V},IsL K H (ns.map D.bl) xs->xs=ns.map V.bl
 | [],xs,h=>by rw[acl,IsL] at h;exact h
 | n::ns,xs,h=>by
  rw[aba,IsL] at h;obtain⟨x,r,rfl,hx,hr⟩:=h;rw[Is] at hx;rw[hx,IsL.bools hr,aba]
theorem IsL.of_bools {K:aab}{H:Hp}:∀ (ns:List Bool),IsL K H (ns.map D.bl) (ns.map V.bl)
 | []=>by rw[acl,acl,IsL]
 | n::ns=>by
  rw[aba,aba,IsL];exact⟨_,_,rfl,by rw[Is],IsL.of_bools ns⟩
mutual
def D.depth:D->Nat
 | .tup ds=>bM ds+1
 | _=>0
def bM:List D->Nat
 | []=>0
 | d::ds=>max d.depth (bM ds)
end
section
variable {X:Cx}{pins:List (Addr×Obj)}{σ:St}{H:Hp}{s:Shared}
mutual
theorem Is.eqAt (I:Inv X pins σ H s):∀ (d:D) (A:Around) (x y:V) (u v:Value),A.units+d.depth < cLine->Is X.K H d x->Is X.K H d y->aX x u->aX y v->SeqAt.EqAt A s u v true
 | .non,A,x,y,u,v,_,hx,hy,rx,ry=>by
  rw[Is] at hx hy;subst hx hy;cases rx;cases ry;exact SeqAt.EqAt.same _
 | .bl b,A,x,y,u,v,_,hx,hy,rx,ry=>by
  rw[Is] at hx hy;subst hx hy;cases rx;cases ry;exact SeqAt.EqAt.same _
 | .int i,A,x,y,u,v,_,hx,hy,rx,ry=>by
  rw[Is] at hx hy;subst hx hy;obtain⟨t,rfl⟩:=rx;obtain⟨t',rfl⟩:=ry;have:=SeqAt.EqAt.int_int (A:=A) (s:=s) i t i t';simpa using this
 | .str z,A,x,y,u,v,_,hx,hy,rx,ry=>by
  rw[Is] at hx hy;subst hx hy;obtain⟨t,rfl⟩:=rx;obtain⟨t',rfl⟩:=ry;have:=SeqAt.EqAt.str_str (A:=A) (s:=s) z t z t';simpa using this
 | .tup ds,A,x,y,u,v,hu,hx,hy,rx,ry=>by
  rw[Is] at hx hy;obtain⟨a,xs,rfl,q1,l1⟩:=hx;obtain⟨b,ys,rfl,q2,l2⟩:=hy;cases rx;cases ry
  by_cases hab:a=b
  ·subst hab;exact SeqAt.EqAt.same _
  ·obtain⟨us,r1,p1,_⟩:=I.tuple q1;obtain⟨vs,r2,p2,_⟩:=I.tuple q2;have hdep:D.depth (.tup ds)=bM ds+1:=by rw[D.depth]
   rw[hdep] at hu;have e1:=r1.length;have e2:=r2.length;have e3:=l1.length;have e4:=l2.length;have hu2:A.in1.units+bM ds < cLine:=by
    have:A.in1.units<=A.units+1:=by show A.units+1<=A.units+1;exact aal _
    omega
   have all:=IsL.eqAt I ds A.in1 xs ys us vs hu2 l1 l2 r1 r2;have hsz:us.toArray.size=vs.toArray.size:=by simp;omega
   have:=SeqAt.RcAt.tuples (A:=A) (s:=s) (e:=λ _=>true) (show s.heap.IsTuple a us.toArray from p1) (show s.heap.IsTuple b vs.toArray from p2) (by omega) λ j h1 h2=>all j us.toArray[j] vs.toArray[j] (by simp) (by simp);have e5:((List.range (min us.toArray.size vs.toArray.size)).all (λ _=>true) && us.toArray.size == vs.toArray.size)=true:=by
    rw[hsz];simp
   rw[e5] at this;exact SeqAt.EqAt.of_refs hab this
theorem IsL.eqAt (I:Inv X pins σ H s):∀ (ds:List D) (A:Around) (xs ys:List V) (us vs:List Value),A.units+bM ds < cLine->IsL X.K H ds xs->IsL X.K H ds ys->bL xs us->bL ys vs->∀ (j:Nat) (u v:Value),us[j]? = some u->vs[j]? = some v->SeqAt.EqAt A s u v true
 | [],A,xs,ys,us,vs,_,hx,hy,rx,ry,j,u,v,eu,ev=>by
  rw[IsL] at hx;subst hx;cases rx;simp at eu
 | d::ds,A,xs,ys,us,vs,hu,hx,hy,rx,ry,j,u,v,eu,ev=>by
  rw[IsL] at hx hy;obtain⟨x,xr,rfl,hx,hxr⟩:=hx;obtain⟨y,yr,rfl,hy,hyr⟩:=hy;have hd:bM (d::ds)=max d.depth (bM ds):=by rw[bM]
  rw[hd] at hu;cases rx with
  | cons rx rxr=>
   cases ry with
   | cons ry ryr=>
    cases j with
    | zero=>
     simp at eu ev;subst eu ev;exact Is.eqAt I d A x y _ _ (by omega) hx hy rx ry
    | succ j=>exact IsL.eqAt I ds A xr yr _ _ (by omega) hxr hyr rxr ryr j u v (by simpa using eu) (by simpa using ev)
end
end
section
variable {X:Cx}
def P6:V->List V->Hp->VK->Prop:=λ x vs H Q=>∃ (l:Addr) (xs:List V) (y:V) (j:Nat),x=.ref l/\vs=[y]/\H l=some (.lst xs)/\iJ y=true/\xs.all iJ=true/\j < xs.length/\(∀ z,xs[j]? = some z->vT z y=true)/\(∀ i z,i < j->xs[i]? = some z->vT z y=false)/\Q (.int j) H
theorem JR:MtM X "list.index" P6:=by
 intro pins s σ H x vs v us Q I rx rv h;obtain⟨l,xs,y,j,rfl,rfl,hH,fy,fx,hj,h1,h2,q⟩:=h;cases rx;obtain⟨u,rfl,ru⟩:=rv.one;obtain⟨z,its,n,r,hl,e⟩:=I.lstM hH;have key:∀ i (hi:i < its.length),∃ x,xs[i]? = some x/\aX x its[i]/\iJ x=true:=λ i hi=>by
  have hx:xs[i]? = some xs[i]:=by simp [show i < xs.length by omega]
  obtain⟨w',h1,h2⟩:=r.get hx;have:its[i]? = some its[i]:=by simp [hi]
  rw[this] at h1;cases h1;exact⟨_,hx,h2,(acr.mp fx) _ (ada _)⟩
 refine call_meets F.slot_list_index ⟨_,e,rfl⟩ F.entry_list_index (F.args_list_index_2 _ _)
  (SeqAt.list_indexAt l its.toArray n none #[] u (yF y) j (by rw[aaw];omega) (by rw[sizeLine_eq] at z;omega) ?_ ?_) ⟨e,λ w' hw=>?_,⟨.int j,H,I.tok _,⟨_,rfl⟩,q⟩⟩
 ·obtain⟨x,hx,rx,fx'⟩:=key j (by omega);have:=xZ (x:=y) rx fx';show yF y its[j]=true;rw[this];exact h1 x hx
 ·intro i hi hlt;have hi':i < its.length:=by simpa using hi
  obtain⟨x,hx,rx,fx'⟩:=key i hi';have:=xZ (x:=y) rx fx';show yF y its[i]=false;rw[this];exact h2 i x hlt hx
 ·exact j5 ru fy r fx w' (by simpa using hw)
end
structure Callee (P:Program) (w:World) (K:aab) (mg:Str->Option Value) (base:Heap) (x:Str) (ps:List Str) (k:Nat) (sp:Sp) (f:Addr) (fd:FuncData):Prop where
 ok:FnOk P w K mg base mG k f fd ps sp
 mg:mg x=some (.ref f)
 kp:PySem.W.keepIn K (.ref f)=true
 bd:oT K fd ps []
theorem eG {X:Cx}{x:Str}{ps:List Str}{k n:Nat}{sp:Sp}{f:Addr}{fd:FuncData}{e:Expr}{es:List Expr}{t:TA}{p pos:Pos} (G:Callee X.prog X.w X.K X.mg X.base x ps k sp f fd) (hr:Room n X.A) (ha:PA X (e::es) t) (hg:Gl X x:=by rfl) (hle:k<=n:=by decide)
  (hdb:(x == ("__debug__" : Str))=false:=by decide) (he:starEach (e::es) X.env=(false,eval e X.env)::starEach es X.env:=by rfl) (hpl:(backTo pos (starEach es X.env)).any (·.1)=false:=by rfl) :
  PE X (.Call (.Name x p) (e::es) [] pos) (uZ sp [] E0 t):=gQ G.ok (hr.mono hle) hg G.mg G.kp G.bd .nil RL ha hdb he hpl
theorem AJ:bootBuiltins "isinstance" = some (.builtin "isinstance"):=by decide +kernel
def cB (t:Addr) (H H':Hp):Prop:=∀ b o,b≠t->H b=some o->H' b=some o
theorem cB.refl {t:Addr} (H:Hp):cB t H H:=λ _ _ _ h=>h
theorem cB.trans {t:Addr}{H H1 H2:Hp} (a:cB t H H1) (b:cB t H1 H2):cB t H H2:=λ c o hc h=>b c o hc (a c o hc h)
theorem aG.but {t:Addr}{H H':Hp} (a:aG H H'):cB t H H':=λ b o _ h=>a b o h
theorem cB.upd {t:Addr}{H:Hp}{o:HO}:cB t H (upd H t o):=λ b u hb h=>by rw[aI hb];exact h
theorem cB.ts {K:aab}{t:Addr}{H H':Hp} (a:cB t H H') (hm:lS (H t)):bI K H H':=by
 intro b xs h;have ne:∀ {o:HO},H b=some o->¬ lS (some o)->b≠t:=λ e n z=>by rw[<- z,e] at hm;exact n hm
 rcases h with (h | ⟨o,h⟩) | h
 ·exact .inl (.inl (a _ _ (ne h (λ z=>z)) h))
 ·exact .inl (.inr ⟨o,a _ _ (ne h (λ z=>z)) h⟩)
 ·exact .inr h
theorem cB.free {t l:Addr}{H H':Hp} (a:cB t H H') (hl:l≠t) (h:H' l=none):H l=none:=by
 cases q:H l with
 | none=>rfl
 | some o=>rw[a l o hl q] at h;cases h
def NY (K:aab):V->V->Hp->VK->Prop:=λ o i H Q=>∃ (p:Addr) (xs:List V) (k:Int) (v:V),o=.ref p/\i=.int k/\bR K H p xs/\0<=k/\k < 2 ^ 63/\xs[k.toNat]? = some v/\Q v H
theorem KO {X:Cx}:QG X (NY X.K):=by
 intro pins s σ H o i ov iv Q I ro ri h;obtain⟨p,xs,k,v,rfl,rfl,hq,h0,h1,hx,q⟩:=h;cases ro;obtain⟨t,rfl⟩:=ri;obtain⟨its,r,pl,hz⟩:=I.list hq;obtain⟨w',ew,rw'⟩:=r.get hx;exact wpAny_getItem_list pl.isList h0 h1 (by simpa using ew) ⟨v,H,I,rw',q⟩
theorem DY {n:Nat}{k:Int} (h0:0<=k) (h1:k < n):N5 n k=some k.toNat:=by
 unfold N5;rw[if_pos h0,if_pos h1]
theorem rE {α:Type}{xs:List α}{k:Int}{v:α} (h0:0<=k) (h:xs[k.toNat]? = some v):OC xs k=some v:=by
 obtain⟨j,rfl⟩:=Int.eq_ofNat_of_zero_le h0;exact gH (by simpa using h)
theorem Is.tupOf {K:aab}{H:Hp}{ds:List D}{a:Addr}{xs:List V} (q:bC K H a xs) (l:IsL K H ds xs):Is K H (.tup ds) (.ref a):=by
 rw[Is];exact⟨a,xs,rfl,q,l⟩
theorem Is.un {K:aab}{H:Hp}{ds:List D}{v:V} (h:Is K H (.tup ds) v):∃ a xs,v=.ref a/\bC K H a xs/\IsL K H ds xs:=by
 rw[Is] at h;exact h
theorem IsL.un {K:aab}{H:Hp}{d:D}{ds:List D}{xs:List V} (h:IsL K H (d::ds) xs):∃ x r,xs=x::r/\Is K H d x/\IsL K H ds r:=by
 rw[IsL] at h;exact h
theorem IsL.un0 {K:aab}{H:Hp}{xs:List V} (h:IsL K H [] xs):xs=[]:=by
 rw[IsL] at h;exact h
theorem IsL.cons {K:aab}{H:Hp}{d:D}{ds:List D}{x:V}{xs:List V} (hd:Is K H d x) (h:IsL K H ds xs):IsL K H (d::ds) (x::xs):=by
 rw[IsL];exact⟨x,xs,rfl,hd,h⟩
theorem IsL.nil {K:aab}{H:Hp}:IsL K H [] []:=by rw[IsL]
theorem Is.i {K:aab}{H:Hp} (i:Int):Is K H (.int i) (.int i):=by rw[Is]
theorem Is.b {K:aab}{H:Hp} (i:Bool):Is K H (.bl i) (.bl i):=by rw[Is]
theorem Is.s {K:aab}{H:Hp} (i:Str):Is K H (.str i) (.str i):=by rw[Is]
theorem Is.n {K:aab}{H:Hp}:Is K H .non .non:=by rw[Is]
theorem Is.ui {K:aab}{H:Hp}{i:Int}{v:V} (h:Is K H (.int i) v):v=.int i:=by rw[Is] at h;exact h
theorem Is.ub {K:aab}{H:Hp}{i:Bool}{v:V} (h:Is K H (.bl i) v):v=.bl i:=by rw[Is] at h;exact h
theorem Is.us {K:aab}{H:Hp}{i:Str}{v:V} (h:Is K H (.str i) v):v=.str i:=by rw[Is] at h;exact h
theorem Is.u0 {K:aab}{H:Hp}{v:V} (h:Is K H .non v):v=.non:=by rw[Is] at h;exact h
end L2
namespace Tw
open PySem L2
structure Vs where
 size:Int
 brim:Int
 outs:List (Option Int×Int)
 holds:Bool
 spill:Option Int
 acts:List (Str×Int)
abbrev wE:=Int×Int×Bool
structure Net where
 vs:List Vs
 sps:List wE
def LO:Option Int->D
 | none=>.non
 | some i=>.int i
def iB:Option Int->V
 | none=>.non
 | some i=>.int i
def qR (o:Option Int×Int):D:=.tup [LO o.1,.int o.2]
def pT (a:Str×Int):D:=.tup [.str a.1,.int a.2]
def rJ (v:Vs):D:=.tup [.int v.size,.int v.brim,.tup (v.outs.map qR),.bl v.holds,LO v.spill,.tup (v.acts.map pT)]
def yT (s:wE):D:=.tup [.int s.1,.int s.2.1,.bl s.2.2]
def gB (n:Net):D:=.tup [.tup (n.vs.map rJ),.tup (n.sps.map yT)]
def OU (held coming:List Int) (doors:List Bool):D:=.tup [.tup (held.map D.int),.tup (coming.map D.int),.tup (doors.map D.bl)]
theorem Is.tg {K:aab}{H:Hp}{t:Option Int}{v:V} (h:Is K H (LO t) v):v=iB t:=by
 cases t with
 | none=>exact h.u0
 | some i=>exact h.ui
theorem Is.tgOf {K:aab}{H:Hp} (t:Option Int):Is K H (LO t) (iB t):=by
 cases t with
 | none=>exact Is.n
 | some i=>exact Is.i i
structure OutOk (n:Nat) (o:Option Int×Int):Prop where
 tg:∀ t,o.1=some t->0<=t/\t < n
 lo:1<=o.2
 hi:o.2<=60
structure ActOk (m:Nat) (a:Str×Int):Prop where
 word:a.1 = "open" \/ a.1 = "shut" \/ a.1 = "turn"
 lo:0<=a.2
 hi:a.2 < m
structure VOk (n m:Nat) (v:Vs):Prop where
 size:1<=v.size
 ne:v.outs≠[]
 o3:v.outs.length<=3
 outs:∀ o∈v.outs,OutOk n o
 spill:∀ t,v.spill=some t->0<=t/\t < n
 a3:v.acts.length<=3
 acts:∀ a∈v.acts,ActOk m a
structure NetOk (net:Net):Prop where
 lo:1<=net.vs.length
 hi:net.vs.length<=12
 sp:net.sps.length<=12
 vs:∀ v∈net.vs,VOk net.vs.length net.sps.length v
 sps:∀ s∈net.sps,0<=s.1/\s.1 < net.vs.length
def whole (outs:List (Option Int×Int)):Int:=(outs.map (·.2)).sum
theorem EV {n:Nat}:∀ {outs:List (Option Int×Int)},outs≠[]->(∀ o∈outs,OutOk n o)->1<=whole outs
 | [],h,_=>absurd rfl h
 | o::r,_,h=>by
  have h1:=(h o aat).lo;have h2:0<=whole r:=by
   clear h1;have:∀ (r:List (Option Int×Int)),(∀ o∈r,OutOk n o)->0<=whole r:=by
    intro r
    induction r with
    | nil=>intro _;exact Int.le_refl _
    | cons o r ih=>
     intro h;have h1:=(h o aat).lo;have h2:=ih λ o ho=>h o (aap _ ho);show 0<=o.2+whole r;omega
   exact this r λ o ho=>h o (aap _ ho)
  show 1<=o.2+whole r;omega
theorem yG {n:Nat}:∀ {outs:List (Option Int×Int)},(∀ o∈outs,OutOk n o)->whole outs<=60 * outs.length
 | [],_=>Int.le_refl _
 | o::r,h=>by
  have h1:=(h o aat).hi;have h2:=yG λ o ho=>h o (aap _ ho);show o.2+whole r<=_;rw[abb];omega
def bS (k:Option Int):List (Option Int×Int)->Int
 | []=>0
 | g::r=>(if g.1=k then g.2 else 0)+bS k r
theorem gG (k:Option Int):∀ (a b:List (Option Int×Int)),bS k (a++b)=bS k a+bS k b
 | [],b=>by simp [bS]
 | g::r,b=>by
  show (if g.1=k then g.2 else 0)+bS k (r++b)=(if g.1=k then g.2 else 0)+bS k r+bS k b;rw[gG k r b];omega
def cL (v:Vs) (has:Int):Int:=min has v.brim
def eT (v:Vs) (has:Int):Bool:=decide (v.size<=cL v has)
def jO (v:Vs) (here:Int):List (Option Int×Int):=v.outs.map λ o=>(o.1,here / whole v.outs * o.2)
def eU (v:Vs) (has:Int):List (Option Int×Int):=
 (v.spill,has - cL v has)::(if eT v has=true then jO v (cL v has)++(if v.holds=true then [] else [(none,cL v has % whole v.outs)]) else [])
def hV (v:Vs) (has:Int):Int:=if eT v has=true then (if v.holds=true then cL v has % whole v.outs else 0) else cL v has
theorem FA {n m:Nat}{v:Vs} (ok:VOk n m v) (has:Int):(eU v has).length<=5:=by
 unfold eU jO;have:=ok.o3
 split
 ·split <;> simp <;> omega
 ·simp
def mR (has:List Int) (s:wE) (d:Bool):List Int:=if d=true then has.set s.1.toNat (has.getD s.1.toNat 0+s.2.1) else has
def fZ:List Int->List wE->List Bool->List Int
 | has,s::ss,d::ds=>fZ (mR has s d) ss ds
 | has,_,_=>has
def kJ:List Int->List Int->List Int->List Int
 | a::as,b::bs,c::cs=>(a+b+c)::kJ as bs cs
 | _,_,_=>[]
def bJ (net:Net) (held coming poured:List Int) (doors:List Bool):List Int:=fZ (kJ held coming poured) net.sps doors
def eZ:List Vs->List Int->List (Option Int×Int)
 | v::vs,h::hs=>eU v h++eZ vs hs
 | _,_=>[]
def fC:List Vs->List Int->List Int
 | v::vs,h::hs=>hV v h::fC vs hs
 | _,_=>[]
def dR:Nat->List Vs->List Int->List Nat
 | i,v::vs,h::hs=>if eT v h=true then i::dR (i+1) vs hs else dR (i+1) vs hs
 | _,_,_=>[]
def qX (doors:List Bool) (a:Str×Int):List Bool:=doors.set a.2.toNat (if a.1 = "open" then true else if a.1 = "turn" then !(doors.getD a.2.toNat false) else false)
def dX (doors:List Bool) (as:List (Str×Int)):List Bool:=as.foldl qX doors
def cS (vs:List Vs) (doors:List Bool) (tip:List Nat):List Bool:=tip.foldl (λ ds i=>match vs[i]? with | some v=>dX ds v.acts | none=>ds) doors
def gD (n:Nat) (goes:List (Option Int×Int)):List Int:=(List.range n).map λ (k:Nat)=>bS (some (k:Int)) goes
structure Tick where
 held:List Int
 coming:List Int
 doors:List Bool
 tip:List Nat
 ground:Int
def fN (net:Net) (held coming poured:List Int) (doors:List Bool):Tick:=
 let hs:=bJ net held coming poured doors
 ⟨fC net.vs hs,gD net.vs.length (eZ net.vs hs),cS net.vs doors (dR 0 net.vs hs),dR 0 net.vs hs,bS none (eZ net.vs hs)⟩
def bO (i:Nat):Stmt:=PySem.Challenge.pw_tipwell_k39_whole_trimmed_told_alike.main.body.getD i (.Pass ⟨0,0,0,0⟩)
structure Txt (mg:Str->Option Value):Prop where
 b_len:mg "len" = none
 b_sum:mg "sum" = none
 b_all:mg "all" = none
 b_max:mg "max" = none
 b_min:mg "min" = none
 b_int:mg "int" = none
 b_tuple:mg "tuple" = none
 b_list:mg "list" = none
 b_bool:mg "bool" = none
 b_range:mg "range" = none
 b_zip:mg "zip" = none
 b_enumerate:mg "enumerate" = none
 b_isinstance:mg "isinstance" = none
 b_divmod:mg "divmod" = none
 b_set:mg "set" = none
 b_sorted:mg "sorted" = none
def oJ:Option Int->eV
 | none=>.inr none
 | some i=>.inl i
theorem K0 (k:Option Int):kV (oJ k)=iB k:=by cases k <;> rfl
theorem JZ {a b:Option Int} (h:oJ a=oJ b):a=b:=by
 cases a <;> cases b <;> simp_all [oJ]
def kG (H:Hp) (d:Addr) (gs:List (Option Int×Int)):Prop:=
 ∃ kvs:List (eV×V),H d=some (.dK kvs)/\kvs.length<=gs.length/\∀ k:Option Int,(cY kvs (oJ k)).getD (.int 0)=.int (bS k gs)
theorem kG.mut {H:Hp}{d:Addr}{gs:List (Option Int×Int)} (h:kG H d gs):lS (H d):=by
 obtain⟨kvs,e,_⟩:=h;rw[e];exact trivial
def wO:Sp:=λ vs H Q _=>∃ (d:Addr) (t:Option Int) (a:Int) (gs:List (Option Int×Int)),vs=[.ref d,iB t,.int a]/\kG H d gs/\gs.length<=1000/\
 ∀ H',cB d H H'->kG H' d (gs++[(t,a)])->Q .non H'
theorem DK:FnScope ["sent","target","amount"] ["sent","target","amount"] (aM (bO 22)):={}
theorem MP {f:Addr}{fd:FuncData} (F:Fun K "send" "send" (bO 22) f fd) (T:Txt mg):FnOk P w K mg base mG 1 f fd ["sent","target","amount"] wO:=by
 refine F.ok DK (λ vs H Q E h=>?_) (λ cdv A outer s H vs Q E hr h=>?_)
 ·obtain⟨d,t,a,gs,rfl,_⟩:=h;rfl
 ·obtain⟨d,t,a,gs,rfl,⟨kvs,hd,hl,hv⟩,hg,k⟩:=h;have sc:=DK;have hu:=A6 hr;refine⟨_,(aJ (MA hu (pv 0) (pv 1) (bB dB (sS hu (pv 0) (pv 1) aH ⟨rfl,rfl,rfl,rfl⟩) (pv 2)) rfl)),?_⟩;have hget:=lT.k (k:=oJ t) hd;rw[K0] at hget;have hput:=LL.k (k:=oJ t) (v:=V.int (bS t gs+a)) hd (aW (by omega));rw[K0] at hput;refine⟨_,rfl,d,rfl,.inl ⟨kvs,.inl hd⟩,_,rfl,cY kvs (oJ t),hget,_,rfl,_,_,hv t,rfl,_,rfl,_,rfl,d,_,rfl,hput,?_⟩;refine k _ cB.upd ⟨_,aB,?_,λ k'=>?_⟩
  ·have:=eP kvs (oJ t) (V.int (bS t gs+a));rw[aau];simp;omega
  ·rw[HR,gG]
   by_cases e:k'=t
   ·subst e;rw[if_pos rfl];show V.int _=V.int _;simp [bS]
   ·rw[if_neg (λ z=>e (JZ z)),hv k'];have:¬ t=k':=λ z=>e z.symm;simp [bS,this]
end Tw
namespace L2
open PySem PySem.Spec PyProof.Rows TwZ
section
variable {g:TG}{tc:TT}{te:TE}{fr:List (Option Nat)}{σ:St}{H1:Hp}{Q:Addr->Hp->Prop}
theorem lI {a:Addr}{xs:List V} (Pv:Addr->Nat->List V->St->Hp->Prop) (hq:∀ D i ys σ H,Pv D i ys σ H->bC K H a xs)
  (h0:∀ D,H1 D=none->Pv D 0 [] (xW fr σ) (upd H1 D (.lst []))) (hstop:∀ D ys Z H',Pv D xs.length ys Z H'->Q D H')
  (hgo:∀ D i x ys Z H',xs[i]? = some x->Pv D i ys Z H'->g x Z H' λ ag H3=>tc ag H3 λ b H4=>
    if b=true then te ag H4 λ y H5=>H5 D=some (.lst ys)/\ys.length < sizeLine/\Pv D (i+1) (ys++[y]) ag (upd H5 D (.lst (ys++[y])))
    else Pv D (i+1) ys ag H4):iN (QP K a) g tc te fr σ H1 Q:=by
 refine nE (n:=xs.length) Pv h0 (λ D ys Z H' p=>⟨⟨xs,hq D _ ys Z H' p,aal _⟩,hstop D ys Z H' p⟩) λ D i ys Z H' hi p=>⟨⟨xs,xs[i],hq D _ ys Z H' p,by simp [hi]⟩,λ x H2 y=>?_⟩;obtain⟨e,y⟩:=y;subst e;exact hgo D i x ys Z _ (y xs (hq D _ ys Z _ p)) p
theorem jZ {a:Addr}{xs:List V} (Pv:Addr->Nat->List V->St->Hp->Prop) (hq:∀ D i ys σ H,Pv D i ys σ H->bR K H a xs)
  (h0:∀ D,H1 D=none->Pv D 0 [] (xW fr σ) (upd H1 D (.lst []))) (hstop:∀ D ys Z H',Pv D xs.length ys Z H'->Q D H')
  (hgo:∀ D i x ys Z H',xs[i]? = some x->Pv D i ys Z H'->g x Z H' λ ag H3=>tc ag H3 λ b H4=>
    if b=true then te ag H4 λ y H5=>H5 D=some (.lst ys)/\ys.length < sizeLine/\Pv D (i+1) (ys++[y]) ag (upd H5 D (.lst (ys++[y])))
    else Pv D (i+1) ys ag H4):iN (QQ K a) g tc te fr σ H1 Q:=by
 refine nE (n:=xs.length) Pv h0 (λ D ys Z H' p=>⟨⟨xs,hq D _ ys Z H' p,aal _⟩,hstop D ys Z H' p⟩) λ D i ys Z H' hi p=>⟨⟨xs,xs[i],hq D _ ys Z H' p,by simp [hi]⟩,λ x H2 y=>?_⟩;obtain⟨e,y⟩:=y;subst e;exact hgo D i x ys Z _ (y xs (hq D _ ys Z _ p)) p
theorem oI {n:Nat} (Pv:Addr->Nat->List V->St->Hp->Prop)
  (h0:∀ D,H1 D=none->Pv D 0 [] (xW fr σ) (upd H1 D (.lst []))) (hstop:∀ D ys Z H',Pv D n ys Z H'->Q D H')
  (hgo:∀ D i ys Z H',i < n->Pv D i ys Z H'->g (.int (i:Int)) Z H' λ ag H3=>tc ag H3 λ b H4=>
    if b=true then te ag H4 λ y H5=>H5 D=some (.lst ys)/\ys.length < sizeLine/\Pv D (i+1) (ys++[y]) ag (upd H5 D (.lst (ys++[y])))
    else Pv D (i+1) ys ag H4):iN (OE 0 n) g tc te fr σ H1 Q:=by
 refine nE (n:=n) Pv h0 (λ D ys Z H' p=>⟨aal _,hstop D ys Z H' p⟩) λ D i ys Z H' hi p=>⟨hi,λ x H2 y=>?_⟩;obtain⟨e,y⟩:=y;subst e y;rw[Int.zero_add];exact hgo D i ys Z _ hi p
theorem MV {t1 t2 t3:Bool}{a1 a2 a3:Addr}{xs ys zs:List V}{n:Nat} (h1:xs.length=n) (h2:ys.length=n) (h3:zs.length=n) (Pv:Addr->Nat->List V->St->Hp->Prop)
  (hq:∀ D i r σ H,Pv D i r σ H->jK K H t1 a1 xs/\jK K H t2 a2 ys/\jK K H t3 a3 zs)
  (h0:∀ D,H1 D=none->Pv D 0 [] (xW fr σ) (upd H1 D (.lst []))) (hstop:∀ D r Z H',Pv D n r Z H'->Q D H')
  (hgo:∀ D i x y z r Z H' T,xs[i]? = some x->ys[i]? = some y->zs[i]? = some z->Pv D i r Z H'->H' T=none->g (.ref T) Z (upd H' T (.tup [x,y,z])) λ ag H3=>tc ag H3 λ b H4=>
    if b=true then te ag H4 λ y H5=>H5 D=some (.lst r)/\r.length < sizeLine/\Pv D (i+1) (r++[y]) ag (upd H5 D (.lst (r++[y])))
    else Pv D (i+1) r ag H4):iN (QH K t1 t2 t3 a1 a2 a3) g tc te fr σ H1 Q:=by
 refine nE (n:=n) Pv h0 (λ D r Z H' p=>?_) λ D i r Z H' hi p=>?_
 ·obtain⟨q1,q2,q3⟩:=hq D _ r Z H' p;exact⟨⟨xs,ys,zs,q1,q2,q3,.inl (by omega)⟩,hstop D r Z H' p⟩
 ·obtain⟨q1,q2,q3⟩:=hq D _ r Z H' p;refine⟨⟨xs,ys,zs,xs[i]'(by omega),ys[i]'(by omega),zs[i]'(by omega),q1,q2,q3,by simp,by simp,by simp⟩,?_⟩;rintro v H2 ⟨T,x,y,z,hT,rfl,e1,e2,e3,rfl⟩;exact hgo D i x y z r Z H' T (e1 xs q1) (e2 ys q2) (e3 zs q3) p hT
end
section
variable {g:TG}{tb:TS}{D:Ends}{σ:St}{H:Hp}
abbrev ER (J:It) (g:TG) (tb:TS) (D:Ends) (σ:St) (H:Hp):Prop:=
 ∃ W:Nat->Nat->St->Hp->Prop,(∃ m,W 0 m σ H)/\∀ i m σ H,W i m σ H->
   (J.stop i H/\D.nx σ H)\/(J.go i H/\∃ N:St->Hp->Prop,(∀ Z H',N Z H'->∃ m',m' < m/\W (i+1) m' Z H')/\∀ x H',J.yld i H x H'->g x σ H' λ au H2=>tb { D with nx:=N,ct:=N,bk:=D.nx } au H2)
theorem KQ {t1 t2:Bool}{a1 a2:Addr}{xs ys:List V}{n:Nat} (h1:xs.length=n) (h2:ys.length=n) (Pv:Nat->St->Hp->Prop) (hq:∀ i σ H,Pv i σ H->jK K H t1 a1 xs/\jK K H t2 a2 ys)
  (h0:Pv 0 σ H) (hstop:∀ σ H,Pv n σ H->D.nx σ H)
  (hgo:∀ i x y σ H T,xs[i]? = some x->ys[i]? = some y->Pv i σ H->H T=none->g (.ref T) σ (upd H T (.tup [x,y])) λ au H2=>tb { D with nx:=Pv (i+1),ct:=Pv (i+1),bk:=D.nx } au H2):ER (QI K t1 t2 a1 a2) g tb D σ H:=by
 refine xY (n:=n) Pv h0 (λ σ H p=>?_) λ i σ H hi p=>?_
 ·obtain⟨q1,q2⟩:=hq _ σ H p;exact⟨⟨xs,ys,q1,q2,.inl (by omega)⟩,hstop σ H p⟩
 ·obtain⟨q1,q2⟩:=hq _ σ H p;refine⟨⟨xs,ys,xs[i]'(by omega),ys[i]'(by omega),q1,q2,by simp,by simp⟩,?_⟩;rintro v H2 ⟨T,x,y,hT,rfl,e1,e2,rfl⟩;exact hgo i x y σ H T (e1 xs q1) (e2 ys q2) p hT
theorem A9 {t:Bool}{a:Addr}{xs:List V} (Pv:Nat->St->Hp->Prop) (hq:∀ i σ H,Pv i σ H->jK K H t a xs)
  (h0:Pv 0 σ H) (hstop:∀ σ H,Pv xs.length σ H->D.nx σ H)
  (hgo:∀ i x σ H T,xs[i]? = some x->Pv i σ H->H T=none->g (.ref T) σ (upd H T (.tup [.int (i:Int),x])) λ au H2=>tb { D with nx:=Pv (i+1),ct:=Pv (i+1),bk:=D.nx } au H2):ER (QJ K t a) g tb D σ H:=by
 refine xY (n:=xs.length) Pv h0 (λ σ H p=>?_) λ i σ H hi p=>?_
 ·exact⟨⟨xs,hq _ σ H p,aal _⟩,hstop σ H p⟩
 ·refine⟨⟨xs,xs[i],hq _ σ H p,by simp [hi]⟩,?_⟩;rintro v H2 ⟨T,x,hT,rfl,e1,rfl⟩;exact hgo i x σ H T (e1 xs (hq _ σ H p)) p hT
end
theorem hJ {σ:St}{H:Hp}{A B:Hp->Prop} (h:A H):OK σ H λ b H4=>if b=true then A H4 else B H4:=by
 show if true=true then A H else B H
 rw[if_pos rfl];exact h
theorem fU {i:Nat}{v:V}{σ:St}{H:Hp}{A B:St->Hp->Prop} (h:A (σ.set i (some v)) H):gP i v σ H λ ag H3=>OK ag H3 λ b H4=>if b=true then A ag H4 else B ag H4:=hJ (σ:=σ.set i (some v)) (A:=A (σ.set i (some v))) (B:=B (σ.set i (some v))) h
theorem aG.put {H H':Hp}{p:Addr}{o:HO} (a:aG H H') (h:H p=none):aG H (upd H' p o):=λ b u e=>by rw[aI (aK e h)];exact a b u e
theorem bI.put {K:aab}{H H':Hp}{p:Addr}{o:HO} (a:bI K H H') (h:H' p=none\/lS (H' p)):bI K H (upd H' p o):=a.trans (by
 rcases h with h | h
 ·exact (aG.new h).ts
 ·exact cB.ts cB.upd h)
def OF (i j:Int):Prop:=0 < j/\j < 2 ^ 200
theorem JM {X:Cx}:h9 X (binaryOp .FloorDiv) (rI OF λ i j=>.int (i / j)):=RN λ i j _ _ _ _ _ hc q=>by
 have h1:(0:Int) < j:=hc.1;have h2:j < 2 ^ 200:=hc.2;refine floordiv_int (by omega) (by rw[Int.fdiv_eq_ediv_of_nonneg i (by omega)];exact q) (.inl (PyProof.noPylong_of_log2 ?_));have h0:j.natAbs≠0:=by omega
 have h3:j.natAbs < 2 ^ 200:=by omega
 have:=(Nat.log2_lt h0).mpr h3;omega
theorem pO:bootBuiltins "int" = some (.type "int"):=by decide +kernel
theorem bV:bootBuiltins "tuple" = some (.type "tuple"):=by decide +kernel
theorem rD:bootBuiltins "list" = some (.type "list"):=by decide +kernel
theorem NE:bootBuiltins "bool" = some (.type "bool"):=by decide +kernel
section
variable {X:Cx}{tg:Expr}{pos:Pos}
theorem aU {es:List Expr}{k:Nat}{t:OD}{n:Nat} (hK:X.K=K) (hc:X.calm=true) (h:S7 X es t)
  (hn:(assignEach es X.env).length=n:=by rfl) (hst:(assignEach es X.env).findIdx? (·.1)=none:=by rfl):PG X (.Tuple es k pos) (RV K n t):=by
 subst hK;exact PJ hc h hn hst
theorem aO (hK:X.K=K):HL X (DN K):=by subst hK;exact Q1
def RA (K:aab):List V->Hp->VK->Prop:=λ xs H Q=>∃ p ys,xs=[.ref p]/\(bR K H p ys\/bC K H p ys)/\Q (.int ys.length) H
theorem cD (hK:X.K=K):dZ X (.builtin "len") (RA K):=by subst hK;exact y8
theorem vY (hK:X.K=K) (hc:X.calm=true):dZ X (.builtin "sum") (R7 K):=by subst hK;exact GW hc
theorem w6 (hK:X.K=K):dZ X (.builtin "isinstance") (RH K):=by subst hK;exact L9
def P4 (K:aab):List V->Hp->VK->Prop:=λ xs H Q=>∃ p ys,xs=[.ref p]/\((bR K H p ys/\∀ l,H l=none->Q (.ref l) (upd H l (.tup ys)))\/(bC K H p ys/\Q (.ref p) H))
theorem bN (hK:X.K=K):dZ X (.type "tuple") (P4 K):=by subst hK;exact uS
def P5 (K:aab):List V->Hp->VK->Prop:=λ xs H Q=>∃ p ys,xs=[.ref p]/\(bR K H p ys\/bC K H p ys)/\∀ l,H l=none->Q (.ref l) (upd H l (.lst ys))
theorem mB (hK:X.K=K):dZ X (.type "list") (P5 K):=by subst hK;exact y6
theorem eY {l:Expr}{tl:TE} (hK:X.K=K) (hl:PE X l tl):PI X tg l (O7 K tl):=by subst hK;exact MF hl
theorem fR {l:Expr}{tl:TE} (hK:X.K=K) (hl:PE X l tl):PI X tg l (RO K tl):=by subst hK;exact PH hl
theorem iZ {a:Expr}{ta:TA}{p:Pos} (hK:X.K=K) (hg:Gl X "enumerate") (hm:X.mg "enumerate" = none) (ha:PA X [a] ta) (hs:starEach [a] X.env=[(false,eval a X.env)]:=by rfl):PI X tg (.Call (.Name "enumerate" p) [a] [] pos) (O8 K ta):=by
 subst hK;exact MG hg hm ha hs
theorem J7 {a b:Expr}{ta:TA}{p:Pos} (hK:X.K=K) (hg:Gl X "zip") (hm:X.mg "zip" = none) (ha:PA X [a,b] ta) (hs:starEach [a,b] X.env=[(false,eval a X.env),(false,eval b X.env)]:=by rfl) (hs2:starEach [b] X.env=[(false,eval b X.env)]:=by rfl) :
  PI X tg (.Call (.Name "zip" p) [a,b] [] pos) (O6 K ta):=by subst hK;exact ME hg hm ha hs hs2
theorem J4 {a b c:Expr}{ta:TA}{p:Pos} (hK:X.K=K) (hg:Gl X "zip") (hm:X.mg "zip" = none) (ha:PA X [a,b,c] ta) (hs:starEach [a,b,c] X.env=[(false,eval a X.env),(false,eval b X.env),(false,eval c X.env)]:=by rfl)
  (hs2:starEach [b,c] X.env=[(false,eval b X.env),(false,eval c X.env)]:=by rfl):PI X tg (.Call (.Name "zip" p) [a,b,c] [] pos) (O5 K ta):=by subst hK;exact MD hg hm ha hs hs2
theorem JH (hK:X.K=K):h9 X (binaryOp .Mult) (NU K):=by subst hK;exact DT
theorem GG (hK:X.K=K):QG X (NY K):=by subst hK;exact KO
theorem gA {o e:Expr}{es:List Expr}{to:TE}{t:TA}{name:Str}{apos cpos:Pos}{T id:String}{r:V->List V->Hp->VK->Prop} (hK:X.K=K)
  (pa:PlainAttrs T) (slot:Slot T name id) (hty:typeOf (.builtin id)=pure (.type "method_descriptor")) (hm:MtR X id r) (ho:PE X o to) (ha:PA X (e::es) t)
  (hbase:attributeBase o name X.env (eval o X.env)=eval o X.env:=by rfl)
  (hfew:((backTo cpos (starEach (e::es) X.env)).all (λ x=>!x.1) && (backToKw cpos (keywordEach [] X.env)).all (λ x=>x.1.isSome)
   && decide ((e::es).length+([]:List Keyword).length+(if ([]:List Keyword).isEmpty then 0 else 1) < 30))=true:=by rfl)
  (hline:(apos.endLine == cpos.line)=true:=by rfl) (hs:starEach (e::es) X.env=(false,eval e X.env)::starEach es X.env:=by rfl) (hplain:(backTo cpos (starEach es X.env)).any (·.1)=false:=by rfl) :
  PE X (.Call (.Attribute o name apos) (e::es) [] cpos) (tBM K T r to t):=by subst hK;exact RK pa slot hty hm ho ha hbase hfew hline hs hplain
end
end L2
namespace Tw
open PySem L2
theorem aZ {α:Type}{xs:List α}{i:Nat}{x:α} (h:xs[i]? = some x):xs.take (i+1)=xs.take i++[x]:=by
 rw[acx,h];rfl
theorem rA {H:Hp}{outs:List (Option Int×Int)}{xs:List V}{i:Nat}{x:V} (l:IsL K H (outs.map qR) xs) (h:xs[i]? = some x) :
  ∃ o,outs[i]? = some o/\∃ a,x=.ref a/\bC K H a [iB o.1,.int o.2]:=by
 obtain⟨d,hd,hx⟩:=l.get' h;rw[aaj] at hd;cases e:outs[i]? with
 | none=>rw[e] at hd;cases hd
 | some o=>
  rw[e] at hd;cases hd;refine⟨o,rfl,?_⟩;obtain⟨a,ys,rfl,q,l⟩:=(show Is K H (.tup [LO o.1,.int o.2]) x from hx).un;obtain⟨y,r,rfl,hy,l⟩:=l.un;obtain⟨z,r,rfl,hz,l⟩:=l.un;have:=l.un0;subst this;rw[Is.tg hy,hz.ui] at q;exact⟨a,rfl,q⟩
def wN (K:aab):Sp:=λ vs H Q _=>∃ (o d:Addr) (has:Int) (outs gs:List (Option Int×Int)) (n:Nat),vs=[.ref o,.int has,.ref d]/\Is K H (.tup (outs.map qR)) (.ref o)/\kG H d gs/\gs.length+3<=1000/\
 outs≠[]/\outs.length<=3/\(∀ x∈outs,OutOk n x)/\∀ H',cB d H H'->kG H' d (gs++outs.map λ x=>(x.1,has / whole outs * x.2))->Q (.int (has % whole outs)) H'
theorem o4:FnScope ["outs","has","sent","whole","times","target","parts"] ["outs","has","sent"] (aM (bO 21)):={}
theorem xI {f fS:Addr}{fd fdS:FuncData} (F:Fun K "share_out" "share_out" (bO 21) f fd) (T:Txt mg) (G_send:Callee P w K mg base "send" ["sent","target","amount"] 1 wO fS fdS):FnOk P w K mg base mG 2 f fd ["outs","has","sent"] (wN K):=by
 refine F.ok o4 (λ vs H Q E h=>?_) (λ cdv A outer s H vs Q E hr h=>?_)
 ·obtain⟨o,d,has,outs,gs,n,rfl,_⟩:=h;rfl
 ·obtain⟨o,d,has,outs,gs,n,rfl,ho,hd,hg,hne,h3,hok,k⟩:=h;have sc:=o4;refine⟨_,(aD (aQ (i:=3) sc.nd rfl (Or.inl rfl) (bD (vY (K:=K) rfl rfl) rfl T.b_sum PyProof.Rows.boot_sum (aA (i5 (λ _ _ h=>h) rfl (LcOk.mk (N':=["target","parts"]) (fr:=[none,none]) rfl trivial rfl rfl rfl rfl rfl trivial) (fR (K:=K) rfl (pv 0)) (λ _ _ _=>(aU (K:=K) (n:=2) rfl rfl (aE (aF (i:=0) (show (["target","parts"]:List Str).Nodup by decide +kernel) rfl (Or.inl rfl) (Or.inr rfl)) (aE (aF (i:=1) (show (["target","parts"]:List Str).Nodup by decide +kernel) rfl (Or.inl rfl) (Or.inr rfl)) aS)))) (λ _ _ _=>cG) (λ _ _ _=>(pv 1))) aC)))
   (aD (aQ (i:=4) sc.nd rfl (Or.inl rfl) (bB lX (pv 1) (bD (w4 rfl) rfl T.b_max PyProof.Rows.boot_max (aA aH (aA (pv 3) aC)))))
   (aD (eD PassesOwn.never rfl (fR (K:=K) rfl (pv 0)) (aU (K:=K) (n:=2) rfl rfl (aE (aF (i:=5) sc.nd rfl (Or.inl rfl)) (aE (aF (i:=6) sc.nd rfl (Or.inl rfl)) aS))) (aJ (dA (eG G_send hr (aA (pv 2) (aA (pv 5) (aA (bB n4 (pv 6) (pv 4)) aC)))))))
   (aJ (bH (bB mZ (pv 1) (bB n4 (pv 3) (pv 4)))))))),?_⟩
  have hw1:=EV hne hok;have hw2:=yG hok;obtain⟨o',xs,e,hq,hl⟩:=ho.un;cases e;have hxl:xs.length=outs.length:=by rw[hl.length,aad]
  refine⟨_,rfl,o,rfl,⟨_,hq⟩,lI (K:=K) (a:=o) (xs:=xs) (λ D i ys Z H'=>H D=none/\aG H H'/\H' D=some (.lst ys)/\ys=(outs.take i).map (λ x=>V.int x.2)/\∃ x y,Z=[x,y])
   (λ D i ys Z H' p=>p.2.1.tup hq) (λ D hD=>⟨hD,aG.new hD,aB,by simp,none,none,rfl⟩) ?_ ?_⟩
  rotate_left
  ·rintro D i x ys Z H' hx ⟨hD,sm,hDl,rfl,v1,v2,rfl⟩;obtain⟨ot,hot,a,rfl,qa⟩:=rA hl hx;have hil:=(aae.mp hot).1;refine⟨a,_,rfl,sm.tup qa,rfl,_,_,rfl,_,_,rfl,rfl,?_⟩;refine hJ ⟨_,rfl,hDl,aW (by simp;omega),hD,sm.put hD,aB,?_,_,_,rfl⟩;rw[aZ hot];simp
  ·rintro D ys Z H1 ⟨hD,sm,hDl,rfl,_⟩;rw[hxl,aay] at hDl;refine⟨false,D,outs.map (·.2),rfl,bR.of (by rw[aca];exact hDl),?_⟩;refine⟨_,rfl,_,rfl,_,_,rfl,_,_,rfl,rfl,?_,?_⟩
   ·show 0 < (if whole outs > 1 then whole outs else 1)/\(if whole outs > 1 then whole outs else 1) < 1073741824
    split <;> omega
   have hm:(if whole outs > 1 then whole outs else 1)=whole outs:=by split <;> omega
   show kQ _ _ _ [some (V.ref o),some (V.int has),some (V.ref d),some (V.int (whole outs)),some (V.int (has / (if whole outs > 1 then whole outs else 1))),none,none] _;rw[hm];have hd1:kG H1 d gs:=by obtain⟨kvs,e,r⟩:=hd;exact⟨kvs,sm _ _ e,r⟩
   have tsH:bI K H H1:=sm.ts;refine⟨_,rfl,o,rfl,⟨_,sm.tup hq⟩,xX (K:=K) (a:=o) (xs:=xs) (λ i Z H'=>cB d H1 H'/\kG H' d (gs++(outs.take i).map λ x=>(x.1,has / whole outs * x.2))/\
    ∃ x y,Z=[some (V.ref o),some (V.int has),some (V.ref d),some (V.int (whole outs)),some (V.int (has / whole outs)),x,y]) ⟨cB.refl _,by simpa using hd1,none,none,rfl⟩
    (λ i Z H' _ p=>(p.1.ts hd1.mut) _ _ (sm.tup hq)) ?_ ?_⟩
   ·rintro i x Z H2 hx ⟨bt,dg,v1,v2,rfl⟩;obtain⟨ot,hot,a,rfl,qa⟩:=rA hl hx;have hil:=(aae.mp hot).1;have hom:=hok ot (aah hot);refine⟨a,_,rfl,(bt.ts hd1.mut) _ _ (sm.tup qa),rfl,_,_,rfl,_,_,rfl,rfl,?_⟩;refine⟨_,rfl,_,rfl,_,rfl,_,rfl,_,_,rfl,rfl,.inl ⟨by have:=hom.lo;omega,by have:=hom.hi;omega⟩,d,ot.1,ot.2 * (has / whole outs),_,rfl,dg,by simp;omega,λ H' bt' dg'=>?_⟩;refine⟨bt.trans bt',?_,_,_,rfl⟩;rw[aZ hot,aam,<- acv];rw[Int.mul_comm] at dg';exact dg'
   ·rintro Z H2 ⟨bt,dg,v1,v2,rfl⟩;rw[hxl,aay] at dg;refine⟨_,rfl,_,rfl,_,rfl,_,_,rfl,rfl,.inl ⟨by omega,by omega⟩,_,_,rfl,rfl,?_⟩;have e:has - whole outs * (has / whole outs)=has % whole outs:=by
     have:=Int.emod_add_mul_ediv has (whole outs);omega
    show Q (V.int (has - whole outs * (has / whole outs))) H2;rw[e];exact k H2 (sm.but.trans bt) dg
theorem yH {H:Hp}{v:Vs}{x:V} (h:Is K H (rJ v) x):∃ (a:Addr) (o c:V),x=.ref a/\bC K H a [.int v.size,.int v.brim,o,.bl v.holds,iB v.spill,c]/\Is K H (.tup (v.outs.map qR)) o/\Is K H (.tup (v.acts.map pT)) c:=by
 obtain⟨a,xs,rfl,q,l⟩:=(show Is K H (.tup [.int v.size,.int v.brim,.tup (v.outs.map qR),.bl v.holds,LO v.spill,.tup (v.acts.map pT)]) x from h).un;obtain⟨x1,r,rfl,h1,l⟩:=l.un;obtain⟨x2,r,rfl,h2,l⟩:=l.un;obtain⟨x3,r,rfl,h3,l⟩:=l.un;obtain⟨x4,r,rfl,h4,l⟩:=l.un;obtain⟨x5,r,rfl,h5,l⟩:=l.un;obtain⟨x6,r,rfl,h6,l⟩:=l.un;have:=l.un0;subst this;rw[h1.ui,h2.ui,h4.ub,Is.tg h5] at q;exact⟨a,x3,x6,rfl,q,h3,h6⟩
def rV (K:aab):Sp:=λ vs H Q _=>∃ (x:V) (d:Addr) (has:Int) (v:Vs) (gs:List (Option Int×Int)) (n m:Nat),vs=[x,.int has,.ref d]/\Is K H (rJ v) x/\kG H d gs/\gs.length+5<=1000/\VOk n m v/\
 ∀ p H',cB d H H'->kG H' d (gs++eU v has)->bC K H' p [.int (hV v has),.bl (eT v has)]->Q (.ref p) H'
theorem vD:FnScope ["vessel","has","sent","size","brim","outs","holds","spill","acts","over","left"] ["vessel","has","sent"] (aM (bO 20)):={}
theorem FX {f fS fO:Addr}{fd fdS fdO:FuncData} (F:Fun K "settle" "settle" (bO 20) f fd) (T:Txt mg) (G_send:Callee P w K mg base "send" ["sent","target","amount"] 1 wO fS fdS)
  (G_share_out:Callee P w K mg base "share_out" ["outs","has","sent"] 2 (wN K) fO fdO):FnOk P w K mg base mG 3 f fd ["vessel","has","sent"] (rV K):=by
 refine F.ok vD (λ vs H Q E h=>?_) (λ cdv A outer s H vs Q E hr h=>?_)
 ·obtain⟨x,d,has,v,gs,n,m,rfl,_⟩:=h;rfl
 ·obtain⟨x,d,has,v,gs,n,m,rfl,hx,hd,hg,ok,k⟩:=h;have sc:=vD;refine⟨_,(aD (cI (pv 0) (aU (K:=K) (n:=6) rfl rfl (aE (aF (i:=3) sc.nd rfl (Or.inl rfl)) (aE (aF (i:=4) sc.nd rfl (Or.inl rfl)) (aE (aF (i:=5) sc.nd rfl (Or.inl rfl)) (aE (aF (i:=6) sc.nd rfl (Or.inl rfl)) (aE (aF (i:=7) sc.nd rfl (Or.inl rfl)) (aE (aF (i:=8) sc.nd rfl (Or.inl rfl)) aS))))))))
   (aD (aQ (i:=9) sc.nd rfl (Or.inl rfl) (bD (w4 rfl) rfl T.b_max PyProof.Rows.boot_max (aA aH (aA (bB mZ (pv 1) (pv 4)) aC))))
   (aD (dA (eG G_send hr (aA (pv 2) (aA (pv 7) (aA (pv 9) aC)))))
   (aD (BR (i:=1) sc.nd rfl (Or.inl rfl) (pv 9) Q2)
   (aD (eF (bE sV (pv 1) (pv 3) (bP _)) (aJ (bH (bF (aA (pv 1) (aA kY aC))))) cA)
   (aD (aQ (i:=10) sc.nd rfl (Or.inl rfl) (eG G_share_out hr (aA (pv 5) (aA (pv 1) (aA (pv 2) aC)))))
   (aD (eF (pC (pv 6)) (aJ (bH (bF (aA (pv 10) (aA kY aC))))) cA)
   (aD (dA (eG G_send hr (aA (pv 2) (aA fT (aA (pv 10) aC)))))
   (aJ (bH (bF (aA aH (aA kY aC))))))))))))),?_⟩
  obtain⟨a,o,c,rfl,q,ho,hc⟩:=yH hx;refine⟨_,rfl,a,_,rfl,q,rfl,_,_,rfl,_,_,rfl,_,_,rfl,_,_,rfl,_,_,rfl,_,_,rfl,rfl,?_⟩;refine⟨_,rfl,_,rfl,_,_,rfl,rfl,_,_,rfl,?_⟩;have eo:(if has - v.brim > 0 then has - v.brim else 0)=has - cL v has:=by unfold cL;split <;> omega
  show kQ _ _ _ [some (V.ref a),some (V.int has),some (V.ref d),some (V.int v.size),some (V.int v.brim),some o,some (V.bl v.holds),some (iB v.spill),some c,some (V.int (if has - v.brim > 0 then has - v.brim else 0)),none] _;rw[eo];refine⟨_,rfl,_,rfl,_,rfl,d,v.spill,has - cL v has,gs,rfl,hd,by omega,λ H1 b1 d1=>?_⟩;have ts1:bI K H H1:=b1.ts hd.mut;refine⟨_,rfl,_,rfl,_,_,rfl,rfl,?_⟩;have eh:has - (has - cL v has)=cL v has:=by omega
  show kQ _ _ _ [some (V.ref a),some (V.int (has - (has - cL v has))),some (V.ref d),some (V.int v.size),some (V.int v.brim),some o,some (V.bl v.holds),some (iB v.spill),some c,some (V.int (has - cL v has)),none] _;rw[eh];refine⟨_,rfl,_,rfl,_,_,rfl,rfl,_,rfl,?_⟩;refine kI (λ hlt=>?_) (λ hge=>?_)
  ·have hlt':cL v has < v.size:=abx hlt;have ht:eT v has=false:=acp (by omega);refine⟨_,rfl,(show 2<=sizeLine by decide),λ p hp=>?_⟩;refine k p _ (b1.trans (aG.new hp).but) ?_ ?_
   ·have:eU v has=[(v.spill,has - cL v has)]:=by unfold eU;rw[ht];rfl
    rw[this];obtain⟨kvs,e,r⟩:=d1;exact⟨kvs,aG.new hp _ _ e,r⟩
   ·have:hV v has=cL v has:=by unfold hV;rw[ht];rfl
    rw[this,ht];exact bC.of aB
  ·have hge':v.size<=cL v has:=by simpa using hge
   have ht:eT v has=true:=abt hge';obtain⟨oa,os,rfl,_,_⟩:=ho.un;refine⟨_,rfl,_,rfl,_,rfl,oa,d,cL v has,v.outs,_,n,rfl,Is.mono ts1 _ _ ho,d1,by simp;omega,ok.ne,ok.o3,ok.outs,λ H2 b2 d2=>?_⟩;refine⟨_,rfl,_,rfl,?_⟩;cases hh:v.holds with
   | true=>
    refine fH ?_;refine⟨_,rfl,(show 2<=sizeLine by decide),λ p hp=>?_⟩;refine k p _ (b1.trans (b2.trans (aG.new hp).but)) ?_ ?_
    ·have:gs++eU v has=(gs++[(v.spill,has - cL v has)])++v.outs.map λ x=>(x.1,cL v has / whole v.outs * x.2):=by
      unfold eU jO;rw[ht,hh];simp
     rw[this];obtain⟨kvs,e,r⟩:=d2;exact⟨kvs,aG.new hp _ _ e,r⟩
    ·have:hV v has=cL v has % whole v.outs:=by unfold hV;rw[ht,hh];rfl
     rw[this,ht];exact bC.of aB
   | false=>
    refine eE ?_;refine⟨_,rfl,_,rfl,d,none,cL v has % whole v.outs,_,rfl,d2,by simp;have:=ok.o3;omega,λ H3 b3 d3=>?_⟩;refine⟨(show 2<=sizeLine by decide),λ p hp=>?_⟩;refine k p _ (b1.trans (b2.trans (b3.trans (aG.new hp).but))) ?_ ?_
    ·have:gs++eU v has=((gs++[(v.spill,has - cL v has)])++v.outs.map λ x=>(x.1,cL v has / whole v.outs * x.2))++[(none,cL v has % whole v.outs)]:=by
      unfold eU jO;rw[ht,hh];simp
     rw[this];obtain⟨kvs,e,r⟩:=d3;exact⟨kvs,aG.new hp _ _ e,r⟩
    ·have:hV v has=0:=by unfold hV;rw[ht,hh];rfl
     rw[this,ht];exact bC.of aB
theorem rF {H:Hp}{acts:List (Str×Int)}{xs:List V}{i:Nat}{x:V} (l:IsL K H (acts.map pT) xs) (h:xs[i]? = some x) :
  ∃ o,acts[i]? = some o/\∃ a,x=.ref a/\bC K H a [.str o.1,.int o.2]:=by
 obtain⟨d,hd,hx⟩:=l.get' h;rw[aaj] at hd;cases e:acts[i]? with
 | none=>rw[e] at hd;cases hd
 | some o=>
  rw[e] at hd;cases hd;refine⟨o,rfl,?_⟩;obtain⟨a,ys,rfl,q,l⟩:=(show Is K H (.tup [.str o.1,.int o.2]) x from hx).un;obtain⟨y,r,rfl,hy,l⟩:=l.un;obtain⟨z,r,rfl,hz,l⟩:=l.un;have:=l.un0;subst this;rw[hy.us,hz.ui] at q;exact⟨a,rfl,q⟩
theorem LG (ds:List Bool) (a:Str×Int):(qX ds a).length=ds.length:=by unfold qX;simp
theorem pS:∀ (as:List (Str×Int)) (ds:List Bool),(dX ds as).length=ds.length
 | [],ds=>rfl
 | a::as,ds=>by
  show (dX (qX ds a) as).length=_;rw[pS as,LG]
theorem nJ (vs:List Vs):∀ (tip:List Nat) (ds:List Bool),(cS vs ds tip).length=ds.length
 | [],ds=>rfl
 | i::r,ds=>by
  show (cS vs (match vs[i]? with | some v=>dX ds v.acts | none=>ds) r).length=_;rw[nJ vs r];cases vs[i]? with
  | none=>rfl
  | some v=>exact pS _ _
theorem DD (ds:List Bool) (as:List (Str×Int)) (a:Str×Int):dX ds (as++[a])=qX (dX ds as) a:=by
 unfold dX;rw[List.foldl_append];rfl
theorem AC (vs:List Vs) (ds:List Bool) (tip:List Nat) (i:Nat) (v:Vs) (h:vs[i]? = some v):cS vs ds (tip++[i])=dX (cS vs ds tip) v.acts:=by
 unfold cS;rw[List.foldl_append];show (match vs[i]? with | some v=>_ | none=>_)=_;rw[h]
def wT (K:aab):Sp:=λ args H Q _=>∃ (x y:V) (t:Addr) (vs:List Vs) (doors:List Bool) (tip:List Nat) (n:Nat),args=[x,y,.ref t]/\Is K H (.tup (vs.map rJ)) x/\Is K H (.tup (doors.map D.bl)) y/\
 bR K H t (tip.map λ (i:Nat)=>V.int (i:Int))/\(∀ i∈tip,i < vs.length)/\(∀ v∈vs,VOk n doors.length v)/\doors.length<=12/\
 ∀ p H',aG H H'->Is K H' (.tup ((cS vs doors tip).map D.bl)) p->Q p H'
theorem kC:FnScope ["vessels","doors","tipped","behind","number","size","brim","outs","holds","spill","acts","word","spout"] ["vessels","doors","tipped"] (aM (bO 23)):={}
theorem qU {f:Addr}{fd:FuncData} (F:Fun K "doors_behind" "doors_behind" (bO 23) f fd) (T:Txt mg):FnOk P w K mg base mG 1 f fd ["vessels","doors","tipped"] (wT K):=by
 refine F.ok kC (λ vs H Q E h=>?_) (λ cdv A outer s H vs Q E hr h=>?_)
 ·obtain⟨x,y,t,vs,doors,tip,n,rfl,_⟩:=h;rfl
 ·obtain⟨x,y,t,vs,doors,tip,n,rfl,hx,hy,ht,htip,hok,hm,k⟩:=h;have sc:=kC;refine⟨_,(aD (aQ (i:=3) sc.nd rfl (Or.inl rfl) (aV (mB (K:=K) rfl) rfl T.b_list rD (aA (pv 1) aC)))
   (aD (eD PassesOwn.never rfl (eY (K:=K) rfl (pv 2)) (aF (i:=4) sc.nd rfl (Or.inl rfl)) (aD (cI (bA (aO (K:=K) rfl) (pv 0) (pv 4) (λ _ _=>rfl)) (aU (K:=K) (n:=6) rfl rfl (aE (aF (i:=5) sc.nd rfl (Or.inl rfl)) (aE (aF (i:=6) sc.nd rfl (Or.inl rfl)) (aE (aF (i:=7) sc.nd rfl (Or.inl rfl)) (aE (aF (i:=8) sc.nd rfl (Or.inl rfl)) (aE (aF (i:=9) sc.nd rfl (Or.inl rfl)) (aE (aF (i:=10) sc.nd rfl (Or.inl rfl)) aS))))))))
   (aJ (eD PassesOwn.never rfl (fR (K:=K) rfl (pv 10)) (aU (K:=K) (n:=2) rfl rfl (aE (aF (i:=11) sc.nd rfl (Or.inl rfl)) (aE (aF (i:=12) sc.nd rfl (Or.inl rfl)) aS))) (aJ (cI (RI (jV kZ (pv 11) g9 (bP _)) (BV (BX (jV kZ (pv 11) g9 (bP _)) (BV (BW (bA (aO (K:=K) rfl) (pv 3) (pv 12) (λ _ _=>rfl))))))) (xD (pv 3) (pv 12) kR)))))))
   (aJ (bH (aV (bN (K:=K) rfl) rfl T.b_tuple bV (aA (pv 3) aC)))))),?_⟩
  obtain⟨ax,xs,rfl,qx,lx⟩:=hx.un;obtain⟨ay,ys,rfl,qy,ly⟩:=hy.un;have ey:=ly.bools;subst ey;have exl:xs.length=vs.length:=by rw[lx.length,aad]
  refine⟨_,rfl,ay,_,rfl,.inr qy,λ b hb=>?_⟩;have nb:∀ {c:Addr}{o:HO},H c=some o->c≠b:=λ e=>aK e hb;refine⟨_,rfl,t,rfl,⟨_,(aG.new hb).seq ht⟩,tP (K:=K) (a:=t) (xs:=tip.map λ (i:Nat)=>V.int (i:Int))
   (λ i Z H'=>aG H H'/\H' b=some (.lst ((cS vs doors (tip.take i)).map V.bl))/\∃ v4 v5 v6 v7 v8 v9 v10 v11 v12,Z=[some (.ref ax),some (.ref ay),some (.ref t),some (.ref b),v4,v5,v6,v7,v8,v9,v10,v11,v12])
   ⟨aG.new hb,aB,none,none,none,none,none,none,none,none,none,rfl⟩ (λ i Z H' _ p=>p.1.seq ht) ?_ ?_⟩
  ·rintro i x Z H1 hi ⟨sm,hbl,v4,v5,v6,v7,v8,v9,v10,v11,v12,rfl⟩;rw[aaj] at hi;obtain⟨j,hj,rfl⟩:=aas.mp hi;have hjv:=htip j (aah hj);have hv:vs[j]? = some vs[j]:=by simp [hjv]
   have hvok:=hok vs[j] (ada hjv);obtain⟨xv,hxv,ixv⟩:=lx.get (i:=j) (d:=rJ vs[j]) (by rw[aaj,hv];rfl);obtain⟨va,o,c,rfl,qv,ho,hc⟩:=yH ixv;refine⟨_,rfl,_,rfl,.inr (.inl ⟨ax,xs,j,_,rfl,rfl,sm.tup qx,gH hxv,va,_,rfl,sm.tup qv,rfl,_,_,rfl,_,_,rfl,_,_,rfl,_,_,rfl,_,_,rfl,_,_,rfl,rfl,?_⟩)⟩;obtain⟨ca,cs,rfl,qc,lc⟩:=hc.un;have ecs:cs.length=vs[j].acts.length:=by rw[lc.length,aad]
   refine⟨_,rfl,ca,rfl,⟨_,sm.tup qc⟩,xX (K:=K) (a:=ca) (xs:=cs)
    (λ l Z H'=>aG H H'/\H' b=some (.lst ((dX (cS vs doors (tip.take i)) (vs[j].acts.take l)).map V.bl))/\
     ∃ u11 u12,Z=[some (.ref ax),some (.ref ay),some (.ref t),some (.ref b),some (.int (j:Int)),some (.int vs[j].size),some (.int vs[j].brim),some o,some (.bl vs[j].holds),some (iB vs[j].spill),some (.ref ca),u11,u12])
    ⟨sm,hbl,v11,v12,rfl⟩ (λ l Z H' _ p=>p.1.tup qc) ?_ ?_⟩
   ·rintro l x Z H2 hl ⟨sm2,hb2,u11,u12,rfl⟩;obtain⟨at',hat,aa,rfl,qa⟩:=rF lc hl;have aok:=hvok.acts at' (aah hat);refine⟨aa,_,rfl,sm2.tup qa,rfl,_,_,rfl,_,_,rfl,rfl,?_⟩;have hdl:(dX (cS vs doors (tip.take i)) (vs[j].acts.take l)).length=doors.length:=by rw[pS,nJ]
    have hsp:at'.2.toNat < (dX (cS vs doors (tip.take i)) (vs[j].acts.take l)).length:=by rw[hdl];have:=aok.lo;have:=aok.hi;omega
    have fin:∀ c:Bool,c=(if at'.1 = "open" then true else if at'.1 = "turn" then !((dX (cS vs doors (tip.take i)) (vs[j].acts.take l)).getD at'.2.toNat false) else false)->
      aG H (upd H2 b (.lst (((dX (cS vs doors (tip.take i)) (vs[j].acts.take l)).map V.bl).set at'.2.toNat (.bl c))))/\
      upd H2 b (.lst (((dX (cS vs doors (tip.take i)) (vs[j].acts.take l)).map V.bl).set at'.2.toNat (.bl c))) b=some (.lst ((dX (cS vs doors (tip.take i)) (vs[j].acts.take (l+1))).map V.bl)):=λ c hc=>by
     refine⟨sm2.put hb,?_⟩;rw[aB,aZ hat,DD,qX,<- hc,List.map_set]
    have set:∀ c:Bool,c=(if at'.1 = "open" then true else if at'.1 = "turn" then !((dX (cS vs doors (tip.take i)) (vs[j].acts.take l)).getD at'.2.toNat false) else false)->
      KP (dS 3) (dS 12) zD (.bl c) [some (.ref ax),some (.ref ay),some (.ref t),some (.ref b),some (.int (j:Int)),some (.int vs[j].size),some (.int vs[j].brim),some o,some (.bl vs[j].holds),some (iB vs[j].spill),some (.ref ca),some (.str at'.1),some (.int at'.2)] H2
       λ Z H'=>aG H H'/\H' b=some (.lst ((dX (cS vs doors (tip.take i)) (vs[j].acts.take (l+1))).map V.bl))/\
        ∃ u11 u12,Z=[some (.ref ax),some (.ref ay),some (.ref t),some (.ref b),some (.int (j:Int)),some (.int vs[j].size),some (.int vs[j].brim),some o,some (.bl vs[j].holds),some (iB vs[j].spill),some (.ref ca),u11,u12]:=λ c hc=>by
     obtain⟨f1,f2⟩:=fin c hc;refine⟨_,rfl,_,rfl,b,_,at'.2,at'.2.toNat,rfl,rfl,hb2,DY aok.lo (by rw[aad];omega),f1,f2,_,_,rfl⟩
    refine⟨_,rfl,rfl,_,rfl,?_⟩;refine kI (λ h1=>?_) (λ h1=>?_)
    ·have e1:at'.1 = "open" := by have:=abx h1;injection this
     exact set true (by rw[if_pos e1])
    ·have e1:¬ at'.1 = "open" := λ z=>h1 (abt (by rw[z]));refine⟨_,rfl,rfl,_,rfl,?_⟩;refine kI (λ h2=>?_) (λ h2=>?_)
     ·have e2:at'.1 = "turn" := by have:=abx h2;injection this
      have hg:((dX (cS vs doors (tip.take i)) (vs[j].acts.take l)).map V.bl)[at'.2.toNat]? = some (.bl ((dX (cS vs doors (tip.take i)) (vs[j].acts.take l)).getD at'.2.toNat false)):=by
       rw[aaj,aai];simp [hsp]
      refine⟨_,rfl,_,rfl,.inl ⟨b,_,at'.2,_,rfl,rfl,bR.of hb2,rE aok.lo hg,_,rfl,?_⟩⟩;exact set _ (by rw[if_neg e1,if_pos e2])
     ·have e2:¬ at'.1 = "turn" := λ z=>h2 (abt (by rw[z]));exact set false (by rw[if_neg e1,if_neg e2])
   ·rintro Z H2 ⟨sm2,hb2,u11,u12,rfl⟩;rw[ecs,aay] at hb2;refine⟨sm2,?_,_,_,_,_,_,_,_,_,_,rfl⟩;rw[aZ hj,AC vs doors _ j vs[j] hv];exact hb2
  ·rintro Z H1 ⟨sm,hbl,v4,v5,v6,v7,v8,v9,v10,v11,v12,rfl⟩;rw[aad,aay] at hbl;refine⟨_,rfl,b,_,rfl,.inl ⟨bR.of hbl,λ l hl=>?_⟩⟩;exact k _ _ (sm.trans (aG.new hl)) (Is.tupOf (bC.of aB) (IsL.of_bools _))
theorem jJ:∀ {a b c:List Int}{n:Nat},a.length=n->b.length=n->c.length=n->(kJ a b c).length=n
 | [],b,c,n,h,_,_=>by simp at h;subst h;rfl
 | x::a,[],c,n,h1,h2,_=>by simp at h1 h2;omega
 | x::a,y::b,[],n,h1,_,h3=>by simp at h1 h3;omega
 | x::a,y::b,z::c,n,h1,h2,h3=>by
  simp at h1 h2 h3;show (kJ a b c).length+1=n;rw[jJ (n:=n - 1) (by omega) (by omega) (by omega)];omega
theorem AN:∀ {a b c:List Int}{i:Nat}{x y z:Int},a[i]? = some x->b[i]? = some y->c[i]? = some z->(kJ a b c)[i]? = some (x+y+z)
 | [],_,_,i,_,_,_,h,_,_=>by simp at h
 | _::_,[],_,i,_,_,_,_,h,_=>by simp at h
 | _::_,_::_,[],i,_,_,_,_,_,h=>by simp at h
 | a::as,b::bs,c::cs,0,x,y,z,h1,h2,h3=>by simp at h1 h2 h3;subst h1 h2 h3;rfl
 | a::as,b::bs,c::cs,i+1,x,y,z,h1,h2,h3=>by
  show (kJ as bs cs)[i]? = _;exact AN (by simpa using h1) (by simpa using h2) (by simpa using h3)
theorem vS (has:List Int) (s:wE) (d:Bool):(mR has s d).length=has.length:=by unfold mR;split <;> simp
theorem jB:∀ (ss:List wE) (ds:List Bool) (has:List Int),(fZ has ss ds).length=has.length
 | [],ds,has=>by cases ds <;> rfl
 | s::ss,[],has=>rfl
 | s::ss,d::ds,has=>by show (fZ (mR has s d) ss ds).length=_;rw[jB ss ds,vS]
theorem tR:∀ (ss:List wE) (ds:List Bool) (i:Nat) (has:List Int) (s:wE) (d:Bool),ss[i]? = some s->ds[i]? = some d->fZ has (ss.take (i+1)) (ds.take (i+1))=mR (fZ has (ss.take i) (ds.take i)) s d
 | [],_,i,_,_,_,h,_=>by simp at h
 | _::_,[],i,_,_,_,_,h=>by simp at h
 | a::ss,b::ds,0,has,s,d,h1,h2=>by simp at h1 h2;subst h1 h2;simp [fZ]
 | a::ss,b::ds,i+1,has,s,d,h1,h2=>by
  simp only [List.take_succ_cons,fZ];exact tR ss ds i _ s d (by simpa using h1) (by simpa using h2)
theorem tN:∀ (vs:List Vs) (hs:List Int) (i:Nat) (v:Vs) (h:Int),vs[i]? = some v->hs[i]? = some h->eZ (vs.take (i+1)) (hs.take (i+1))=eZ (vs.take i) (hs.take i)++eU v h
 | [],_,i,_,_,h,_=>by simp at h
 | _::_,[],i,_,_,_,h=>by simp at h
 | a::vs,b::hs,0,v,h,h1,h2=>by simp at h1 h2;subst h1 h2;simp [eZ]
 | a::vs,b::hs,i+1,v,h,h1,h2=>by
  simp only [List.take_succ_cons,eZ,acv];rw[tN vs hs i v h (by simpa using h1) (by simpa using h2)]
theorem q0:∀ (vs:List Vs) (hs:List Int) (i:Nat) (v:Vs) (h:Int),vs[i]? = some v->hs[i]? = some h->fC (vs.take (i+1)) (hs.take (i+1))=fC (vs.take i) (hs.take i)++[hV v h]
 | [],_,i,_,_,h,_=>by simp at h
 | _::_,[],i,_,_,_,h=>by simp at h
 | a::vs,b::hs,0,v,h,h1,h2=>by simp at h1 h2;subst h1 h2;simp [fC]
 | a::vs,b::hs,i+1,v,h,h1,h2=>by
  simp only [List.take_succ_cons,fC,List.cons_append];rw[q0 vs hs i v h (by simpa using h1) (by simpa using h2)]
theorem rO:∀ (vs:List Vs) (hs:List Int) (i j:Nat) (v:Vs) (h:Int),vs[i]? = some v->hs[i]? = some h->dR j (vs.take (i+1)) (hs.take (i+1))=dR j (vs.take i) (hs.take i)++(if eT v h=true then [j+i] else [])
 | [],_,i,_,_,_,h,_=>by simp at h
 | _::_,[],i,_,_,_,_,h=>by simp at h
 | a::vs,b::hs,0,j,v,h,h1,h2=>by
  simp at h1 h2;subst h1 h2;simp only [List.take_succ_cons,List.take_zero,dR,Nat.add_zero,List.nil_append]
 | a::vs,b::hs,i+1,j,v,h,h1,h2=>by
  simp only [List.take_succ_cons,dR];rw[rO vs hs i (j+1) v h (by simpa using h1) (by simpa using h2)];have e:j+1+i=j+(i+1):=by omega
  rw[e]
  split <;> simp
theorem yL:∀ (vs:List Vs) (hs:List Int) (j k:Nat),k∈dR j vs hs->j<=k/\k < j+vs.length
 | [],_,_,k,h=>by simp [dR] at h
 | _::_,[],_,k,h=>by simp [dR] at h
 | a::vs,b::hs,j,k,h=>by
  simp only [dR] at h;have ih:=yL vs hs (j+1) k;simp only [abb]
  split at h
  ·rcases aao.mp h with rfl | h
   ·omega
   ·have:=ih h;omega
  ·have:=ih h;omega
theorem uX:∀ (vs:List Vs) (hs:List Int) (j:Nat),(dR j vs hs).length<=vs.length
 | [],_,_=>by simp [dR]
 | _::_,[],_=>by simp [dR]
 | a::vs,b::hs,j=>by
  simp only [dR,abb];have:=uX vs hs (j+1)
  split
  ·rw[abb];omega
  ·omega
theorem vM {n m:Nat}:∀ (vs:List Vs) (hs:List Int),(∀ v∈vs,VOk n m v)->(eZ vs hs).length<=5 * vs.length
 | [],_,_=>by simp [eZ]
 | _::_,[],_=>by simp [eZ]
 | a::vs,b::hs,h=>by
  simp only [eZ,aau,abb];have h1:=FA (h a aat) b;have h2:=vM vs hs λ v hv=>h v (aap _ hv);omega
theorem wL {H:Hp}{sps:List wE}{xs:List V}{i:Nat}{x:V} (l:IsL K H (sps.map yT) xs) (h:xs[i]? = some x) :
  ∃ s,sps[i]? = some s/\∃ a,x=.ref a/\bC K H a [.int s.1,.int s.2.1,.bl s.2.2]:=by
 obtain⟨d,hd,hx⟩:=l.get' h;rw[aaj] at hd;cases e:sps[i]? with
 | none=>rw[e] at hd;cases hd
 | some o=>
  rw[e] at hd;cases hd;refine⟨o,rfl,?_⟩;obtain⟨a,ys,rfl,q,l⟩:=(show Is K H (.tup [.int o.1,.int o.2.1,.bl o.2.2]) x from hx).un;obtain⟨y,r,rfl,hy,l⟩:=l.un;obtain⟨z,r,rfl,hz,l⟩:=l.un;obtain⟨z2,r,rfl,hz2,l⟩:=l.un;have:=l.un0;subst this;rw[hy.ui,hz.ui,hz2.ub] at q;exact⟨a,rfl,q⟩
theorem NM {H:Hp}{held coming:List Int}{doors:List Bool}{y:V} (h:Is K H (OU held coming doors) y):∃ (a b c d:Addr),y=.ref a/\bC K H a [.ref b,.ref c,.ref d]/\bC K H b (held.map V.int)/\bC K H c (coming.map V.int)/\bC K H d (doors.map V.bl):=by
 obtain⟨a,xs,rfl,q,l⟩:=(show Is K H (.tup [.tup (held.map D.int),.tup (coming.map D.int),.tup (doors.map D.bl)]) y from h).un;obtain⟨x1,r,rfl,h1,l⟩:=l.un;obtain⟨x2,r,rfl,h2,l⟩:=l.un;obtain⟨x3,r,rfl,h3,l⟩:=l.un;have:=l.un0;subst this;obtain⟨b,ys,rfl,q1,l1⟩:=h1.un;obtain⟨c,zs,rfl,q2,l2⟩:=h2.un;obtain⟨d,us,rfl,q3,l3⟩:=h3.un;rw[l1.ints] at q1;rw[l2.ints] at q2;rw[l3.bools] at q3;exact⟨a,b,c,d,rfl,q,q1,q2,q3⟩
theorem NN {H:Hp}{held coming:List Int}{doors:List Bool}{a b c d:Addr} (q:bC K H a [.ref b,.ref c,.ref d]) (q1:bC K H b (held.map V.int)) (q2:bC K H c (coming.map V.int)) (q3:bC K H d (doors.map V.bl)):Is K H (OU held coming doors) (.ref a):=
 Is.tupOf q (.cons (Is.tupOf q1 (IsL.of_ints _)) (.cons (Is.tupOf q2 (IsL.of_ints _)) (.cons (Is.tupOf q3 (IsL.of_bools _)) .nil)))
def rW (K:aab):Sp:=λ args H Q _=>∃ (x y:V) (z:Addr) (sps:List wE) (held coming poured:List Int) (doors:List Bool) (n:Nat),args=[x,y,.ref z]/\Is K H (.tup (sps.map yT)) x/\Is K H (OU held coming doors) y/\bC K H z (poured.map V.int)/\
 held.length=n/\coming.length=n/\poured.length=n/\doors.length=sps.length/\n<=12/\(∀ s∈sps,0<=s.1/\s.1 < n)/\
 ∀ p H',aG H H'->H p=none->H' p=some (.lst ((fZ (kJ held coming poured) sps doors).map V.int))->Q (.ref p) H'
theorem vE:FnScope ["spouts","state","poured","held","coming","doors","has","target","flow","first_door","door"] ["spouts","state","poured"] (aM (bO 19)):={}
theorem FY {f:Addr}{fd:FuncData} (F:Fun K "filled" "filled" (bO 19) f fd) (T:Txt mg):FnOk P w K mg base mG 1 f fd ["spouts","state","poured"] (rW K):=by
 refine F.ok vE (λ vs H Q E h=>?_) (λ cdv A outer s H vs Q E hr h=>?_)
 ·obtain⟨x,y,z,sps,held,coming,poured,doors,n,rfl,_⟩:=h;rfl
 ·obtain⟨x,y,z,sps,held,coming,poured,doors,n,rfl,hx,hy,qz,l1,l2,l3,l4,hn,hsp,k⟩:=h;have sc:=vE;refine⟨_,(aD (cI (pv 1) (aU (K:=K) (n:=3) rfl rfl (aE (aF (i:=3) sc.nd rfl (Or.inl rfl)) (aE (aF (i:=4) sc.nd rfl (Or.inl rfl)) (aE (aF (i:=5) sc.nd rfl (Or.inl rfl)) aS)))))
   (aD (fJ (i:=6) sc.nd rfl rfl (λ _ _ h=>h) rfl (LcOk.mk (N':=["amounts"]) (fr:=[none]) rfl trivial rfl rfl rfl rfl rfl trivial) (J4 (K:=K) rfl rfl T.b_zip (aA (pv 3) (aA (pv 4) (aA (pv 2) aC)))) (λ _ _ _=>(aF (i:=0) (show (["amounts"]:List Str).Nodup by decide +kernel) rfl (Or.inl rfl) (Or.inr rfl))) (λ _ _ _=>cG) (λ _ _ _=>(bD (vY (K:=K) rfl rfl) rfl T.b_sum PyProof.Rows.boot_sum (aA (pv 0) aC))))
   (aD (eD PassesOwn.never rfl (J7 (K:=K) rfl rfl T.b_zip (aA (pv 0) (aA (pv 5) aC))) (aU (K:=K) (n:=2) rfl rfl (aE (aU (K:=K) (n:=3) rfl rfl (aE (aF (i:=7) sc.nd rfl (Or.inl rfl)) (aE (aF (i:=8) sc.nd rfl (Or.inl rfl)) (aE (aF (i:=9) sc.nd rfl (Or.inl rfl)) aS)))) (aE (aF (i:=10) sc.nd rfl (Or.inl rfl)) aS))) (aJ (eF (pC (pv 10)) (aJ (MB (pv 6) (pv 7) (GG (K:=K) rfl) (pv 8) CP kR)) cA)))
   (aJ (bH (pv 6)))))),?_⟩
  obtain⟨ax,xs,rfl,qx,lx⟩:=hx.un;obtain⟨ay,a1,a2,a3,rfl,qy,q1,q2,q3⟩:=NM hy;have exl:xs.length=sps.length:=by rw[lx.length,aad]
  refine⟨_,rfl,ay,_,rfl,qy,rfl,_,_,rfl,_,_,rfl,_,_,rfl,rfl,?_⟩;have la:=jJ l1 l2 l3;refine⟨_,rfl,_,rfl,_,rfl,true,true,true,a1,a2,z,rfl,⟨_,q1⟩,⟨_,q2⟩,⟨_,qz⟩,MV (K:=K) (xs:=held.map V.int) (ys:=coming.map V.int) (zs:=poured.map V.int) (n:=n) (by simpa using l1) (by simpa using l2) (by simpa using l3)
   (λ D i r Z H'=>H D=none/\aG H H'/\H' D=some (.lst r)/\r=((kJ held coming poured).take i).map V.int/\∃ v,Z=[v])
   (λ D i r Z H' p=>⟨p.2.1.tup q1,p.2.1.tup q2,p.2.1.tup qz⟩) (λ D hD=>⟨hD,aG.new hD,aB,by simp,none,rfl⟩) ?_ ?_⟩
  rotate_left
  ·rintro D i x0 y0 z0 r Z H' Tt hx0 hy0 hz0 ⟨hD,sm,hDl,rfl,v,rfl⟩ hT;rw[aaj] at hx0 hy0 hz0;obtain⟨x,hx,rfl⟩:=aas.mp hx0;obtain⟨y,hy,rfl⟩:=aas.mp hy0;obtain⟨z',hz,rfl⟩:=aas.mp hz0;have hi:=AN hx hy hz;have hil:=(aae.mp hi).1;have nT:D≠Tt:=aK hDl hT;refine fU ?_;refine⟨_,rfl,true,Tt,[x,y,z'],rfl,bC.of aB,by rw[aI nT];exact hDl,aW (by simp;omega),hD,?_,aB,?_,_,rfl⟩
   ·intro b o e;rw[aI (aK e hD)];exact aG.new hT b o (sm b o e)
   ·rw[aZ hi,aam];have:[x,y,z'].sum=x+y+z':=by simp;omega
    rw[this];rfl
  ·rintro D r Z H1 ⟨hD,sm,hDl,rfl,_⟩;rw[<- la,aay] at hDl;refine⟨_,rfl,_,rfl,true,true,ax,a3,rfl,⟨_,sm.tup qx⟩,⟨_,sm.tup q3⟩,KQ (K:=K) (xs:=xs) (ys:=doors.map V.bl) (n:=sps.length) exl (by rw[aad,l4])
    (λ i Z H'=>aG H H'/\H' D=some (.lst ((fZ (kJ held coming poured) (sps.take i) (doors.take i)).map V.int))/\
     ∃ v7 v8 v9 v10,Z=[some (.ref ax),some (.ref ay),some (.ref z),some (.ref a1),some (.ref a2),some (.ref a3),some (.ref D),v7,v8,v9,v10])
    (λ i Z H' p=>⟨p.1.tup qx,p.1.tup q3⟩) ⟨sm,by cases sps <;> exact hDl,none,none,none,none,rfl⟩ ?_ ?_⟩
   ·rintro Z H2 ⟨sm2,h2,v7,v8,v9,v10,rfl⟩;rw[<- l4,aay] at h2;rw[l4,aay] at h2;refine⟨_,rfl,?_⟩;exact k D H2 sm2 hD h2
   ·rintro i x y Z H2 Tt hx hy ⟨sm2,h2,v7,v8,v9,v10,rfl⟩ hT;obtain⟨sp,hsi,sa,rfl,qs⟩:=wL lx hx;rw[aaj] at hy;obtain⟨dr,hdi,rfl⟩:=aas.mp hy;have nT:D≠Tt:=aK h2 hT;have sm3:aG H (upd H2 Tt (.tup [.ref sa,.bl dr])):=λ b o e=>aG.new hT b o (sm2 b o e);have h3:upd H2 Tt (.tup [.ref sa,.bl dr]) D=some (.lst ((fZ (kJ held coming poured) (sps.take i) (doors.take i)).map V.int)):=by rw[aI nT];exact h2
    refine⟨Tt,_,rfl,bC.of aB,rfl,_,_,rfl,⟨sa,_,rfl,sm3.tup qs,rfl,_,_,rfl,_,_,rfl,_,_,rfl,rfl,_,_,rfl,rfl,?_⟩⟩;refine⟨_,rfl,_,rfl,?_⟩;have snoc:=tR sps doors i (kJ held coming poured) sp dr hsi hdi;cases dr with
    | false=>
     refine eE ?_;refine⟨sm3,?_,_,_,_,_,rfl⟩;rw[snoc];exact h3
    | true=>
     refine fH ?_;have hs:=hsp sp (aah hsi);have hlen:(fZ (kJ held coming poured) (sps.take i) (doors.take i)).length=n:=by rw[jB,la]
     have hlt:sp.1.toNat < (fZ (kJ held coming poured) (sps.take i) (doors.take i)).length:=by rw[hlen];omega
     have hg:((fZ (kJ held coming poured) (sps.take i) (doors.take i)).map V.int)[sp.1.toNat]? = some (.int ((fZ (kJ held coming poured) (sps.take i) (doors.take i)).getD sp.1.toNat 0)):=by
      rw[aaj,aai];simp [hlt]
     refine⟨_,rfl,_,rfl,D,_,sp.1,_,rfl,rfl,bR.of h3,hs.1,by omega,hg,_,rfl,_,_,rfl,rfl,D,_,sp.1,sp.1.toNat,rfl,rfl,h3,DY hs.1 (by rw[aad,hlen];omega),?_⟩;refine⟨sm3.put hD,?_,_,_,_,_,rfl⟩;rw[aB,snoc,mR,if_pos rfl,List.map_set]
theorem mV:∀ (vs:List Vs) (hs:List Int),vs.length=hs.length->(fC vs hs).length=vs.length
 | [],_,_=>by simp [fC]
 | _::_,[],h=>by simp at h
 | a::vs,b::hs,h=>by simp only [fC,abb];rw[mV vs hs (by simpa using h)]
theorem iM {H:Hp}{net:Net}{x:V} (h:Is K H (gB net) x):∃ (a b c:Addr) (xs ys:List V),x=.ref a/\bC K H a [.ref b,.ref c]/\bC K H b xs/\IsL K H (net.vs.map rJ) xs/\bC K H c ys/\IsL K H (net.sps.map yT) ys:=by
 obtain⟨a,zs,rfl,q,l⟩:=(show Is K H (.tup [.tup (net.vs.map rJ),.tup (net.sps.map yT)]) x from h).un;obtain⟨x1,r,rfl,h1,l⟩:=l.un;obtain⟨x2,r,rfl,h2,l⟩:=l.un;have:=l.un0;subst this;obtain⟨b,xs,rfl,q1,l1⟩:=h1.un;obtain⟨c,ys,rfl,q2,l2⟩:=h2.un;exact⟨a,b,c,xs,ys,rfl,q,q1,l1,q2,l2⟩
structure StOk (net:Net) (held coming:List Int) (doors:List Bool):Prop where
 h:held.length=net.vs.length
 c:coming.length=net.vs.length
 d:doors.length=net.sps.length
theorem kS:FnScope ["net","state","poured","vessels","spouts","held","tipped","sent","number","has","left","tips","coming","doors"] ["net","state","poured"] (aM (bO 18)):={}
def fA (H:Hp) (t sl:Addr):Prop:=∃ (ns:List Int) (pos cell:Int),H t=some (.lst [.ref sl,.int pos,.int cell])/\H sl=some (.lst (ns.map V.int))/\ns.length<=1000
theorem fA.mut {H:Hp}{t sl:Addr} (h:fA H t sl):lS (H t):=by obtain⟨ns,pos,cell,e,_⟩:=h;rw[e];exact trivial
theorem fA.same {H H':Hp}{t sl:Addr} (h:fA H t sl) (s:aG H H'):fA H' t sl:=by
 obtain⟨ns,pos,cell,e,f,g⟩:=h;exact⟨ns,pos,cell,s _ _ e,s _ _ f,g⟩
def hW:Sp:=λ vs H Q _=>∃ (t sl:Addr) (many:Int),vs=[.ref t,.int many]/\fA H t sl/\0 < many/\many < 1000000/\
 ∀ (r:Int) H',cB t H H'->fA H' t sl->0<=r->r < many->Q (.int r) H'
def LW:Sp:=λ vs H Q _=>∃ (t sl:Addr) (many:Int),vs=[.ref t,.int many]/\fA H t sl/\0 < many/\many < 2 ^ 200/\
 ∀ (r:Int) H',cB t H H'->fA H' t sl->0<=r->r < many->Q (.int r) H'
abbrev wZ (K:aab):TS:=kQ (nR (jN (rI (λ _ j=>0 < j) λ i j=>.int (i % j)) (jN (DN K) (dS 0) (tC (.int 2))) (dS 1)) (gP 4)) (kQ (nR (jN (rI OF λ i j=>.int (i / j)) (jN (DN K) (dS 0) (tC (.int 2))) (dS 1)) (KP (dS 0) (tC (.int 2)) zD)) (QV (dS 4)))
abbrev IR (K:aab):TS:=kQ (nR (jN (x8 λ i j=>.int (i+j)) (jN (DN K) (dS 0) (tC (.int 1))) (tC (.int 1))) (KP (dS 0) (tC (.int 1)) zD)) (nR (dS 3) (KP (dS 0) (tC (.int 2)) zD))
abbrev IS (K:aab):TS:=kQ (nR (jN (rI (λ _ j=>0 < j) λ i j=>.int (i % j)) (jN (x8 λ i j=>.int (i+j)) (dS 3) (jN (rI AU λ i j=>.int (i * j)) (tC (.int 1000003)) (jN (DN K) (dS 0) (tC (.int 1))))) (dS 2)) (gP 3)) (kQ (nR (jN (rI (λ _ j=>0 < j) λ i j=>.int (i % j)) (jN (x8 λ i j=>.int (i+j)) (jN (x8 λ i j=>.int (i+j)) (jN (rI AU λ i j=>.int (i * j)) (dS 3) (dS 3)) (jN (rI AU λ i j=>.int (i * j)) (tC (.int 1181783497276652981)) (dS 3))) (tC (.int 2049848353892358983))) (dS 2)) (gP 3)) (nR (jN (rI (λ _ j=>0 < j) λ i j=>.int (i % j)) (jN (x8 λ i j=>.int (i+j)) (jN (rI AU λ i j=>.int (i * j)) (dS 3) (dS 3)) (tC (.int 1442695040888963407))) (dS 2)) (gP 3)))
abbrev P3 (K:aab):TT:=tOr (DI (jN (x8 λ i j=>.bl (decide (j<=i))) (jN (DN K) (dS 0) (tC (.int 1))) (QN (RA K) (fI (jN (DN K) (dS 0) (tC (.int 0))) qL)))) (DI (jN (x8 λ i j=>.bl (decide (i < j))) (dS 3) (jN (rI SB λ i j=>.int (i ^ j.toNat)) (tC (.int 10)) (tC (.int 18)))))
abbrev dE (Q:VK):Ends:={ nx:=λ _ H'=>Q .non H',rt:=Q }
theorem o6:FnScope ["tape","many","prime","cell","found"] ["tape","many"] (aM (bO 40)):={}
theorem uK {f:Addr}{fd:FuncData} (F:Fun K "_law_draw" "_law_draw" (bO 40) f fd) (T:Txt mg):FnOk P w K mg base mG 1 f fd ["tape","many"] LW:=by
 refine F.ok o6 (λ vs H Q E h=>?_) (λ cdv A outer s H vs Q E hr h=>?_)
 ·obtain⟨t,sl,many,rfl,_⟩:=h;rfl
 ·obtain⟨t,sl,many,rfl,⟨ns,pos,cell,ht,hsl,hns⟩,hm0,hm1,k⟩:=h;have sc:=o6;refine⟨_,(aD (aQ (i:=2) sc.nd rfl (Or.inl rfl) aH)
   (aD (eF (bE sV (bA (aO (K:=K) rfl) (pv 0) aH (λ _ _=>rfl)) (pv 1) (bP _)) (aD (aQ (i:=3) sc.nd rfl (Or.inl rfl) aH)
   (aD (eF (bE JL (bD (cD (K:=K) rfl) rfl T.b_len ace (aA (bA (aO (K:=K) rfl) (pv 0) aH (λ _ _=>rfl)) aC)) aH (bP _)) (aJ (aQ (i:=3) sc.nd rfl (Or.inl rfl) (bA (aO (K:=K) rfl) (bA (aO (K:=K) rfl) (pv 0) aH (λ _ _=>rfl)) (bB n6 (bA (aO (K:=K) rfl) (pv 0) aH (λ _ _=>rfl)) (bD (cD (K:=K) rfl) rfl T.b_len ace (aA (bA (aO (K:=K) rfl) (pv 0) aH (λ _ _=>rfl)) aC))) (λ _ _=>rfl)))) cA)
   (aD (eF (PW.pt (O0 (bE O2 (bA (aO (K:=K) rfl) (pv 0) aH (λ _ _=>rfl)) (bD (cD (K:=K) rfl) rfl T.b_len ace (aA (bA (aO (K:=K) rfl) (pv 0) aH (λ _ _=>rfl)) aC)) (bP _)) (IW (bE sV (pv 3) (bB PM aH aH) (bP _))))) (aD (aQ (i:=3) sc.nd rfl (Or.inl rfl) (bB n6 (bB dB (pv 3) (bB n4 aH (bA (aO (K:=K) rfl) (pv 0) aH (λ _ _=>rfl)))) (pv 2)))
   (aD (aQ (i:=3) sc.nd rfl (Or.inl rfl) (bB n6 (bB dB (bB dB (bB n4 (pv 3) (pv 3)) (bB n4 aH (pv 3))) aH) (pv 2)))
   (aJ (aQ (i:=3) sc.nd rfl (Or.inl rfl) (bB n6 (bB dB (bB n4 (pv 3) (pv 3)) aH) (pv 2)))))) cA)
   (aD (cI (bB dB (bA (aO (K:=K) rfl) (pv 0) aH (λ _ _=>rfl)) aH) (xD (pv 0) aH kR))
   (aJ (cI (pv 3) (xD (pv 0) aH kR))))))) cA)
   (aD (aQ (i:=4) sc.nd rfl (Or.inl rfl) (bB n6 (bA (aO (K:=K) rfl) (pv 0) aH (λ _ _=>rfl)) (pv 1)))
   (aD (cI (bB JM (bA (aO (K:=K) rfl) (pv 0) aH (λ _ _=>rfl)) (pv 1)) (xD (pv 0) aH kR))
   (aJ (bH (pv 4))))))),?_⟩
  have nst:sl≠t:=O3 hsl ht (by intro z;injection z with z;cases ns <;> simp at z);have ix:∀ {H1:Hp}{p' c':Int}{Q:VK},H1 t=some (.lst [.ref sl,.int p',.int c'])->Q (.ref sl) H1->DN K (.ref t) (.int 0) H1 Q:=λ e q=>.inl ⟨t,_,0,_,rfl,rfl,bR.of e,rfl,q⟩;have ix1:∀ {H1:Hp}{p' c':Int}{Q:VK},H1 t=some (.lst [.ref sl,.int p',.int c'])->Q (.int p') H1->DN K (.ref t) (.int 1) H1 Q:=λ e q=>.inl ⟨t,_,1,_,rfl,rfl,bR.of e,rfl,q⟩;have ix2:∀ {H1:Hp}{p' c':Int}{Q:VK},H1 t=some (.lst [.ref sl,.int p',.int c'])->Q (.int c') H1->DN K (.ref t) (.int 2) H1 Q:=λ e q=>.inl ⟨t,_,2,_,rfl,rfl,bR.of e,rfl,q⟩;have tail:∀ (v3:Option V) (H1:Hp) (p' c':Int),cB t H H1->H1 t=some (.lst [.ref sl,.int p',.int c'])->wZ K (dE Q) [some (.ref t),some (.int many),some (.int 2305843009213693951),v3,none] H1:=by
   intro v3 H1 p' c' bt e;refine⟨_,rfl,ix2 e ⟨_,rfl,_,_,rfl,rfl,hm0,?_⟩⟩;refine⟨_,rfl,ix2 e ⟨_,rfl,_,_,rfl,rfl,⟨hm0,hm1⟩,_,rfl,t,_,2,2,rfl,rfl,e,rfl,_,rfl,?_⟩⟩;refine k _ _ (bt.trans cB.upd) ⟨ns,p',c' / many,aB,?_,hns⟩ (Int.emod_nonneg _ (by omega)) (Int.emod_lt_of_pos _ hm0);rw[aI nst];exact bt sl _ nst hsl
  refine⟨_,rfl,ix2 ht ⟨_,rfl,_,_,rfl,rfl,_,rfl,?_⟩⟩;refine kI (λ _=>?_) (λ _=>tail none H pos cell (cB.refl H) ht);have mid:∀ (c':Int),IR K { nx:=wZ K (dE Q),rt:=Q } [some (.ref t),some (.int many),some (.int 2305843009213693951),some (.int c'),none] H:=by
   intro c';refine⟨_,rfl,ix1 ht ⟨_,_,rfl,rfl,_,rfl,t,_,1,1,rfl,rfl,ht,rfl,?_⟩⟩;refine⟨_,rfl,_,rfl,t,_,2,2,rfl,rfl,aB,rfl,?_⟩;exact tail (some (.int c')) _ (pos+1) c' (cB.upd.trans cB.upd) aB
  have big:∀ (c':Int),kQ (HZ (P3 K) (IS K) yN) (IR K) { nx:=wZ K (dE Q),rt:=Q } [some (.ref t),some (.int many),some (.int 2305843009213693951),some (.int c'),none] H:=by
   intro c';have body:∀ σ,σ=[some (.ref t),some (.int many),some (.int 2305843009213693951),some (.int c'),none]->IS K { nx:=IR K { nx:=wZ K (dE Q),rt:=Q },rt:=Q } σ H:=by
    rintro σ rfl;have prime:(0:Int) < 2305843009213693951:=by decide
    refine⟨_,rfl,_,rfl,ix1 ht ⟨_,_,rfl,rfl,.inl ⟨by decide,by decide⟩,_,_,rfl,rfl,_,rfl,_,_,rfl,rfl,prime,?_⟩⟩;have b1:=Int.emod_nonneg (c'+1000003 * pos) (show (2305843009213693951:Int)≠0 by decide);have b2:=Int.emod_lt_of_pos (c'+1000003 * pos) prime;generalize (c'+1000003 * pos) % 2305843009213693951=c1 at b1 b2;refine⟨_,rfl,_,rfl,_,_,rfl,rfl,.inl ⟨by omega,by omega⟩,_,rfl,_,_,rfl,rfl,.inl ⟨by decide,by decide⟩,_,_,rfl,rfl,_,_,rfl,rfl,_,rfl,_,_,rfl,rfl,prime,?_⟩;have b3:=Int.emod_nonneg (c1 * c1+1181783497276652981 * c1+2049848353892358983) (show (2305843009213693951:Int)≠0 by decide);have b4:=Int.emod_lt_of_pos (c1 * c1+1181783497276652981 * c1+2049848353892358983) prime;generalize (c1 * c1+1181783497276652981 * c1+2049848353892358983) % 2305843009213693951=c2 at b3 b4;refine⟨_,rfl,_,rfl,_,_,rfl,rfl,.inl ⟨by omega,by omega⟩,_,_,rfl,rfl,_,rfl,_,_,rfl,rfl,prime,?_⟩;exact mid _
   refine⟨_,rfl,ix1 ht ⟨_,rfl,ix ht ⟨sl,_,rfl,.inl (bR.of hsl),_,_,rfl,rfl,_,rfl,?_⟩⟩⟩;refine kI (λ _=>?_) (λ _=>?_)
   ·refine fH ?_;exact body _ rfl
   ·refine⟨_,rfl,_,_,rfl,rfl,⟨by decide,by decide,by decide⟩,_,_,rfl,rfl,_,rfl,?_⟩;refine kI (λ _=>body _ rfl) (λ _=>mid _)
  refine⟨_,rfl,ix ht ⟨sl,_,rfl,.inl (bR.of hsl),_,_,rfl,rfl,_,rfl,?_⟩⟩;refine kI (λ hlen=>?_) (λ _=>big 0);have hpos:0 < ns.length:=by have:=abx hlen;simpa using this
  refine⟨_,rfl,ix ht ⟨_,rfl,ix1 ht ⟨_,rfl,ix ht ⟨sl,_,rfl,.inl (bR.of hsl),_,_,rfl,rfl,(show (0:Int) < (((ns.map V.int).length:Nat):Int) by rw[aad];omega),?_⟩⟩⟩⟩;have m1:=Int.emod_nonneg pos (show (((ns.map V.int).length:Nat):Int)≠0 by rw[aad];omega);have m2:=Int.emod_lt_of_pos pos (show (0:Int) < (((ns.map V.int).length:Nat):Int) by rw[aad];omega);rw[aad] at m1 m2;have hix:(ns.map V.int)[(pos % ((ns.map V.int).length:Int)).toNat]? = some (.int (ns[(pos % (ns.length:Int)).toNat]'(by omega))):=by
   rw[aad,aaj];simp [show (pos % (ns.length:Int)).toNat < ns.length by omega]
  refine .inl ⟨sl,_,_,_,rfl,rfl,bR.of hsl,rE (by rw[aad];exact m1) hix,?_⟩;exact big _
theorem xM {f:Addr}{fd:FuncData} (F:Fun K "_law_draw" "_law_draw" (bO 40) f fd) (T:Txt mg):FnOk P w K mg base mG 1 f fd ["tape","many"] hW:=
 (uK F T).imp λ vs H Q E ⟨t,sl,many,e,tp,h0,h1,k⟩=>⟨t,sl,many,e,tp,h0,Int.lt_of_lt_of_le h1 (by decide),k⟩
structure Ext (t sl:Addr) (H H':Hp):Prop where
 bt:cB t H H'
 tp:fA H' t sl
theorem fA.some {H:Hp}{t sl:Addr} (h:fA H t sl):∃ o,H t=some o:=by obtain⟨ns,pos,cell,e,_⟩:=h;exact⟨_,e⟩
theorem fA.put {H:Hp}{t sl p:Addr}{o:HO} (h:fA H t sl) (h1:p≠t) (h2:p≠sl):fA (upd H p o) t sl:=by
 obtain⟨ns,pos,cell,e,f,g⟩:=h;exact⟨ns,pos,cell,by rw[aI (Ne.symm h1)];exact e,by rw[aI (Ne.symm h2)];exact f,g⟩
theorem fA.ne_sl {H:Hp}{t sl p:Addr} (h:fA H t sl) (hp:H p=none):p≠sl:=by
 obtain⟨ns,pos,cell,e,f,g⟩:=h;exact λ z=>by rw[z,f] at hp;cases hp
theorem Ext.new {t sl p:Addr}{H H':Hp}{o:HO} (e:Ext t sl H H') (hp:H' p=none):Ext t sl H (upd H' p o):=⟨e.bt.trans (aG.new hp).but,e.tp.same (aG.new hp)⟩
theorem Ext.ne {t sl p:Addr}{H H':Hp} (e:Ext t sl H H') (hp:H' p=none):p≠t:=by
 obtain⟨o,h⟩:=e.tp.some;intro z;rw[z,h] at hp;cases hp
theorem Ext.ts {K:aab}{t sl:Addr}{H H':Hp} (e:Ext t sl H H') (tp:fA H t sl):bI K H H':=e.bt.ts tp.mut
def Gn (t sl:Addr) (σ:St) (H0:Hp) (P:V->Prop) (te:TE):Prop:=∀ H Q,Ext t sl H0 H->(∀ v H',Ext t sl H0 H'->cB t H H'->P v->Q v H')->te σ H Q
section
variable {t sl:Addr}{σ:St}{H0:Hp}{P:V->Prop}{a b c d:TE}
def dN (lo hi:Int):V->Prop:=λ v=>∃ i,v=.int i/\lo<=i/\i < hi
theorem Gn.imp {P':V->Prop} (h:Gn t sl σ H0 P a) (f:∀ v,P v->P' v):Gn t sl σ H0 P' a:=λ H Q e k=>h H Q e λ v H' e' b p=>k v H' e' b (f v p)
theorem tO {v:V} (h:P v):Gn t sl σ H0 P (tC v):=λ H Q e k=>k v H e (cB.refl H) h
theorem RU {i:Nat}{v:V} (bv:σ[i]? = some (some v)) (h:P v):Gn t sl σ H0 P (dS i):=λ H Q e k=>⟨v,bv,k v H e (cB.refl H) h⟩
theorem i9 (ha:Gn t sl σ H0 P a) (hb:Gn t sl σ H0 P b) (hc:Gn t sl σ H0 (dN 0 2) c):Gn t sl σ H0 P (jN (DN K) (LU (fI a (fI b qL))) c):=by
 intro H Q e k;refine ha H _ e λ v1 H1 e1 b1 p1=>hb H1 _ e1 λ v2 H2 e2 b2 p2=>⟨(show 2<=sizeLine by decide),λ p hp=>hc _ _ (e2.new hp) λ v H3 e3 b3 ⟨i,hi,h0,h1⟩=>?_⟩;subst hi;have hl:=b3 p _ (e2.ne hp) aB;have hb:cB t H H3:=b1.trans (b2.trans ((aG.new hp).but.trans b3));rcases (show i=0\/i=1 by omega) with rfl | rfl
 ·exact .inl ⟨p,_,0,v1,rfl,rfl,bR.of hl,rfl,k v1 H3 e3 hb p1⟩
 ·exact .inl ⟨p,_,1,v2,rfl,rfl,bR.of hl,rfl,k v2 H3 e3 hb p2⟩
theorem A8 (ha:Gn t sl σ H0 P a) (hb:Gn t sl σ H0 P b) (hd:Gn t sl σ H0 P d) (hc:Gn t sl σ H0 (dN 0 3) c):Gn t sl σ H0 P (jN (DN K) (LU (fI a (fI b (fI d qL)))) c):=by
 intro H Q e k;refine ha H _ e λ v1 H1 e1 b1 p1=>hb H1 _ e1 λ v2 H2 e2 b2 p2=>hd H2 _ e2 λ v4 H4 e4 b4 p4=>⟨(show 3<=sizeLine by decide),λ p hp=>hc _ _ (e4.new hp) λ v H3 e3 b3 ⟨i,hi,h0,h1⟩=>?_⟩;subst hi;have hl:=b3 p _ (e4.ne hp) aB;have hb:cB t H H3:=b1.trans (b2.trans (b4.trans ((aG.new hp).but.trans b3)));rcases (show i=0\/i=1\/i=2 by omega) with rfl | rfl | rfl
 ·exact .inl ⟨p,_,0,v1,rfl,rfl,bR.of hl,rfl,k v1 H3 e3 hb p1⟩
 ·exact .inl ⟨p,_,1,v2,rfl,rfl,bR.of hl,rfl,k v2 H3 e3 hb p2⟩
 ·exact .inl ⟨p,_,2,v4,rfl,rfl,bR.of hl,rfl,k v4 H3 e3 hb p4⟩
theorem xU {i:Nat}{lo hi:Int} (bv:σ[i]? = some (some (.ref t))) (hlo:0 < lo) (hhi:hi<=1000000) (ha:Gn t sl σ H0 (dN lo hi) a):Gn t sl σ H0 (λ v=>∃ r m,v=.int r/\0<=r/\r < m/\lo<=m/\m < hi) (uZ hW [] E0 (fI (dS i) (fI a qL))):=by
 intro H Q e k;refine⟨_,bv,ha H _ e λ v H1 e1 b1 ⟨m,hm,h0,h1⟩=>?_⟩;subst hm;exact⟨t,sl,m,rfl,e1.tp,by omega,by omega,λ r H2 b2 t2 r0 r1=>k _ H2 ⟨e1.bt.trans b2,t2⟩ (b1.trans b2) ⟨r,m,rfl,r0,r1,h0,h1⟩⟩
theorem bY {i:Nat}{m:Int} (bv:σ[i]? = some (some (.ref t))) (h0:0 < m) (h1:m < 1000000):Gn t sl σ H0 (dN 0 m) (uZ hW [] E0 (fI (dS i) (fI (tC (.int m)) qL))):=
 (xU (lo:=m) (hi:=m+1) bv h0 (by omega) (tO ⟨m,rfl,by omega,by omega⟩)).imp λ v ⟨r,m',e,a,b,c,d⟩=>⟨r,e,a,by omega⟩
theorem lK {i j:Nat}{m:Int} (bv:σ[i]? = some (some (.ref t))) (hj:σ[j]? = some (some (.int m))) (h0:0 < m) (h1:m < 1000000):Gn t sl σ H0 (dN 0 m) (uZ hW [] E0 (fI (dS i) (fI (dS j) qL))):=
 (xU (lo:=m) (hi:=m+1) bv h0 (by omega) (RU hj ⟨m,rfl,by omega,by omega⟩)).imp λ v ⟨r,m',e,a,b,c,d⟩=>⟨r,e,a,by omega⟩
theorem xV {x y l h:Int} (ha:Gn t sl σ H0 (dN x y) a) (hb:Gn t sl σ H0 (dN l h) b):Gn t sl σ H0 (dN (x+l) (y+h - 1)) (jN (x8 λ i j=>.int (i+j)) a b):=by
 intro H Q e k;refine ha H _ e λ v1 H1 e1 b1 ⟨i,hi,i0,i1⟩=>hb H1 _ e1 λ v2 H2 e2 b2 ⟨j,hj,j0,j1⟩=>?_;subst hi hj;exact⟨i,j,rfl,rfl,k _ H2 e2 (b1.trans b2) ⟨_,rfl,by omega,by omega⟩⟩
theorem KN {y m:Int} (hm:0 < m) (hm2:m < 1000000) (ha:Gn t sl σ H0 (dN 0 y) a):Gn t sl σ H0 (λ v=>∃ i,v=.int (i / m)/\0<=i/\i < y) (jN (rI QK λ i j=>.int (i / j)) a (tC (.int m))):=by
 intro H Q e k;refine ha H _ e λ v1 H1 e1 b1 ⟨i,hi,i0,i1⟩=>?_;subst hi;exact⟨i,m,rfl,rfl,⟨hm,by omega⟩,k _ H1 e1 b1 ⟨i,rfl,i0,i1⟩⟩
theorem CS {y c0:Int} (ha:Gn t sl σ H0 (dN 0 y) a):Gn t sl σ H0 (λ v=>∃ b:Bool,v=.bl b) (jN rEq a (tC (.int c0))):=by
 intro H Q e k;refine ha H _ e λ v1 H1 e1 b1 ⟨i,hi,i0,i1⟩=>?_;subst hi;exact⟨rfl,k _ H1 e1 b1 ⟨_,rfl⟩⟩
theorem Q3 {y c0:Int} (ha:Gn t sl σ H0 (dN 0 y) a):Gn t sl σ H0 (λ v=>∃ b:Bool,v=.bl b) (jN (x8 λ i j=>.bl (decide (j < i))) a (tC (.int c0))):=by
 intro H Q e k;refine ha H _ e λ v1 H1 e1 b1 ⟨i,hi,i0,i1⟩=>?_;subst hi;exact⟨i,c0,rfl,rfl,k _ H1 e1 b1 ⟨_,rfl⟩⟩
abbrev IV:List V->Hp->VK->Prop:=λ xs H Q=>(∃ i,xs=[.int i]/\Q (.int i) H)\/∃ k,xs=[.bl k]/\Q (.int (if k then 1 else 0)) H
theorem KM {i:Nat}{s:Bool} (bv:σ[i]? = some (some (.bl s))):Gn t sl σ H0 (dN 0 2) (QN IV (fI (dS i) qL)):=by
 intro H Q e k;refine⟨_,bv,.inr ⟨s,rfl,k _ H e (cB.refl H) ?_⟩⟩;cases s
 ·exact⟨0,rfl,by omega,by omega⟩
 ·exact⟨1,rfl,by omega,by omega⟩
theorem rB {i:Nat}{s:Bool}{x y lo hi:Int} (bv:σ[i]? = some (some (.bl s))) (h1:lo<=x/\x < hi) (h2:lo<=y/\y < hi):Gn t sl σ H0 (dN lo hi) (jN (DN K) (LU (fI (tC (.int x)) (fI (tC (.int y)) qL))) (QN IV (fI (dS i) qL))):=
 i9 (tO ⟨x,rfl,h1.1,h1.2⟩) (tO ⟨y,rfl,h2.1,h2.2⟩) (KM bv)
theorem rC (ha:Gn t sl σ H0 (dN 0 4) a):Gn t sl σ H0 (dN 0 2) (jN (rI QK λ i j=>.int (i / j)) a (tC (.int 3))):=
 (KN (by decide) (by decide) ha).imp λ v ⟨i,e,a,b⟩=>⟨i / 3,e,by omega,by omega⟩
theorem mQ {lo hi lo' hi':Int} (h:Gn t sl σ H0 (dN lo hi) a) (h1:lo'<=lo) (h2:hi<=hi'):Gn t sl σ H0 (dN lo' hi') a:=h.imp λ v ⟨i,e,a,b⟩=>⟨i,e,by omega,by omega⟩
theorem lL {i:Nat}{lo hi:Int} (bv:σ[i]? = some (some (.ref t))) (hlo:0 < lo) (hhi:hi<=1000000) (ha:Gn t sl σ H0 (dN lo hi) a):Gn t sl σ H0 (dN 0 (hi - 1)) (uZ hW [] E0 (fI (dS i) (fI a qL))):=
 (xU bv hlo hhi ha).imp λ v ⟨r,m,e,a,b,c,d⟩=>⟨r,e,a,by omega⟩
end
def BH (K:aab):Sp:=λ args H Q _=>∃ (t sl:Addr) (n:Nat) (small:Bool),args=[.ref t,.int (n:Int),.bl small]/\fA H t sl/\1<=n/\n<=12/\
 ∀ (outs:List (Option Int×Int)) p H',Ext t sl H H'->outs≠[]->outs.length<=3->(∀ o∈outs,OutOk n o)->Is K H' (.tup (outs.map qR)) p->Q p H'
theorem o5:FnScope ["tape","many","small","outs","k","target","parts"] ["tape","many","small"] (aM (bO 41)):={}
theorem xK {f fD:Addr}{fd fdD:FuncData} (F:Fun K "_law_outs" "_law_outs" (bO 41) f fd) (T:Txt mg) (G__law_draw:Callee P w K mg base "_law_draw" ["tape","many"] 1 hW fD fdD):FnOk P w K mg base mG 2 f fd ["tape","many","small"] (BH K):=by
 refine F.ok o5 (λ vs H Q E h=>?_) (λ cdv A outer s H vs Q E hr h=>?_)
 ·obtain⟨t,sl,n,small,rfl,_⟩:=h;rfl
 ·obtain⟨t,sl,n,small,rfl,tp,n1,n2,k⟩:=h;have sc:=o5;refine⟨_,(aD (aQ (i:=3) sc.nd rfl (Or.inl rfl) (cJ aC))
   (aD (eD PassesOwn.never rfl (eC rfl T.b_range (aA (bB dB aH (bA (aO (K:=K) rfl) (cJ (aA (eG G__law_draw hr (aA (pv 0) (aA aH aC))) (aA (eG G__law_draw hr (aA (pv 0) (aA aH aC))) aC))) (eG G__law_draw hr (aA (pv 0) (aA aH aC))) (λ _ _=>rfl))) aC)) (aF (i:=4) sc.nd rfl (Or.inl rfl)) (aD (aQ (i:=5) sc.nd rfl (Or.inl rfl) (bA (aO (K:=K) rfl) (cJ (aA fT (aA (eG G__law_draw hr (aA (pv 0) (aA (pv 1) aC))) (aA (eG G__law_draw hr (aA (pv 0) (aA (pv 1) aC))) aC)))) (eG G__law_draw hr (aA (pv 0) (aA aH aC))) (λ _ _=>rfl)))
   (aD (aQ (i:=6) sc.nd rfl (Or.inl rfl) (bA (aO (K:=K) rfl) (cJ (aA (eG G__law_draw hr (aA (pv 0) (aA aH aC))) (aA (eG G__law_draw hr (aA (pv 0) (aA (bA (aO (K:=K) rfl) (cJ (aA aH (aA aH aC))) (aV jF rfl T.b_int pO (aA (pv 2) aC)) (λ _ _=>rfl)) aC))) aC))) (bB lX (eG G__law_draw hr (aA (pv 0) (aA aH aC))) aH) (λ _ _=>rfl)))
   (aJ (dA (gA (K:=K) rfl abm abn abo cX (pv 3) (aA (bF (aA (pv 5) (aA (bB dB aH (pv 6)) aC))) aC)))))))
   (aJ (bH (aV (bN (K:=K) rfl) rfl T.b_tuple bV (aA (pv 3) aC)))))),?_⟩
  refine⟨abw _,λ ol hol=>?_⟩;have e0:Ext t sl H (upd H ol (.lst [])):=Ext.new ⟨cB.refl H,tp⟩ hol;have no:ol≠t:=Ext.ne ⟨cB.refl H,tp⟩ hol;refine xV (x:=1) (y:=2) (l:=0) (h:=3) (H0:=upd H ol (.lst [])) (t:=t) (sl:=sl) (tO ⟨1,rfl,by omega,by omega⟩)
   (i9 (mQ (bY rfl (by decide) (by decide)) (Int.le_refl _) (by decide)) (bY rfl (by decide) (by decide)) (bY rfl (by decide) (by decide))) _ _ ⟨cB.refl _,e0.tp⟩ ?_
  rintro v H1 e1 _ ⟨m,rfl,m0,m1⟩;refine⟨m,rfl,by omega,by omega,?_⟩;refine fK (lo:=0) (n:=m.toNat) (λ i Z H'=>Ext t sl H H'/\∃ (outs:List (Option Int×Int)) (xs:List V),H' ol=some (.lst xs)/\IsL K H' (outs.map qR) xs/\outs.length=i/\(∀ o∈outs,OutOk n o)/\
   ∃ v4 v5 v6,Z=[some (.ref t),some (.int (n:Int)),some (.bl small),some (.ref ol),v4,v5,v6]) ?_ ?_ ?_
  ·exact⟨⟨e0.bt.trans e1.bt,e1.tp⟩,[],[],e1.bt ol _ no aB,.nil,rfl,λ o ho=>(nomatch ho),none,none,none,rfl⟩
  ·rintro i Z H2 hi ⟨e2,outs,xs,ho,hl,hlen,hok,v4,v5,v6,rfl⟩;refine A8 (H0:=H2) (t:=t) (sl:=sl) (P:=λ v=>∃ o:Option Int,v=iB o/\∀ z,o=some z->0<=z/\z < n) (tO ⟨none,rfl,λ z h=>nomatch h⟩)
    ((lK (m:=(n:Int)) rfl rfl (by omega) (by omega)).imp λ v ⟨r,e,a,b⟩=>⟨some r,e,λ z h=>by cases h;exact⟨a,by omega⟩⟩)
    ((lK (m:=(n:Int)) rfl rfl (by omega) (by omega)).imp λ v ⟨r,e,a,b⟩=>⟨some r,e,λ z h=>by cases h;exact⟨a,by omega⟩⟩) (bY rfl (by decide) (by decide)) _ _ ⟨cB.refl _,e2.tp⟩ ?_
   rintro v H3 e3 _ ⟨tg,rfl,htg⟩;refine i9 (H0:=H3) (t:=t) (sl:=sl) (P:=dN 0 60) (mQ (bY rfl (by decide) (by decide)) (Int.le_refl _) (by decide))
    (mQ (lL (lo:=3) (hi:=61) rfl (by decide) (by decide) (rB rfl ⟨by decide,by decide⟩ ⟨by decide,by decide⟩)) (Int.le_refl _) (by decide)) (rC (bY rfl (by decide) (by decide))) _ _ ⟨cB.refl _,e3.tp⟩ ?_
   rintro v H4 e4 _ ⟨pt,rfl,p0,p1⟩;have ho4:H4 ol=some (.lst xs):=e4.bt ol _ no (e3.bt ol _ no ho);refine⟨_,rfl,.inl ⟨rfl,_,bR.of ho4⟩,_,rfl,_,rfl,_,_,rfl,rfl,(show 2<=sizeLine by decide),λ q hq=>?_⟩;have nq:ol≠q:=aK ho4 hq;have hxl:xs.length=outs.length:=by rw[hl.length,aad]
   have hm3:m.toNat<=3:=by omega
   refine⟨ol,xs,_,rfl,rfl,by rw[aI nq];exact ho4,aW (by omega),?_⟩;have e5:Ext t sl H2 (upd H4 q (.tup [iB tg,.int (1+pt)])):=Ext.new ⟨e3.bt.trans e4.bt,e4.tp⟩ hq;have ts:bI K H2 (upd (upd H4 q (.tup [iB tg,.int (1+pt)])) ol (.lst (xs++[.ref q]))):=bI.put (e5.ts e2.tp) (.inr (by rw[aI nq,ho4];exact trivial));refine⟨⟨λ b o hb e=>?_,?_⟩,outs++[(tg,1+pt)],xs++[.ref q],aB,?_,by simp [hlen],?_,_,_,_,rfl⟩
   ·rw[aI (aK e hol)];exact e5.bt b o hb (e2.bt b o hb e)
   ·exact e5.tp.put no (fA.ne_sl tp hol)
   ·rw[aam];exact IsL.snoc (Is.tupOf (ds:=[LO tg,.int (1+pt)]) (bI.put (bI.refl _) (.inr (by rw[aI nq,ho4];exact trivial)) _ _ (bC.of aB)) (.cons (Is.tgOf tg) (.cons (Is.i _) .nil))) (IsL.mono ts _ _ hl)
   ·intro o ho;rcases abk.mp ho with ho | ho
    ·exact hok o ho
    ·rw[aan.mp ho];exact⟨λ z hz=>htg z hz,by show 1<=1+pt;omega,by show 1+pt<=60;omega⟩
  ·rintro Z H2 ⟨e2,outs,xs,ho,hl,hlen,hok,v4,v5,v6,rfl⟩;refine⟨_,rfl,ol,_,rfl,.inl ⟨bR.of ho,λ l hlf=>?_⟩⟩;refine k outs _ _ (e2.new hlf) (λ z=>by rw[z] at hlen;simp at hlen;omega) (by omega) hok (Is.tupOf (bC.of aB) (IsL.mono (aG.new hlf).ts _ _ hl))
end Tw
namespace L2
theorem KA {c:TT}{a b:TS}{D:Ends}{σ:St}{H:Hp} (I:St->Hp->Prop) (h1:∀ D':Ends,(∀ Z H',I Z H'->D'.nx Z H')->HZ c a b D' σ H) (h2:∀ Z H',I Z H'->D.nx Z H'):HZ c a b D σ H:=h1 D h2
theorem wY {s R:TS}{D:Ends}{σ:St}{H:Hp} (I:St->Hp->Prop) (h1:∀ D':Ends,(∀ Z H',I Z H'->D'.nx Z H')->s D' σ H) (h2:∀ Z H',I Z H'->R D Z H'):kQ s R D σ H:=h1 _ h2
end L2
namespace Tw
open PySem L2
section
variable {t sl:Addr}{σ:St}{H0:Hp}{P:V->Prop}{a b c d:TE}
theorem K9 {y c0:Int}{t' u':TS}{D':Ends}{H:Hp} (ha:Gn t sl σ H0 (dN 0 y) a) (e:Ext t sl H0 H) (k:∀ (b:Bool) H',Ext t sl H0 H'->cB t H H'->if b=true then t' D' σ H' else u' D' σ H'):HZ (DI (jN rEq a (tC (.int c0)))) t' u' D' σ H:=
 CS ha H _ e λ v H' e' b ⟨c,hc⟩=>⟨c,hc,k c H' e' b⟩
theorem GF {i:Nat}{s:Bool} (bv:σ[i]? = some (some (.bl s))) (ha:Gn t sl σ H0 (dN 0 2) a):Gn t sl σ H0 (dN 0 2) (jN (rI AU λ i j=>.int (i * j)) a (QN IV (fI (NK (dS i)) qL))):=by
 intro H Q e k;refine ha H _ e λ v1 H1 e1 b1 ⟨j,hj,j0,j1⟩=>⟨_,bv,s,rfl,.inr ⟨!s,rfl,?_⟩⟩;subst hj;refine⟨j,_,rfl,rfl,.inl ⟨by omega,by omega⟩,k _ H1 e1 b1 ?_⟩;cases s
 ·exact⟨j,by simp,j0,j1⟩
 ·exact⟨0,by simp,by omega,by omega⟩
theorem KL {j:Nat}{x y:Int} (hj:σ[j]? = some (some (.int y))):Gn t sl σ H0 (dN (x - y) (x - y+1)) (jN (x8 λ i j=>.int (i - j)) (tC (.int x)) (dS j)):=λ H Q e k=>
 ⟨_,hj,x,y,rfl,rfl,k _ H e (cB.refl H) ⟨_,rfl,by omega,by omega⟩⟩
theorem EA {j:Nat}{y l h:Int} (hj:σ[j]? = some (some (.int y))) (hb:Gn t sl σ H0 (dN l h) b):Gn t sl σ H0 (dN (y+l) (y+h)) (jN (x8 λ i j=>.int (i+j)) (dS j) b):=
 mQ (xV (x:=y) (y:=y+1) (RU hj ⟨y,rfl,by omega,by omega⟩) hb) (by omega) (by omega)
end
structure VFull (i:Nat) (v:Vs):Prop where
 sz:v.size<=60
 br:v.size<=v.brim
 bh:v.brim<=200
 sp:∀ t,v.spill=some t->(i:Int) < t
structure NetFull (net:Net):Prop where
 vs:∀ i v,net.vs[i]? = some v->VFull i v
 sps:∀ s∈net.sps,0<=s.2.1/\s.2.1<=60
def nV (K:aab):Sp:=λ args H Q _=>∃ (t sl:Addr) (i n m:Nat) (small:Bool),args=[.ref t,.int (i:Int),.int (n:Int),.int (m:Int),.bl small]/\fA H t sl/\i < n/\n<=12/\m<=12/\
 ∀ (v:Vs) p H',Ext t sl H H'->VOk n m v->VFull i v->Is K H' (rJ v) p->Q p H'
theorem kW:FnScope ["tape","number","many","spouts","small","size","brim","spill","acts","k"] ["tape","number","many","spouts","small"] (aM (bO 42)):={}
theorem sX {f fD fO:Addr}{fd fdD fdO:FuncData} (F:Fun K "_law_vessel" "_law_vessel" (bO 42) f fd) (T:Txt mg) (G__law_draw:Callee P w K mg base "_law_draw" ["tape","many"] 1 hW fD fdD)
  (G__law_outs:Callee P w K mg base "_law_outs" ["tape","many","small"] 2 (BH K) fO fdO):FnOk P w K mg base mG 3 f fd ["tape","number","many","spouts","small"] (nV K):=by
 refine F.ok kW (λ vs H Q E h=>?_) (λ cdv A outer s H vs Q E hr h=>?_)
 ·obtain⟨t,sl,i,n,m,small,rfl,_⟩:=h;rfl
 ·obtain⟨t,sl,i,n,m,small,rfl,tp,hi,hn,hm,k⟩:=h;have sc:=kW;refine⟨_,(aD (aQ (i:=5) sc.nd rfl (Or.inl rfl) (bB dB aH (bA (aO (K:=K) rfl) (cJ (aA (eG G__law_draw hr (aA (pv 0) (aA (bA (aO (K:=K) rfl) (cJ (aA aH (aA aH aC))) (aV jF rfl T.b_int pO (aA (pv 4) aC)) (λ _ _=>rfl)) aC))) (aA (eG G__law_draw hr (aA (pv 0) (aA (bA (aO (K:=K) rfl) (cJ (aA aH (aA aH aC))) (aV jF rfl T.b_int pO (aA (pv 4) aC)) (λ _ _=>rfl)) aC))) aC))) (bB lX (eG G__law_draw hr (aA (pv 0) (aA aH aC))) aH) (λ _ _=>rfl))))
   (aD (aQ (i:=6) sc.nd rfl (Or.inl rfl) (bB dB (pv 5) (bA (aO (K:=K) rfl) (cJ (aA aH (aA (eG G__law_draw hr (aA (pv 0) (aA (bB mZ aH (pv 5)) aC))) aC))) (bB n4 (eG G__law_draw hr (aA (pv 0) (aA aH aC))) (aV jF rfl T.b_int pO (aA (BW (pv 4)) aC))) (λ _ _=>rfl))))
   (aD (eF (bE kZ (eG G__law_draw hr (aA (pv 0) (aA aH aC))) aH (bP _)) (aJ (aQ (i:=6) sc.nd rfl (Or.inl rfl) (bB dB (pv 5) (eG G__law_draw hr (aA (pv 0) (aA aH aC)))))) cA)
   (aD (aQ (i:=7) sc.nd rfl (Or.inl rfl) fT)
   (aD (eF (PW.pt (mX (bE sV (bB dB (pv 1) aH) (pv 2) (bP _)) (jU (bE kZ (eG G__law_draw hr (aA (pv 0) (aA aH aC))) aH (bP _))))) (aJ (aQ (i:=7) sc.nd rfl (Or.inl rfl) (bB dB (bB dB (pv 1) aH) (eG G__law_draw hr (aA (pv 0) (aA (bB mZ (bB mZ (pv 2) (pv 1)) aH) aC)))))) cA)
   (aD (aQ (i:=8) sc.nd rfl (Or.inl rfl) (cJ aC))
   (aD (eF (bE JL (pv 3) aH (bP _)) (aJ (eD PassesOwn.never rfl (eC rfl T.b_range (aA (bB lX (eG G__law_draw hr (aA (pv 0) (aA aH aC))) aH) aC)) (aF (i:=9) sc.nd rfl (Or.inl rfl)) (aJ (dA (gA (K:=K) rfl abm abn abo cX (pv 8) (aA (bF (aA (bA (aO (K:=K) rfl) (cJ (aA g9 (aA g9 (aA g9 aC)))) (eG G__law_draw hr (aA (pv 0) (aA aH aC))) (λ _ _=>rfl)) (aA (eG G__law_draw hr (aA (pv 0) (aA (pv 3) aC))) aC))) aC)))))) cA)
   (aJ (bH (bF (aA (pv 5) (aA (pv 6) (aA (eG G__law_outs hr (aA (pv 0) (aA (pv 2) (aA (pv 4) aC)))) (aA (jV kZ (eG G__law_draw hr (aA (pv 0) (aA aH aC))) aH (bP _)) (aA (pv 7) (aA (aV (bN (K:=K) rfl) rfl T.b_tuple bV (aA (pv 8) aC)) aC)))))))))))))))),?_⟩
  refine xV (t:=t) (sl:=sl) (H0:=H) (x:=1) (y:=2) (l:=0) (h:=60) (tO ⟨1,rfl,by omega,by omega⟩)
   (i9 (mQ (lL (lo:=4) (hi:=10) rfl (by decide) (by decide) (rB rfl ⟨by decide,by decide⟩ ⟨by decide,by decide⟩)) (Int.le_refl _) (by decide))
    (mQ (lL (lo:=4) (hi:=61) rfl (by decide) (by decide) (rB rfl ⟨by decide,by decide⟩ ⟨by decide,by decide⟩)) (Int.le_refl _) (by decide)) (rC (bY rfl (by decide) (by decide)))) _ _ ⟨cB.refl _,tp⟩ ?_
  rintro v H1 e1 _ ⟨size,rfl,s0,s1⟩;refine EA (t:=t) (sl:=sl) (H0:=H) (y:=size) (l:=0) (h:=201 - size) rfl (i9 (tO ⟨0,rfl,by omega,by omega⟩)
   (mQ (lL (lo:=201 - size) (hi:=201 - size+1) rfl (by omega) (by omega) (KL rfl)) (Int.le_refl _) (by omega)) (GF rfl (bY rfl (by decide) (by decide)))) _ _ e1 ?_
  rintro v H2 e2 _ ⟨brim,rfl,br0,br1⟩;dsimp only [kQ,nR,tC,gP];refine KA (λ Z H'=>Ext t sl H H'/\∃ brim,size<=brim/\brim<=200/\Z=[some (.ref t),some (.int (i:Int)),some (.int (n:Int)),some (.int (m:Int)),some (.bl small),some (.int size),some (.int brim),none,none,none]) (λ D' hD=>?_) ?_
  ·refine K9 (t:=t) (sl:=sl) (H0:=H) (bY rfl (by decide) (by decide)) e2 λ b H3 e3 _=>?_;cases b with
   | false=>exact eE (hD _ _ ⟨e3,brim,by omega,by omega,rfl⟩)
   | true=>
    refine fH ?_;refine EA (t:=t) (sl:=sl) (H0:=H) (y:=size) (l:=0) (h:=3) rfl (bY rfl (by decide) (by decide)) _ _ e3 ?_;rintro v H4 e4 _ ⟨b2,rfl,c0,c1⟩;exact hD _ _ ⟨e4,b2,by omega,by omega,rfl⟩
  rintro ag H3 ⟨e3,brim,hb1,hb2,rfl⟩;dsimp only [kQ,nR,tC,gP];refine KA (λ Z H'=>Ext t sl H H'/\∃ sp:Option Int,(∀ z,sp=some z->(0<=z/\z < n)/\(i:Int) < z)/\Z=[some (.ref t),some (.int (i:Int)),some (.int (n:Int)),some (.int (m:Int)),some (.bl small),some (.int size),some (.int brim),some (iB sp),none,none]) (λ D' hD=>?_) ?_
  ·refine⟨_,rfl,_,_,rfl,rfl,_,rfl,_,_,rfl,rfl,_,rfl,?_⟩;refine kI (λ hlt=>?_) (λ _=>eE (hD _ _ ⟨e3,none,(λ z h=>nomatch h),rfl⟩));have hlt':(i:Int)+1 < n:=abx hlt;refine CS (t:=t) (sl:=sl) (H0:=H) (bY rfl (by decide) (by decide)) _ _ e3 ?_;rintro v H4 e4 _ ⟨b,rfl⟩;refine⟨b,rfl,?_⟩;cases b with
   | false=>exact eE (hD _ _ ⟨e4,none,(λ z h=>nomatch h),rfl⟩)
   | true=>
    refine fH ?_;refine⟨_,rfl,_,_,rfl,rfl,_,rfl,_,rfl,_,rfl,_,_,rfl,rfl,_,_,rfl,rfl,t,sl,(n:Int) - i - 1,rfl,e4.tp,by omega,by omega,λ r H5 b5 t5 r0 r1=>⟨_,_,rfl,rfl,?_⟩⟩;exact hD _ _ ⟨⟨e4.bt.trans b5,t5⟩,some ((i:Int)+1+r),λ z h=>by cases h;omega,rfl⟩
  rintro σ4 H4 ⟨e4,sp,hsp,rfl⟩;refine⟨abw _,λ al hal=>?_⟩;dsimp only [kQ,nR,tC,gP];have fal:H al=none:=e4.bt.free (e4.ne hal) hal;have nal:al≠t:=e4.ne hal;refine KA (λ Z H'=>Ext t sl H H'/\∃ (acts:List (Str×Int)) (xs:List V),H' al=some (.lst xs)/\L2.IsL K H' (acts.map pT) xs/\acts.length<=3/\(∀ a∈acts,ActOk m a)/\
   ∃ v9,Z=[some (.ref t),some (.int (i:Int)),some (.int (n:Int)),some (.int (m:Int)),some (.bl small),some (.int size),some (.int brim),some (iB sp),some (.ref al),v9]) (λ D' hD=>?_) ?_
  ·refine⟨_,rfl,_,_,rfl,rfl,_,rfl,?_⟩;refine kI (λ hlt=>?_) (λ _=>hD _ _ ⟨e4.new hal,[],[],aB,.nil,by simp,λ a ha=>(nomatch ha),none,rfl⟩);have hm0:(0:Int) < m:=abx hlt;refine KN (t:=t) (sl:=sl) (H0:=H) (by decide) (by decide) (bY (m:=11) rfl (by decide) (by decide)) _ _ (e4.new hal) ?_;rintro v H5 e5 b5 ⟨c,rfl,c0,c1⟩;refine⟨_,rfl,by omega,by omega,?_⟩;refine fK (lo:=0) (n:=(c / 3).toNat) (λ j Z H'=>Ext t sl H H'/\∃ (acts:List (Str×Int)) (xs:List V),H' al=some (.lst xs)/\L2.IsL K H' (acts.map pT) xs/\acts.length=j/\(∀ a∈acts,ActOk m a)/\
    ∃ v9,Z=[some (.ref t),some (.int (i:Int)),some (.int (n:Int)),some (.int (m:Int)),some (.bl small),some (.int size),some (.int brim),some (iB sp),some (.ref al),v9]) ?_ ?_ ?_
   ·exact⟨e5,[],[],b5 al _ nal aB,.nil,rfl,λ a ha=>(nomatch ha),none,rfl⟩
   ·rintro j Z H6 hj ⟨e6,acts,xs,ha,hl,hlen,hok,v9,rfl⟩;refine⟨_,rfl,.inl ⟨rfl,_,bR.of ha⟩,?_⟩;refine A8 (t:=t) (sl:=sl) (H0:=H) (P:=λ v=>∃ wd:Str,v=.str wd/\(wd = "open" \/ wd = "shut" \/ wd = "turn")) (tO ⟨_,rfl,.inl rfl⟩) (tO ⟨_,rfl,.inr (.inl rfl)⟩) (tO ⟨_,rfl,.inr (.inr rfl)⟩) (bY rfl (by decide) (by decide)) _ _ e6 ?_;rintro v H7 e7 b7 ⟨wd,rfl,hwd⟩;refine lK (t:=t) (sl:=sl) (H0:=H) (m:=(m:Int)) rfl rfl hm0 (by omega) _ _ e7 ?_;rintro v H8 e8 b8 ⟨r,rfl,r0,r1⟩;refine⟨(show 2<=sizeLine by decide),λ q hq=>?_⟩;have ha8:H8 al=some (.lst xs):=b8 al _ nal (b7 al _ nal ha);have nq:al≠q:=aK ha8 hq;have hxl:xs.length=acts.length:=by rw[hl.length,aad]
    refine⟨al,xs,_,rfl,rfl,by rw[aI nq];exact ha8,aW (by omega),?_⟩;have e9:Ext t sl H (upd H8 q (.tup [.str wd,.int r])):=e8.new hq;have mt:lS (upd H8 q (.tup [.str wd,.int r]) al):=by rw[aI nq,ha8];exact trivial
    have ts:bI K H6 (upd (upd H8 q (.tup [.str wd,.int r])) al (.lst (xs++[.ref q]))):=bI.put (((b7.trans b8).trans (aG.new hq).but).ts e6.tp.mut) (.inr mt);refine⟨⟨λ b o hb e=>?_,e9.tp.put nal (fA.ne_sl tp fal)⟩,acts++[(wd,r)],xs++[.ref q],aB,?_,by simp [hlen],?_,_,rfl⟩
    ·rw[aI (aK e fal)];exact e9.bt b o hb e
    ·rw[aam];exact L2.IsL.snoc (Is.tupOf (ds:=[.str wd,.int r]) (bI.put (bI.refl _) (.inr mt) _ _ (bC.of aB)) (.cons (Is.s _) (.cons (Is.i _) .nil))) (L2.IsL.mono ts _ _ hl)
    ·intro a ha';rcases abk.mp ha' with ha' | ha'
     ·exact hok a ha'
     ·rw[aan.mp ha'];exact⟨hwd,r0,r1⟩
   ·rintro Z H6 ⟨e6,acts,xs,ha,hl,hlen,hok,v9,rfl⟩;exact hD _ _ ⟨e6,acts,xs,ha,hl,by omega,hok,v9,rfl⟩
  rintro cn H5 ⟨e5,acts,xs,ha,hl,hlen,hok,v9,rfl⟩;refine⟨_,rfl,_,rfl,_,rfl,_,rfl,_,rfl,t,sl,n,small,rfl,e5.tp,by omega,hn,λ outs p H6 e6 o1 o2 o3 hp=>?_⟩;refine CS (t:=t) (sl:=sl) (H0:=H) (bY rfl (by decide) (by decide)) _ _ ⟨e5.bt.trans e6.bt,e6.tp⟩ ?_;rintro v H7 e7 b7 ⟨b,rfl⟩;have ha7:H7 al=some (.lst xs):=b7 al _ nal (e6.bt al _ nal ha);have b57:cB t H5 H7:=e6.bt.trans b7;refine⟨_,rfl,_,rfl,al,_,rfl,.inl ⟨bR.of ha7,λ q hq=>⟨(show 6<=sizeLine by decide),λ r hr'=>?_⟩⟩⟩;have m1:=aG.new (o:=HO.tup xs) hq;have m2:aG (upd H7 q (.tup xs)) (upd (upd H7 q (.tup xs)) r (.tup [.int size,.int brim,p,.bl b,iB sp,.ref q])):=aG.new hr';refine k ⟨size,brim,outs,b,sp,acts⟩ _ _ ((e7.new hq).new hr') ⟨s0,o1,o2,o3,λ z h=>(hsp z h).1,hlen,hok⟩ ⟨by show size<=60;omega,hb1,hb2,λ z h=>(hsp z h).2⟩ ?_;refine Is.tupOf (bC.of aB) (.cons (Is.i _) (.cons (Is.i _) (.cons ?_ (.cons (Is.b _) (.cons (Is.tgOf _) (.cons ?_ .nil))))))
  ·exact Is.mono m2.ts _ _ (Is.mono m1.ts _ _ (Is.mono (b7.ts e6.tp.mut) _ _ hp))
  ·exact Is.mono m2.ts _ _ (Is.tupOf (bC.of aB) (L2.IsL.mono m1.ts _ _ (L2.IsL.mono (b57.ts e5.tp.mut) _ _ hl)))
theorem Ext.put {t sl p:Addr}{H H':Hp}{o:HO} (e:Ext t sl H H') (tp:fA H t sl) (hp:H p=none):Ext t sl H (upd H' p o):=
 ⟨λ b u hb e1=>by rw[aI (aK e1 hp)];exact e.bt b u hb e1,e.tp.put (λ z=>by obtain⟨o,h⟩:=tp.some;rw[z,h] at hp;cases hp) (fA.ne_sl tp hp)⟩
theorem Ext.trans {t sl:Addr}{H H1 H2:Hp} (a:Ext t sl H H1) (b:Ext t sl H1 H2):Ext t sl H H2:=⟨a.bt.trans b.bt,b.tp⟩
def BJ (K:aab):Sp:=λ args H Q _=>∃ (t sl:Addr) (most:Int) (small:Bool),args=[.ref t,.int most,.bl small]/\1<=most/\most<=12/\fA H t sl/\
 ∀ (net:Net) p H',Ext t sl H H'->NetOk net->NetFull net->(net.vs.length:Int)<=most->Is K H' (gB net) p->Q p H'
theorem qE:FnScope ["tape","most","small","many","spouts","vessels","found","k","flow"] ["tape","most","small"] (aM (bO 43)):={}
theorem xL {f fD fV:Addr}{fd fdD fdV:FuncData} (F:Fun K "_law_net" "_law_net" (bO 43) f fd) (T:Txt mg) (G__law_draw:Callee P w K mg base "_law_draw" ["tape","many"] 1 hW fD fdD)
  (G__law_vessel:Callee P w K mg base "_law_vessel" ["tape","number","many","spouts","small"] 3 (nV K) fV fdV):FnOk P w K mg base mG 4 f fd ["tape","most","small"] (BJ K):=by
 refine F.ok qE (λ vs H Q E h=>?_) (λ cdv A outer s H vs Q E hr h=>?_)
 ·obtain⟨t,sl,most,small,rfl,_⟩:=h;rfl
 ·obtain⟨t,sl,most,small,rfl,mo1,mo2,tp,k⟩:=h;have sc:=qE;refine⟨_,(aD (aQ (i:=3) sc.nd rfl (Or.inr rfl) (bB dB aH (eG G__law_draw hr (aA (pv 0) (aA (pv 1) aC)))))
   (aD (aQ (i:=4) sc.nd rfl (Or.inr rfl) (bA (aO (K:=K) rfl) (cJ (aA (eG G__law_draw hr (aA (pv 0) (aA aH aC))) (aA (eG G__law_draw hr (aA (pv 0) (aA aH aC))) aC))) (bB lX (eG G__law_draw hr (aA (pv 0) (aA aH aC))) aH) (λ _ _=>rfl)))
   (aD (fJ (i:=5) sc.nd rfl rfl (λ _ _ h=>h) rfl (LcOk.mk (N':=["k","tape","many","spouts","small"]) (fr:=[none,some 0,some 3,some 4,some 2]) rfl ⟨rfl,rfl,rfl,rfl,trivial⟩ rfl rfl rfl rfl rfl ⟨⟨_,rfl,rfl,rfl,rfl⟩,⟨_,rfl,rfl,rfl,rfl⟩,⟨_,rfl,rfl,rfl,rfl⟩,⟨_,rfl,rfl,rfl,rfl⟩,trivial⟩) (eC rfl T.b_range (aA (pv 3) aC)) (λ _ _ _=>(aF (i:=0) (show (["k","tape","many","spouts","small"]:List Str).Nodup by decide +kernel) rfl (Or.inl rfl) (Or.inr rfl))) (λ _ _ _=>cG) (λ _ _ _=>(eG G__law_vessel hr (aA (pv 1) (aA (pv 0) (aA (pv 2) (aA (pv 3) (aA (pv 4) aC))))))))
   (aD (aQ (i:=6) sc.nd rfl (Or.inl rfl) (cJ aC))
   (aD (eD PassesOwn.never rfl (eC rfl T.b_range (aA (pv 4) aC)) (aF (i:=7) sc.nd rfl (Or.inl rfl)) (aD (aQ (i:=8) sc.nd rfl (Or.inl rfl) (bA (aO (K:=K) rfl) (cJ (aA (eG G__law_draw hr (aA (pv 0) (aA aH aC))) (aA (eG G__law_draw hr (aA (pv 0) (aA (bA (aO (K:=K) rfl) (cJ (aA aH (aA aH aC))) (aV jF rfl T.b_int pO (aA (pv 2) aC)) (λ _ _=>rfl)) aC))) aC))) (bB lX (eG G__law_draw hr (aA (pv 0) (aA aH aC))) aH) (λ _ _=>rfl)))
   (aJ (dA (gA (K:=K) rfl abm abn abo cX (pv 6) (aA (bF (aA (eG G__law_draw hr (aA (pv 0) (aA (pv 3) aC))) (aA (pv 8) (aA (jV JL (eG G__law_draw hr (aA (pv 0) (aA aH aC))) aH (bP _)) aC)))) aC))))))
   (aJ (bH (bF (aA (aV (bN (K:=K) rfl) rfl T.b_tuple bV (aA (pv 5) aC)) (aA (aV (bN (K:=K) rfl) rfl T.b_tuple bV (aA (pv 6) aC)) aC)))))))))),?_⟩
  refine xV (t:=t) (sl:=sl) (H0:=H) (x:=1) (y:=2) (l:=0) (h:=most) (tO ⟨1,rfl,by omega,by omega⟩) (lK (m:=most) rfl rfl (by omega) (by omega)) _ _ ⟨cB.refl _,tp⟩ ?_;rintro v H1 e1 _ ⟨n',rfl,n0,n1⟩;obtain⟨n,rfl⟩:=Int.eq_ofNat_of_zero_le (show 0<=n' by omega);refine i9 (t:=t) (sl:=sl) (H0:=H) (P:=dN 0 13) (mQ (bY rfl (by decide) (by decide)) (Int.le_refl _) (by decide)) (bY rfl (by decide) (by decide)) (rC (bY rfl (by decide) (by decide))) _ _ e1 ?_;rintro v H2 e2 _ ⟨m',rfl,m0,m1⟩;obtain⟨m,rfl⟩:=Int.eq_ofNat_of_zero_le m0;refine⟨_,rfl,_,rfl,by omega,by omega,?_⟩;refine oI (n:=n) (λ D i r Z H'=>H2 D=none/\Ext t sl H H'/\H' D=some (.lst r)/\∃ vs:List Vs,vs.length=i/\L2.IsL K H' (vs.map rJ) r/\(∀ v∈vs,VOk n m v)/\(∀ i v,vs[i]? = some v->VFull i v)/\∃ v0,Z=[v0,some (.ref t),some (.int (n:Int)),some (.int (m:Int)),some (.bl small)])
   (λ D hD=>⟨hD,e2.new hD,aB,[],rfl,.nil,(λ v hv=>nomatch hv),(λ i v hv=>by simp at hv),none,rfl⟩) ?_ ?_
  rotate_left
  ·rintro D i r Z H3 hi ⟨hD,e3,hl,vs,hlen,hvl,hok,hfu,v0,rfl⟩;refine fU ?_;refine⟨_,rfl,_,rfl,_,rfl,_,rfl,_,rfl,t,sl,i,n,m,small,rfl,e3.tp,hi,by omega,by omega,λ v p H4 e4 vok vfu hp=>?_⟩;have nD:D≠t:=e2.ne hD;have fD:H D=none:=e2.bt.free nD hD;have hl4:H4 D=some (.lst r):=e4.bt D _ nD hl;have hrl:r.length=vs.length:=by rw[hvl.length,aad]
   have mt:lS (H4 D):=by rw[hl4];exact trivial
   refine⟨hl4,aW (by omega),hD,(e3.trans e4).put tp fD,aB,vs++[v],by simp [hlen],?_,?_,?_,_,rfl⟩
   ·rw[aam];exact L2.IsL.snoc (Is.mono (bI.put (bI.refl _) (.inr mt)) _ _ hp) (L2.IsL.mono (bI.put (e4.bt.ts e3.tp.mut) (.inr mt)) _ _ hvl)
   ·intro u hu;rcases abk.mp hu with hu | hu
    ·exact hok u hu
    ·rw[aan.mp hu];exact vok
   ·intro j u hu;rcases Nat.lt_or_ge j vs.length with hj | hj
    ·rw[abg hj] at hu;exact hfu j u hu
    ·rw[acm hj] at hu;have e0:j - vs.length=0:=by
      rcases Nat.eq_zero_or_pos (j - vs.length) with h | h
      ·exact h
      ·rw[acg (show [v].length<=j - vs.length from h)] at hu;cases hu
     rw[e0] at hu;have e1:j=i:=by omega
     cases hu;rw[e1];exact vfu
  rintro D r Z H3 ⟨hD,e3,hl,vs,hlen,hvl,hok,hfu,_⟩;have nD:D≠t:=e2.ne hD;have fD:H D=none:=e2.bt.free nD hD;refine⟨abw _,λ fl hfl=>?_⟩;have nf:fl≠t:=e3.ne hfl;have ff:H fl=none:=e3.bt.free nf hfl;have nDf:D≠fl:=aK hl hfl;refine⟨_,rfl,_,rfl,by omega,by omega,?_⟩;refine fK (lo:=0) (n:=m) (λ j Z H'=>Ext t sl H H'/\H' D=some (.lst r)/\L2.IsL K H' (vs.map rJ) r/\∃ (sps:List wE) (xs:List V),H' fl=some (.lst xs)/\L2.IsL K H' (sps.map yT) xs/\sps.length=j/\(∀ s∈sps,(0<=s.1/\s.1 < n)/\0<=s.2.1/\s.2.1<=60)/\
   ∃ v7 v8,Z=[some (.ref t),some (.int most),some (.bl small),some (.int (n:Int)),some (.int (m:Int)),some (.ref D),some (.ref fl),v7,v8]) ?_ ?_ ?_
  ·exact⟨e3.new hfl,by rw[aI nDf];exact hl,L2.IsL.mono (aG.new hfl).ts _ _ hvl,[],[],aB,.nil,rfl,(λ s hs=>nomatch hs),none,none,rfl⟩
  ·rintro j Z H4 hj ⟨e4,hl4,hv4,sps,xs,hf4,hs4,hslen,hsok,v7,v8,rfl⟩;refine i9 (t:=t) (sl:=sl) (H0:=H) (P:=dN 0 61) (mQ (bY rfl (by decide) (by decide)) (Int.le_refl _) (by decide))
    (mQ (lL (lo:=4) (hi:=62) rfl (by decide) (by decide) (rB rfl ⟨by decide,by decide⟩ ⟨by decide,by decide⟩)) (Int.le_refl _) (by decide)) (rC (bY rfl (by decide) (by decide))) _ _ e4 ?_
   rintro v H5 e5 b5 ⟨flow,rfl,fl0,fl1⟩;have hf5:H5 fl=some (.lst xs):=b5 fl _ nf hf4;refine⟨_,rfl,.inl ⟨rfl,_,bR.of hf5⟩,?_⟩;refine lK (t:=t) (sl:=sl) (H0:=H) (m:=(n:Int)) rfl rfl (by omega) (by omega) _ _ e5 ?_;rintro v H6 e6 b6 ⟨tg,rfl,tg0,tg1⟩;refine⟨_,rfl,?_⟩;refine Q3 (t:=t) (sl:=sl) (H0:=H) (bY rfl (by decide) (by decide)) _ _ e6 ?_;rintro v H7 e7 b7 ⟨dr,rfl⟩;refine⟨(show 3<=sizeLine by decide),λ q hq=>?_⟩;have b47:cB t H4 H7:=b5.trans (b6.trans b7);have hf7:H7 fl=some (.lst xs):=b47 fl _ nf hf4;have hl7:H7 D=some (.lst r):=b47 D _ nD hl4;have nq:fl≠q:=aK hf7 hq;have nDq:D≠q:=aK hl7 hq;have hxl:xs.length=sps.length:=by rw[hs4.length,aad]
   refine⟨fl,xs,_,rfl,rfl,by rw[aI nq];exact hf7,aW (by omega),?_⟩;have mt:lS (upd H7 q (.tup [.int tg,.int flow,.bl dr]) fl):=by rw[aI nq,hf7];exact trivial
   have ts:bI K H4 (upd (upd H7 q (.tup [.int tg,.int flow,.bl dr])) fl (.lst (xs++[.ref q]))):=bI.put ((b47.trans (aG.new hq).but).ts e4.tp.mut) (.inr mt);refine⟨(e7.new hq).put tp ff,by rw[aI nDf,aI nDq];exact hl7,L2.IsL.mono ts _ _ hv4,sps++[(tg,flow,dr)],xs++[.ref q],aB,?_,by simp [hslen],?_,_,_,rfl⟩
   ·rw[aam];exact L2.IsL.snoc (Is.tupOf (ds:=[.int tg,.int flow,.bl dr]) (bI.put (bI.refl _) (.inr mt) _ _ (bC.of aB)) (.cons (Is.i _) (.cons (Is.i _) (.cons (Is.b _) .nil)))) (L2.IsL.mono ts _ _ hs4)
   ·intro s hs;rcases abk.mp hs with hs | hs
    ·exact hsok s hs
    ·rw[aan.mp hs];exact⟨⟨tg0,tg1⟩,fl0,show flow<=60 by omega⟩
  ·rintro Z H4 ⟨e4,hl4,hv4,sps,xs,hf4,hs4,hslen,hsok,v7,v8,rfl⟩;refine⟨_,rfl,D,_,rfl,.inl ⟨bR.of hl4,λ q1 hq1=>⟨_,rfl,fl,_,rfl,.inl ⟨bR.of (aG.new hq1 _ _ hf4),λ q2 hq2=>⟨(show 2<=sizeLine by decide),λ q3 hq3=>?_⟩⟩⟩⟩⟩;have m1:aG H4 (upd H4 q1 (.tup r)):=aG.new hq1;have m2:aG (upd H4 q1 (.tup r)) (upd (upd H4 q1 (.tup r)) q2 (.tup xs)):=aG.new hq2;have m3:aG (upd (upd H4 q1 (.tup r)) q2 (.tup xs)) (upd (upd (upd H4 q1 (.tup r)) q2 (.tup xs)) q3 (.tup [.ref q1,.ref q2])):=aG.new hq3;refine k ⟨vs,sps⟩ _ _ (((e4.new hq1).new hq2).new hq3) ⟨by show 1<=vs.length;omega,by show vs.length<=12;omega,by show sps.length<=12;omega,λ v hv=>by rw[hlen,hslen];exact hok v hv,λ s hs=>by rw[hlen];exact (hsok s hs).1⟩ ⟨hfu,λ s hs=>(hsok s hs).2⟩ (by show (vs.length:Int)<=most;omega) ?_;refine Is.tupOf (bC.of aB) (.cons (Is.tupOf (m3.tup (m2.tup (bC.of aB))) ?_) (.cons (Is.tupOf (m3.tup (bC.of aB)) ?_) .nil))
   ·exact L2.IsL.mono m3.ts _ _ (L2.IsL.mono m2.ts _ _ (L2.IsL.mono m1.ts _ _ hv4))
   ·exact L2.IsL.mono m3.ts _ _ (L2.IsL.mono m2.ts _ _ (L2.IsL.mono m1.ts _ _ hs4))
theorem P2:∀ n:Nat,(List.replicate n [V.int 0]).flatten=(List.replicate n (0:Int)).map V.int
 | 0=>rfl
 | n+1=>by rw[List.replicate_succ,List.replicate_succ,List.flatten_cons,P2 n,aba];rfl
def cU (n:Nat):List Int:=List.replicate n 0
def nW (K:aab):Sp:=λ args H Q _=>∃ (x:V) (net:Net),args=[x]/\Is K H (gB net) x/\NetOk net/\
 ∀ p H',aG H H'->Is K H' (OU (cU net.vs.length) (cU net.vs.length) (net.sps.map (·.2.2))) p->Q p H'
theorem kU:FnScope ["net","vessels","spouts","empty"] ["net"] (aM (bO 16)):={}
theorem sW {f:Addr}{fd:FuncData} (F:Fun K "first_state" "first_state" (bO 16) f fd) (T:Txt mg):FnOk P w K mg base mG 1 f fd ["net"] (nW K):=by
 refine F.ok kU (λ vs H Q E h=>?_) (λ cdv A outer s H vs Q E hr h=>?_)
 ·obtain⟨x,net,rfl,_⟩:=h;rfl
 ·obtain⟨x,net,rfl,hx,nok,k⟩:=h;have sc:=kU;refine⟨_,(aD (cI (pv 0) (aU (K:=K) (n:=2) rfl rfl (aE (aF (i:=1) sc.nd rfl (Or.inl rfl)) (aE (aF (i:=2) sc.nd rfl (Or.inl rfl)) aS))))
   (aD (aQ (i:=3) sc.nd rfl (Or.inl rfl) (bB (JH (K:=K) rfl) (bF (aA aH aC)) (bD (cD (K:=K) rfl) rfl T.b_len ace (aA (pv 1) aC))))
   (aJ (bH (bF (aA (pv 3) (aA (pv 3) (aA (aV (bN (K:=K) rfl) rfl T.b_tuple bV (aA (i5 (λ _ _ h=>h) rfl (LcOk.mk (N':=["target","flow","door"]) (fr:=[none,none,none]) rfl trivial rfl rfl rfl rfl rfl trivial) (fR (K:=K) rfl (pv 2)) (λ _ _ _=>(aU (K:=K) (n:=3) rfl rfl (aE (aF (i:=0) (show (["target","flow","door"]:List Str).Nodup by decide +kernel) rfl (Or.inl rfl) (Or.inr rfl)) (aE (aF (i:=1) (show (["target","flow","door"]:List Str).Nodup by decide +kernel) rfl (Or.inl rfl) (Or.inr rfl)) (aE (aF (i:=2) (show (["target","flow","door"]:List Str).Nodup by decide +kernel) rfl (Or.inl rfl) (Or.inr rfl)) aS))))) (λ _ _ _=>cG) (λ _ _ _=>(pv 2))) aC)) aC)))))))),?_⟩
  obtain⟨a,b,c,xs,ys,rfl,q,q1,l1,q2,l2⟩:=iM hx;have exl:xs.length=net.vs.length:=by rw[l1.length,aad]
  have eyl:ys.length=net.sps.length:=by rw[l2.length,aad]
  have n1:=nok.lo;have n2:=nok.hi;have n3:=nok.sp;refine⟨_,rfl,a,_,rfl,q,rfl,_,_,rfl,_,_,rfl,rfl,?_⟩;refine⟨(show 1<=sizeLine by decide),λ z hz=>⟨_,rfl,b,xs,rfl,.inr ((aG.new hz).tup q1),z,_,[.int 0],rfl,rfl,bC.of aB,by omega,by omega,by simp,by simp,λ e H1 sm1 qe=>?_⟩⟩;have s1:aG H H1:=(aG.new hz).trans sm1;have en:((xs.length:Nat):Int).toNat=net.vs.length:=by rw[exl];simp
  rw[en,P2] at qe;refine⟨_,rfl,_,rfl,_,rfl,c,rfl,⟨_,s1.tup q2⟩,lI (K:=K) (a:=c) (xs:=ys) (λ D i r Z H'=>H1 D=none/\aG H1 H'/\H' D=some (.lst r)/\r=((net.sps.take i).map (·.2.2)).map V.bl/\∃ u v w,Z=[u,v,w])
   (λ D i r Z H' p=>p.2.1.tup (s1.tup q2)) (λ D hD=>⟨hD,aG.new hD,aB,by simp,none,none,none,rfl⟩) ?_ ?_⟩
  rotate_left
  ·rintro D i x r Z H2 hx ⟨hD,sm,hDl,rfl,u,v,w',rfl⟩;obtain⟨sp,hsi,sa,rfl,qs⟩:=wL l2 hx;have hil:=(aae.mp hsi).1;refine⟨sa,_,rfl,sm.tup (s1.tup qs),rfl,_,_,rfl,_,_,rfl,_,_,rfl,rfl,?_⟩;refine hJ ⟨_,rfl,hDl,aW (by simp;omega),hD,sm.put hD,aB,?_,_,_,_,rfl⟩;rw[aZ hsi];simp
  ·rintro D r Z H2 ⟨hD,sm,hDl,rfl,_⟩;rw[eyl,aay] at hDl;refine⟨D,_,rfl,.inl ⟨bR.of hDl,λ d hd=>⟨(show 3<=sizeLine by decide),λ r hr'=>?_⟩⟩⟩;have m1:aG H2 (upd H2 d (.tup ((net.sps.map (·.2.2)).map V.bl))):=aG.new hd;have m2:aG (upd H2 d (.tup ((net.sps.map (·.2.2)).map V.bl))) (upd (upd H2 d (.tup ((net.sps.map (·.2.2)).map V.bl))) r (.tup [.ref e,.ref e,.ref d])):=aG.new hr';refine k _ _ (((s1.trans sm).trans m1).trans m2) (NN (bC.of aB) ?_ ?_ (m2.tup (bC.of aB)))
   ·exact m2.tup (m1.tup (sm.tup qe))
   ·exact m2.tup (m1.tup (sm.tup qe))
theorem gZ {α:Type} (f:α->L2.D) (hf:∀ a,(f a).depth=0):∀ l:List α,bM (l.map f)=0
 | []=>by rw[acl,bM]
 | a::r=>by rw[aba,bM,hf,gZ f hf r];rfl
theorem jC (i:Int):(L2.D.int i).depth=0:=by rw[L2.D.depth] <;> intros <;> (first | rfl | (intro z;cases z) | (rename_i z;cases z))
theorem tX (i:Bool):(L2.D.bl i).depth=0:=by rw[L2.D.depth] <;> intros <;> (first | rfl | (intro z;cases z) | (rename_i z;cases z))
theorem tW (held coming:List Int) (doors:List Bool):bM [.tup (held.map L2.D.int),.tup (coming.map L2.D.int),.tup (doors.map L2.D.bl)]=1:=by
 simp only [bM,L2.D.depth,gZ _ jC,gZ _ tX];rfl
theorem PR (K:aab):PySem.W.kitOne K (.type "int") (.type "bool")=some false:=by
 unfold PySem.W.kitOne;rw[if_neg (by decide +kernel)];show (if PySem.W.kitMeta "bool" = true then PySem.W.subIn K (.type "int") (.type "bool") else none)=some false;rw[if_pos (by decide +kernel)];show (PySem.fastBuiltinMro "int").map (·.contains (.type "bool"))=some false;decide +kernel
end Tw
namespace L2
open PySem PySem.Spec PyProof.Rows TwZ
section
variable {X:Cx}
theorem sR {x:Str}{v:V}{pos:Pos} (hg:Gl X x) (h:∃ u,X.mg x=some u/\aX v u) (hd:(x == ("__debug__" : Str))=false:=by decide):PE X (.Name x pos) (tC v):=by
 obtain⟨u,e,r⟩:=h;exact MH hg e r hd
theorem CA (hK:X.K=K):h9 X (compareOp .In) (rIn K false):=by subst hK;exact FV
theorem ML (hK:X.K=K):h9 X (compareOp .NotIn) (rIn K true):=by subst hK;exact xG
end
end L2
namespace Tw
open PySem L2
theorem PQ (K:aab):PySem.W.kitOne K (.type "int") (.type "int")=some true:=by
 unfold PySem.W.kitOne;rw[if_pos (by decide +kernel)]
section
variable {aw:Addr}
theorem qD:FnScope ["thing","least","most"] ["thing","least","most"] (aM (bO 6)):={}
end
end Tw
namespace L2
open PySem PySem.Spec PyProof.Rows
end L2
namespace L2
open PySem PySem.Spec PyProof.Rows TwZ
section
variable {X:Cx}
theorem JN (hK:X.K=K):h9 X (binaryOp .Add) (NZ K):=by subst hK;exact MN
theorem rM (l:Addr) (items:Array Value) (n:Nat) (x:Int) (u:Tok) (dd:Option Addr) (sl:Array (Option Value)) (c0:¬ (decide (x < -(2 ^ 63)) || decide (x ≥ 2 ^ 63))=true) (c1:¬ (items.isEmpty || x == 1)=true)
  (c2:(decide (x<=0) || items.isEmpty)=true) :
  Meets (Builtin.«tuple.__mul__» ⟨[.ref l,.int x u],[]⟩) (λ _ R s=>s.heap.get? l=some { cls:=.type "tuple",dict:=dd,data:=.seq items n,slots:=sl }/\
   R (.ok (.ret (.ref s.heap.objs.size))) { s with heap:=s.heap.push { cls:=.type "tuple",data:=.seq #[] } }):=
 .of_wp λ prog w A R s h=>by
  obtain⟨hp,g,d,tk,os⟩:=s;obtain⟨hl,h⟩:=h
  wp_walk
  rw[if_neg c0]
  wp_walk
  all_goals (try rw[if_neg c1])
  wp_walk
  all_goals (try rw[if_pos c2])
  wp_walk
  exact⟨_,rfl,h⟩
def NT (K:aab):R2:=λ x y H Q=>∃ (l:Addr) (k:Int) (xs:List V),x=.ref l/\y=.int k/\bC K H l xs/\0<=k/\k < 1000000/\xs≠[]/\xs.length<=10/\
 ∀ p H',aG H H'->bC K H' p (List.replicate k.toNat xs).flatten->Q (.ref p) H'
theorem MK:h9 X (binaryOp .Mult) (NT X.K):=by
 intro pins s σ H x y v u Q I rx ry h;obtain⟨l,k,xs,rfl,rfl,hq,h1,h2,hne,hl10,q⟩:=h
 by_cases hk:1<=k
 ·exact DT pins s σ H _ _ v u Q I rx ry ⟨l,k,xs,rfl,rfl,hq,hk,h2,hne,hl10,q⟩
 ·have hk0:k=0:=by omega
  subst hk0;cases rx;obtain⟨t,rfl⟩:=ry;obtain⟨its,r,ht,z⟩:=I.tuple hq;have hlen:=r.length;obtain⟨⟨cls,dd,data,sl⟩,e,hc,n,hd⟩:=id ht;simp only at hc hd;subst hc hd;refine wpAny_binaryOp_repeat_ref (T := "tuple") (U := "int") (by decide) ⟨_,e,rfl⟩ (λ s'=>typeIs_int s' 0 t) j4 F.fills_int_mul F.slot_int_rmul o9 F.slot_int_index.lookup
   (call_meets F.slot_int_rmul (typeIs_int s 0 t) F.entry_int_rmul (F.args_int_rmul_2 _ _) (lJ 0 t l its.toArray n dd sl) ⟨e,rfl,⟨_,e,rfl⟩,?_⟩)
  have hne':its≠[]:=λ z=>by rw[z] at hlen;exact hne (List.eq_nil_of_length_eq_zero hlen)
  have hemp:its.toArray.isEmpty=false:=by cases its with
   | nil=>exact absurd rfl hne'
   | cons a r=>rfl
  refine call_meets F.slot_tuple_mul ⟨_,e,rfl⟩ F.entry_tuple_mul (F.args_tuple_mul_2 _ _) (rM l its.toArray n 0 t dd sl (by decide) (by rw[hemp];decide) (by simp)) ⟨e,?_⟩;have I1:=I.laid (a:=s.heap.objs.size) (o:=.tup []) (h':=s.heap.push { cls:=.type "tuple",data:=.seq #[] }) (t':=s.toks)
   (λ _ _ q=>aac _ q) (aal _) ⟨abw _,[],.nil,⟨_,aak _ rfl,rfl,0,rfl⟩⟩
  exact⟨.ref _,_,I1,rfl,q _ _ (aG.new I.fresh) (bC.of aB)⟩
theorem JG (hK:X.K=K):h9 X (binaryOp .Mult) (NT K):=by subst hK;exact MK
end
def ButL (fp:List Addr) (H H':Hp):Prop:=∀ b o,b∉fp->H b=some o->H' b=some o
section
variable {g:TG}{tc:TT}{te:TE}{fr:List (Option Nat)}{σ:St}{H1:Hp}{Q:Addr->Hp->Prop}
end
end L2
namespace Tw
open PySem L2
structure Mom where
 tick:Int
 held:List Int
 coming:List Int
 doors:List Bool
 poured:List Int
 came:Int
 ground:Int
structure MomOk (net:Net) (m:Mom):Prop where
 st:StOk net m.held m.coming m.doors
 pl:m.poured.length=net.vs.length
inductive Row where
 | pour (v a:Int)
 | go (many:Int) (tips:List (Int×Nat))
structure RunS where
 net:Net
 rows:List Row
 pre:List Mom
 cur:Mom
 tips:List (List Int)
def PP (net:Net):Mom:=⟨0,cU net.vs.length,cU net.vs.length,net.sps.map (·.2.2),cU net.vs.length,0,0⟩
def M4 (net:Net):RunS:=⟨net,[],[],PP net,List.replicate net.vs.length []⟩
structure RunOk (S:RunS):Prop where
 nok:NetOk S.net
 cur:MomOk S.net S.cur
 tl:S.tips.length=S.net.vs.length
theorem oV (n:Nat):(cU n).length=n:=by simp [cU]
theorem MS (net:Net):MomOk net (PP net):=⟨⟨oV _,oV _,by simp [PP]⟩,oV _⟩
theorem DM {net:Net} (nok:NetOk net):RunOk (M4 net):=⟨nok,MS net,by simp [M4]⟩
section
variable {r dx R M T:Addr}{H H':Hp}{S:RunS}{fp:List Addr}{np mv:V}{ts:List Addr}{rs ms:List V}
end
theorem kT:FnScope ["net","number","vessels","spouts"] ["net","number"] (aM (bO 5)):={}
def oZ (K:aab):Sp:=λ vs H Q _=>∃ (x:V) (net:Net) (v:Int),vs=[x,.int v]/\Is K H (gB net) x/\NetOk net/\∀ p H',aG H H'->bC K H' p ((v::cU (net.vs.length - 1)).map V.int)->Q (.ref p) H'
theorem sE:FnScope ["net","amount","vessels","spouts"] ["net","amount"] (aM (bO 17)):={}
theorem CD {f:Addr}{fd:FuncData} (F:Fun K "pouring" "pouring" (bO 17) f fd) (T:Txt mg):FnOk P w K mg base mG 1 f fd ["net","amount"] (oZ K):=by
 refine F.ok sE (λ vs H Q E h=>?_) (λ cdv A outer s H vs Q E hr h=>?_)
 ·obtain⟨x,net,v,rfl,_⟩:=h;rfl
 ·obtain⟨x,net,v,rfl,hx,nok,k⟩:=h;have sc:=sE;refine⟨_,(aD (cI (pv 0) (aU (K:=K) (n:=2) rfl rfl (aE (aF (i:=2) sc.nd rfl (Or.inl rfl)) (aE (aF (i:=3) sc.nd rfl (Or.inl rfl)) aS))))
   (aJ (bH (bB (JN (K:=K) rfl) (bF (aA (pv 1) aC)) (bB (JG (K:=K) rfl) (bF (aA aH aC)) (bB mZ (bD (cD (K:=K) rfl) rfl T.b_len ace (aA (pv 2) aC)) aH)))))),?_⟩
  obtain⟨a,b,c,xs,ys,rfl,q,q1,l1,q2,l2⟩:=iM hx;have exl:xs.length=net.vs.length:=by rw[l1.length,aad]
  have n1:=nok.lo;have n2:=nok.hi;refine⟨_,rfl,a,_,rfl,q,rfl,_,_,rfl,_,_,rfl,rfl,?_⟩;refine⟨_,rfl,(show 1<=sizeLine by decide),λ y hy=>⟨(show 1<=sizeLine by decide),λ z hz=>?_⟩⟩;have m1:=aG.new (o:=HO.tup [.int v]) hy;have m2:=aG.new (o:=HO.tup [.int 0]) hz;refine⟨_,rfl,b,xs,rfl,.inr (m2.tup (m1.tup q1)),_,_,rfl,rfl,z,_,[.int 0],rfl,rfl,bC.of aB,by omega,by omega,by simp,by simp,λ e H1 sm1 qe=>?_⟩;have en:(((xs.length:Nat):Int) - 1).toNat=net.vs.length - 1:=by rw[exl];omega
  rw[en,P2] at qe;refine⟨y,e,[.int v],_,rfl,rfl,sm1.tup (m2.tup (bC.of aB)),qe,by simp,aW (by simp;omega) |> ade,λ he=>?_,λ _ p hp=>?_⟩
  ·refine k _ _ ((m1.trans m2).trans sm1) ?_;have e0:cU (net.vs.length - 1)=[]:=List.map_eq_nil_iff.mp he;rw[e0];exact sm1.tup (m2.tup (bC.of aB))
  ·exact k _ _ (((m1.trans m2).trans sm1).trans (aG.new hp)) (bC.of aB)
end Tw
namespace L2
open PySem PySem.Spec PyProof.Rows TwZ
def EqE (K:aab) (H:Hp) (x y:V):Prop:=(∃ d:D,d.depth<=20/\Is K H d x/\Is K H d y)\/
 ∃ a b xs ys ds,x=.ref a/\y=.ref b/\bR K H a xs/\bR K H b ys/\IsL K H ds xs/\IsL K H ds ys/\bM ds<=20
def LJ (K:aab) (H:Hp) (x y:V):Prop:=∃ a b xs ys,x=.ref a/\y=.ref b/\bR K H a xs/\bR K H b ys/\xs.length=ys.length/\∀ (i:Nat) u v,xs[i]? = some u->ys[i]? = some v->EqE K H u v
section
variable {X:Cx}{pins:List (Addr×Obj)}{σ:St}{H:Hp}{s:Shared}
theorem EqE.at (I:Inv X pins σ H s) {A:Around}{x y:V}{u v:Value} (hu:A.units+22 < cLine) (h:EqE X.K H x y) (rx:aX x u) (ry:aX y v):SeqAt.EqAt A s u v true:=by
 rcases h with ⟨d,hd,h1,h2⟩ | ⟨a,b,xs,ys,ds,rfl,rfl,q1,q2,l1,l2,hd⟩
 ·exact Is.eqAt I d A x y u v (by omega) h1 h2 rx ry
 ·cases rx;cases ry
  by_cases hab:a=b
  ·subst hab;exact SeqAt.EqAt.same _
  ·obtain⟨us,r1,p1,_⟩:=I.list q1;obtain⟨vs,r2,p2,_⟩:=I.list q2;have e1:=r1.length;have e2:=r2.length;have e3:=l1.length;have e4:=l2.length;have hin:A.in1.units=A.units+1:=rfl;have all:=IsL.eqAt I ds A.in1 xs ys us vs (by omega) l1 l2 r1 r2;have:=SeqAt.RcAt.lists (A:=A) (s:=s) (e:=λ _=>true) p1.isList p2.isList (by simp;omega) (by omega) λ j h1 h2=>all j us.toArray[j] vs.toArray[j] (by simp) (by simp);have e5:((List.range us.toArray.size).all (λ _=>true))=true:=by simp
   rw[e5] at this;exact SeqAt.EqAt.of_refs hab this
def zF (K:aab):R2:=λ x y H Q=>LJ K H x y/\Q (.bl false) H
theorem BZ (hu:X.A.units+64 < cLine):h9 X (compareOp .NotEq) (zF X.K):=by
 intro pins s σ H x y v u Q I rx ry h;obtain⟨⟨a,b,xs,ys,rfl,rfl,q1,q2,hl,he⟩,q⟩:=h;cases rx;cases ry;obtain⟨us,r1,p1,_⟩:=I.list q1;obtain⟨vs,r2,p2,_⟩:=I.list q2;have e1:=r1.length;have e2:=r2.length;have hin:X.A.in1.units=X.A.units+1:=rfl;refine SeqAt.RcNeAt.lists (A:=X.A) (s:=s) (e:=λ _=>true) p1.isList p2.isList (by simp;omega) (by omega) (λ j h1 h2=>?_) X.prog X.w X.xe _ ?_
 ·have j1:j < xs.length:=by rw[e1];simpa using h1
  have j2:j < ys.length:=by rw[e2];simpa using h2
  obtain⟨w1,g1,t1⟩:=r1.get (i:=j) (x:=xs[j]) (by simp);obtain⟨w2,g2,t2⟩:=r2.get (i:=j) (x:=ys[j]) (by simp);have k1:us.toArray[j]=w1:=by
   have:us[j]? = some us.toArray[j]:=by simp
   rw[this] at g1;exact abf g1
  have k2:vs.toArray[j]=w2:=by
   have:vs[j]? = some vs.toArray[j]:=by simp
   rw[this] at g2;exact abf g2
  rw[k1,k2];exact (he j _ _ (by simp) (by simp)).at I (by omega) t1 t2
 ·have e5:((List.range us.toArray.size).all (λ _=>true))=true:=by simp
  rw[e5];exact⟨.bl false,H,I,rfl,q⟩
theorem qI {K:aab} (hK:X.K=K) (hu:X.A.units+64 < cLine):h9 X (compareOp .NotEq) (zF K):=by subst hK;exact BZ hu
end
section
variable {H:Hp}
end
theorem bQ.some {P:Program}{w:World}{H:Hp}{h:Heap}{a:Addr}{o:HO} (x:bQ P w H h a o):∃ ob,h.get? a=some ob:=by
 cases o with
 | lst xs=>obtain⟨_,_,_,_,e⟩:=x;exact⟨_,e⟩
 | tup xs=>obtain⟨_,_,_,ob,e,_⟩:=x;exact⟨_,e⟩
 | dK kvs=>obtain⟨_,_,_,_,o,_,_,e,_⟩:=x;exact⟨_,e⟩
 | dT kvs=>obtain⟨_,_,_,_,o,_,_,e,_⟩:=x;exact⟨_,e⟩
 | set S n=>obtain⟨o,_,_,_,e,_⟩:=x;exact⟨_,e⟩
 | ins C dx fs=>obtain⟨_,_,_,e,_⟩:=x;exact⟨_,e⟩
 | own y=>obtain⟨_,e⟩:=x;exact⟨_,e⟩
 | xd fs=>obtain⟨_,⟨_,_,_,e,_⟩,_⟩:=x;exact⟨_,e⟩
 | rng lo hi=>obtain⟨_,_,_,e⟩:=x;exact⟨_,e⟩
 | frz ob u=>obtain⟨e,_⟩:=x;exact⟨_,e⟩
 | tbl ps=>exact⟨_,(show h.get? a=Option.some _ from x)⟩
 | met f y=>exact⟨_,(show h.get? a=Option.some _ from x)⟩
 | ext fc=>obtain⟨_,⟨_,e⟩,_⟩:=x;exact⟨_,e⟩
structure Fly (P:Program) (w:World) (stack:List Env) (H:Hp) (h:Heap) (ea:Addr) (cls a0:Value) (H':Hp) (h' B:Heap):Prop where
 fl:Heap.FlyingW B stack ea cls a0 h'
 keep:∀ b o,h.get? b=some o->H b=none->b∉jL stack->B.get? b=some o
 slot:∀ b o,h.get? b=some o->H b=none->b∈jL stack->∃ sl,h'.get? b=some { o with slots:=sl }
 free:∀ b o,h.get? b=some o->H b=none->H' b=none
 there:∀ b o,h.get? b=some o->b∉jL stack->∃ o',B.get? b=some o'
 tups:∀ b xs,H b=some (.tup xs)->H' b=some (.tup xs)
 frzs:∀ b o u,H b=some (.frz o u)->H' b=some (.frz o u)
 tbls:∀ b ps,H b=some (.tbl ps)->∃ more,H' b=some (.tbl (ps++more))
 hok:mF P w H' B
def nO (P:Program) (w:World):DE:=λ outer H s E e s'=>∃ (ea:Addr) (cls a0:Value) (H':Hp) (B:Heap),e=.ref ea/\s'.os=s.os/\AllBare s'.gens/\Fly P w outer H s.heap ea cls a0 H' s'.heap B/\E cls none H'
structure Leaves (X:Cx) (E:XK):Prop where
 stk:X.stack=X.env::X.outer
 fr:X.env.frame=some X.env.locals
 ex:X.ex=[]
 xe:∀ e s',wpAny (model X.prog X.w) X.A (leaving X.env e) (λ _ s''=>nO X.prog X.w X.outer X.H₀ X.s₀ E e s'') (λ e' s''=>nO X.prog X.w X.outer X.H₀ X.s₀ E e' s'') s'->X.xe e s'
section
variable {X:Cx}{pins:List (Addr×Obj)}{σ:St}{H H':Hp}{s s':Shared}{E:XK}
theorem MT {l:List Env}{b:Addr}{env:Env} (he:env∈l) (hf:env.frame=some b):b∈jL l:=List.mem_filterMap.mpr ⟨env,he,hf⟩
theorem oE {l:List Env}{b L:Addr}{env:Env} (hf:env.frame=some L) (h:b∈jL (env::l)):b=L\/b∈jL l:=by
 unfold jL at h ⊢;rw[List.filterMap_cons,hf] at h;exact aao.1 h
theorem IU {h':Heap}{ea:Addr}{cls:Value}{vs:List Value} (L:Leaves X E) (I:Inv X pins σ H s) (hx:Heap.MadeExcOf s.heap h' ea cls vs) (hE:E cls none H):X.xe (.ref ea) { s with heap:=h' }:=by
 refine L.xe _ _ ?_;have fr:X.A.frames=some (X.env::X.outer):=by rw[<- L.stk];exact I.ok.frames
 have hs:s.heap.FunFrames X.base (X.env::X.outer):=by rw[<- L.stk];exact I.stack
 have hfree:∀ b∈jL (X.env::X.outer),H b=none:=by rw[<- L.stk];exact I.stkFree
 have nex:∀ b:Addr,b∉X.ex:=λ b z=>by rw[L.ex] at z;cases z
 have out:∀ b o,X.s₀.heap.get? b=some o->b∉jL X.outer->b∉jL (X.env::X.outer):=λ b o e hb z=>by
  rcases oE L.fr z with z | z
  ·exact absurd (aax (aaq e) I.ok.above) (by rw[z];exact acn _)
  ·exact hb z
 refine wpAny_leaves_madeW (base:=PySem.W.hideAll s.heap (jL (X.env::X.outer))) fr L.fr (λ b o q=>PySem.W.of_hideAll _ q) (PySem.W.funFrames_hide hs λ env he a hf=>MT he hf) hx λ h2 t x1 x2 x3 x4=>?_;refine⟨ea,cls,.ref t,H,_,rfl,I.os,I.bare,⟨x1,λ b o e n hb=>?_,λ b o e n hb=>?_,λ b o e n=>I.base.free b o e n (nex b),λ b o e hb=>?_,I.base.tups,I.base.frzs,I.base.tbls,λ a o e=>?_⟩,hE⟩
 ·exact PySem.W.hideAll_get _ (I.base.keep b o e n hb (nex b)) (out b o e hb)
 ·obtain⟨sl,e1⟩:=I.base.slot b o e n hb (nex b);obtain⟨_,o',ho',hd⟩:=I.ok.funs.mem hb;rw[e] at ho';cases ho';obtain⟨sl',e2⟩:=x4 b _ (hx.keeps _ _ e1) hd;exact⟨sl',e2⟩
 ·obtain⟨o',e1⟩:=I.base.there b o e (nex b);exact⟨o',PySem.W.hideAll_get _ e1 (out b o e hb)⟩
 ·refine (I.hok a o e).stay (λ b u hb q=>PySem.W.hideAll_get _ q λ z=>?_) (λ _ q=>q) λ _ _ q=>q;have:=hfree b z;rcases hb with rfl | hb
  ·rw[e] at this;cases this
  ·rw[hb] at this;cases this
theorem jW (L:Leaves X E):lR (nO X.prog X.w) X E:=by
 intro pins σ H s e s' I h;obtain⟨ea,cls,a0,H',B,rfl,os,bare,F,hE⟩:=h;refine L.xe _ _ ?_;have fr:X.A.frames=some (X.env::X.outer):=by rw[<- L.stk];exact I.ok.frames
 have nex:∀ b:Addr,b∉X.ex:=λ b z=>by rw[L.ex] at z;cases z
 have out:∀ b o,X.s₀.heap.get? b=some o->b∉jL X.outer->b∉jL X.stack:=λ b o e hb z=>by
  rw[L.stk] at z;rcases oE L.fr z with z | z
  ·exact absurd (aax (aaq e) I.ok.above) (by rw[z];exact acn _)
  ·exact hb z
 have inn:∀ b,b∈jL X.outer->b∈jL X.stack:=λ b hb=>by
  rw[L.stk];unfold jL at hb ⊢;rw[List.filterMap_cons,L.fr];exact aap _ hb
 refine wpAny_leaves_onW fr L.fr (by rw[<- L.stk];exact F.fl) λ h2 x1 x2=>?_;refine⟨ea,cls,a0,H',B,rfl,os.trans I.os,bare,⟨x1,λ b o e n hb=>?_,λ b o e n hb=>?_,λ b o e n=>?_,λ b o e hb=>?_,λ b xs e=>F.tups b xs (I.base.tups b xs e),λ b o u e=>F.frzs b o u (I.base.frzs b o u e),λ b ps e=>?_,F.hok⟩,hE⟩
 ·exact F.keep b o (I.base.keep b o e n hb (nex b)) (I.base.free b o e n (nex b)) (out b o e hb)
 ·obtain⟨sl,e1⟩:=I.base.slot b o e n hb (nex b);obtain⟨sl',e2⟩:=F.slot b _ e1 (I.base.free b o e n (nex b)) (inn b hb);obtain⟨_,o',ho',hd⟩:=I.ok.funs.mem hb;rw[e] at ho';cases ho';obtain⟨sl'',e3⟩:=x2 b _ e2 hd;exact⟨sl'',e3⟩
 ·obtain⟨o',e1⟩:=I.base.there b o e (nex b);exact F.free b o' e1 (I.base.free b o e n (nex b))
 ·obtain⟨o',e1⟩:=I.base.there b o e (nex b);exact F.there b o' e1 (out b o e hb)
 ·obtain⟨m1,e1⟩:=I.base.tbls b ps e;obtain⟨m2,e2⟩:=F.tbls b _ e1;exact⟨m1++m2,by rw[e2,Array.append_assoc]⟩
theorem PL {P:Program}{w:World}:lR (nO P w) X E0:=λ _ _ _ _ _ _ _ h=>by
 obtain⟨_,_,_,_,_,_,_,_,_,h⟩:=h;exact h.elim
def Q5 (ea:Addr) (cls:Value):HO:=.ext λ h=>∃ o,h.get? ea=some o/\o.cls=cls
theorem Inv.caught {ea:Addr}{cls a0:Value}{B:Heap} (I:Inv X pins σ H s) (os:s'.os=s.os) (bare:AllBare s'.gens) (F:Fly X.prog X.w X.stack H s.heap ea cls a0 H' s'.heap B):H' ea=none/\Inv X pins σ (upd H' ea (Q5 ea cls)) s':=by
 obtain⟨ob,hob,hcls⟩:=F.fl.there;obtain⟨oe,vs,hoe,_,hfd,_⟩:=F.fl.first
 have hea:H' ea=none:=by
  cases q:H' ea with
  | none=>rfl
  | some o=>
   obtain⟨o',e⟩:=(F.hok ea o q).some;rw[F.fl.2.1] at e;cases e
 have frne:∀ b∈jL X.stack,b≠ea:=λ b hb z=>by
  obtain⟨_,o',ho',hd⟩:=F.fl.2.2.1.mem hb;rw[z,hoe] at ho';cases ho';exact hd _ hfd
 have ne:∀ b o,s.heap.get? b=some o->b≠ea:=λ b o e z=>by
  by_cases hb:b∈jL X.stack
  ·exact frne b hb z
  ·obtain⟨o',e'⟩:=F.there b o e hb;rw[z,F.fl.2.1] at e';cases e'
 have kb:∀ b u,B.get? b=some u->s'.heap.get? b=some u:=F.fl.1;refine⟨hea,I.call' (ch:=[]) os ⟨λ b o e n hb _=>kb _ _ (F.keep b o e n hb),λ b o e n hb _=>F.slot b o e n hb,λ b o e n _=>?_,λ b o e _=>?_,λ b xs e=>?_,λ b o u e=>?_,λ b ps e=>?_⟩ (λ b u e=>?_) bare (λ b z=>absurd z (by simp))⟩
 ·rw[aI (ne b o e)];exact F.free b o e n
 ·by_cases hb:b∈jL X.stack
  ·obtain⟨_,o',ho',_⟩:=F.fl.2.2.1.mem hb;exact⟨o',ho'⟩
  ·obtain⟨o',e'⟩:=F.there b o e hb;exact⟨o',kb _ _ e'⟩
 ·have:=F.tups b xs e;rw[aI (aK this hea)];exact this
 ·have:=F.frzs b o u e;rw[aI (aK this hea)];exact this
 ·obtain⟨m,e1⟩:=F.tbls b ps e;exact⟨m,by rw[aI (aK e1 hea)];exact e1⟩
 ·by_cases hb:b=ea
  ·subst hb;rw[aB] at e;cases e;exact⟨⟨ob,hob,hcls⟩,⟨ob,hob⟩,λ h1 h2 ⟨o,e1,e2⟩ k=>⟨o,k _ e1,e2⟩⟩
  ·rw[aI hb] at e;exact (F.hok b u e).stay (λ c v _ q=>kb c v q) (λ c q=>by rw[aI (aK q hea)];exact q) λ c xs q=>by rw[aI (aK q hea)];exact q
def OM (E:XK) (C:Addr) (t:TA):TS:=λ _ σ H=>t σ H λ vs H1=>vs.length<=100/\E (.ref C) none H1
theorem zH {x:Str}{C:Addr}{bm:List Value}{newId initId B:String}{np cpos pos:Pos}{ee:Expr}{rest:List Expr}{t:TA} (L:Leaves X E) (hc:X.calm=true) (hg:Gl X x) (O:PySem.W.excIn X.K C bm newId=true) (hm:PySem.W.nsIn X.K mainGlobals x=some (some (.ref C))) (FB:ExcBaseFacts B newId initId bm) (ha:PA X (ee::rest) t)
  (he:starEach (ee::rest) X.env=(false,eval ee X.env)::starEach rest X.env:=by rfl) (hplain:(backTo cpos (starEach rest X.env)).any (·.1)=false:=by rfl) (hd:(x == ("__debug__" : Str))=false:=by decide) :
  PS X (.Raise (some (.Call (.Name x np) (ee::rest) [] cpos)) none pos) (OM E C t):=by
 intro pins s σ H D I h;have G:X.mg x=some (.ref C):=abd I.ok.mod.kin I.ok.mod.glob hm;have ocl:OwnCls x C bm newId X.mg X.base:=by
  refine⟨G,?_⟩;have q:=O;unfold PySem.W.excIn at q
  split at q
  ·rename_i dd cd sl ho
   split at q
   ·rename_i C' bm' k0 k1 k2 k3 n k5 hm' hs
    simp only [Bool.and_eq_true,Bool.not_eq_true',beq_iff_eq] at q;obtain⟨⟨⟨⟨⟨rfl,rfl⟩,hdel⟩,ht⟩,hok⟩,hni⟩:=q;obtain⟨nm,bs,mro,ns,qn,hd',sn,sub,ab,col,del⟩:=cd;dsimp only at hm' hdel hok hni;subst hm' hdel;have hsl:sl = #[k0,k1,k2,k3,some (.builtin n),k5]:=by obtain⟨l⟩:=sl;simp only at hs;rw[hs]
    subst hsl;exact⟨bm',ns,nm,qn,bs,hd',sn,sub,ab,col,dd,k0,k1,k2,k3,k5,_,I.ok.mod.kin _ _ ho,.of_isNs (PySem.W.isNs_of_in I.ok.mod.kin hok),PySem.W.nsMap_none_of_in I.ok.mod.kin hok hni,PySem.W.tail_of_in I.ok.mod.kin ht⟩
   ·cases q
  ·cases q
 obtain⟨tl,N,nm,q,bs,hdct,sn,sub,ab,col,dd,k0,k1,k2,k3,k5,mN,hC,hN,hni,T⟩:=ocl.obj;refine wpAny_Raise_call_subT (C:=C) (nm:=nm) (q:=q) (N:=N) (bs:=bs) (bm:=tl) (hdct:=hdct) (sn:=sn) (sub:=sub) (ab:=ab) (col:=col) (dd:=dd) (k0:=k0) (k1:=k1) (k2:=k2) (k3:=k3) (k5:=k5) FB (mN:=mN) (T.hasType FB.hasBase) (I.ok.hd hc) (by rw[he];show (false || (backTo cpos (starEach rest X.env)).any (·.1))=false;rw[hplain];rfl) hni (oH I hg G ⟨rfl,?_⟩ hd);have ha':=ha cpos pins s σ H _ I h;rw[he] at ha' ⊢;refine Calls.evalArgs_plain (abl ha' (λ us be ⟨vs,H1,I1,r1,hlen,hE⟩=>⟨rfl,?_,I1.bk _ _ hC,hN.keeps I1.bk,T.keeps I1.bk,λ h' e hme=>IU L I1 hme hE⟩) λ _ _ y=>y);have:=r1.length;show us.length<=sizeLine;rw[sizeLine_eq];omega
end
abbrev Cx.within (X:Cx) (pn:List (Addr×Obj)) (E:Value->Shared->Prop):Cx:={ X with pn:=pn,xe:=E }
abbrev Cx.caughtIn (X:Cx) (ea:Addr):Cx:={ X with A:=X.A.mark (some (.ref ea)),calm:=false,xe:=λ _ _=>False }
section
variable {X:Cx}{pins:List (Addr×Obj)}{σ:St}{H:Hp}{s:Shared}{pn:List (Addr×Obj)}{E:Value->Shared->Prop}{ea:Addr}
theorem Cx.Ok.within (ok:X.Ok):(X.within pn E).Ok:=
 ⟨ok.mod,ok.kind,ok.glob,ok.blt,ok.above,ok.inj,ok.has,ok.cab,ok.hd,ok.frames,ok.stk,ok.exf,ok.bs,ok.bsz,ok.noex,ok.exfs,ok.funs,ok.frf⟩
theorem Cx.Ok.unwithin (ok:(X.within pn E).Ok):X.Ok:=
 ⟨ok.mod,ok.kind,ok.glob,ok.blt,ok.above,ok.inj,ok.has,ok.cab,ok.hd,ok.frames,ok.stk,ok.exf,ok.bs,ok.bsz,ok.noex,ok.exfs,ok.funs,ok.frf⟩
theorem Inv.within (I:Inv X pins σ H s):Inv (X.within (X.pn++pins) E) [] σ H s:=
 ⟨I.ok.within,I.os,I.bare,I.base,I.loc,I.cell,I.free,I.freeC,λ p hp=>I.pin p (by simpa using hp),I.hok,I.len⟩
theorem Inv.unwithin {p2:List (Addr×Obj)} (I:Inv (X.within (X.pn++pins) E) p2 σ H s):Inv X pins σ H s:=
 ⟨I.ok.unwithin,I.os,I.bare,I.base,I.loc,I.cell,I.free,I.freeC,λ p hp=>I.pin p (aby _ hp),I.hok,I.len⟩
theorem Inv.mark (I:Inv X pins σ H s):Inv (X.caughtIn ea) pins σ H s:=
 ⟨⟨I.ok.mod,I.ok.kind,I.ok.glob,I.ok.blt,I.ok.above,I.ok.inj,I.ok.has,I.ok.cab,λ z=>Bool.noConfusion z,I.ok.frames,I.ok.stk,I.ok.exf,I.ok.bs,I.ok.bsz,I.ok.noex,I.ok.exfs,I.ok.funs,I.ok.frf⟩,I.os,I.bare,I.base,I.loc,I.cell,I.free,I.freeC,I.pin,I.hok,I.len⟩
theorem Inv.unmark (ok:X.Ok) (I:Inv (X.caughtIn ea) pins σ H s):Inv X pins σ H s:=
 ⟨ok,I.os,I.bare,I.base,I.loc,I.cell,I.free,I.freeC,I.pin,I.hok,I.len⟩
end
end L2
namespace L2
open PySem PySem.Spec PyProof.Rows TwZ PySem.Builtin PySem.Builtin.ObjectAttr PySem.Builtin.Getset_descriptor
section
variable {prog:Program}{x D:Addr}
end
section
variable {X:Cx}
end
theorem Fun.okR {x qual:Str}{st:Stmt}{f:Addr}{fd:FuncData}{N ps:List Str}{k:Nat}{sp:Sp} (F:Fun K x qual st f fd) (S:FnScope N ps (aM st)) (len:∀ vs H Q E,sp vs H Q E->vs.length=ps.length)
  (hbody:∀ (cdv:Value) (A:Around) (outer:List Env) (s:Shared) (H:Hp) (vs:List V) (Q:VK) (E:XK),Room k (A.deeper (envOfC qual (aM st) s.heap.objs.size f cdv))->sp vs H Q E->
   Leaves (jD (nO P w) P w K mg base N qual (aM st) f cdv A outer s H E) E->
   ∃ t,wG (jD (nO P w) P w K mg base N qual (aM st) f cdv A outer s H E) (fB st) t/\t { nx:=λ _ H'=>Q .non H',rt:=Q } (start N vs) H):FnOk P w K mg base (nO P w) (k+1) f fd ps sp:=by
 obtain⟨oc,od,kV,doc,pm,an,cdv,ct,osl,rfl,lk,hcd⟩:=F.ex;exact KS lk hcd S len λ A outer s H vs Q E hr hsp=>hbody cdv A outer s H vs Q E hr hsp ⟨rfl,rfl,rfl,λ _ _ h=>h⟩
structure CalleeR (P:Program) (w:World) (K:aab) (mg:Str->Option Value) (base:Heap) (x:Str) (ps:List Str) (k:Nat) (sp:Sp) (f:Addr) (fd:FuncData):Prop where
 ok:FnOk P w K mg base (nO P w) k f fd ps sp
 mg:mg x=some (.ref f)
 kp:PySem.W.keepIn K (.ref f)=true
 bd:oT K fd ps []
structure ExC (K:aab) (x:Str) (C:Addr):Prop where
 ns:PySem.W.nsIn K mainGlobals x=some (some (.ref C))
 exc:PySem.W.excIn K C [.type "ValueError",.type "Exception",.type "BaseException",.type "object"] "ValueError.__new__" = true
end L2
namespace Tw
open PySem L2
theorem GM (i:Str):(L2.D.str i).depth=0:=by rw[L2.D.depth] <;> intros <;> (first | rfl | (intro z;cases z) | (rename_i z;cases z))
def rS:Sp:=λ vs H Q _=>∃ (n lo hi:Int),vs=[.int n,.int lo,.int hi]/\Q (.bl (decide (lo<=n) && decide (n<=hi))) H
theorem xJ {f:Addr}{fd:FuncData} (F:Fun K "is_whole" "is_whole" (bO 6) f fd) (T:Txt mg):FnOk P w K mg base mG 1 f fd ["thing","least","most"] rS:=by
 refine F.ok qD (λ vs H Q E h=>?_) (λ cdv A outer s H vs Q E hr h=>?_)
 ·obtain⟨n,lo,hi,rfl,_⟩:=h;rfl
 ·obtain⟨n,lo,hi,rfl,k⟩:=h;have sc:=qD;refine⟨_,(aJ (bH (BX (bD (w6 (K:=K) rfl) rfl T.b_isinstance AJ (aA (pv 0) (aA (DS (v:=.ty "int") rfl T.b_int pO rfl) aC))) (BX (BW (bD (w6 (K:=K) rfl) rfl T.b_isinstance AJ (aA (pv 0) (aA (DS (v:=.ty "bool") rfl T.b_bool NE rfl) aC)))) (BV (JE O1 O1 (pv 1) (pv 0) (pv 2))))))),?_⟩;refine⟨_,rfl,_,"int",_,true,rfl,.inl (.int _),PQ K,_,rfl,fH ?_⟩;refine⟨_,rfl,_,"bool",_,false,rfl,.inl (.int _),PR K,_,rfl,_,rfl,fH ?_⟩;refine⟨_,rfl,_,rfl,_,_,rfl,rfl,_,rfl,kI (λ h1=>?_) λ h1=>?_⟩
  ·rw[h1,Bool.true_and] at k;exact⟨_,rfl,_,_,rfl,rfl,k⟩
  ·rw[Bool.not_eq_true] at h1;rw[h1,Bool.false_and] at k;exact k
def qZ (K:aab) (cV:Addr):Sp:=λ vs H Q E=>∃ (x:V) (net:Net) (v:Int),vs=[x,.int v]/\Is K H (gB net) x/\((0<=v/\v < net.vs.length/\Q .non H)\/(¬ (0<=v/\v < net.vs.length)/\E (.ref cV) none H))
theorem qT {f f1:Addr}{fd fd1:FuncData} (F:Fun K "need_vessel" "need_vessel" (bO 5) f fd) (T:Txt mg) (XC_NoVessel:ExC K "NoVessel" c_NoVessel) (G_is_whole:Callee P w K mg base "is_whole" ["thing","least","most"] 1 rS f1 fd1) :
  FnOk P w K mg base (nO P w) 2 f fd ["net","number"] (qZ K c_NoVessel):=by
 refine F.okR kT (λ vs H Q E h=>?_) (λ cdv A outer s H vs Q E hr h L=>?_)
 ·obtain⟨x,net,v,rfl,_⟩:=h;rfl
 ·obtain⟨x,net,v,rfl,hx,k⟩:=h;have sc:=kT;refine⟨_,(aD (cI (pv 0) (aU (K:=K) (n:=2) rfl rfl (aE (aF (i:=2) sc.nd rfl (Or.inl rfl)) (aE (aF (i:=3) sc.nd rfl (Or.inl rfl)) aS))))
   (aJ (eF (P9 (pC (eG G_is_whole hr (aA (pv 1) (aA aH (aA (bB mZ (bD (cD (K:=K) rfl) rfl T.b_len ace (aA (pv 2) aC)) aH) aC)))))) (aJ (zH L rfl rfl XC_NoVessel.exc XC_NoVessel.ns PySem.F.excBase_ValueError (aA g9 aC))) cA))),?_⟩
  obtain⟨a,b,c,xs,ys,rfl,q,q1,l1,q2,l2⟩:=iM hx;have exl:xs.length=net.vs.length:=by rw[l1.length,aad]
  refine⟨_,rfl,a,_,rfl,q,rfl,_,_,rfl,_,_,rfl,rfl,?_⟩;refine⟨_,rfl,_,rfl,b,xs,rfl,.inr q1,_,_,rfl,rfl,v,0,_,rfl,_,rfl,?_⟩;rcases k with ⟨h0,h1,k⟩ | ⟨hn,k⟩
  ·rw[abt h0,abt (show v<=((xs.length:Nat):Int) - 1 by omega)];exact eE k
  ·have:(decide (0<=v) && decide (v<=((xs.length:Nat):Int) - 1))=false:=by
    rw[Bool.eq_false_iff];intro z;rw[Bool.and_eq_true,decide_eq_true_eq,decide_eq_true_eq] at z;exact hn ⟨z.1,by omega⟩
   rw[this];exact fH ⟨by show 1<=100;decide,k⟩
end Tw
namespace L2
open PySem PySem.Spec PyProof.Rows TwZ
mutual
def fM (h:Heap):D->Value->Prop
 | .int i,v=>∃ t,v=.int i t
 | .bl b,v=>v=.bool b
 | .tup ds,v=>∃ a o items n,v=.ref a/\h.get? a=some o/\o.cls=.type "tuple" /\ o.data=.seq items n/\dY h ds items.toList
 | .non,_=>False
 | .str _,_=>False
def dY (h:Heap):List D->List Value->Prop
 | [],vs=>vs=[]
 | d::ds,vs=>∃ v r,vs=v::r/\fM h d v/\dY h ds r
end
mutual
def sh:D->D
 | .int _=>.int 0
 | .bl _=>.bl false
 | .tup ds=>.tup (kK ds)
 | d=>d
def kK:List D->List D
 | []=>[]
 | d::ds=>sh d::kK ds
end
mutual
def tL:D->Int
 | .int i=>hashInt i
 | .bl b=>hashInt (if b=true then 1 else 0)
 | .tup ds=>reduceHash (Builtin.Tuple.tupleHashOf (eR ds))
 | _=>0
def eR:List D->List Int
 | []=>[]
 | d::ds=>tL d::eR ds
end
mutual
def nI:D->Nat
 | .tup ds=>eI ds+1
 | _=>1
def eI:List D->Nat
 | []=>0
 | d::ds=>nI d+eI ds
end
mutual
theorem fM.inj {h:Heap}:∀ {x y:D}{v:Value},sh x=sh y->fM h x v->fM h y v->x=y
 | .int i,.int j,v,_,hx,hy=>by
  rw[fM] at hx hy;obtain⟨t,rfl⟩:=hx;obtain⟨t',e⟩:=hy;injection e with e _;rw[e]
 | .bl i,.bl j,v,_,hx,hy=>by
  rw[fM] at hx hy;subst hx;injection hy with e;rw[e]
 | .tup ds,.tup es,v,hs,hx,hy=>by
  rw[fM] at hx hy;obtain⟨a,o,items,n,rfl,h1,h2,h3,l1⟩:=hx;obtain⟨a',o',items',n',e,h1',h2',h3',l2⟩:=hy;cases e;rw[h1] at h1';cases h1';rw[h3] at h3';cases h3';rw[sh,sh] at hs;injection hs with hs;rw[dY.inj hs l1 l2]
 | .non,_,_,_,hx,_=>by rw[fM] at hx;exact hx.elim
 | .str _,_,_,_,hx,_=>by rw[fM] at hx;exact hx.elim
 | .int _,.bl _,_,hs,_,_=>by rw[sh,sh] at hs;cases hs
 | .int _,.tup _,_,hs,_,_=>by rw[sh,sh] at hs;cases hs
 | .int _,.non,_,_,_,hy=>by rw[fM] at hy;exact hy.elim
 | .int _,.str _,_,_,_,hy=>by rw[fM] at hy;exact hy.elim
 | .bl _,.int _,_,hs,_,_=>by rw[sh,sh] at hs;cases hs
 | .bl _,.tup _,_,hs,_,_=>by rw[sh,sh] at hs;cases hs
 | .bl _,.non,_,_,_,hy=>by rw[fM] at hy;exact hy.elim
 | .bl _,.str _,_,_,_,hy=>by rw[fM] at hy;exact hy.elim
 | .tup _,.int _,_,hs,_,_=>by rw[sh,sh] at hs;cases hs
 | .tup _,.bl _,_,hs,_,_=>by rw[sh,sh] at hs;cases hs
 | .tup _,.non,_,_,_,hy=>by rw[fM] at hy;exact hy.elim
 | .tup _,.str _,_,_,_,hy=>by rw[fM] at hy;exact hy.elim
theorem dY.inj {h:Heap}:∀ {x y:List D}{vs:List Value},kK x=kK y->dY h x vs->dY h y vs->x=y
 | [],[],_,_,_,_=>rfl
 | [],_::_,_,hs,_,_=>by rw[kK,kK] at hs;cases hs
 | _::_,[],_,hs,_,_=>by rw[kK,kK] at hs;cases hs
 | x::xs,y::ys,vs,hs,hx,hy=>by
  rw[dY] at hx hy;obtain⟨v,r,rfl,h1,l1⟩:=hx;obtain⟨v',r',e,h2,l2⟩:=hy;cases e;rw[kK,kK] at hs;injection hs with e1 e2;rw[fM.inj e1 h1 h2,dY.inj e2 l1 l2]
end
mutual
theorem fM.keeps {h h':Heap} (k:∀ a o items n,h.get? a=some o->o.data=.seq items n->h'.get? a=some o):∀ {x:D}{v:Value},fM h x v->fM h' x v
 | .int i,v,hx=>by rw[fM] at hx ⊢;exact hx
 | .bl i,v,hx=>by rw[fM] at hx ⊢;exact hx
 | .tup ds,v,hx=>by
  rw[fM] at hx ⊢;obtain⟨a,o,items,n,e,h1,h2,h3,l1⟩:=hx;exact⟨a,o,items,n,e,k a o items n h1 h3,h2,h3,dY.keeps k l1⟩
 | .non,_,hx=>by rw[fM] at hx;exact hx.elim
 | .str _,_,hx=>by rw[fM] at hx;exact hx.elim
theorem dY.keeps {h h':Heap} (k:∀ a o items n,h.get? a=some o->o.data=.seq items n->h'.get? a=some o):∀ {x:List D}{vs:List Value},dY h x vs->dY h' x vs
 | [],_,hx=>by rw[dY] at hx ⊢;exact hx
 | x::xs,vs,hx=>by
  rw[dY] at hx ⊢;obtain⟨v,r,e,h1,l1⟩:=hx;exact⟨v,r,e,fM.keeps k h1,dY.keeps k l1⟩
end
theorem dY.length {h:Heap}:∀ {x:List D}{vs:List Value},dY h x vs->vs.length=x.length
 | [],_,hx=>by rw[dY] at hx;subst hx;rfl
 | x::xs,vs,hx=>by
  rw[dY] at hx;obtain⟨v,r,rfl,_,l⟩:=hx;rw[abb,abb,dY.length l]
theorem dY.get {h:Heap}:∀ {x:List D}{vs:List Value}{j:Nat}{d:D}{v:Value},dY h x vs->x[j]? = some d->vs[j]? = some v->fM h d v
 | [],_,_,_,_,_,e,_=>by simp at e
 | d::ds,vs,0,d',v,hx,e1,e2=>by
  rw[dY] at hx;obtain⟨v',r,rfl,h1,_⟩:=hx;simp at e1 e2;subst e1 e2;exact h1
 | d::ds,vs,j+1,d',v,hx,e1,e2=>by
  rw[dY] at hx;obtain⟨v',r,rfl,_,l⟩:=hx;exact dY.get l (by simpa using e1) (by simpa using e2)
section
variable {prog:Program}
theorem nP {A:Around}{E:Value->Shared->Prop}{s:Shared}{b:Bool}{Q:Int->Shared->Prop} (h:Q (hashInt (if b=true then 1 else 0)) { s with toks:=s.toks+1 }):wpAny (model prog w) A (pyHash (.bool b)) Q E s:=by
 have hT:s.TypeIs (.bool b) "bool" := rfl;have hr:=rawHash_range (if b=true then 1 else 0);unfold pyHash;have hv:[Value.bool b].any Value.onHeap=false:=rfl;refine aaa ?_;rw[cRoomFor,if_neg (by rw[hv];exact aar)];refine aaf (aaa (wpAny_specialOf hT F.slot_bool_hash.lookup ?_));show wpAny _ _ (if (some (Value.builtin "int.__hash__") == some Value.none)=true then _ else _) Q E s;rw[if_neg (by rw[beq_builtin_none];exact aar)];refine aaa (wpAny_specialOf hT F.slot_bool_hash.lookup ?_);show wpAny _ _ (callSpecialIfBoundUnlessNone? (.bool b) "__hash__" _ >>= _) Q E s;refine aaa (wpAny_callSpecialIfBoundUnlessNone?_slot hT F.slot_bool_hash (wpAny_call_entry F.slot_bool_hash hT F.entry_int_hash (show wpAny _ _ (do ret (<- mkInt (rawHash (if b=true then 1 else 0)))) _ _ s from wpAny_ret_mkInt ?_) (F.args_int_hash_1 _)));show wpAny _ _ (if (decide (-(2:Int) ^ 63<=rawHash (if b=true then 1 else 0)) && decide (rawHash (if b=true then 1 else 0) < 2 ^ 63))=true then _ else _) Q E _;rw[if_pos (by rw[abt hr.1,abt hr.2];rfl)];exact aaf h
theorem mP:∀ (a b:List D),eR (a++b)=eR a++eR b
 | [],b=>by rw[eR];rfl
 | d::a,b=>by rw[List.cons_append,eR,eR,mP a b];rfl
theorem lN:∀ (a b:List D),eI (a++b)=eI a+eI b
 | [],b=>by rw[eI,List.nil_append,Nat.zero_add]
 | d::a,b=>by rw[List.cons_append,eI,eI,lN a b,Nat.add_assoc]
theorem pN:∀ (ds:List D) (d:D),d∈ds->d.depth<=bM ds:=by
 intro ds
 induction ds with
 | nil=>intro d h;cases h
 | cons e r ih=>
  intro d h;rw[bM];rcases aao.1 h with rfl | h
  ·omega
  ·have:=ih d h;omega
def LK (prog:Program) (w:World) (d:D):Prop:=∀ (A:Around) (E:Value->Shared->Prop) (s:Shared) (v:Value) (Q:Int->Shared->Prop),A.units+d.depth < cLine->fM s.heap d v->Q (tL d) { s with toks:=s.toks+nI d }->wpAny (model prog w) A (pyHash v) Q E s
mutual
theorem KG:∀ (d:D),LK prog w d
 | .int i=>λ A E s v Q _ hx h=>by
  rw[fM] at hx;obtain⟨t,rfl⟩:=hx;rw[tL,nI] at h
  ·exact wpAny_pyHash_int h
  ·intros;contradiction
 | .bl b=>λ A E s v Q _ hx h=>by
  rw[fM] at hx;subst hx;rw[tL,nI] at h
  ·exact nP h
  ·intros;contradiction
 | .tup ds=>λ A E s v Q hu hx h=>by
  have all:=E6 ds;rw[fM] at hx;obtain⟨a,o,items,n,rfl,ho,hc,hd,hi⟩:=hx;have hT:s.TypeIs (.ref a) "tuple" := ⟨o,ho,hc⟩;have hdep:D.depth (.tup ds)=bM ds+1:=by rw[D.depth]
  rw[hdep] at hu;rw[tL,nI] at h;unfold pyHash
  first | unfold pyHashByItsType | skip
  first | refine aaa (wpAny_cRoomFor_or (.inr (by omega)) ?_) | skip
  refine aaa (wpAny_specialOf hT F.slot_tuple_hash.lookup ?_);show wpAny _ _ (if (some (Value.builtin "tuple.__hash__") == some Value.none)=true then _ else _) Q E s;rw[if_neg (by rw[beq_builtin_none];exact aar)];refine aaa (wpAny_specialOf hT F.slot_tuple_hash.lookup ?_);show wpAny _ _ (callSpecialIfBoundUnlessNone? (.ref a) "__hash__" _ >>= _) Q E s;refine aaa (wpAny_callSpecialIfBoundUnlessNone?_slot hT F.slot_tuple_hash (wpAny_call_entry F.slot_tuple_hash hT F.entry_tuple_hash ?_ (F.args_tuple_hash_1 _)));show wpAny _ _ (Builtin.Tuple.tupleItemsOf (.ref a) >>= _) _ _ s;refine aaa (wpAny_tupleItemsOf ho hd (aaa ?_));rw[<- Array.forIn_toList];refine wpAny_forIn_list _ (λ rest (b:Array Int) s'=>∃ done left,ds=done++left/\dY s.heap left rest/\b.toList=eR done/\s'={ s with toks:=s.toks+eI done }) _ ?_ ?_ _ _ ⟨[],ds,rfl,hi,by rw[eR],by rw[eI];rfl⟩
  ·rintro x rest b s' ⟨done,left,rfl,hl,hb,rfl⟩;cases left with
   | nil=>rw[dY] at hl;cases hl
   | cons k ks'=>
    rw[dY] at hl;obtain⟨v',r',e,h1,l1⟩:=hl;cases e;have hk:=all k (by simp);have hdk:=pN (done++k::ks') k (by simp);have fin:∃ done' left',done++k::ks'=done'++left'/\dY s.heap left' rest/\(b.push (tL k)).toList=eR done'/\({ s with toks:=s.toks+eI done+nI k }:Shared)={ s with toks:=s.toks+eI done' }:=
     ⟨done++[k],ks',by simp,l1,by rw[Array.toList_push,hb,mP,eR,eR],by rw[lN,eI,eI,Nat.add_zero,Nat.add_assoc]⟩
    refine aaa (hk _ _ _ _ _ ?_ h1 ?_)
    ·have hin:A.in1.units=A.units+1:=rfl;omega
    ·first
      | exact aaf fin
      | exact aaa (aaf (aaf fin))
  ·rintro b s' ⟨done,left,rfl,hl,hb,rfl⟩;cases left with
   | cons k ks'=>rw[dY] at hl;obtain⟨_,_,e,_⟩:=hl;cases e
   | nil=>
    rw[acy] at h;show wpAny _ _ (retInt (Builtin.Tuple.tupleHashOf b.toList)) _ _ _;rw[hb];refine wpAny_ret_mkInt ?_;show wpAny _ _ (if (decide (-(2:Int) ^ 63<=Builtin.Tuple.tupleHashOf (eR done)) && decide (Builtin.Tuple.tupleHashOf (eR done) < 2 ^ 63))=true then _ else _) Q E _;unfold reduceHash at h
    by_cases hr:(decide (-(2:Int) ^ 63<=Builtin.Tuple.tupleHashOf (eR done)) && decide (Builtin.Tuple.tupleHashOf (eR done) < 2 ^ 63))=true
    ·rw[if_pos hr] at h ⊢;exact aaf (by simpa [Nat.add_assoc] using h)
    ·rw[if_neg hr] at h ⊢;exact aaa (acz (aaf (by simpa [Nat.add_assoc] using h)))
 | .non=>λ _ _ _ _ _ _ hx _=>by rw[fM] at hx;exact hx.elim
 | .str _=>λ _ _ _ _ _ _ hx _=>by rw[fM] at hx;exact hx.elim
theorem E6:∀ (ds:List D),∀ d∈ds,LK prog w d
 | [],_,h=>(nomatch h)
 | e::es,d,h=>by
  have h0:=KG e;have h1:=E6 es;rcases aao.1 h with z | z
  ·rw[z];exact h0
  ·exact h1 d z
end
end
noncomputable instance decD:DecidableEq D:=λ a b=>Classical.propDecidable (a=b)
mutual
theorem L0:∀ (d:D),(sh d).depth=d.depth
 | .int _=>by rw[sh,D.depth,D.depth] <;> (intros;contradiction)
 | .bl _=>by rw[sh,D.depth,D.depth] <;> (intros;contradiction)
 | .tup ds=>by rw[sh,D.depth,D.depth,vV ds]
 | .non=>by rw[sh] <;> (intros;contradiction)
 | .str _=>by rw[sh] <;> (intros;contradiction)
theorem vV:∀ (ds:List D),bM (kK ds)=bM ds
 | []=>by rw[kK]
 | d::ds=>by rw[kK,bM,bM,L0 d,vV ds]
end
theorem wW:∀ (ds:List D),(kK ds).length=ds.length
 | []=>by rw[kK]
 | d::ds=>by rw[kK,abb,abb,wW ds]
def SA (x y:D):Prop:=∀ (A:Around) (s:Shared) (u v:Value),A.units+x.depth < cLine->fM s.heap x u->fM s.heap y v->SeqAt.EqAt A s u v (decide (x=y))
mutual
theorem RX:∀ (x y:D),sh x=sh y->SA x y
 | .int i,.int j,_=>λ A s u v _ hx hy=>by
  rw[fM] at hx hy;obtain⟨t,rfl⟩:=hx;obtain⟨t',rfl⟩:=hy;have:=SeqAt.EqAt.int_int (A:=A) (s:=s) i t j t';have e:decide (D.int i=D.int j)=(i == j):=by
   rw[Bool.eq_iff_iff,decide_eq_true_eq,beq_iff_eq,D.int.injEq]
  rw[e];exact this
 | .bl i,.bl j,_=>λ A s u v _ hx hy=>by
  rw[fM] at hx hy;subst hx hy;have:=SeqAt.EqAt.bool_bool (A:=A) (s:=s) i j;have e:decide (D.bl i=D.bl j)=(i == j):=by
   rw[Bool.eq_iff_iff,decide_eq_true_eq,beq_iff_eq,D.bl.injEq]
  rw[e];exact this
 | .tup ds,.tup es,hs=>λ A s u v hu hx hy=>by
  rw[sh,sh] at hs;injection hs with hs;have all:=O9 ds es hs;have hl:ds.length=es.length:=by rw[<- wW ds,hs,wW]
  have hinj:=λ (a:Value) (h1:fM s.heap (.tup ds) a) (h2:fM s.heap (.tup es) a)=>fM.inj (by rw[sh,sh,hs]) h1 h2;have hx0:=hx;have hy0:=hy;rw[fM] at hx hy;obtain⟨a,o,items,n,rfl,h1,h2,h3,l1⟩:=hx;obtain⟨b,o',items',n',rfl,h1',h2',h3',l2⟩:=hy
  by_cases hab:a=b
  ·subst hab;rw[abt (hinj _ hx0 hy0)];exact SeqAt.EqAt.same _
  ·have hdep:D.depth (.tup ds)=bM ds+1:=by rw[D.depth]
   rw[hdep] at hu;have hin:A.in1.units=A.units+1:=rfl;have k1:=l1.length;have k2:=l2.length;have z1:items.size=ds.length:=by rw[<- k1];simp
   have z2:items'.size=es.length:=by rw[<- k2];simp
   have:=SeqAt.RcAt.tuples (A:=A) (s:=s) (e:=λ j=>match ds[j]?,es[j]? with | some x,some y=>decide (x=y) | _,_=>true) (show s.heap.IsTuple a items from ⟨o,h1,h2,n,h3⟩) (show s.heap.IsTuple b items' from ⟨o',h1',h2',n',h3'⟩) (by omega) λ j j1 j2=>by
    have i1:j < ds.length:=by omega
    have i2:j < es.length:=by omega
    rw[aag i1,aag i2];have hd:=pN ds ds[j] (ada i1);exact all j ds[j] es[j] (by simp) (by simp) A.in1 s items[j] items'[j] (by omega) (dY.get (j:=j) l1 (by simp) (by simp)) (dY.get (j:=j) l2 (by simp) (by simp))
   have e5:((List.range (min items.size items'.size)).all (λ j=>match ds[j]?,es[j]? with | some x,some y=>decide (x=y) | _,_=>true) && items.size == items'.size)=decide (D.tup ds=D.tup es):=by
    have e0:(items.size == items'.size)=true:=by rw[beq_iff_eq];omega
    rw[e0,Bool.and_true,Bool.eq_iff_iff,decide_eq_true_eq,acr,D.tup.injEq];constructor
    ·intro h;apply List.ext_getElem hl;intro j j1 j2;have:=h j (abz.mpr (by omega));rw[aag j1,aag j2] at this;exact abx this
    ·rintro rfl j hj;cases ds[j]? with
     | none=>rfl
     | some x=>exact abt rfl
   rw[e5] at this;exact SeqAt.EqAt.of_refs hab this
 | .non,_,_=>λ _ _ _ _ _ hx _=>by rw[fM] at hx;exact hx.elim
 | .str _,_,_=>λ _ _ _ _ _ hx _=>by rw[fM] at hx;exact hx.elim
 | .int _,.bl _,hs=>by rw[sh,sh] at hs;cases hs
 | .int _,.tup _,hs=>by rw[sh,sh] at hs;cases hs
 | .int _,.non,_=>λ _ _ _ _ _ _ hy=>by rw[fM] at hy;exact hy.elim
 | .int _,.str _,_=>λ _ _ _ _ _ _ hy=>by rw[fM] at hy;exact hy.elim
 | .bl _,.int _,hs=>by rw[sh,sh] at hs;cases hs
 | .bl _,.tup _,hs=>by rw[sh,sh] at hs;cases hs
 | .bl _,.non,_=>λ _ _ _ _ _ _ hy=>by rw[fM] at hy;exact hy.elim
 | .bl _,.str _,_=>λ _ _ _ _ _ _ hy=>by rw[fM] at hy;exact hy.elim
 | .tup _,.int _,hs=>by rw[sh,sh] at hs;cases hs
 | .tup _,.bl _,hs=>by rw[sh,sh] at hs;cases hs
 | .tup _,.non,_=>λ _ _ _ _ _ _ hy=>by rw[fM] at hy;exact hy.elim
 | .tup _,.str _,_=>λ _ _ _ _ _ _ hy=>by rw[fM] at hy;exact hy.elim
theorem O9:∀ (ds es:List D),kK ds=kK es->∀ (j:Nat) (x y:D),ds[j]? = some x->es[j]? = some y->SA x y
 | [],_,_,j,x,y,h,_=>by simp at h
 | _::_,[],_,j,x,y,_,h=>by simp at h
 | d::ds,e::es,hs,j,x,y,h1,h2=>by
  rw[kK,kK] at hs;injection hs with s1 s2;have k0:=RX d e s1;have k1:=O9 ds es s2;cases j with
  | zero=>simp at h1 h2;rw[<- h1,<- h2];exact k0
  | succ j=>exact k1 j x y (by simpa using h1) (by simpa using h2)
end
def EO (prog:Program) (w:World) (d:D):Prop:=∀ (n:Nat) (A:Around) (E:Value->Shared->Prop) (s:Shared) (v:Value) (Q:Bool->Shared->Prop),d.depth<=n->fM s.heap d v->Q true s->wpAny (model prog w) A (eqIsQuiet n v) Q E s
section
variable {prog:Program}
mutual
theorem DP:∀ (d:D),EO prog w d
 | .int i=>λ n A E s v Q _ hx h=>by
  rw[fM] at hx;obtain⟨t,rfl⟩:=hx;rw[eqIsQuiet_byValue n (v:=.int i t) rfl];exact aaf h
 | .bl b=>λ n A E s v Q _ hx h=>by
  rw[fM] at hx;subst hx;rw[eqIsQuiet_byValue n (v:=.bool b) rfl];exact aaf h
 | .tup ds=>λ n A E s v Q hn hx h=>by
  have all:=zG ds;have hdep:D.depth (.tup ds)=bM ds+1:=by rw[D.depth]
  rw[hdep] at hn;rw[fM] at hx;obtain⟨a,o,items,m,rfl,ho,hc,hd,hi⟩:=hx;have hT:s.TypeIs (.ref a) "tuple" := ⟨o,ho,hc⟩;obtain⟨n',rfl⟩:∃ n',n=n'+1:=⟨n - 1,by omega⟩;unfold eqIsQuiet;refine aaa (wpAny_specialOf hT F.slot_tuple_eq.lookup ?_);show wpAny _ _ (isInstance (.ref a) (.type "tuple") >>= _) _ _ s;refine aaa (wpAny_isInstance hT isSubtype_tuple_tuple ?_);simp only [Bool.not_true,Bool.false_eq_true,if_false];refine aaa (wpAny_seqItems ho hd (aaa ?_));show wpAny _ _ (forIn items _ _) _ _ s;rw[<- Array.forIn_toList];refine wpAny_forIn_list _ (λ rest r s'=>r.1=none/\s'=s/\∃ left,dY s.heap left rest/\∀ d∈left,d∈ds) _ ?_ ?_ _ _ ⟨rfl,rfl,ds,hi,λ _ z=>z⟩
  ·rintro v rest r s' ⟨hr,rfl,left,hl,hsub⟩;cases left with
   | nil=>rw[dY] at hl;cases hl
   | cons k ks=>
    rw[dY] at hl;obtain⟨v',r',e,h1,l1⟩:=hl;cases e;have hk:=hsub k (by simp);refine aaa (all k hk n' _ _ _ _ _ (by have:=pN ds k hk;omega) h1 ?_);simp only [Bool.not_true,Bool.false_eq_true,if_false];exact aaf ⟨rfl,rfl,ks,l1,λ d hd=>hsub d (aap _ hd)⟩
  ·rintro⟨r1,r2⟩ s' ⟨hr,rfl,_⟩;simp only at hr;subst hr;exact aaf h
 | .non=>λ _ _ _ _ _ _ _ hx _=>by rw[fM] at hx;exact hx.elim
 | .str _=>λ _ _ _ _ _ _ _ hx _=>by rw[fM] at hx;exact hx.elim
theorem zG:∀ (ds:List D),∀ d∈ds,EO prog w d
 | [],_,h=>(nomatch h)
 | e::es,d,h=>by
  have h0:=DP e;have h1:=zG es;rcases aao.1 h with z | z
  ·rw[z];exact h0
  ·exact h1 d z
end
def eA (prog:Program) (w:World) (S:D):HeapKind prog w D where
 is:=λ h d a=>sh d=S/\d.depth<=7/\fM h d (.ref a)
 hash:=tL
 draws:=nI
 room:=λ A=>A.units+8 < cLine
 inj:=λ hx hy=>fM.inj (hx.1.trans hy.1.symm) hx.2.2 hy.2.2
 keeps:=λ {h h' k a d o es ep} x ho hd hs=>⟨x.1,x.2.1,fM.keeps (λ a' o' items n h1 h3=>by
  by_cases e:a'=d
  ·subst e;rw[ho] at h1;cases h1;rw[hd] at h3;cases h3
  ·exact (hs.2 a' e).trans h1) x.2.2⟩
 pyHash:=λ {A E s k a Q} hu hk h=>KG k A E s _ Q (by have:=hk.2.1;omega) hk.2.2 h
 eqBool:=λ {A E s x y a b Q} hu hx hy h=>RX x y (hx.1.trans hy.1.symm) A s _ _ (by have:=hx.2.1;omega) hx.2.2 hy.2.2 prog w E Q h
 quiet:=λ {A E s k a Q} hk h=>DP k 8 A E s _ Q (by have:=hk.2.1;omega) hk.2.2 h
end
mutual
def dF:D->Prop
 | .int _=>True
 | .bl _=>True
 | .tup ds=>cP ds
 | .non=>False
 | .str _=>False
def cP:List D->Prop
 | []=>True
 | d::ds=>dF d/\cP ds
end
section
variable {X:Cx}{pins:List (Addr×Obj)}{σ:St}{H:Hp}{s:Shared}
mutual
theorem Is.toU (I:Inv X pins σ H s):∀ (d:D) (v:V) (u:Value),dF d->Is X.K H d v->aX v u->fM s.heap d u
 | .int i,v,u,_,h,r=>by rw[Is] at h;subst h;rw[fM];exact r
 | .bl b,v,u,_,h,r=>by rw[Is] at h;subst h;rw[fM];exact r
 | .tup ds,v,u,p,h,r=>by
  rw[Is] at h;obtain⟨a,xs,rfl,q,l⟩:=h;cases r;obtain⟨its,rv,⟨o,e,c,n,d⟩,_⟩:=I.tuple q;rw[fM];exact⟨a,o,its.toArray,n,rfl,e,c,d,by simpa using IsL.toU I ds xs its (by rw[dF] at p;exact p) l rv⟩
 | .non,_,_,p,_,_=>by rw[dF] at p;exact p.elim
 | .str _,_,_,p,_,_=>by rw[dF] at p;exact p.elim
theorem IsL.toU (I:Inv X pins σ H s):∀ (ds:List D) (vs:List V) (us:List Value),cP ds->IsL X.K H ds vs->bL vs us->dY s.heap ds us
 | [],vs,us,_,h,r=>by rw[IsL] at h;subst h;cases r;rw[dY]
 | d::ds,vs,us,p,h,r=>by
  rw[IsL] at h;obtain⟨x,xs,rfl,h1,h2⟩:=h;rw[cP] at p;cases r with
  | cons r1 r2=>
   rw[dY];exact⟨_,_,rfl,Is.toU I d x _ p.1 h1 r1,IsL.toU I ds xs _ p.2 h2 r2⟩
end
end
structure KeyD (K:aab) (H:Hp) (S:D) (k:D) (v:V):Prop where
 sh:sh k=S
 dp:k.depth<=7
 pl:dF k
 is:Is K H k v
 tup:∃ b,v=.ref b
theorem KeyD.mono {K:aab}{H H':Hp}{S k:D}{v:V} (h:KeyD K H S k v) (t:bI K H H'):KeyD K H' S k v:=⟨h.sh,h.dp,h.pl,Is.mono t _ _ h.is,h.tup⟩
def mT (P:Program) (w:World) (S:D) (a:Addr) (xs:List (D×Addr×Value)) (h:Heap):Prop:=
 ∃ o es ep,h.get? a=some o/\o.ExactDict/\o.data=.dict es ep/\es.toList=xs.map (entryOfKey (eA P w S))/\(xs.map (·.1)).Nodup
abbrev KD (K:aab) (H:Hp) (S:D):List (D×V)->List (D×Addr×Value)->Prop:=Paired λ p q=>p.1=q.1/\KeyD K H S p.1 (.ref q.2.1)/\aX p.2 q.2.2
def bZ (P:Program) (w:World) (K:aab) (H:Hp) (a:Addr) (S:D) (kvs:List (D×V)):Prop:=
 (H a=some (.dK [])/\kvs=[])\/∃ xs,H a=some (.ext (mT P w S a xs))/\(a == sysModules)=false/\kvs.length<=sizeLine/\KD K H S kvs xs
section
variable {H H':Hp}{a:Addr}{S:D}{kvs:List (D×V)}
theorem KD.mono {xs:List (D×Addr×Value)} (h:KD K H S kvs xs) (t:bI K H H'):KD K H' S kvs xs:=Paired.mapP h λ p q z=>⟨z.1,z.2.1.mono t,z.2.2⟩
theorem bZ.mono (h:bZ P w K H a S kvs) (t:bI K H H') (e:∀ o,H a=some o->H' a=some o):bZ P w K H' a S kvs:=by
 rcases h with ⟨h,z⟩ | ⟨xs,h,y,z,p⟩
 ·exact .inl ⟨e _ h,z⟩
 ·exact .inr ⟨xs,e _ h,y,z,KD.mono p t⟩
theorem bZ.same (h:bZ P w K H a S kvs) (m:aG H H'):bZ P w K H' a S kvs:=h.mono m.ts λ o e=>m _ _ e
theorem bZ.some (h:bZ P w K H a S kvs):∃ o,H a=some o:=by
 rcases h with ⟨h,_⟩ | ⟨_,h,_⟩ <;> exact⟨_,h⟩
theorem bZ.mut (h:bZ P w K H a S kvs):lS (H a):=by
 rcases h with ⟨h,_⟩ | ⟨_,h,_⟩ <;> (rw[h];exact trivial)
theorem bZ.new (h:H a=Option.some (.dK [])):bZ P w K H a S []:=.inl ⟨h,rfl⟩
theorem KD.val {xs:List (D×Addr×Value)} (k:D):∀ {kvs:List (D×V)},KD K H S kvs xs->nL (cY kvs k) ((atKey xs k).map (·.2))
 | [],h=>by cases h;exact trivial
 | p::r,h=>by
  cases h with
  | cons h1 h2=>
   rename_i q m
   by_cases e:p.1=k
   ·rw[dH e];have:atKey (q::m) k=Option.some q.2:=by unfold atKey;rw[List.find?_cons_of_pos (by rw[<- h1.1];exact abt e)];rfl
    rw[this];exact h1.2.2
   ·rw[cQ e];have:atKey (q::m) k=atKey m k:=by unfold atKey;rw[List.find?_cons_of_neg (by rw[<- h1.1];simpa using e)]
    rw[this];exact KD.val k h2
theorem KD.put {xs:List (D×Addr×Value)}{k:D}{v:V}{b:Addr}{u:Value} (h:KD K H S kvs xs) (hk:KeyD K H S k (.ref b)) (r:aX v u):KD K H S (fG kvs k v) (storedH xs k b u):=by
 unfold fG storedH;have e:(kvs.any λ kv=>decide (kv.1=k))=(atKey xs k).isSome:=by
  rw[iT,(KD.val k h).isSome_eq,Option.isSome_map]
 rw[e]
 by_cases c:(atKey xs k).isSome=true
 ·rw[if_pos c,if_pos c];clear e c
  induction h with
  | nil=>exact .nil
  | cons h1 h2 ih=>
   rename_i p q l m
   refine .cons ?_ ih;unfold putAt;dsimp only
   by_cases z:p.1=k
   ·rw[if_pos z,if_pos (by rw[<- h1.1];exact z)];exact⟨h1.1,h1.2.1,r⟩
   ·rw[if_neg z,if_neg (by rw[<- h1.1];exact z)];exact h1
 ·rw[if_neg c,if_neg c];clear e c
  induction h with
  | nil=>exact .cons ⟨rfl,hk,r⟩ .nil
  | cons h1 h2 ih=>exact .cons h1 ih
end
section
variable {X:Cx}{pins:List (Addr×Obj)}{σ:St}{H:Hp}{s:Shared}{a:Addr}{S:D}{kvs:List (D×V)}
theorem KD.keys (I:Inv X pins σ H s):∀ {kvs:List (D×V)}{xs:List (D×Addr×Value)},KD X.K H S kvs xs->∀ x∈xs,(eA X.prog X.w S).is s.heap x.1 x.2.1
 | _,_,.nil,x,hx=>by simp at hx
 | _,_,.cons h1 h2,x,hx=>by
  rcases aao.mp hx with e | hx
  ·subst e;have k:=h1.2.1;rw[h1.1] at k;exact⟨k.sh,k.dp,Is.toU I _ _ _ k.pl k.is rfl⟩
  ·exact KD.keys I h2 x hx
theorem bZ.at (I:Inv X pins σ H s) (g:bZ X.prog X.w X.K H a S kvs):(a == sysModules)=false/\kvs.length<=sizeLine/\∃ xs,KD X.K H S kvs xs/\s.heap.DictOfH (eA X.prog X.w S) a xs:=by
 rcases g with ⟨e,rfl⟩ | ⟨xs,e,y,z,p⟩
 ·obtain⟨z,hd,vs,rel,o,es,ep,h1,h2,h3,_,h4,_⟩:=EE I.hok e;cases rel;have e0:es.toList=[]:=by
   revert h4;generalize es.toList=l;intro h4;cases h4;rfl
  exact⟨hd,abw _,[],.nil,o,es,ep,h1,h2,h3,by rw[e0];rfl,λ x hx=>(nomatch hx),List.nodup_nil⟩
 ·obtain⟨⟨o,es,ep,h1,h2,h3,h4,h5⟩,_⟩:=(show bQ X.prog X.w H s.heap a (.ext (mT X.prog X.w S a xs)) from I.hok a _ e);exact⟨y,z,xs,p,o,es,ep,h1,h2,h3,h4,KD.keys I p,h5⟩
theorem KeyD.at (I:Inv X pins σ H s) {k:D}{b:Addr} (h:KeyD X.K H S k (.ref b)):(eA X.prog X.w S).is s.heap k b:=⟨h.sh,h.dp,Is.toU I _ _ _ h.pl h.is rfl⟩
def RG (P:Program) (w:World) (K:aab):R2:=λ x y H Q=>∃ a S kvs k v,x=.ref a/\bZ P w K H a S kvs/\KeyD K H S k y/\cY kvs k=some v/\Q v H
theorem ix_D (hu:X.A.units+64 < cLine):HL X (RG X.prog X.w X.K):=by
 intro value slice pins s σ H x y v u Q I rx ry h hs;obtain⟨a,S,kvs,k,z,rfl,g,hk,hv,q⟩:=h;obtain⟨b,rfl⟩:=hk.tup;cases rx;cases ry;obtain⟨hd,hz,xs,p,dd⟩:=g.at I;obtain⟨w',hw,rw'⟩:=nL.some_of (v:=z) (o:=(atKey xs k).map (·.2)) (by rw[<- hv];exact KD.val k p);obtain⟨pp,hp,hp2⟩:=aas.mp hw;refine subscriptTail_builtinR (x:=w') dd.typeIs PySem.F.slot_dict_getitem.lookup
  (wpAny_getItem_heap (knd:=eA X.prog X.w S) (Q:=λ r s'=>r=w'/\EP X pins σ Q r s') (show X.A.in1.units+8 < cLine by show X.A.units+1+8 < cLine;omega) (hk.at I) dd hp ⟨hp2,?_⟩) hs
 rw[hp2];exact⟨z,H,I.tok _,rw',q⟩
def IN (P:Program) (w:World) (K:aab) (td ty tv:TE):TS:=λ D σ H=>tv σ H λ v H1=>td σ H1 λ x H2=>ty σ H2 λ y H3=>∃ a S kvs k,x=.ref a/\bZ P w K H3 a S kvs/\KeyD K H3 S k y/\kvs.length < sizeLine/\
 ∀ H4,cB a H3 H4->bZ P w K H4 a S (fG kvs k v)->D.nx σ H4
theorem IX {o i value:Expr}{pos pos':Pos}{td ty tv:TE} (hu:X.A.units+64 < cLine) (ho:PE X o td) (hi:PE X i ty) (hv:PE X value tv) (hs:swapsWith value (some (.Subscript o i pos')) pos.line X.env=pure false) :
  PS X (.Assign [.Subscript o i pos'] value pos) (IN X.prog X.w X.K td ty tv):=by
 intro pins s σ H D I h;refine wpAny_Assign_Subscript (cK (hv pins s σ H _ I h) λ r s1 ⟨v,H1,I1,rv,q1⟩=>cK (ho pins s1 σ H1 _ I1 q1) λ u s2 ⟨x,H2,I2,rx,q2⟩=>cK (hi pins s2 σ H2 _ I2 q2) λ iv s3 ⟨y,H3,I3,ry,a,S,kvs,k,ex,g,hk,hl,q3⟩=>?_) hs;subst ex;obtain rfl:u=Value.ref a:=rx;obtain⟨b,rfl⟩:=hk.tup;cases ry;obtain⟨hd,hz,xs,p,dd⟩:=g.at I3;have hz':xs.length<=sizeLine:=by rw[<- Paired.length p];exact hz
 have hlp:(fG kvs k v).length<=sizeLine:=by have:=eP kvs k v;omega
 refine wpAny_setItem_heap (knd:=eA X.prog X.w S) (hsz:=hz') (show X.A.in1.units+8 < cLine by show X.A.units+1+8 < cLine;omega) (hk.at I3) dd λ h' dd' hsb=>?_;obtain⟨qo,es,ep,hq,h2,h3,h4,_,h5⟩:=dd';have mu:=g.mut;have bt:cB a H3 (upd H3 a (.ext (mT X.prog X.w S a (storedH xs k b r)))):=cB.upd;have ts:=bt.ts (K:=X.K) mu;refine⟨σ,_,iK I3 mu hsb ⟨qo,hq⟩ (ob:=.ext (mT X.prog X.w S a (storedH xs k b r))) ⟨⟨qo,es,ep,hq,h2,h3,h4,h5⟩,⟨qo,hq⟩,λ h1 h2' ⟨o',es',ep',z1,z⟩ kk=>⟨o',es',ep',kk _ z1,z⟩⟩,q3 _ bt (.inr ⟨_,aB,hd,hlp,KD.mono (KD.put p hk rv) ts⟩)⟩
theorem K3 {P:Program}{w:World}{K:aab} (hP:X.prog=P) (hw:X.w=w) (hK:X.K=K) (hu:X.A.units+64 < cLine):HL X (RG P w K):=by subst hP hw hK;exact ix_D hu
theorem FS {P:Program}{w:World}{K:aab}{o i value:Expr}{pos pos':Pos}{td ty tv:TE} (hP:X.prog=P) (hw:X.w=w) (hK:X.K=K) (hu:X.A.units+64 < cLine) (ho:PE X o td) (hi:PE X i ty) (hv:PE X value tv)
  (hs:swapsWith value (some (.Subscript o i pos')) pos.line X.env=pure false):PS X (.Assign [.Subscript o i pos'] value pos) (IN P w K td ty tv):=by subst hP hw hK;exact IX hu ho hi hv hs
end
end L2
namespace Tw
open PySem L2
structure Sta where
 held:List Int
 coming:List Int
 doors:List Bool
def kH (net:Net):Sta:=⟨cU net.vs.length,cU net.vs.length,net.sps.map (·.2.2)⟩
def cR (s:Sta):L2.D:=OU s.held s.coming s.doors
theorem wH (n:Nat):(cU n).length=n:=by simp [cU]
def IH (net:Net):L2.D:=.tup [.tup (List.replicate net.vs.length (.int 0)),.tup (List.replicate net.vs.length (.int 0)),.tup (List.replicate net.sps.length (.bl false))]
theorem nZ:∀ xs:List Int,kK (xs.map L2.D.int)=List.replicate xs.length (.int 0)
 | []=>by rw[acl,kK];rfl
 | x::xs=>by rw[aba,kK,sh,nZ xs];rfl
theorem wX:∀ xs:List Bool,kK (xs.map L2.D.bl)=List.replicate xs.length (.bl false)
 | []=>by rw[acl,kK];rfl
 | x::xs=>by rw[aba,kK,sh,wX xs];rfl
theorem iH:∀ xs:List Int,cP (xs.map L2.D.int)
 | []=>by rw[acl,cP];trivial
 | x::xs=>by rw[aba,cP,dF];exact⟨trivial,iH xs⟩
theorem mY:∀ xs:List Bool,cP (xs.map L2.D.bl)
 | []=>by rw[acl,cP];trivial
 | x::xs=>by rw[aba,cP,dF];exact⟨trivial,mY xs⟩
theorem BN {net:Net}{s:Sta} (ok:StOk net s.held s.coming s.doors):sh (cR s)=IH net:=by
 show sh (.tup [.tup (s.held.map L2.D.int),.tup (s.coming.map L2.D.int),.tup (s.doors.map L2.D.bl)])=_;rw[sh,kK,kK,kK,kK,sh,sh,sh,nZ,nZ,wX,ok.h,ok.c,ok.d];rfl
theorem pD (s:Sta):dF (cR s):=by
 show dF (.tup [.tup (s.held.map L2.D.int),.tup (s.coming.map L2.D.int),.tup (s.doors.map L2.D.bl)]);rw[dF,cP,cP,cP,cP,dF,dF,dF];exact⟨iH _,iH _,mY _,trivial⟩
theorem GN (s:Sta):(cR s).depth<=7:=by
 show (L2.D.tup [.tup (s.held.map L2.D.int),.tup (s.coming.map L2.D.int),.tup (s.doors.map L2.D.bl)]).depth<=7;rw[L2.D.depth,tW];decide
theorem xR {K:aab}{H:Hp}{net:Net}{s:Sta}{v:V} (ok:StOk net s.held s.coming s.doors) (h:Is K H (cR s) v):KeyD K H (IH net) (cR s) v:=by
 refine⟨BN ok,GN s,pD s,h,?_⟩;obtain⟨a,xs,rfl,_⟩:=(show Is K H (.tup [.tup (s.held.map L2.D.int),.tup (s.coming.map L2.D.int),.tup (s.doors.map L2.D.bl)]) v from h).un;exact⟨a,rfl⟩
theorem eN (x y:Sta) (h:cR x=cR y):x=y:=by
 obtain⟨a,b,c⟩:=x;obtain⟨a',b',c'⟩:=y;have h':L2.D.tup [.tup (a.map L2.D.int),.tup (b.map L2.D.int),.tup (c.map L2.D.bl)]=.tup [.tup (a'.map L2.D.int),.tup (b'.map L2.D.int),.tup (c'.map L2.D.bl)]:=h;injection h' with h';injection h' with h1 h';injection h' with h2 h';injection h' with h3 _;injection h1 with h1;injection h2 with h2;injection h3 with h3;have i1:∀ {p q:List Int},p.map L2.D.int=q.map L2.D.int->p=q:=λ {p q} h=>(List.map_inj_right (λ x y h=>by injection h)).1 h;have i2:∀ {p q:List Bool},p.map L2.D.bl=q.map L2.D.bl->p=q:=λ {p q} h=>(List.map_inj_right (λ x y h=>by injection h)).1 h;rw[i1 h1,i1 h2,i2 h3]
abbrev Fs (α:Type):=List (α×List Int)
inductive BRes (α:Type) where
 | ends (row:List Int) (fs:Fs α)
 | many
 | on (fs:Fs α)
section
variable {α:Type}(dD:α->L2.D)(nxt:α->Int->α)(fin:α->Int->Bool)(most lim:Nat)
def dI (fs:Fs α) (k:L2.D):Option (List Int):=(fs.find? λ p=>decide (dD p.1=k)).map (·.2)
def pR (d:α) (r:List Int):Nat->Int->Fs α->BRes α
 | 0,_,fs=>.on fs
 | l+1,a,fs=>if fin d a=true then .ends (r++[a]) fs else if (dI dD fs (dD (nxt d a))).isSome=true then pR d r l (a+1) fs else if lim<=fs.length then .many else pR d r l (a+1) (fs++[(nxt d a,r++[a])])
def iP:Nat->Nat->Fs α->BRes α
 | 0,_,fs=>.on fs
 | n+1,p,fs=>match fs[p]? with
  | none=>.on fs
  | some d=>match pR dD nxt fin lim d.1 ((dI dD fs (dD d.1)).getD []) (most+1) 0 fs with
   | .on fs'=>iP n (p+1) fs'
   | r=>r
def HG (first:α):BRes α:=iP dD nxt fin most lim (lim+1) 0 [(first,[])]
def OB (p:Nat):BRes α->BRes α
 | .on fs=>iP dD nxt fin most lim (lim - p) (p+1) fs
 | r=>r
variable {dD nxt fin most lim}
theorem EZ {fs:Fs α}{k:L2.D}{r:List Int} (q:α×List Int) (h:dI dD fs k=some r):dI dD (fs++[q]) k=some r:=by
 unfold dI at h ⊢;rw[List.find?_append];cases e:fs.find? λ p=>decide (dD p.1=k) with
 | none=>rw[e] at h;cases h
 | some x=>rw[e] at h;exact h
theorem hU {fs:Fs α}{d:α}{r:List Int} (h:(d,r)∈fs):(dI dD fs (dD d)).isSome=true:=by
 unfold dI;rw[Option.isSome_map,List.find?_isSome];exact⟨_,h,by simp⟩
theorem gW {fs:Fs α}{k:L2.D} (h:(dI dD fs k).isSome=true):∃ q∈fs,dD q.1=k:=by
 unfold dI at h;rw[Option.isSome_map,List.find?_isSome] at h;obtain⟨q,hq,e⟩:=h;exact⟨q,hq,by simpa using e⟩
theorem oR {d:α}{r:List Int}{l:Nat}{a:Int}{fs:Fs α} (h:fin d a=true):pR dD nxt fin lim d r (l+1) a fs=.ends (r++[a]) fs:=if_pos h
theorem mC {d:α}{r:List Int}{l:Nat}{a:Int}{fs:Fs α} (h:fin d a=false) (h2:(dI dD fs (dD (nxt d a))).isSome=true):pR dD nxt fin lim d r (l+1) a fs=pR dD nxt fin lim d r l (a+1) fs:=by
 rw[pR,if_neg (by rw[h];decide),if_pos h2]
theorem jH {d:α}{r:List Int}{l:Nat}{a:Int}{fs:Fs α} (h:fin d a=false) (h2:(dI dD fs (dD (nxt d a))).isSome=false) (h3:lim<=fs.length):pR dD nxt fin lim d r (l+1) a fs=.many:=by
 rw[pR,if_neg (by rw[h];decide),if_neg (by rw[h2];decide),if_pos h3]
theorem mD {d:α}{r:List Int}{l:Nat}{a:Int}{fs:Fs α} (h:fin d a=false) (h2:(dI dD fs (dD (nxt d a))).isSome=false) (h3:fs.length < lim):pR dD nxt fin lim d r (l+1) a fs=pR dD nxt fin lim d r l (a+1) (fs++[(nxt d a,r++[a])]):=by
 rw[pR,if_neg (by rw[h];decide),if_neg (by rw[h2];decide),if_neg (by omega)]
theorem HH {n p:Nat}{fs:Fs α} (h:fs.length<=p):iP dD nxt fin most lim n p fs=.on fs:=by
 cases n with
 | zero=>rfl
 | succ n=>rw[iP,acg h]
theorem HI {n p:Nat}{fs:Fs α}{d:α}{r r0:List Int} (h:fs[p]? = some (d,r0)) (hr:dI dD fs (dD d)=some r) (hn:n=lim - p):iP dD nxt fin most lim (n+1) p fs=OB dD nxt fin most lim p (pR dD nxt fin lim d r (most+1) 0 fs):=by
 subst hn;rw[iP,h];dsimp only;rw[hr];show (match pR dD nxt fin lim d r (most+1) 0 fs with | .on fs'=>_ | r=>r)=_;cases pR dD nxt fin lim d r (most+1) 0 fs <;> rfl
def S6 (first:α) (fs:Fs α):Prop:=(∃ q∈fs,dD q.1=dD first)/\∀ q∈fs,∀ a:Nat,a<=most->fin q.1 a=false/\(dI dD fs (dD (nxt q.1 a))).isSome=true
theorem LA {d:α}{r:List Int}:∀ (l:Nat) (a:Nat) (fs fs':Fs α),pR dD nxt fin lim d r l a fs=.on fs'->(∃ more,fs'=fs++more)/\(fs.length<=lim->fs'.length<=lim)/\∀ b:Nat,a<=b->b < a+l->fin d b=false/\(dI dD fs' (dD (nxt d b))).isSome=true:=by
 intro l
 induction l with
 | zero=>
  intro a fs fs' h;cases h;exact⟨⟨[],by simp⟩,id,λ b h1 h2=>by omega⟩
 | succ l ih=>
  intro a fs fs' h;cases hf:fin d a with
  | true=>rw[oR hf] at h;cases h
  | false=>
   have grow:∀ {fs1:Fs α}{k:L2.D},(dI dD fs1 k).isSome=true->(∃ more,fs'=fs1++more)->(dI dD fs' k).isSome=true:=λ {fs1 k} h1 ⟨more,e⟩=>by
    subst e;obtain⟨q,hq,e⟩:=gW h1;have:=hU (dD:=dD) (d:=q.1) (r:=q.2) (fs:=fs1++more) (aby _ hq);rw[e] at this;exact this
   cases hv:(dI dD fs (dD (nxt d a))).isSome with
   | true=>
    rw[mC hf hv] at h;obtain⟨m,hl,hb⟩:=ih (a+1) fs fs' h;refine⟨m,hl,λ b h1 h2=>?_⟩;rcases (show b=a\/a+1<=b by omega) with rfl | h3
    ·exact⟨hf,grow hv m⟩
    ·exact hb b h3 (by omega)
   | false=>
    by_cases hl:lim<=fs.length
    ·rw[jH hf hv hl] at h;cases h
    ·rw[mD hf hv (by omega)] at h;obtain⟨⟨more,m⟩,hl',hb⟩:=ih (a+1) _ fs' h;refine⟨⟨_,by rw[m,acv]⟩,λ _=>hl' (by simp;omega),λ b h1 h2=>?_⟩;rcases (show b=a\/a+1<=b by omega) with rfl | h3
     ·refine⟨hf,grow (fs1:=fs++[(nxt d b,r++[(b:Int)])]) (hU (r:=r++[(b:Int)]) (by simp)) ⟨more,m⟩⟩
     ·exact hb b h3 (by omega)
theorem NH:∀ (n p:Nat) (fs fs':Fs α),lim < p+n->p<=fs.length->fs.length<=lim->(∀ (i:Nat) q,i < p->fs[i]? = some q->∀ a:Nat,a<=most->fin q.1 a=false/\(dI dD fs (dD (nxt q.1 a))).isSome=true)->
  iP dD nxt fin most lim n p fs=.on fs'->(∃ more,fs'=fs++more)/\∀ q∈fs',∀ a:Nat,a<=most->fin q.1 a=false/\(dI dD fs' (dD (nxt q.1 a))).isSome=true:=by
 intro n
 induction n with
 | zero=>intro p fs fs' h1 h2 h3 _ _;omega
 | succ n ih=>
  intro p fs fs' h1 h2 h3 hi h;rw[iP] at h;cases hd:fs[p]? with
  | none=>
   rw[hd] at h;cases h;have hp:=List.getElem?_eq_none_iff.mp hd;refine⟨⟨[],by simp⟩,λ q hq=>?_⟩;obtain⟨i,hi'⟩:=abh.1 hq;have:=(aae.mp hi').1;exact hi i q (by omega) hi'
  | some d=>
   rw[hd] at h;dsimp only at h;cases hb:pR dD nxt fin lim d.1 ((dI dD fs (dD d.1)).getD []) (most+1) 0 fs with
   | many=>rw[hb] at h;cases h
   | ends row f=>rw[hb] at h;cases h
   | on fs1=>
    rw[hb] at h;obtain⟨⟨more,m⟩,hl,hq⟩:=LA (most+1) 0 fs fs1 hb;have hpl:=(aae.mp hd).1;have grow:∀ {k:L2.D},(dI dD fs k).isSome=true->(dI dD fs1 k).isSome=true:=λ {k} h1=>by
     subst m;obtain⟨q,hq,e⟩:=gW h1;have:=hU (dD:=dD) (d:=q.1) (r:=q.2) (fs:=fs++more) (aby _ hq);rw[e] at this;exact this
    have key:∀ (i:Nat) q,i < p+1->fs1[i]? = some q->∀ a:Nat,a<=most->fin q.1 a=false/\(dI dD fs1 (dD (nxt q.1 a))).isSome=true:=λ i q h4 h5 a ha=>by
     rcases (show i < p\/i=p by omega) with h6 | rfl
     ·rw[m,abg (by omega)] at h5;obtain⟨h7,h8⟩:=hi i q h6 h5 a ha;exact⟨h7,grow h8⟩
     ·rw[m,abg hpl,hd] at h5;cases h5;exact hq a (abw _) (by omega)
    obtain⟨⟨more2,m2⟩,hc⟩:=ih (p+1) fs1 fs' (by omega) (by rw[m,aau];omega) (hl h3) key h;exact⟨⟨more++more2,by rw[m2,m,acv]⟩,hc⟩
theorem oQ {first:α}{fs:Fs α} (h1:1<=lim) (h:HG dD nxt fin most lim first=.on fs):S6 (dD:=dD) (nxt:=nxt) (fin:=fin) (most:=most) first fs:=by
 obtain⟨⟨more,m⟩,hc⟩:=NH (lim+1) 0 [(first,[])] fs (by omega) (by simp) (by simpa using h1) (λ i q h=>absurd h (adb _)) h;exact⟨⟨(first,[]),by rw[m];simp,rfl⟩,hc⟩
end
end Tw
namespace L2
open PySem PySem.Spec PyProof.Rows TwZ
section
variable {X:Cx}
def NV (P:Program) (w:World) (K:aab):R2:=λ x y H Q=>∃ a S kvs k,y=.ref a/\bZ P w K H a S kvs/\KeyD K H S k x/\Q (.bl (!(cY kvs k).isSome)) H
theorem MM (hu:X.A.units+64 < cLine):h9 X (compareOp .NotIn) (NV X.prog X.w X.K):=by
 intro pins s σ H x y v u Q I rx ry h;obtain⟨a,S,kvs,k,rfl,g,hk,q⟩:=h;obtain⟨b,rfl⟩:=hk.tup;cases rx;cases ry;obtain⟨hd,hz,xs,p,dd⟩:=g.at I;refine wpAny_notIn_heap (knd:=eA X.prog X.w S) (show X.A.in1.units+8 < cLine by show X.A.units+1+8 < cLine;omega) (hk.at I) hd dd ?_;have e:=(KD.val k p).isSome_eq;rw[Option.isSome_map] at e;rw[<- e];exact⟨.bl _,H,I.tok _,rfl,q⟩
theorem JI {P:Program}{w:World}{K:aab} (hP:X.prog=P) (hw:X.w=w) (hK:X.K=K) (hu:X.A.units+64 < cLine):h9 X (compareOp .NotIn) (NV P w K):=by subst hP hw hK;exact MM hu
def one1 (R:V->V->Hp->Prop):List (V×V)->Hp->Prop
 | [(x,v)],H=>R x v H
 | _,_=>False
def IA (P:Program) (w:World) (K:aab) (tk tv:TE):TE:=λ σ H Q=>∀ p,H p=none->tk σ (upd H p (.dK [])) λ x H1=>tv σ H1 λ v H2=>H2 p=some (.dK [])/\∃ S k,KeyD K H2 S k x/\∀ H3,cB p H2 H3->bZ P w K H3 p S [(k,v)]->Q (.ref p) H3
theorem JC {k v:Expr}{pos:Pos}{tk tv:TE} (hu:X.A.units+64 < cLine) (hk:PE X k tk) (hv:PE X v tv):PE X (.Dict [some k] [v] pos) (IA X.prog X.w X.K tk tv):=by
 intro pins s σ H Q I q;have hn:=I.hok.fresh (aal s.heap.objs.size);have I1:=I.laid (a:=s.heap.objs.size) (o:=.dK []) (h':=s.heap.push { cls:=.type "dict",data:=.dict #[] }) (t':=s.toks) (λ _ _ q=>aac _ q) (aal _) (tV s.heap I.big);have hp:PPs X pos [some k] [v] [(tk,tv)]:=IY hk hv MC;refine wpAny_Dict_any rfl rfl (by simp) (show 1<=15 by decide) (cK (hp pins _ σ _ (one1 λ x v H2=>H2 s.heap.objs.size=some (.dK [])/\∃ S k,KeyD X.K H2 S k x/\∀ H3,cB s.heap.objs.size H2 H3->bZ X.prog X.w X.K H3 s.heap.objs.size S [(k,v)]->Q (.ref s.heap.objs.size) H3) I1 (q _ hn)) λ ws s2 ⟨ps,H2,I2,rel,h⟩=>?_);obtain _ | ⟨⟨x,y⟩,_ | ⟨_,_⟩⟩:=ps
 ·exact h.elim
 ·obtain⟨e0,S,k',hk',q2⟩:=h;cases rel with
  | @cons _ wv _ _ r0 r1=>
   cases r1;obtain⟨u,r⟩:=wv;obtain⟨b,rfl⟩:=hk'.tup;have ru:aX (.ref b) u:=r0.1;have rr:aX y r:=r0.2;cases ru;have g:bZ X.prog X.w X.K H2 s.heap.objs.size S []:=bZ.new e0;obtain⟨hd,hz,xs,p,dd⟩:=g.at I2;cases p;refine aaa (aaa (wpAny_dictSet_heap (knd:=eA X.prog X.w S) (hsz:=abw _) (show X.A.units+8 < cLine by omega) (hk'.at I2) dd λ h' dd' hsb=>aaf ?_));obtain⟨qo,es,ep,hq,h2,h3,h4,_,h5⟩:=dd';have mu:=g.mut;have bt:cB s.heap.objs.size H2 (upd H2 s.heap.objs.size (.ext (mT X.prog X.w S s.heap.objs.size (storedH [] k' b r)))):=cB.upd;have ts:=bt.ts (K:=X.K) mu;refine aaf (show EP X pins σ Q _ _ from ⟨.ref s.heap.objs.size,_,iK I2 mu hsb ⟨qo,hq⟩ (ob:=.ext (mT X.prog X.w S s.heap.objs.size (storedH [] k' b r))) ⟨⟨qo,es,ep,hq,h2,h3,h4,h5⟩,⟨qo,hq⟩,λ h1 h2' ⟨o',es',ep',z1,z⟩ kk=>⟨o',es',ep',kk _ z1,z⟩⟩,rfl,q2 _ bt (.inr ⟨_,aB,hd,(by rw[sizeLine_eq];show 1<=_;decide),KD.mono (KD.put (kvs:=[]) .nil hk' rr) ts⟩)⟩)
 ·exact h.elim
theorem FU {P:Program}{w:World}{K:aab}{k v:Expr}{pos:Pos}{tk tv:TE} (hP:X.prog=P) (hw:X.w=w) (hK:X.K=K) (hu:X.A.units+64 < cLine) (hk:PE X k tk) (hv:PE X v tv):PE X (.Dict [some k] [v] pos) (IA P w K tk tv):=by subst hP hw hK;exact JC hu hk hv
def QX (i j k:Nat) (ta:TA):TS:=λ D σ H=>ta σ H λ vs H1=>∃ v w z,vs=[v,w,z]/\D.nx (((σ.set i (some v)).set j (some w)).set k (some z)) H1
theorem M9 {i j k:Nat}{x y z:Str}{a b c:Expr}{ta:TA}{pos px py pz pt:Pos}{kt k2 pt2} (hc:X.calm=true) (hN:X.N.Nodup) (hi:X.N[i]? = some x) (hj:X.N[j]? = some y) (hk:X.N[k]? = some z) (hij:i≠j) (hik:i≠k) (hjk:j≠k)
  (hx:X.env.scope.names.lookup x=some .local) (hy:X.env.scope.names.lookup y=some .local) (hz:X.env.scope.names.lookup z=some .local) (ha:PA X [a,b,c] ta)
  (hw:swappedStores [.Tuple [.Name x px,.Name y py,.Name z pz] kt pt] (.Tuple [a,b,c] k2 pt2) X.env=pure (some [x,y,z]))
  (hs:swapsWithSole [.Tuple [.Name x px,.Name y py,.Name z pz] kt pt] (.Tuple [a,b,c] k2 pt2) pos.line X.env=pure false:=by rfl) :
  PS X (.Assign [.Tuple [.Name x px,.Name y py,.Name z pz] kt pt] (.Tuple [a,b,c] k2 pt2) pos) (QX i j k ta):=by
 intro pins s σ H D I h;rw[exec_Assign_arm];refine aaa (wpAny_standAt ?_);rw[hs];refine aaa (aaf ?_);rw[if_neg (by decide)];refine aaa (Tuple_ (cK (ha _ pins s σ H _ I h) λ us s1 ⟨vs,H1,I1,r1,q1⟩=>?_));obtain⟨v,w,w2,e1,q1⟩:=q1;subst e1;obtain⟨u1,u2,u3,rfl,rv,rw',rz⟩:∃ u1 u2 u3,us=[u1,u2,u3]/\aX v u1/\aX w u2/\aX w2 u3:=by
  cases r1 with
  | cons p q=>
   cases q with
   | cons p' q'=>
    cases q' with
    | cons p2 q2=>
     cases q2;exact⟨_,_,_,rfl,p,p',p2⟩
 refine wpAny_newObj_type ?_ (by show 3<=sizeLine;decide);have I2:Inv X pins σ H1 { s1 with heap:=s1.heap.push { cls:=.type "tuple",data:=.seq [u1,u2,u3].toArray } }:=I1.kept (t':=s1.toks) λ b o e=>aac _ e;rw[hw];refine aaa (aaf ?_);show wpAny (model X.prog X.w) X.A (do rule "assign.swapped-stores";let items <- unpackItems (.ref s1.heap.objs.size) 3 none;assignInOrder [λ v=>bindName X.env z v,λ v=>bindName X.env y v,λ v=>bindName X.env x v] items.reverse;pure Flow.next) _ _ _;refine aaa (acz (aaa (unpackItems_tuple (items:=#[u1,u2,u3]) (I.ok.hd hc) (IsTup.new s1.heap _) λ h' hx'=>?_)));have I3:=I2.kept (h':=h') (t':=s1.toks) λ b o e=>hx' b o (abc (aaq e)) e;show wpAny _ _ (assignInOrder [λ v=>bindName X.env z v,λ v=>bindName X.env y v,λ v=>bindName X.env x v] [u3,u2,u1] >>= λ _=>pure Flow.next) _ _ _;refine aaa (assignInOrder_cons (wpAny_bindName (eX I3 hN hk (.inl hz) rz (λ s2 I4=>?_) (.inr hz))));refine assignInOrder_cons (wpAny_bindName (eX I4 hN hj (.inl hy) rw' (λ s3 I5=>?_) (.inr hy)));refine assignInOrder_cons (wpAny_bindName (eX I5 hN hi (.inl hx) rv (λ s4 I6=>assignInOrder_nil (aaf ?_)) (.inr hx)));have e6:((σ.set k (some w2)).set j (some w)).set i (some v)=((σ.set i (some v)).set j (some w)).set k (some w2):=by
  rw[List.set_comm _ _ (Ne.symm hij),List.set_comm (some w2) (some v) (Ne.symm hik),List.set_comm (some w2) (some w) (Ne.symm hjk)]
 rw[e6] at I6;exact⟨_,H1,I6,q1⟩
theorem lV {st:Stmt}{t:TS} (h:∀ pn:List (Addr×Obj),PS (X.within pn λ _ _=>False) st t):PS X st t:=by
 intro pins s σ H D I h1;refine abl (h (X.pn++pins) [] s σ H D I.within h1) (λ f af hf=>?_) λ _ _ z=>z.elim;cases f with
 | next=>obtain⟨Z,H',J,q⟩:=hf;exact⟨Z,H',J.unwithin,q⟩
 | brk=>obtain⟨Z,H',J,q⟩:=hf;exact⟨Z,H',J.unwithin,q⟩
 | cont=>obtain⟨Z,H',J,q⟩:=hf;exact⟨Z,H',J.unwithin,q⟩
 | ret u=>obtain⟨v,Z,H',J,r,q⟩:=hf;exact⟨v,Z,H',J.unwithin,r,q⟩
end
abbrev QE:=Shared->List Env->Sp
structure FnOkS (P:Program) (w:World) (K:aab) (mg:Str->Option Value) (base:Heap) (CX:DE) (k:Nat) (f:Addr) (fd:FuncData) (ps:List Str) (sp:QE):Prop where
 len:∀ s o vs H Q E,sp s o vs H Q E->vs.length=ps.length
 run:∀ (A:Around) (outer:List Env) (s:Shared) (H:Hp) (args:Args) (us:List Value) (vs:List V) (Q:VK) (E:XK),Room k A->Env0 P w K mg base A outer s H->BindsTo s fd args (ps.zip us)->bL vs us->sp s outer vs H Q E->
  codeAny (model P w) A (.call (.ref f) args) (CR CX outer P w H s Q E) s
theorem Q4 {CX:DE}{P:Program}{w:World}{K:aab}{mg:Str->Option Value}{base:Heap}{k:Nat}{f:Addr}{name qual:Str}{params:Arguments}{body:List Stmt}{scope:Scope}{dV kV doc pm cdv ct oc:Value}{an od:Option Addr}
  {osl:Array (Option Value)}{N ps:List Str}{sp:QE} (lk:K.lookup f=some ⟨oc,od,.func (PySem.W.fnOf name qual params body scope dV kV doc pm an cdv ct),osl⟩) (hcd:PySem.W.codeIn K cdv qual=true) (S:FnScope N ps scope)
  (len:∀ s o vs H Q E,sp s o vs H Q E->vs.length=ps.length)
  (hbody:∀ (A:Around) (outer:List Env) (s:Shared) (H:Hp) (vs:List V) (Q:VK) (E:XK),Room k (A.deeper (envOfC qual scope s.heap.objs.size f cdv))->Env0 P w K mg base A outer s H->sp s outer vs H Q E->
   ∃ t,wG (jD CX P w K mg base N qual scope f cdv A outer s H E) body t/\t { nx:=λ _ H'=>Q .non H',rt:=Q } (start N vs) H) :
  FnOkS P w K mg base CX (k+1) f (PySem.W.fnOf name qual params body scope dV kV doc pm an cdv ct) ps sp:=by
 refine⟨len,λ A outer s H args us vs Q E hr e0 hb r hsp=>?_⟩;have hl:=len _ _ _ _ _ _ hsp;have KX:K.In s.heap:=e0.mod.kin.keeps λ b o e=>(e0.bs b o e).1;have lim:s.heap.NoLimit:=e0.mod.nolimit.keeps λ b o e=>(e0.bs b o e).1;have hkind:∀ y∈ps.zip us,scope.names.lookup y.1=some .local\/(scope.names.lookup y.1=some .cell/\((cellsFrom (s.heap.objs.size+1) scope.names []).lookup y.1).isSome=true):=λ ⟨n,v⟩ hy=>by
  rcases S.par n (List.of_mem_zip hy).1 with q | q
  ·exact .inl q
  ·exact .inr ⟨q,PySem.W.cellsFrom_some _ _ _ (.inl q)⟩
 refine codeAny_call_function hr.depth (KX _ _ lk) rfl S.co S.gen rfl (PySem.W.codeRec_of KX hcd) (hb _ _ _ _ ?_);refine wpAny_newFunctionEnv_cells S.kind hkind λ env he s1 x=>?_;subst he;refine⟨lim.keeps x.toInCall.keep,codeAny_func ?_⟩;obtain⟨t,ht,hq⟩:=hbody A outer s H vs Q E (hr.deeper _) e0 hsp;have I:Inv (jD CX P w K mg base N qual scope f cdv A outer s H E) [] (start N vs) H s1:=vK S hr.hd e0 hl r x;refine abl (ht [] s1 (start N vs) H _ I hq) (λ fl s' hs=>?_) λ e s' hs=>hs;have fin:∀ {Z:St}{H':Hp}{v:V}{u:Value},Inv (jD CX P w K mg base N qual scope f cdv A outer s H E) [] Z H' s'->aX v u->Q v H'->CE outer P w H s Q u s':=
  λ {Z H' v u} J rv q=>⟨v,H',J.os,J.bare,J.base,J.hok,rv,q⟩
 cases fl with
 | ret u=>
  obtain⟨v,Z,H',J,rv,q⟩:=hs;exact fin J rv q
 | next=>
  obtain⟨Z,H',J,q⟩:=hs;exact fin (v:=V.non) (u:=Value.none) J rfl q
 | brk=>
  obtain⟨_,_,_,q⟩:=hs;exact False.elim q
 | cont=>
  obtain⟨_,_,_,q⟩:=hs;exact False.elim q
structure FnH (H:Hp) (f c:Addr) (ob oc:Obj):Prop where
 fn:H f=some (.frz ob (.own f))
 cd:H c=some (.frz oc (.own c))
theorem FnH.same {H H':Hp}{f c:Addr}{ob oc:Obj} (h:FnH H f c ob oc) (s:aG H H'):FnH H' f c ob oc:=⟨s _ _ h.fn,s _ _ h.cd⟩
structure CellsK (cl:List (Str×Addr)) (s s':Shared) (H':Hp) (outer:List Env):Prop where
 keep:∀ c∈cl.map (·.2),∀ o,s.heap.get? c=some o->s'.heap.get? c=some o
 free:∀ c∈cl.map (·.2),H' c=none
 out:∀ c∈cl.map (·.2),c∉jL outer
def EN (P:Program) (w:World) (K:aab) (mg:Str->Option Value) (base:Heap) (k:Nat) (f c:Addr) (ob oc:Obj) (cl:List (Str×Addr)) (sp:Sp) (s:Shared):Prop:=
 ∀ (A:Around) (outer:List Env) (s':Shared) (H':Hp) (us:List Value) (vs:List V) (Q:VK),Room k A->Env0 P w K mg base A outer s' H'->FnH H' f c ob oc->CellsK cl s s' H' outer->bL vs us->sp vs H' Q E0->
  codeAny (model P w) A (.call (.ref f) ⟨us,[]⟩) (CR mG outer P w H' s' Q E0) s'
section
variable {X:Cx}{k:Nat}{f c:Addr}{ob oc:Obj}{cl:List (Str×Addr)}{sp:Sp}{x:Str}{p pos:Pos}{e:Expr}{es:List Expr}{t:TA}{i:Nat}
def OS (i:Nat) (f c:Addr) (ob oc:Obj) (sp:Sp) (t:TA):TE:=λ σ H Q=>σ[i]? = some (some (.ref f))/\FnH H f c ob oc/\t σ H λ vs H1=>FnH H1 f c ob oc/\sp vs H1 Q E0
theorem JF (R:EN X.prog X.w X.K X.mg X.base k f c ob oc cl sp X.s₀) (hfn:∃ cls od fd sl,ob=⟨cls,od,.func fd,sl⟩) (hr:Room k X.A)
  (hc:∀ c∈cl.map (·.2),X.H₀ c=none/\c∉X.fs/\c∉X.ex/\c < X.s₀.heap.objs.size/\∃ o,X.s₀.heap.get? c=some o)
  (hN:X.N[i]? = some x) (hv:S4 X.env.scope x) (ha:PA X (e::es) t) (hstk:X.stack=X.env::X.outer)
  (hfr:X.env.frame=some X.env.locals)
  (hd:(x == ("__debug__" : Str))=false:=by decide) (hcd:(x == ("__classdict__" : Str))=false:=by decide) (he:starEach (e::es) X.env=(false,eval e X.env)::starEach es X.env:=by rfl) (hpl:(backTo pos (starEach es X.env)).any (·.1)=false:=by rfl) :
  PE X (.Call (.Name x p) (e::es) [] pos) (OS i f c ob oc sp t):=by
 intro pins s σ H Q I h;obtain⟨bv,hf,h⟩:=h;have fnAt:∀ {s':Shared}{H':Hp},Inv X pins σ H' s'->FnH H' f c ob oc->PySem.W.FnAt f s'.heap:=λ I' hf'=>by
  obtain⟨cls,od,fd,sl,rfl⟩:=hfn;obtain⟨e1,_⟩:=(show bQ X.prog X.w _ _ f (.frz _ (.own f)) from I'.hok f _ hf'.fn);exact⟨cls,od,fd,sl,e1⟩
 refine wpAny_Call_Name_kw ?_;refine cK ((J9 hN hv hd hcd) pins s σ H (λ v H'=>v=V.ref f/\H'=H) I ⟨_,bv,rfl,rfl⟩) λ u s0 ⟨v,H0,I0,rv,q⟩=>?_;obtain⟨rfl,rfl⟩:=q;obtain rfl:u=Value.ref f:=rv;refine PySem.W.callWith_F (fnAt I0 hf) (cK (ha pos pins s0 σ H0 _ I0 h) λ us s1 ⟨vs,H1,I1,r,hf1,q⟩=>⟨fnAt I1 hf1,?_⟩) he hpl;refine wpAny_call (codeAny_mono (R X.A X.stack s1 H1 us vs Q hr I1.env0 hf1 ⟨λ c' hc' o ho=>?_,λ c' hc'=>?_,λ c' hc' z=>?_⟩ r q) λ r s' hq=>?_)
 ·obtain⟨h1,h2,h3,_⟩:=hc c' hc';exact I1.base.keep c' o ho h1 h2 h3
 ·obtain⟨h1,h2,h3,_,o,ho⟩:=hc c' hc';exact I1.base.free c' o ho h1 h3
 ·obtain⟨h1,h2,h3,h4,_⟩:=hc c' hc';rw[hstk] at z;have z':c'∈jL (X.env::X.outer):=z;unfold jL at z';rw[List.filterMap_cons_some hfr] at z';rcases aao.1 z' with z' | z'
  ·have:=I1.ok.above;rw[<- z'] at this;exact absurd (aax h4 this) (acn _)
  ·exact h2 z'
 ·cases r with
  | error e=>exact hq.elim
  | ok fl=>
   cases fl with
   | ret u=>exact I1.after hq
   | next=>exact False.elim hq
   | brk=>exact False.elim hq
   | cont=>exact False.elim hq
end
end L2
namespace L2
open PySem PySem.Spec PyProof.Rows TwZ
open PySem.W (envX kla_obj kla_fn)
def vW (P:Program) (w:World) (K:aab) (mg:Str->Option Value) (base:Heap) (N:List Str) (qual:Str) (scope:Scope) (f:Addr) (cd:Value) (cl:List (Str×Addr)) (A:Around) (outer:List Env) (s:Shared) (H:Hp):Cx where
 prog:=P
 w:=w
 K:=K
 mg:=mg
 base:=base
 A:=A.deeper (envX qual scope s.heap.objs.size f cd cl)
 N:=N
 s₀:=s
 H₀:=H
 env:=envX qual scope s.heap.objs.size f cd cl
 outer:=outer
 stack:=envX qual scope s.heap.objs.size f cd cl::outer
 ex:=[]
 calm:=true
 fn:=λ _=>false
 pn:=[]
 xe:=λ _ _=>False
structure LamScope (N ps:List Str) (sc:Scope) (cl:List (Str×Addr)):Prop where
 kind:sc.kind=.function
 co:sc.isCoroutine=false
 gen:sc.isGenerator=false
 nd:N.Nodup
 pre:N.take ps.length=ps
 par:∀ x∈ps,sc.names.lookup x=some .local
 nocell:∀ y∈sc.names,y.2≠.cell
 frees:∀ y,sc.names.lookup y=some .free->∃ c,cl.lookup y=some c
 apart:cl.Pairwise λ x y=>x.2≠y.2
theorem lE:∀ {P:List Str}{us:List Value}{i:Nat}{x:Str}{u:Value},P.Nodup->P[i]? = some x->us[i]? = some u->((P.zip us).reverse).lookup x=some u:=by
 intro P us i x u nd h1 h2;have hm:(x,u)∈(P.zip us).reverse:=by
  rw[List.mem_reverse];exact abh.2 ⟨i,by rw[List.getElem?_zip_eq_some];exact⟨h1,h2⟩⟩
 have hu:∀ v,(x,v)∈(P.zip us).reverse->v=u:=λ v hv=>by
  rw[List.mem_reverse] at hv;obtain⟨j,hj⟩:=abh.1 hv;rw[List.getElem?_zip_eq_some] at hj;have e1:=aae.mp h1;have e2:=aae.mp hj.1;have:j=i:=(List.getElem_inj (h₀:=e2.1) (h₁:=e1.1) nd).1 (by rw[e2.2,e1.2]);subst this;rw[h2] at hj;exact (abf hj.2).symm
 generalize (P.zip us).reverse=l at hm hu;clear h1 h2 nd
 induction l with
 | nil=>exact absurd hm (by simp)
 | cons q l ih=>
  obtain⟨y,v⟩:=q;rw[List.lookup_cons]
  by_cases c:x=y
  ·subst c;have:=hu v aat;subst this;simp
  ·have:(x == y)=false:=by simpa using c
   rw[this];refine ih ?_ λ v hv=>hu v (aap _ hv);rcases aao.1 hm with z | z
   ·injection z with z1 z2;exact absurd z1 c
   ·exact z
section
variable {k:Nat}{f c:Addr}{name qual:Str}{params:Arguments}{body:Expr}{scope:Scope}{cl:List (Str×Addr)}{pm ctv:Value}{oc:Obj}{sp:Sp}{s:Shared}{N ps:List Str}{fv:List V}
theorem A2 (S:LamScope N ps scope cl) (len:∀ vs H Q,sp vs H Q E0->vs.length=ps.length) (hl:N.length=ps.length+fv.length)
  (hoc:∃ vs t,oc.data=.fields vs/\vs[1]? = some (.str qual t)) (hbind:∀ us:List Value,us.length=ps.length->bindArgs (kla_fn name qual params body scope cl pm (.ref c) ctv) ⟨us,[]⟩=pure (ps.zip us))
  (hcells:∀ y c,cl.lookup y=some c->∃ v,s.heap.IsCell c v) (hfv:∀ (i:Nat) (y:Str) (v:V),N[ps.length+i]? = some y->fv[i]? = some v->scope.names.lookup y=some .free/\∃ c u,cl.lookup y=some c/\s.heap.IsCell c (some u)/\aX v u)
  (hbody:∀ (A:Around) (outer:List Env) (s':Shared) (H':Hp) (vs:List V) (Q:VK),Room k (A.deeper (envX qual scope s'.heap.objs.size f (.ref c) cl))->sp vs H' Q E0->
   ∃ te,PE (vW P w K mg base N qual scope f (.ref c) cl A outer s' H') body te/\te (vs.map some++fv.map some) H' Q) :
  EN P w K mg base (k+1) f c (kla_obj name qual params body scope cl pm c ctv) oc cl sp s:=by
 intro A outer s' H' us vs Q hr e0 hf ck r hsp;have hlen:=len _ _ _ hsp;have hul:us.length=ps.length:=by rw[<- r.length];exact hlen
 obtain⟨ef,_⟩:=(show bQ P w H' s'.heap f (.frz _ (.own f)) from e0.hok f _ hf.fn);obtain⟨ec,_⟩:=(show bQ P w H' s'.heap c (.frz _ (.own c)) from e0.hok c _ hf.cd);have lim:s'.heap.NoLimit:=e0.mod.nolimit.keeps λ b o e=>(e0.bs b o e).1;have cellK:∀ {y:Str}{a:Addr}{v:Option Value},cl.lookup y=some a->s.heap.IsCell a v->s'.heap.IsCell a v:=λ {y a v} h1 h2=>by
  have hm:a∈cl.map (·.2):=aaz.2 ⟨(y,a),abe h1,rfl⟩;obtain⟨o,e1,e2⟩:=h2;exact⟨o,ck.keep a hm o e1,e2⟩
 obtain⟨vs0,t0,hd0,hv0⟩:=hoc;refine PySem.W.kla_callFunE hr.depth ef rfl S.co S.gen rfl ⟨c,oc,vs0,t0,rfl,ec,hd0,hv0⟩ ?_;rw[hbind us hul];have ndP:ps.Nodup:=by rw[<- S.pre];exact S.nd.sublist (List.take_sublist _ _)
 refine aaf (wpAny_newFunctionEnv S.nocell (λ y hy=>S.par _ (List.of_mem_zip hy).1) (λ h₁ hns hsb=>⟨lim.fresh _ hsb,?_⟩) S.kind);show codeAny _ _ (.expr body (envX qual scope s'.heap.objs.size f (.ref c) cl)) _ _;have bw:∀ b o,s'.heap.get? b=some o->h₁.get? b=some o:=λ b o e=>hsb.extBut b o (abc (aaq e)) (aac _ e);obtain⟨te,hte,hq⟩:=hbody A outer s' H' vs Q (hr.deeper _) hsp;have I:Inv (vW P w K mg base N qual scope f (.ref c) cl A outer s' H') [] (vs.map some++fv.map some) H' { s' with heap:=h₁,toks:=s'.toks+(ps.zip us).length }:=by
  have noA:∀ b:Addr,b∉(vW P w K mg base N qual scope f (.ref c) cl A outer s' H').ex:=λ b z=>absurd (show b∈([]:List Addr) from z) (by simp);refine⟨⟨e0.mod,S.kind,rfl,rfl,aal _,λ y z a h1 h2=>?_,λ y hy=>?_,λ y a h _=>absurd (show (false:Bool)=true from h) aar,λ _=>hr.hd,Around.frames_deeper e0.frames,.inr ⟨rfl,rfl⟩,λ b z=>absurd z (noA b),e0.bs,e0.bsz,λ b _ _=>noA b,λ b z=>absurd z (noA b),e0.funs,e0.frf⟩,
   rfl,e0.bare,Un.kept bw,⟨_,hns,λ i y v h1 h2 h3=>?_⟩,λ y a h=>?_,e0.hok.fresh (aal _),λ y a h=>?_,λ p hp=>absurd (show p∈([]:List (Addr×Obj)) from hp) (by simp),e0.hok.kept bw,?_⟩
  ·exact name_of_addr S.apart (abe h1) (abe h2)
  ·have hy:scope.names.lookup y=some .cell\/scope.names.lookup y=some .free:=hy;rcases hy with hy | hy
   ·exact absurd rfl (S.nocell _ (abe hy))
   ·exact S.frees y hy
  ·by_cases hi:i < vs.length
   ·rw[abg (by simpa using hi),aaj] at h2;obtain⟨a,ha,e⟩:=aas.mp h2;cases e;obtain⟨u,hu,rv⟩:=r.get ha;have hp:ps[i]? = some y:=by
     rw[<- S.pre,List.getElem?_take_of_lt (by omega)];exact h1
    exact⟨u,rv,.inl ⟨S.par y (aah hp),lE ndP hp hu⟩⟩
   ·rw[acm (by simpa using hi),aad,aaj] at h2;obtain⟨a,ha,e⟩:=aas.mp h2;cases e;obtain⟨hk,a,u,h4,h5,rv⟩:=hfv (i - vs.length) y v (by rw[show ps.length+(i - vs.length)=i by omega];exact h1) ha;obtain⟨o,e1,e2⟩:=cellK h4 h5;exact⟨u,rv,.inr ⟨.inr hk,a,h4,o,bw _ _ e1,e2⟩⟩
  ·obtain⟨v,hv⟩:=hcells y a h;obtain⟨o,e1,e2⟩:=cellK h hv;exact⟨v,o,bw _ _ e1,e2⟩
  ·exact ck.free a (aaz.2 ⟨(y,a),abe h,rfl⟩)
  ·show _=N.length;rw[aau,aad,aad];omega
 refine PySem.W.kla_codeExpr (abl (hte [] _ _ H' _ I hq) (λ u s'' ⟨v,H'',J,rv,q⟩=>⟨v,H'',J.os,J.bare,J.base,J.hok,rv,q⟩) λ e s'' z=>z.elim)
end
end L2
namespace L2
open PySem PySem.Spec PyProof.Rows TwZ
open PySem.W (envX kla_obj kla_fn CodeHd tabObj)
structure NestB (mg:Str->Option Value) (base:Heap) (c Pt:Addr):Prop where
 hd:CodeHd base c Pt
 bm:∃ bm ob,mg "__builtins__" = some (.ref bm)/\bm≠builtinsNs/\bm≠mainGlobals/\base.get? bm=some ob/\ob.cls=.type "module" /\ ob.dict=some builtinsNs/\ob.data=.plain
def dM (H:Hp) (Pt:Addr) (pos:Pos) (q:Str):Prop:=H Pt=some (.tbl #[])\/∃ (c:Addr) (oc:Obj) (vs:Array Value) (t:Tok),H Pt=some (.tbl #[rawInt pos.line,rawInt pos.col,.ref c])/\H c=some (.frz oc (.own c))/\oc.data=.fields vs/\vs[1]? = some (.str q t)
def QL (Pt:Addr) (H H':Hp):Prop:=∀ b o,b≠Pt->H b=some o->H' b=some o
theorem dM.same {H H':Hp}{Pt:Addr}{pos:Pos}{q:Str} (h:dM H Pt pos q) (s:aG H H'):dM H' Pt pos q:=by
 rcases h with h | ⟨c,oc,vs,t,h1,h2,h3⟩
 ·exact .inl (s _ _ h)
 ·exact .inr ⟨c,oc,vs,t,s _ _ h1,s _ _ h2,h3⟩
theorem dM.some {H:Hp}{Pt:Addr}{pos:Pos}{q:Str} (h:dM H Pt pos q):∃ ps,H Pt=some (.tbl ps):=by
 rcases h with h | ⟨c,oc,vs,t,h1,_⟩
 ·exact⟨_,h⟩
 ·exact⟨_,h1⟩
def tLam (Pt:Addr) (pos:Pos) (q:Str) (mk:Addr->Value->Obj):TE:=λ σ H Q=>dM H Pt pos q/\∀ (f c:Addr) (oc:Obj) (ctv:Value) (H':Hp),H f=none->QL Pt H H'->dM H' Pt pos q->FnH H' f c (mk c ctv) oc->(∃ vs t,oc.data=.fields vs/\vs[1]? = some (.str q t))->Q (.ref f) H'
section
variable {X:Cx}
theorem Inv.frzNew {pins:List (Addr×Obj)}{σ:St}{H:Hp}{s:Shared} (I:Inv X pins σ H s) {h':Heap}{tk:Nat}{ob:Obj} (k:∀ b o,s.heap.get? b=some o->h'.get? b=some o) (hsz:s.heap.objs.size<=h'.objs.size) (hfr:ob.isFreed=false:=by rfl) :
  Inv X pins σ (upd H h'.objs.size (.frz ob (.own h'.objs.size))) { s with heap:=h'.push ob,toks:=tk }:=
 I.laid (t':=tk) (a:=h'.objs.size) (λ b o e=>aac _ (k b o e)) hsz (show bQ X.prog X.w _ _ _ (.frz ob (.own h'.objs.size)) from ⟨aak _ hfr,ob,aak _ hfr⟩)
theorem JA {params:Arguments}{body:Expr}{scope:Scope}{pos:Pos}{c Pt:Addr}{clos:List (Str×Addr)} (hdef:defaultsOf params X.env=([],[])) (hcl:closureFor scope X.env=pure clos) (hcode:X.env.code=.ref c) (NB:NestB X.mg X.base c Pt) :
  PE X (.Lambda params body scope pos) (tLam Pt pos (X.env.qual ++ "<lambda>") λ c' ctv=>kla_obj "<lambda>" (X.env.qual ++ "<lambda>") params body scope clos ((X.mg "__name__").getD .none) c' ctv):=by
 intro pins s σ H Q I h;obtain⟨tab,h⟩:=h;refine PySem.W.kla_eval hdef ?_;have tf:∃ ps,H Pt=some (.tbl ps):=tab.some;have neB:∀ b o,X.base.get? b=some o->b≠Pt:=λ b o e z=>by
  obtain⟨ps,hp⟩:=tf;have:=(I.bs b o e).2;rw[z,hp] at this;cases this
 have hgs:=I.mod.glob.keeps I.bk;have hgP:mainGlobals≠Pt:=by
  obtain⟨o,es,ep,e,_⟩:=I.mod.glob;exact neB _ _ e
 obtain⟨bm,ob,b1,b2,b3,b4,b5,b6,b7⟩:=NB.bm;have hb:s.heap.BuiltinsAt X.mg Pt:=⟨bm,ob,b1,b2,b3,neB _ _ b4,I.bk _ _ b4,b5,b6,b7⟩;rcases tab with e | ⟨c',oc,vs,t,e,ec,d1,d2⟩
 ·have hP:s.heap.get? Pt=some (tabObj #[]):=(show bQ X.prog X.w H s.heap Pt (.tbl #[]) from I.hok Pt _ e);refine PySem.W.kla_makeFunction (mg:=X.mg) hcl I.ok.glob hgs hcode (NB.hd.keeps I.bk) hP trivial rfl hgP hb λ c' ctv h' tk hx hge hlt hrec htb=>?_;obtain⟨c2,oc,vs,t,e2,hoc,d1,d2⟩:=hrec;cases e2;have hcn:H c'=none:=I.hok.fresh hge;have hPc:Pt≠c':=λ z=>by rw[<- z,e] at hcn;cases hcn
  have htb':h'.get? Pt=some (tabObj #[rawInt pos.line,rawInt pos.col,.ref c']):=by simpa using htb
  have J:Inv X pins σ (upd (upd H Pt (.tbl #[rawInt pos.line,rawInt pos.col,.ref c'])) c' (.frz oc (.own c'))) { s with heap:=h',toks:=tk }:=by
   have oth:∀ {b:Addr}{o:HO},H b=some o->b≠Pt->upd (upd H Pt (.tbl #[rawInt pos.line,rawInt pos.col,.ref c'])) c' (.frz oc (.own c')) b=some o:=λ {b o} q hb=>by
    rw[aI (aK q hcn),aI hb];exact q
   refine I.call (h':=h') (g':=s.gens) (d':=s.drawn) (t':=tk) (ch:=[]) ?_ ?_ I.bare (λ b z=>absurd z (by simp))
   ·refine⟨λ b o q n _ _=>hx b o (λ z=>by rw[z,e] at n;cases n) q,λ b o q n _ _=>⟨o.slots,hx b o (λ z=>by rw[z,e] at n;cases n) q⟩,λ b o q n _=>?_,λ b o q _=>?_,λ b xs q=>oth q (λ z=>by rw[z,e] at q;cases q),λ b o u q=>oth q (λ z=>by rw[z,e] at q;cases q),λ b ps q=>?_⟩
    ·rw[aI (abc (aax (aaq q) hge)),aI (λ z=>by rw[z,e] at n;cases n)];exact n
    ·by_cases hb':b=Pt
     ·subst hb';exact⟨_,htb'⟩
     ·exact⟨o,hx b o hb' q⟩
    ·by_cases hb':b=Pt
     ·subst hb';rw[e] at q;cases q;exact⟨#[rawInt pos.line,rawInt pos.col,.ref c'],by rw[aI hPc,aB];simp⟩
     ·exact⟨#[],by rw[oth q hb'];simp⟩
   ·intro b u q
    by_cases hbc:b=c'
    ·subst hbc;rw[aB] at q;cases q;exact⟨hoc,oc,hoc⟩
    ·rw[aI hbc] at q
     by_cases hb':b=Pt
     ·subst hb';rw[aB] at q;cases q;exact htb'
     ·rw[aI hb'] at q;refine (I.hok b u q).stay (λ d o hd r=>hx d o (λ z=>?_) r) (λ d r=>oth r (λ z=>by rw[z,e] at r;cases r)) λ d xs r=>oth r (λ z=>by rw[z,e] at r;cases r);rcases hd with rfl | hd
      ·exact hb' z
      ·rw[z,e] at hd;cases hd
  have J2:=Inv.frzNew (tk:=tk) (ob:=kla_obj "<lambda>" (X.env.qual ++ "<lambda>") params body scope clos ((X.mg "__name__").getD .none) c' ctv) J (h':=h') (λ b o q=>q) (aal _);have hfc:c'≠h'.objs.size:=abc hlt;have hfP:Pt≠h'.objs.size:=abc (aaq htb');have hfn:H h'.objs.size=none:=I.hok.fresh (acd hge (ade hlt));refine⟨.ref h'.objs.size,_,J2,rfl,h h'.objs.size c' oc ctv _ hfn (λ b o hb' q=>?_) (.inr ⟨c',oc,vs,t,?_,?_,d1,d2⟩) ⟨aB,?_⟩ ⟨vs,t,d1,d2⟩⟩
  ·rw[aI (aK q hfn),aI (aK q hcn),aI hb'];exact q
  ·rw[aI hfP,aI hPc,aB]
  ·rw[aI hfc,aB]
  ·rw[aI hfc,aB]
 ·have hP:s.heap.get? Pt=some (tabObj #[rawInt pos.line,rawInt pos.col,.ref c']):=(show bQ X.prog X.w H s.heap Pt (.tbl #[rawInt pos.line,rawInt pos.col,.ref c']) from I.hok Pt _ e);refine PySem.W.kla_makeFunctionHit (mg:=X.mg) hcl I.ok.glob hgs hcode (NB.hd.keeps I.bk) hP (show TriplesOk [rawInt pos.line,rawInt pos.col,.ref c'] from trivial) (show codeAmong pos [rawInt pos.line,rawInt pos.col,.ref c']=some (.ref c') by simp [codeAmong,rawInt]) hb λ ctv h' tk hk hsz=>?_;have J2:=Inv.frzNew (tk:=tk) (ob:=kla_obj "<lambda>" (X.env.qual ++ "<lambda>") params body scope clos ((X.mg "__name__").getD .none) c' ctv) I (h':=h') hk hsz;have hfn:H h'.objs.size=none:=I.hok.fresh hsz;have s1:=aG.new (o:=HO.frz (kla_obj "<lambda>" (X.env.qual ++ "<lambda>") params body scope clos ((X.mg "__name__").getD .none) c' ctv) (.own h'.objs.size)) hfn;exact⟨.ref h'.objs.size,_,J2,rfl,h h'.objs.size c' oc ctv _ hfn (λ b o _ q=>s1 _ _ q) (.inr ⟨c',oc,vs,t,s1 _ _ e,s1 _ _ ec,d1,d2⟩) ⟨aB,s1 _ _ ec⟩ ⟨vs,t,d1,d2⟩⟩
end
end L2
namespace L2
open PySem PySem.Spec PyProof.Rows TwZ
open PySem.W (envX kla_obj kla_fn CodeHd tabObj)
structure CellF (X:Cx) (σ:St) (H:Hp) (s:Shared):Prop where
 val:∀ (i:Nat) (x:Str) (v:V),X.N[i]? = some x->σ[i]? = some (some v)->X.env.scope.names.lookup x=some .cell->∃ c u,X.env.cells.lookup x=some c/\s.heap.IsCell c (some u)/\aX v u
 cell:∀ x c,X.env.cells.lookup x=some c->∃ v,s.heap.IsCell c v
 out:∀ x c,X.env.cells.lookup x=some c->H c=none/\c∉jL X.stack/\c < s.heap.objs.size
 inj:∀ x y c,X.env.cells.lookup x=some c->X.env.cells.lookup y=some c->x=y
section
variable {X:Cx}{CX:DE}{k:Nat}{f:Addr}{fd:FuncData}{ps:List Str}{sp:QE}{E:XK}{x:Str}{p pos:Pos}{e:Expr}{es:List Expr}{t:TA}
theorem Inv.cellF {pins:List (Addr×Obj)}{σ:St}{H:Hp}{s:Shared} (I:Inv X pins σ H s) (hstk:X.stack=X.env::X.outer) (hfr:X.env.frame=some X.env.locals) (hfn:∀ x,X.fn x=true):CellF X σ H s:=by
 refine⟨λ i x v h1 h2 h3=>?_,I.cell,λ x c hc=>⟨I.freeC x c hc,λ z=>?_,?_⟩,I.ok.inj⟩
 ·obtain⟨m,hn,hl⟩:=I.loc;obtain⟨u,r,l⟩:=hl i x v h1 h2 (.inr (.inl h3));rcases l with ⟨hk,_⟩ | ⟨_,c,hc,hcell⟩
  ·have hk:X.env.scope.names.lookup x=some .local:=hk;rw[h3] at hk;cases hk
  ·exact⟨c,u,hc,hcell,r⟩
 ·obtain⟨v,o,e1,e2⟩:=I.cell x c hc;rw[hstk] at z;unfold jL at z;rw[List.filterMap_cons_some hfr] at z;rcases aao.1 z with z | z
  ·obtain⟨m,⟨oL,es,ep,eL,dL,_⟩,_⟩:=I.loc;rw[<- z,e1] at eL;cases eL;rw[e2] at dL;cases dL
  ·have h1:=I.ok.cab x c (hfn x) hc;obtain⟨_,⟨ob,hb,_⟩⟩:=I.ok.funs.mem (show c∈jL X.outer from z);exact absurd (aax (aaq hb) h1) (acn _)
 ·obtain⟨v,o,e1,e2⟩:=I.cell x c hc;exact aaq e1
def OT (X:Cx) (sp:QE) (E:XK) (t:TA):TE:=λ σ H Q=>t σ H λ vs H1=>∀ s1:Shared,CellF X σ H1 s1->sp s1 X.stack vs H1 Q E
theorem sU (F:FnOkS X.prog X.w X.K X.mg X.base CX k f fd ps sp) (hr:Room k X.A) (hg:Gl X x) (hm:X.mg x=some (.ref f)) (hk:PySem.W.keepIn X.K (.ref f)=true) (hb:oT X.K fd ps []) (hx:lR CX X E)
  (hstk:X.stack=X.env::X.outer) (hfr:X.env.frame=some X.env.locals) (hfn:∀ x,X.fn x=true)
  (ha:PA X (e::es) t) (hdb:(x == ("__debug__" : Str))=false:=by decide) (he:starEach (e::es) X.env=(false,eval e X.env)::starEach es X.env:=by rfl) (hpl:(backTo pos (starEach es X.env)).any (·.1)=false:=by rfl) :
  PE X (.Call (.Name x p) (e::es) [] pos) (OT X sp E t):=by
 intro pins s σ H Q I h;refine wpAny_Call_Name_kw (oH I hg hm ?_ hdb);refine PySem.W.callWith_K (h₀:=X.base) I.ok.mod.kin hk (cK (ha pos pins s σ H _ I h) λ us s1 ⟨vs,H1,I1,r,q⟩=>⟨I1.kIn,?_⟩) he hpl;have q1:=q s1 (I1.cellF hstk hfr hfn);have hl:us.length=ps.length:=by rw[<- r.length];exact F.len _ _ _ _ _ _ q1
 have hb1:=hb s1 us I1.kIn (by rw[acy];exact hl);rw[acy] at hb1;refine wpAny_call (codeAny_mono (F.run X.A X.stack s1 H1 ⟨us,[]⟩ us vs Q E hr I1.env0 hb1 r q1) λ r s' hq=>?_);cases r with
 | error e=>exact hx pins σ H1 s1 e s' I1 hq
 | ok fl=>
  cases fl with
  | ret u=>exact I1.after hq
  | next=>exact False.elim hq
  | brk=>exact False.elim hq
  | cont=>exact False.elim hq
end
structure CalleeS (P:Program) (w:World) (K:aab) (mg:Str->Option Value) (base:Heap) (x:Str) (ps:List Str) (k:Nat) (sp:QE) (f:Addr) (fd:FuncData):Prop where
 ok:FnOkS P w K mg base (nO P w) k f fd ps sp
 mg:mg x=some (.ref f)
 kp:PySem.W.keepIn K (.ref f)=true
 bd:oT K fd ps []
theorem Fun.okS {x qual:Str}{st:Stmt}{f:Addr}{fd:FuncData}{N ps:List Str}{k:Nat}{sp:QE} (F:Fun K x qual st f fd) (S:FnScope N ps (aM st)) (len:∀ s o vs H Q E,sp s o vs H Q E->vs.length=ps.length)
  (hbody:∀ (cdv:Value) (A:Around) (outer:List Env) (s:Shared) (H:Hp) (vs:List V) (Q:VK) (E:XK),Room k (A.deeper (envOfC qual (aM st) s.heap.objs.size f cdv))->Env0 P w K mg base A outer s H->sp s outer vs H Q E->
   Leaves (jD (nO P w) P w K mg base N qual (aM st) f cdv A outer s H E) E->
   ∃ t,wG (jD (nO P w) P w K mg base N qual (aM st) f cdv A outer s H E) (fB st) t/\t { nx:=λ _ H'=>Q .non H',rt:=Q } (start N vs) H):FnOkS P w K mg base (nO P w) (k+1) f fd ps sp:=by
 obtain⟨oc,od,kV,doc,pm,an,cdv,ct,osl,rfl,lk,hcd⟩:=F.ex;exact Q4 lk hcd S len λ A outer s H vs Q E hr e0 hsp=>hbody cdv A outer s H vs Q E hr e0 hsp ⟨rfl,rfl,rfl,λ _ _ h=>h⟩
end L2
namespace L2
open PySem PySem.Spec PyProof.Rows TwZ
open PySem.W (CodeHd tabObj OpenLaw)
def EQ (tabs:List (Addr×Addr)) (H:Hp):Prop:=∀ b,H b=none\/(∃ o xs,H b=some (.frz o (.lst xs)))\/∃ q∈tabs,b=q.2
theorem G9 {P:Program}{w:World}{K:aab}{mg mb:Str->Option Value}{CX:DE}{k:Nat}{fa a:Addr}{fd:FuncData}{x:Str}{sp:Sp}{af:Shared}{vs:List Value}{ns:List Int}{tabs:List (Addr×Addr)}
  (KX:K.In af.heap) (hns:af.heap.Ns mainGlobals mg) (hb:af.heap.Ns builtinsNs mb) (hbb:∀ x:Str,x ≠ "__name__" -> mb x=bootBuiltins x) (hlim:af.heap.NoLimit) (hg:af.gens = #[])
  (hbm:∃ bm ob,mg "__builtins__" = some (.ref bm)/\bm≠builtinsNs/\af.heap.get? bm=some ob/\ob.cls=.type "module" /\ ob.dict=some builtinsNs/\ob.data=.plain)
  (hT:∀ q∈tabs,af.heap.get? q.2=some (tabObj #[])) (hC:∀ q∈tabs,CodeHd af.heap q.1 q.2) (hKt:∀ q∈tabs,K.lookup q.2=none)
  (ha:af.heap.get? a=some { cls:=.type "list",data:=.seq vs.toArray }) (hi:IntsAre vs ns) (hl:ns.length<=sizeLine) (hr:Room k callerA)
  (F:∀ base:Heap,K.In base->base.Ns mainGlobals mg->(∀ q∈tabs,NestB mg base q.1 q.2)->FnOk P w K mg base CX k fa fd [x] sp) (hbind:∀ (s:Shared) (u:Value),BindsTo s fd ⟨[u],[]⟩ [(x,u)])
  (hsp:∀ H:Hp,EQ tabs H->bR K H a (ns.map V.int)->(∀ q∈tabs,H q.2=some (.tbl #[]))->sp [.ref a] H (λ v _=>v=.bl true) λ _ _ _=>False)
  (hCX:∀ H e s',CX [] H af (λ _ _ _=>False) e s'->False) :
  codeAny (model P w) callerA (.call (.ref fa) ⟨[.ref a],[]⟩) (λ r s'=>r=.ok (.ret (.bool true))/\OldK af.heap s'.heap/\s'.os=af.os/\AllBare s'.gens) af:=by
 have rv:=uU hi;have lenV:=hi.length;have aT:∀ q∈tabs,q.2≠a:=λ q hq z=>by
  have:=hT q hq;rw[z,ha] at this;cases this
 have core:∀ H:Hp,EQ tabs H->bR K H a (ns.map V.int)->mF P w H af.heap->(∀ b,H b≠none->b=a\/∃ q∈tabs,b=q.2)->(H a≠none->K.lookup a=none)->(∀ q∈tabs,H q.2=some (.tbl #[]))->
   codeAny (model P w) callerA (.call (.ref fa) ⟨[.ref a],[]⟩) (λ r s'=>r=.ok (.ret (.bool true))/\OldK af.heap s'.heap/\s'.os=af.os/\AllBare s'.gens) af:=by
  intro H hO hS hok hA hK hTb;have base_of:∀ {b:Addr}{o:Obj},af.heap.get? b=some o->H b=none->(uM af.heap H).get? b=some o:=λ e n=>KC e n;have noO:∀ {b:Addr}{o:Obj},af.heap.get? b=some o->o≠{ cls:=.type "list",data:=.seq vs.toArray }->o≠tabObj #[]->H b=none:=λ {b o} e d1 d2=>by
   cases q:H b with
   | none=>rfl
   | some u=>
    rcases hA b (by rw[q];simp) with e' | ⟨q',hq',e'⟩
    ·subst e';rw[ha] at e;exact absurd (abf e).symm d1
    ·subst e';rw[hT q' hq'] at e;exact absurd (abf e).symm d2
  have nsK:∀ {b:Addr}{m:Str->Option Value},af.heap.Ns b m->(uM af.heap H).Ns b m:=λ {b m} ⟨o,es,ep,e,d,r⟩=>⟨o,es,ep,base_of e (noO e (λ z=>by rw[z] at d;cases d) (λ z=>by rw[z] at d;cases d)),d,r⟩;have hKb:K.In (uM af.heap H):=λ b o e=>base_of (KX b o e) (by
   cases q:H b with
   | none=>rfl
   | some u=>
    rcases hA b (by rw[q];simp) with e' | ⟨q',hq',e'⟩
    ·subst e';rw[hK (by rw[q];simp)] at e;cases e
    ·subst e';rw[hKt q' hq'] at e;cases e)
  have hM:Mod K mg (uM af.heap H):=⟨hKb,nsK hns,⟨mb,nsK hb,hbb⟩,let ⟨mc,h1,h2⟩:=hlim;⟨mc,nsK h1,h2⟩⟩;have e0:Env0 P w K mg (uM af.heap H) callerA [] af H:=⟨rfl,hM,λ b o e=>MQ e,Nat.le_of_eq (GD _ _),trivial,λ b hb=>absurd (show b∈([]:List Addr) from hb) (by simp),hok,.of_eq hg⟩;have hN:∀ q∈tabs,NestB mg (uM af.heap H) q.1 q.2:=λ q hq=>by
   obtain⟨o,vs',file,tf,flags,tg,inF,text,tt,e1,r1,r2,r3,r4,r5,r6,r7,r8,hne⟩:=hC q hq;obtain⟨bm,ob,b1,b2,b3,b4,b5,b6⟩:=hbm;refine⟨⟨o,vs',file,tf,flags,tg,inF,text,tt,base_of e1 (noO e1 (λ z=>absurd (r1.symm.trans (congrArg Obj.cls z)) (by show ¬ (Value.type "code" = Value.type "list");decide)) (λ z=>absurd (r1.symm.trans (congrArg Obj.cls z)) (by decide))),r1,r2,r3,r4,r5,r6,r7,r8,hne⟩,bm,ob,b1,b2,λ z=>?_,base_of b3 (noO b3 (λ z=>absurd (b4.symm.trans (congrArg Obj.cls z)) (by show ¬ (Value.type "module" = Value.type "list");decide)) (λ z=>absurd (b4.symm.trans (congrArg Obj.cls z)) (by decide))),b4,b5,b6⟩;obtain⟨og,es,ep,eg,dg,_⟩:=hns;rw[z,eg] at b3;cases b3;rw[dg] at b6;cases b6
  refine codeAny_mono ((F _ hKb (nsK hns) hN).run callerA [] af H ⟨[.ref a],[]⟩ [.ref a] [.ref a] _ _ hr e0 (hbind af (.ref a)) (.cons rfl .nil) (hsp H hO hS hTb)) λ r s' h=>?_;cases r with
  | error e=>exact (hCX H e s' h).elim
  | ok fl=>
   cases fl with
   | next=>exact False.elim h
   | brk=>exact False.elim h
   | cont=>exact False.elim h
   | ret u=>
    obtain⟨v,H',os,bare,un,hok',r',q⟩:=h;have q':v=.bl true:=q;subst q';obtain rfl:u=Value.bool true:=r';have nofs:∀ b:Addr,b∉jL ([]:List Env):=λ b z=>absurd (show b∈([]:List Addr) from z) (by simp);have fin:∀ b o,af.heap.get? b=some o->s'.heap.get? b=some o\/∃ q∈tabs,b=q.2/\o=tabObj #[]/\∃ ps,s'.heap.get? b=some (tabObj ps):=λ b o e=>by
     cases q:H b with
     | none=>exact .inl (un.keep b o e q (nofs b) (by simp))
     | some u=>
      rcases hO b with z | ⟨ob,xs,z⟩ | ⟨q',hq',e'⟩
      ·rw[q] at z;cases z
      ·have z2:=un.frzs b ob _ z;obtain⟨e1,_⟩:=hok b _ z;obtain⟨e2,_⟩:=hok' b _ z2;rw[e] at e1;cases e1;exact .inl e2
      ·subst e';obtain⟨more,z2⟩:=un.tbls _ _ (hTb q' hq');have e2:s'.heap.get? q'.2=some (tabObj (#[]++more)):=hok' _ _ z2;rw[hT q' hq'] at e;exact .inr ⟨q',hq',rfl,(abf e).symm,_,e2⟩
    refine⟨rfl,⟨λ b o e=>?_,λ b o e=>?_⟩,os,bare⟩
    ·rcases fin b o e with z | ⟨q',hq',rfl,rfl,ps,z⟩
     ·exact .inl z
     ·exact .inr (.inl ⟨((hC q' hq').tab (hT q' hq')).isCodeTable,rfl,#[],ps,rfl,by rw[Array.empty_append];exact z⟩)
    ·rcases fin b o e with z | ⟨q',hq',rfl,rfl,ps,z⟩
     ·exact⟨o,z⟩
     ·exact⟨_,z⟩
 have tb:∀ (G:Hp),(∀ b u,G b=some u->bQ P w G af.heap b u)->(∀ b,G b≠none->b=a)->(G a≠none->∃ o xs,G a=some (.frz o (.lst xs)))->
   mF P w (λ b=>if b∈tabs.map (·.2) then some (.tbl #[]) else G b) af.heap:=λ G hG hA hL b u z=>by
  by_cases hb':b∈tabs.map (·.2)
  ·have z':some (HO.tbl #[])=some u:=by rw[<- z];exact (if_pos hb').symm
   cases z';obtain⟨q,hq,rfl⟩:=aaz.1 hb';exact hT q hq
  ·have z':G b=some u:=by rw[<- z];exact (if_neg hb').symm
   have e':=hA b (by rw[z'];simp);subst e';obtain⟨o,xs,e2⟩:=hL (by rw[z'];simp);rw[z'] at e2;cases e2;exact hG b _ z'
 have tIn:∀ q∈tabs,q.2∈tabs.map (·.2):=λ q hq=>aaz.2 ⟨q,hq,rfl⟩;have aN:a∉tabs.map (·.2):=λ z=>by
  obtain⟨q,hq,e⟩:=aaz.1 z;exact aT q hq e
 cases hk:K.lookup a with
 | some o=>
  have e:=KX a o hk;rw[ha] at e;cases e;refine core (λ b=>if b∈tabs.map (·.2) then some (.tbl #[]) else none) (λ b=>?_) (.inr ⟨_,vs.toArray,_,hk,rfl,rfl,rfl,by rw[aaw,lenV];exact hl,by simpa using rv⟩) (tb (λ _=>none) (λ b u z=>by have z':(none:Option HO)=some u:=z;cases z') (λ b z=>absurd rfl z) λ z=>absurd rfl z) (λ b z=>?_) (λ z=>absurd (if_neg aN) z) λ q hq=>if_pos (tIn q hq)
  ·by_cases hb':b∈tabs.map (·.2)
   ·obtain⟨q,hq,e⟩:=aaz.1 hb';exact .inr (.inr ⟨q,hq,e.symm⟩)
   ·exact .inl (if_neg hb')
  ·by_cases hb':b∈tabs.map (·.2)
   ·obtain⟨q,hq,e⟩:=aaz.1 hb';exact .inr ⟨q,hq,e.symm⟩
   ·exact absurd (if_neg hb') z
 | none=>
  refine core (λ b=>if b∈tabs.map (·.2) then some (.tbl #[]) else if b=a then some (.frz { cls:=.type "list",data:=.seq vs.toArray } (.lst (ns.map V.int))) else none) (λ b=>?_) (.inl (.inr ⟨{ cls:=.type "list",data:=.seq vs.toArray },(if_neg aN).trans (if_pos rfl)⟩))
   (tb (λ b=>if b=a then some (.frz { cls:=.type "list",data:=.seq vs.toArray } (.lst (ns.map V.int))) else none) (λ b u z=>?_) (λ b z=>?_) λ _=>⟨_,_,if_pos rfl⟩) (λ b z=>?_) (λ _=>hk) λ q hq=>if_pos (tIn q hq)
  ·by_cases hb':b∈tabs.map (·.2)
   ·obtain⟨q,hq,e⟩:=aaz.1 hb';exact .inr (.inr ⟨q,hq,e.symm⟩)
   ·by_cases hb2:b=a
    ·exact .inr (.inl ⟨_,_,(if_neg hb').trans (if_pos hb2)⟩)
    ·exact .inl ((if_neg hb').trans (if_neg hb2))
  ·by_cases hb2:b=a
   ·have z':=(if_pos hb2).symm.trans z;cases z';subst hb2;exact⟨ha,by rw[aad];exact hl,vs,_,rv,ha⟩
   ·have z':=(if_neg hb2).symm.trans z;cases z'
  ·by_cases hb2:b=a
   ·exact hb2
   ·exact absurd (if_neg hb2) z
  ·by_cases hb':b∈tabs.map (·.2)
   ·obtain⟨q,hq,e⟩:=aaz.1 hb';exact .inr ⟨q,hq,e.symm⟩
   ·by_cases hb2:b=a
    ·exact .inl hb2
    ·exact absurd ((if_neg hb').trans (if_neg hb2)) z
theorem walk_ofT {l:OpenLaw}{n k:Nat}{q:Program}{loose:List Str}{XP:(Str->Option Value)->Heap->Prop}{YP:World->Heap->Prop}{d:DefRec}{K:Params->aab}{sp:aab->List (Addr×Addr)->Sp}{x:Str}{ts:List Addr}
  (hn:l.most=some n) (hn2:n<=sizeLine) (hdf:d.params.defaults=[]) (hr:Room k callerA)
  (hY:∀ (w:World) (h:Heap),YP w h->(K w.params).In h) (hYt:∀ (w:World) (h:Heap),YP w h->∀ P∈ts,h.get? P=some (tabObj #[]))
  (F:∀ (w:World) (mg:Str->Option Value) (fa:Addr) (h:Heap),(K w.params).In h->h.Ns mainGlobals mg->mg d.name=some (.ref fa)->
   ∃ (fd:FuncData) (tabs:List (Addr×Addr)),(∀ q∈tabs,q.2∈ts/\(K w.params).lookup q.2=none/\PySem.W.codeHdIn (K w.params) q.1 q.2=true)/\(∀ (s:Shared) (u:Value),BindsTo s fd ⟨[u],[]⟩ [(x,u)])/\
    ∀ base:Heap,(K w.params).In base->base.Ns mainGlobals mg->(∀ q∈tabs,NestB mg base q.1 q.2)->FnOk l.prog w (K w.params) mg base mG k fa fd [x] (sp (K w.params) tabs))
  (hsp:∀ (K:aab) (tabs:List (Addr×Addr)) (H:Hp) (a:Addr) (ns:List Int),ns.length<=n->EQ tabs H->bR K H a (ns.map V.int)->(∀ q∈tabs,H q.2=some (.tbl #[]))->sp K tabs [.ref a] H (λ v _=>v=.bl true) λ _ _ _=>False) :
  PySem.W.WalkO q loose XP YP l.row.toRowW d [] (λ f vs=>PySem.call f vs):=by
 refine Att.attach_call hn hdf λ w s₀ af mg mb fa o pm cd doc a vs ns G Y ho hd hcd hmg hobj hints hlen hg=>?_;have KX:=hY w _ Y;obtain⟨fd,tabs,ht,hb,hF⟩:=F w mg fa _ KX G.T.g hmg;exact G9 KX G.T.g G.T.b G.T.builtins G.T.nolimit hg G.T.bmain (λ q hq=>hYt w _ Y q.2 (ht q hq).1) (λ q hq=>PySem.W.codeHd_of_K KX (ht q hq).2.2) (λ q hq=>(ht q hq).2.1) hobj hints (acd hlen hn2) hr hF hb
  (λ H hO hS hT=>hsp _ tabs H a ns hlen hO hS hT) λ H e s' z=>z
end L2
namespace Tw
open PySem L2
section
variable {α:Type}{dD:α->L2.D}{S:L2.D}
structure BfsAt (P:Program) (w:World) (K:aab) (dD:α->L2.D) (S:L2.D) (H:Hp) (fl sd:Addr) (us:List V) (kvs:List (L2.D×V)) (fs:Fs α):Prop where
 lst:H fl=some (.lst us)
 its:Paired (λ (p:α×List Int) v=>KeyD K H S (dD p.1) v) fs us
 dic:bZ P w K H sd S kvs
 row:Paired (λ (p:α×List Int) (q:L2.D×V)=>dD p.1=q.1/\∃ a,q.2=.ref a/\a≠fl/\H a=some (.lst (p.2.map V.int))) fs kvs
variable {H H':Hp}{fl sd:Addr}{us:List V}{kvs:List (L2.D×V)}{fs:Fs α}
theorem BfsAt.ne (B:BfsAt P w K dD S H fl sd us kvs fs):fl≠sd:=λ z=>by
 have h:=B.lst;rcases B.dic with ⟨e,_⟩ | ⟨xs,e,_⟩
 ·rw[z,e] at h;cases h
 ·rw[z,e] at h;cases h
theorem BfsAt.rne (B:BfsAt P w K dD S H fl sd us kvs fs) {a:Addr}{xs:List V} (h:H a=some (.lst xs)):a≠sd:=λ z=>by
 rcases B.dic with ⟨e,_⟩ | ⟨xs,e,_⟩
 ·rw[z,e] at h;cases h
 ·rw[z,e] at h;cases h
theorem BfsAt.same (B:BfsAt P w K dD S H fl sd us kvs fs) (s:aG H H'):BfsAt P w K dD S H' fl sd us kvs fs:=
 ⟨s _ _ B.lst,Paired.mapP B.its λ _ _ h=>h.mono s.ts,B.dic.same s,Paired.mapP B.row λ _ _ ⟨h1,a,h2,h3,h4⟩=>⟨h1,a,h2,h3,s _ _ h4⟩⟩
theorem Paired.get' {α ap:Type}{F:α->ap->Prop}:∀ {bn:List α}{bo:List ap},Paired F bn bo->∀ {i:Nat}{a:α},bn[i]? = some a->∃ b,bo[i]? = some b/\F a b:=by
 intro bn bo r
 induction r with
 | nil=>intro i a h;simp at h
 | cons h t ih=>
  intro i a e;cases i with
  | zero=>cases e;exact⟨_,rfl,h⟩
  | succ i=>exact ih e
theorem Paired.getR {α ap:Type}{F:α->ap->Prop}:∀ {bn:List α}{bo:List ap},Paired F bn bo->∀ {i:Nat}{b:ap},bo[i]? = some b->∃ a,bn[i]? = some a/\F a b:=by
 intro bn bo r
 induction r with
 | nil=>intro i a h;simp at h
 | cons h t ih=>
  intro i a e;cases i with
  | zero=>cases e;exact⟨_,rfl,h⟩
  | succ i=>exact ih e
theorem Paired.snoc {α ap:Type}{F:α->ap->Prop}{bn:List α}{bo:List ap}{a:α}{b:ap} (r:Paired F bn bo) (h:F a b):Paired F (bn++[a]) (bo++[b]):=by
 induction r with
 | nil=>exact .cons h .nil
 | cons h' t ih=>exact .cons h' ih
theorem BfsAt.val (B:BfsAt P w K dD S H fl sd us kvs fs) (k:L2.D):(dI dD fs k=none/\cY kvs k=none)\/∃ r a,dI dD fs k=some r/\cY kvs k=some (.ref a)/\a≠fl/\H a=some (.lst (r.map V.int)):=by
 have r:=B.row;clear B;unfold dI cY
 induction r with
 | nil=>exact .inl ⟨rfl,rfl⟩
 | @cons p q ps qs h t ih=>
  obtain⟨e,a,e2,n,hl⟩:=h
  by_cases c:dD p.1=k
  ·refine .inr ⟨p.2,a,?_,?_,n,hl⟩
   ·rw[List.find?_cons_of_pos (by simpa using c)];rfl
   ·rw[List.find?_cons_of_pos (by simpa using e ▸ c)];rw[Option.map_some,e2]
  ·rw[List.find?_cons_of_neg (by simpa using c),List.find?_cons_of_neg (by rw[<- e];simpa using c)];exact ih
theorem BfsAt.isSome (B:BfsAt P w K dD S H fl sd us kvs fs) (k:L2.D):(cY kvs k).isSome=(dI dD fs k).isSome:=by
 rcases B.val k with ⟨h1,h2⟩ | ⟨r,a,h1,h2,_⟩
 ·rw[h1,h2];rfl
 ·rw[h1,h2];rfl
theorem BfsAt.lenU (B:BfsAt P w K dD S H fl sd us kvs fs):us.length=fs.length:=(Paired.length B.its).symm
theorem BfsAt.lenK (B:BfsAt P w K dD S H fl sd us kvs fs):kvs.length=fs.length:=(Paired.length B.row).symm
theorem BfsAt.put {d:α}{r:List Int}{v:V}{ra:Addr} (B:BfsAt P w K dD S H fl sd us kvs fs) (hn:(dI dD fs (dD d)).isSome=false) (hk:KeyD K H S (dD d) v) (hr:H ra=some (.lst (r.map V.int))) (hne:ra≠fl) (bt:cB sd H H') (dd:bZ P w K H' sd S (fG kvs (dD d) (.ref ra))) :
  BfsAt P w K dD S (upd H' fl (.lst (us++[v]))) fl sd (us++[v]) (kvs++[(dD d,.ref ra)]) (fs++[(d,r)])/\lS (H' fl):=by
 have mu:=B.dic.mut;have ts1:=bt.ts (K:=K) mu;have e1:H' fl=some (.lst us):=bt _ _ B.ne B.lst;have mu2:lS (H' fl):=by rw[e1];exact trivial
 have b2:cB fl H' (upd H' fl (.lst (us++[v]))):=cB.upd;have ts2:=b2.ts (K:=K) mu2;have hv:cY kvs (dD d)=none:=by
  have:=B.isSome (dD d);rw[hn] at this;cases q:cY kvs (dD d) with
  | none=>rfl
  | some _=>rw[q] at this;cases this
 rw[oA _ hv] at dd;refine⟨⟨aB,Paired.snoc (Paired.mapP B.its λ _ _ h=>(h.mono ts1).mono ts2) ((hk.mono ts1).mono ts2),dd.mono ts2 λ o e=>b2 _ _ (Ne.symm B.ne) e,Paired.snoc (Paired.mapP B.row λ p q ⟨h1,a,h2,h3,h4⟩=>⟨h1,a,h2,h3,b2 _ _ h3 (bt _ _ (B.rne h4) h4)⟩) ⟨rfl,ra,rfl,hne,b2 _ _ hne (bt _ _ (B.rne hr) hr)⟩⟩,mu2⟩
end
section
variable {α ap:Type}
open Classical in
def cH:List α->α->Nat
 | [],_=>0
 | x::xs,d=>if x=d then 0 else cH xs d+1
open Classical in
def jI (seen:List α) (d:α):List α:=if d∈seen then seen else seen++[d]
def aP (ds:List α):List α:=ds.foldl jI []
def dC (ds:List α):List Nat:=ds.map (cH (aP ds))
theorem dU {s:List α}{d:α} (h:d∈s):jI s d=s:=if_pos h
theorem dW {s:List α}{d:α} (h:d∉s):jI s d=s++[d]:=if_neg h
theorem LD {s:List α}{d x:α}:x∈jI s d↔x∈s\/x=d:=by
 by_cases h:d∈s
 ·rw[dU h];exact⟨.inl,λ z=>z.elim id λ e=>e ▸ h⟩
 ·rw[dW h];simp
theorem fE (ds:List α) (d:α):aP (ds++[d])=jI (aP ds) d:=by unfold aP;rw[List.foldl_append];rfl
theorem pM {x:α}:∀ (ds s:List α),x∈ds.foldl jI s↔x∈s\/x∈ds
 | [],s=>by simp
 | d::ds,s=>by rw[ack,pM ds,LD,aao,or_assoc]
theorem cC {ds:List α}{x:α}:x∈aP ds↔x∈ds:=by unfold aP;rw[pM];simp
theorem DC {s:List α} (h:s.Nodup) (d:α):(jI s d).Nodup:=by
 by_cases c:d∈s
 ·rw[dU c];exact h
 ·rw[dW c,List.nodup_append];refine⟨h,by simp,λ a ha b hb e=>?_⟩;rw[aan] at hb;exact c (by rw[<- hb,<- e];exact ha)
theorem qK:∀ (ds s:List α),s.Nodup->(ds.foldl jI s).Nodup
 | [],s,h=>h
 | d::ds,s,h=>qK ds _ (DC h d)
theorem iG (ds:List α):(aP ds).Nodup:=qK ds [] List.nodup_nil
theorem LC (s:List α) (d:α):∃ m,jI s d=s++m:=by
 by_cases c:d∈s
 ·exact⟨[],by rw[dU c,acy]⟩
 ·exact⟨[d],dW c⟩
theorem vP:∀ (ds s:List α),∃ m,ds.foldl jI s=s++m
 | [],s=>⟨[],by simp⟩
 | d::ds,s=>by
  obtain⟨m1,e1⟩:=LC s d;obtain⟨m2,e2⟩:=vP ds (jI s d);exact⟨m1++m2,by rw[ack,e2,e1,acv]⟩
theorem vQ:∀ (ds s:List α),(∀ d∈ds,d∈s)->ds.foldl jI s=s
 | [],s,_=>rfl
 | d::ds,s,h=>by
  rw[ack,dU (h d aat)];exact vQ ds s λ x hx=>h x (aap _ hx)
theorem lW {d:α}:∀ {xs:List α},d∈xs->cH xs d < xs.length
 | x::xs,h=>by
  by_cases e:x=d
  ·rw[cH,if_pos e];simp
  ·rw[cH,if_neg e,abb];have:=lW ((aao.mp h).resolve_left λ z=>e z.symm);omega
theorem i4 {d:α}:∀ {xs:List α},d∈xs->xs[cH xs d]? = some d
 | x::xs,h=>by
  by_cases e:x=d
  ·rw[cH,if_pos e,e];rfl
  ·rw[cH,if_neg e,List.getElem?_cons_succ];exact i4 ((aao.mp h).resolve_left λ z=>e z.symm)
theorem J0 {a b:α}{xs:List α} (ha:a∈xs) (hb:b∈xs) (h:cH xs a=cH xs b):a=b:=by
 have e1:=i4 ha;rw[h,i4 hb] at e1;exact (abf e1).symm
theorem oB {d:α}:∀ {xs:List α}{i:Nat},xs.Nodup->xs[i]? = some d->cH xs d=i
 | x::xs,0,_,h=>by
  have e:x=d:=by simpa using h
  rw[cH,if_pos e]
 | x::xs,i+1,hn,h=>by
  rw[acs] at hn;rw[List.getElem?_cons_succ] at h;have e:¬ x=d:=λ z=>hn.1 (by rw[z];exact aah h);rw[cH,if_neg e,oB hn.2 h]
theorem gJ (ds:List α):(dC ds).length=ds.length:=by unfold dC;rw[aad]
theorem lC {ds:List α}{i:Nat}{d:α} (h:ds[i]? = some d):(dC ds)[i]? = some (cH (aP ds) d):=by
 unfold dC;rw[aaj,h];rfl
theorem sB {f:α->ap} (zs:List α) (hf:∀ a∈zs,∀ b∈zs,f a=f b->a=b):∀ (n:Nat),aP ((zs.take n).map f)=(aP (zs.take n)).map f
 | 0=>rfl
 | n+1=>by
  have ih:=sB zs hf n;rw[List.take_add_one];cases hz:zs[n]? with
  | none=>simpa using ih
  | some z=>
   show aP ((zs.take n++[z]).map f)=(aP (zs.take n++[z])).map f;rw[aam,fE];show aP ((zs.take n).map f++[f z])=_;rw[fE,ih];have hzm:=aah hz
   by_cases c:z∈aP (zs.take n)
   ·rw[dU c,dU (aco c)]
   ·rw[dW c,dW,aam];· rfl
    intro q;obtain⟨y,hy,e⟩:=aaz.mp q;have:y=z:=hf y (List.mem_of_mem_take (cC.mp hy)) z hzm e;exact c (this ▸ hy)
theorem sO {f:α->ap}{d:α}:∀ {xs:List α},(∀ x∈xs,f x=f d->x=d)->cH (xs.map f) (f d)=cH xs d
 | [],_=>rfl
 | x::xs,h=>by
  rw[aba,cH,cH]
  by_cases e:x=d
  ·rw[if_pos e,if_pos (by rw[e])]
  ·rw[if_neg e,if_neg (λ z=>e (h x aat z)),sO λ y hy=>h y (aap _ hy)]
theorem oC {f:α->ap}{zs:List α} (hf:∀ a∈zs,∀ b∈zs,f a=f b->a=b):dC (zs.map f)=dC zs:=by
 have e:=sB zs hf zs.length;rw[aay] at e;unfold dC;rw[e,aca];refine adf λ d hd=>?_;exact sO λ x hx h=>hf x (cC.mp hx) d hd h
theorem pH {xs:List α}{ys:List ap} (hl:xs.length=ys.length) (h:∀ (i j:Nat) a b c d,xs[i]? = some a->xs[j]? = some b->ys[i]? = some c->ys[j]? = some d->(a=b↔c=d)):dC xs=dC ys:=by
 have key:∀ p∈xs.zip ys,∃ i:Nat,xs[i]? = some p.1/\ys[i]? = some p.2:=λ p hp=>by
  obtain⟨i,hi⟩:=abh.1 hp;rw[List.getElem?_zip_eq_some] at hi;exact⟨i,hi⟩
 have e1:(xs.zip ys).map Prod.fst=xs:=List.map_fst_zip (by omega);have e2:(xs.zip ys).map Prod.snd=ys:=List.map_snd_zip (by omega);rw[<- e1,oC,<- oC (f:=Prod.snd),e2]
 ·intro a ha b hb e;obtain⟨i,i1,i2⟩:=key a ha;obtain⟨j,j1,j2⟩:=key b hb;exact Prod.ext ((h i j _ _ _ _ i1 j1 i2 j2).mpr e) e
 ·intro a ha b hb e;obtain⟨i,i1,i2⟩:=key a ha;obtain⟨j,j1,j2⟩:=key b hb;exact Prod.ext e ((h i j _ _ _ _ i1 j1 i2 j2).mp e)
theorem gK {ds:List α}{i j:Nat}{a b:α} (hi:ds[i]? = some a) (hj:ds[j]? = some b):(dC ds)[i]? = (dC ds)[j]?↔a=b:=by
 rw[lC hi,lC hj];refine⟨λ h=>J0 (cC.mpr (aah hi)) (cC.mpr (aah hj)) (abf h),λ h=>by rw[h]⟩
theorem vH (ds:List α):dC (dC ds)=dC ds:=by
 refine pH (gJ ds) λ i j a b c d ha hb hc hd=>?_;have q:=gK hc hd;rw[ha,hb] at q;exact⟨λ z=>q.mp (by rw[z]),λ z=>abf (q.mpr z)⟩
theorem jP (ds:List α):(aP ds).length<=ds.length:=by
 have:∀ (n:Nat),(aP (ds.take n)).length<=(ds.take n).length:=by
  intro n
  induction n with
  | zero=>exact aal _
  | succ n ih=>
   rw[List.take_add_one];cases hz:ds[n]? with
   | none=>simpa using ih
   | some z=>
    show (aP (ds.take n++[z])).length<=(ds.take n++[z]).length;rw[fE,aau,ach]
    by_cases c:z∈aP (ds.take n)
    ·rw[dU c];omega
    ·rw[dW c,aau,ach];omega
 have h:=this ds.length
 rwa [aay] at h
theorem xO {α:Type}:∀ {xs ys:List α},xs.Nodup->(∀ x∈xs,x∈ys)->xs.length<=ys.length
 | [],_,_,_=>abw _
 | x::xs,ys,hn,h=>by
  rw[acs] at hn;obtain⟨a,b,rfl⟩:=List.append_of_mem (h x aat);have:=xO (xs:=xs) (ys:=a++b) hn.2 λ y hy=>by
   have h2:=h y (aap _ hy);rw[abk,aao] at h2;rw[abk];rcases h2 with h2 | h2 | h2
   ·exact .inl h2
   ·exact absurd (h2 ▸ hy) hn.1
   ·exact .inr h2
  rw[aau] at this;rw[aau,abb,abb];omega
theorem nB {α:Type}:∀ {ys xs:List α},xs.Nodup->(∀ x∈xs,x∈ys)->ys.length<=xs.length->ys.Nodup
 | [],_,_,_,_=>List.nodup_nil
 | y::ys,xs,hn,h,hl=>by
  by_cases c:y∈ys
  ·
   have:=xO hn λ x hx=>by
    rcases aao.mp (h x hx) with e | e
    ·rw[e];exact c
    ·exact e
   rw[abb] at hl;omega
  ·rw[acs];refine⟨c,?_⟩
   by_cases cy:y∈xs
   ·obtain⟨a,b,rfl⟩:=List.append_of_mem cy;have hn':(a++b).Nodup:=by
     rw[List.nodup_append] at hn ⊢;refine⟨hn.1,(acs.mp hn.2.1).2,λ p hp q hq=>hn.2.2 p hp q (aap _ hq)⟩
    refine nB hn' (λ x hx=>?_) (by rw[aau,abb,abb] at hl;rw[aau];omega);have hx':x∈a++y::b:=by
     rw[abk] at hx ⊢;exact hx.imp id λ z=>aap _ z
    rcases aao.mp (h x hx') with e | e
    ·subst e;rw[List.nodup_append] at hn;rcases abk.mp hx with z | z
     ·exact absurd rfl (hn.2.2 x z x aat)
     ·exact absurd z (acs.mp hn.2.1).1
    ·exact e
   ·refine nB hn (λ x hx=>?_) (by rw[abb] at hl;omega);rcases aao.mp (h x hx) with e | e
    ·exact absurd (e ▸ hx) cy
    ·exact e
theorem j9 {α ap:Type}{f:α->ap}:∀ {xs:List α},(xs.map f).Nodup->∀ {a b:α},a∈xs->b∈xs->f a=f b->a=b
 | [],_,_,_,ha,_,_=>by cases ha
 | x::xs,hn,a,b,ha,hb,e=>by
  rw[aba,acs] at hn;rcases aao.mp ha with rfl | ha'
  ·rcases aao.mp hb with rfl | hb'
   ·rfl
   ·exact absurd (by rw[e];exact aco hb') hn.1
  ·rcases aao.mp hb with rfl | hb'
   ·exact absurd (by rw[<- e];exact aco ha') hn.1
   ·exact j9 hn.2 ha' hb' e
theorem nG {xs:List α}{ys:List ap} (hl:xs.length=ys.length) (hr:∀ (i j:Nat) a b c d,xs[i]? = some a->xs[j]? = some b->ys[i]? = some c->ys[j]? = some d->c=d->a=b) :
  (aP xs).length<=(aP ys).length/\((aP xs).length=(aP ys).length->dC xs=dC ys):=by
 have key:∀ p∈xs.zip ys,∃ i:Nat,xs[i]? = some p.1/\ys[i]? = some p.2:=λ p hp=>by
  obtain⟨i,hi⟩:=abh.1 hp;rw[List.getElem?_zip_eq_some] at hi;exact⟨i,hi⟩
 have e1:(xs.zip ys).map Prod.fst=xs:=List.map_fst_zip (by omega);have e2:(xs.zip ys).map Prod.snd=ys:=List.map_snd_zip (by omega);have inj:∀ a∈xs.zip ys,∀ b∈xs.zip ys,a.2=b.2->a=b:=by
  intro a ha b hb e;obtain⟨i,i1,i2⟩:=key a ha;obtain⟨j,j1,j2⟩:=key b hb;exact Prod.ext (hr i j _ _ _ _ i1 j1 i2 j2 e) e
 have s2:aP ys=(aP (xs.zip ys)).map Prod.snd:=by
  have:=sB (f:=Prod.snd) (xs.zip ys) inj (xs.zip ys).length;rw[aay,e2] at this;exact this
 have l2:(aP ys).length=(aP (xs.zip ys)).length:=by rw[s2,aad]
 have sub:∀ x∈aP xs,x∈(aP (xs.zip ys)).map Prod.fst:=λ x hx=>by
  have:x∈(xs.zip ys).map Prod.fst:=by rw[e1];exact cC.mp hx
  obtain⟨p,hp,rfl⟩:=aaz.mp this;exact aco (cC.mpr hp)
 have le:(aP xs).length<=((aP (xs.zip ys)).map Prod.fst).length:=xO (iG xs) sub;rw[aad,<- l2] at le;refine⟨le,λ e=>?_⟩;have nd:((aP (xs.zip ys)).map Prod.fst).Nodup:=nB (iG xs) sub (by rw[aad,<- l2,e];exact aal _);refine pH hl λ i j a b c d ha hb hc hd=>⟨λ z=>?_,hr i j a b c d ha hb hc hd⟩;have pa:(a,c)∈aP (xs.zip ys):=cC.mpr (aah (i:=i) (by rw[List.getElem?_zip_eq_some];exact⟨ha,hc⟩));have pb:(b,d)∈aP (xs.zip ys):=cC.mpr (aah (i:=j) (by rw[List.getElem?_zip_eq_some];exact⟨hb,hd⟩));have:=j9 nd pa pb z;injection this
theorem EI (ds:List α):(aP (dC ds)).length=(aP ds).length:=by
 refine Nat.le_antisymm (nG (gJ ds) λ i j a b c d ha hb hc hd e=>?_).1 (nG (gJ ds).symm λ i j a b c d ha hb hc hd e=>?_).1
 ·have q:=gK hc hd;rw[ha,hb] at q;exact abf (q.mpr e)
 ·have q:=gK ha hb;rw[hc,hd] at q;exact q.mp (by rw[e])
end
abbrev gU:=List (List (Nat×Bool))
def BQ (m:gU):List Nat:=dC (m.map λ r=>r.map (·.2))
def d9 (m:gU) (rs:List Nat):List (Nat×List Nat):=(rs.zip m).map λ p=>(p.1,p.2.map λ q=>rs.getD q.1 0)
def gE (m:gU) (rs:List Nat):List Nat:=dC (d9 m rs)
def aL (m:gU):Nat->List Nat
 | 0=>BQ m
 | n+1=>gE m (aL m n)
theorem iX {m:gU}{rs:List Nat} (h:rs.length=m.length):(d9 m rs).length=m.length:=by unfold d9;rw[aad,List.length_zip];omega
theorem bX (m:gU):∀ n,(aL m n).length=m.length
 | 0=>by show (dC _).length=_;rw[gJ,aad]
 | n+1=>by show (dC _).length=_;rw[gJ,iX (bX m n)]
theorem jQ (m:gU):∀ n,dC (aL m n)=aL m n
 | 0=>vH _
 | n+1=>vH _
theorem g7 {m:gU}{rs:List Nat}{i:Nat}{r:Nat}{row:List (Nat×Bool)} (h1:rs[i]? = some r) (h2:m[i]? = some row):(d9 m rs)[i]? = some (r,row.map λ q=>rs.getD q.1 0):=by
 unfold d9;rw[aaj,(List.getElem?_zip_eq_some (z:=(r,row))).mpr ⟨h1,h2⟩];rfl
theorem yU {m:gU}{rs:List Nat}{i:Nat}{z:Nat×List Nat} (h:(d9 m rs)[i]? = some z):∃ r row,rs[i]? = some r/\m[i]? = some row/\z=(r,row.map λ q=>rs.getD q.1 0):=by
 unfold d9 at h;rw[aaj] at h;obtain⟨p,hp,rfl⟩:=aas.mp h;rw[List.getElem?_zip_eq_some] at hp;exact⟨_,_,hp.1,hp.2,rfl⟩
theorem CW {m:gU}{n:Nat} (h:gE m (aL m n)≠aL m n):(aP (aL m n)).length < (aP (gE m (aL m n))).length:=by
 have q:=nG (xs:=aL m n) (ys:=d9 m (aL m n)) (by rw[iX (bX m n),bX]) λ i j a b c d ha hb hc hd e=>by
  obtain⟨r,row,h1,h2,rfl⟩:=yU hc;obtain⟨r',row',h3,h4,rfl⟩:=yU hd;rw[ha] at h1;rw[hb] at h3;cases h1;cases h3;exact (Prod.mk.inj e).1
 show _ < (aP (dC _)).length;rw[EI];rcases Nat.lt_or_ge (aP (aL m n)).length (aP (d9 m (aL m n))).length with z | z
 ·exact z
 ·exact absurd ((q.2 (Nat.le_antisymm q.1 z)).symm.trans (jQ m n)) h
theorem FR (m:gU) (n:Nat):(aP (aL m n)).length<=m.length:=by
 have:=jP (aL m n);rw[bX] at this;exact this
def gL:Nat->List L2.D->List (L2.D×V)
 | _,[]=>[]
 | o,d::r=>(d,.int (o:Nat))::gL (o+1) r
theorem lZ:∀ (o:Nat) (ds:List L2.D),(gL o ds).length=ds.length
 | _,[]=>rfl
 | o,d::r=>by rw[gL,abb,abb,lZ]
theorem n9 (d:L2.D):∀ (o:Nat) (ds:List L2.D),gL o (ds++[d])=gL o ds++[(d,.int ((o+ds.length:Nat):Int))]
 | o,[]=>rfl
 | o,x::r=>by
  rw[List.cons_append,gL,gL,n9 d (o+1) r,List.cons_append,abb,show o+1+r.length=o+(r.length+1) by omega]
theorem lY {k:L2.D}:∀ (o:Nat) (ds:List L2.D),k∈ds->cY (gL o ds) k=some (.int ((o+cH ds k:Nat):Int))
 | o,x::r,h=>by
  by_cases e:x=k
  ·rw[gL,dH (p:=(x,V.int (o:Nat))) e,cH,if_pos e];rfl
  ·rw[gL,cQ (p:=(x,V.int (o:Nat))) e,cH,if_neg e,lY (o+1) r ((aao.mp h).resolve_left λ z=>e z.symm),show o+1+cH r k=o+(cH r k+1) by omega]
theorem nA {k:L2.D}:∀ (o:Nat) (ds:List L2.D),k∉ds->cY (gL o ds) k=none
 | _,[],_=>rfl
 | o,x::r,h=>by
  rw[aao,not_or] at h;rw[gL,cQ (p:=(x,V.int (o:Nat))) (λ z=>h.1 z.symm),nA (o+1) r h.2]
end Tw
namespace L2
open PySem PySem.Spec PyProof.Rows TwZ
def QR (a:Addr) (o:Obj) (kvs:List (eV×V)):It where
 go:=λ i H=>H a=some (.frz o (.dK kvs))/\i < kvs.length
 yld:=λ i H x H'=>H=H'/\∃ k v,kvs[i]? = some (k,v)/\x=kV k
 stop:=λ i H=>H a=some (.frz o (.dK kvs))/\kvs.length<=i
theorem M5 {k:eV}{u:Value}{P:Program}{w:World} (h:(cO P w).is k u=true):aX (kV k) u:=by
 rcases cE h with ⟨i,t,rfl,rfl⟩ | ⟨x,t,rfl,rfl⟩ | ⟨rfl,rfl⟩
 ·exact⟨t,rfl⟩
 ·exact⟨t,rfl⟩
 ·exact rfl
theorem vU {P:Program}{w:World}{H:Hp}{h:Heap}{a:Addr}{o:Obj}{kvs:List (eV×V)}{es:Array DictEntry}{ep:Nat} (ok:mF P w H h) (e:H a=some (.frz o (.dK kvs))) (hd:o.data=.dict es ep) :
  ∃ vs,KV kvs vs/\h.DictAt (cO P w) a vs ep:=by
 obtain⟨g,_,_,vs,rel,o',es',ep',h1,h2,h3,h4,h5,h6⟩:=(show bQ P w H h a (.frz o (.dK kvs)) from ok a _ e);rw[g] at h1;cases h1;rw[hd] at h3;cases h3;exact⟨vs,rel,o,es,g,h2,hd,h4,h5,h6⟩
theorem KV.len {kvs:List (eV×V)}{vs:List (eV×Value)} (r:KV kvs vs):kvs.length=vs.length:=Paired.length r
theorem KV.at {kvs:List (eV×V)}{vs:List (eV×Value)} (r:KV kvs vs):∀ {i:Nat}{k:eV}{v:V},kvs[i]? = some (k,v)->∃ u,vs[i]? = some (k,u):=by
 induction r with
 | nil=>intro i k v h;simp at h
 | @cons p q ps qs hq t ih=>
  intro i k v h;cases i with
  | zero=>
   have:p=(k,v):=by simpa using h
   subst this;exact⟨q.2,by rw[List.getElem?_cons_zero];exact congrArg some (Prod.ext hq.1.symm rfl)⟩
  | succ i=>exact ih (by simpa using h)
theorem FH {P:Program}{w:World}{K:aab}{tg:Expr} (a it:Addr) (o:Obj) (kvs:List (eV×V)) {es:Array DictEntry}{ep:Nat} (hd:o.data=.dict es ep):Turn P w K tg (QR a o kvs) [it] it (λ i h=>h.IsKeyIter it a i kvs.length ep) where
 mem:=by simp
 obj:=λ i h st b hb=>by
  have e:b=it:=by simpa using hb
  subst e;obtain⟨o,e,c,d⟩:=st;exact⟨o,e,λ v z=>by rw[d] at z;cases z⟩
 keep:=λ i h h' st k=>st.at λ o e=>k it (by simp) o e
 item:=by
  intro X hP hw hK hc i pins s σ H E I hf st hg;subst hP hw hK;obtain⟨e,hi⟩:=hg;obtain⟨vs,rel,da⟩:=vU I.hok e hd;have hl:=rel.len;have hki:kvs[i]? = some (kvs[i].1,kvs[i].2):=by simp [hi]
  obtain⟨u,hu⟩:=rel.at hki;obtain⟨f0,f1,f2,f3,f4,f5⟩:=hf it (by simp);rw[hl] at st;refine wpAny_pyNext_dict_item st da hu λ key h' hk st' sb=>?_;have I1:Inv X pins σ H { s with heap:=h' }:=I.turned (t':=s.toks) (λ b o hb e=>(sb.2 b hb).trans e) f0 f1 f3 f4 f5;obtain⟨o,e,c,d⟩:=id st';rw[<- hl] at st';exact⟨key,rfl,E9 (s:={ s with heap:=h' }) e c d (by decide) ⟨_,H,I1,M5 hk,⟨rfl,_,_,hki,rfl⟩,st',λ b hb=>(hf b hb).1⟩⟩
 done:=by
  intro X hP hw hK hc i pins s σ H E I hf st hg;subst hP hw hK;obtain⟨e,hi⟩:=hg;obtain⟨vs,rel,da⟩:=vU I.hok e hd;have hl:=rel.len;obtain⟨f0,f1,f2,f3,f4,f5⟩:=hf it (by simp);rw[hl] at st;exact wpAny_pyNext_dict_end (I.ok.hd hc) st da (by simp;omega) λ h' eb=>⟨rfl,I.turned (t':=s.toks) (λ b o hb e=>eb b o hb e) f0 f1 f3 f4 f5⟩
 self:=λ _ _ _ _ _ st h=>wpAny_pyIter_keyiter st h
section
variable {X:Cx}{tg:Expr}
def RT (tl:TE):TI:=λ σ H R=>tl σ H λ x H1=>∃ a kvs,x=.ref a/\H1 a=some (.dK kvs)/\∀ o,R (QR a o kvs) (upd H1 a (.frz o (.dK kvs)))
theorem DR {l:Expr}{tl:TE} (hl:PE X l tl):PI X tg l (RT tl):=by
 intro pins s σ H R I h;refine cK (hl pins s σ H _ I h) λ v s1 ⟨x,H1,I1,r1,q1⟩=>?_;obtain⟨a,kvs,e,ha,q⟩:=q1;subst e;cases r1;obtain⟨z,hs,vs,rel,o,es,ep,g1,g2,g3,g4,g5,g6⟩:=EE I1.hok ha;have I2:Inv X pins σ (upd H1 a (.frz o (.dK kvs))) { s1 with heap:=s1.heap,toks:=s1.toks }:=
  iK I1 (by rw[ha];exact True.intro) (Heap.SameBut.refl _ _) ⟨o,g1⟩ ⟨g1,z,hs,vs,rel,o,es,ep,g1,g2,g3,g4,g5,g6⟩
 have hl:=rel.len;refine wpAny_pyIter_dict (knd:=cO X.prog X.w) (kvs:=vs) (ep:=ep) hs ⟨o,es,g1,g2,g3,g4,g5,g6⟩ ?_;refine⟨s1.heap.objs.size,[s1.heap.objs.size],_,_,_,rfl,I2.kept (t':=s1.toks) λ b o e=>aac _ e,FH a _ o kvs g3,⟨_,aak _ rfl,rfl,by rw[hl];rfl⟩,λ b hb=>?_,q o⟩;have e:b=s1.heap.objs.size:=by simpa using hb
 subst e;exact I2.fpOk (aal _) (I2.hok.fresh (aal _))
end
theorem KR {a:Addr}{o:Obj}{kvs:List (eV×V)}{g:TG}{tb:TS}{D:Ends}{σ:St}{H:Hp} (Pv:Nat->St->Hp->Prop) (hq:∀ i σ H,Pv i σ H->H a=some (.frz o (.dK kvs)))
  (h0:Pv 0 σ H) (hstop:∀ σ H,Pv kvs.length σ H->D.nx σ H)
  (hgo:∀ i k v σ H,kvs[i]? = some (k,v)->Pv i σ H->g (kV k) σ H λ au H2=>tb { D with nx:=Pv (i+1),ct:=Pv (i+1),bk:=D.nx } au H2) :
  ∃ W:Nat->Nat->St->Hp->Prop,(∃ m,W 0 m σ H)/\∀ i m σ H,W i m σ H->
   ((QR a o kvs).stop i H/\D.nx σ H)\/((QR a o kvs).go i H/\∃ N:St->Hp->Prop,(∀ Z H',N Z H'->∃ m',m' < m/\W (i+1) m' Z H')/\∀ x H',(QR a o kvs).yld i H x H'->g x σ H' λ au H2=>tb { D with nx:=N,ct:=N,bk:=D.nx } au H2):=by
 refine xY (n:=kvs.length) Pv h0 (λ σ H p=>⟨⟨hq _ σ H p,aal _⟩,hstop σ H p⟩) λ i σ H hi p=>⟨⟨hq _ σ H p,hi⟩,?_⟩;rintro x H' ⟨rfl,k,v,e,rfl⟩;exact hgo i k v σ H e p
theorem MX {a:Addr}{o:Obj}{kvs:List (eV×V)}{g:TG}{tc:TT}{te:TE}{fr:List (Option Nat)}{σ:St}{H1:Hp}{Q:Addr->Hp->Prop} (Pv:Addr->Nat->List V->St->Hp->Prop) (hq:∀ D i ys σ H,Pv D i ys σ H->H a=some (.frz o (.dK kvs)))
  (h0:∀ D,H1 D=none->Pv D 0 [] (xW fr σ) (upd H1 D (.lst []))) (hstop:∀ D ys Z H',Pv D kvs.length ys Z H'->Q D H')
  (hgo:∀ D i k v ys Z H',kvs[i]? = some (k,v)->Pv D i ys Z H'->g (kV k) Z H' λ ag H3=>tc ag H3 λ b H4=>
    if b=true then te ag H4 λ y H5=>H5 D=some (.lst ys)/\ys.length < sizeLine/\Pv D (i+1) (ys++[y]) ag (upd H5 D (.lst (ys++[y])))
    else Pv D (i+1) ys ag H4):iN (QR a o kvs) g tc te fr σ H1 Q:=by
 refine nE (n:=kvs.length) Pv h0 (λ D ys Z H' p=>⟨⟨hq D _ ys Z H' p,aal _⟩,hstop D ys Z H' p⟩) λ D i ys Z H' hi p=>⟨⟨hq D _ ys Z H' p,hi⟩,?_⟩;rintro x H2 ⟨rfl,k,v,e,rfl⟩;exact hgo D i k v ys Z H' e p
abbrev AQ:=Addr->V->V->Hp->(Hp->Prop)->Prop
abbrev LZ:AQ:=λ D y z H N=>∃ kvs k,y=kV k/\H D=some (.dK kvs)/\kvs.length < sizeLine/\N (upd H D (.dK (fG kvs k z)))
def oO (S:AQ) (J:It) (g:TG) (tc:TT) (tk tv:TE) (fr:List (Option Nat)) (σ:St) (H1:Hp) (Q:Addr->Hp->Prop):Prop:=
 ∀ D,H1 D=none->∃ W:Nat->Nat->St->Hp->Prop,(∃ m,W 0 m (xW fr σ) (upd H1 D (.dK [])))/\
  ∀ i m Z H',W i m Z H'->(J.stop i H'/\Q D H')\/
   (J.go i H'/\∃ N:St->Hp->Prop,(∀ cp H'',N cp H''->∃ m',m' < m/\W (i+1) m' cp H'')/\
    ∀ x H2,J.yld i H' x H2->g x Z H2 λ ag H3=>tc ag H3 λ b H4=>
    if b=true then tk ag H4 λ y H5=>tv ag H5 λ z H6=>S D y z H6 (N ag)
    else N ag H4)
abbrev Q8:=oO LZ
theorem L5 {S:AQ}{J:It}{n:Nat}{g:TG}{tc:TT}{tk tv:TE}{fr:List (Option Nat)}{σ:St}{H1:Hp}{Q:Addr->Hp->Prop} (Pv:Addr->Nat->St->Hp->Prop)
  (h0:∀ D,H1 D=none->Pv D 0 (xW fr σ) (upd H1 D (.dK [])))
  (hstop:∀ D Z H',Pv D n Z H'->J.stop n H'/\Q D H')
  (hgo:∀ D i Z H',i < n->Pv D i Z H'->J.go i H'/\∀ x H2,J.yld i H' x H2->g x Z H2 λ ag H3=>tc ag H3 λ b H4=>
    if b=true then tk ag H4 λ y H5=>tv ag H5 λ z H6=>S D y z H6 (Pv D (i+1) ag)
    else Pv D (i+1) ag H4):oO S J g tc tk tv fr σ H1 Q:=by
 intro D hD;refine⟨λ i m σ H=>m=n - i/\i<=n/\Pv D i σ H,⟨n,by simp,abw _,h0 D hD⟩,?_⟩;rintro i m Z H' ⟨rfl,hi,p⟩
 by_cases hlt:i < n
 ·obtain⟨go,step⟩:=hgo D i Z H' hlt p;exact .inr ⟨go,Pv D (i+1),λ cp H'' p'=>⟨n - (i+1),by omega,rfl,hlt,p'⟩,step⟩
 ·have e:i=n:=by omega
  subst e;exact .inl (hstop D Z H' p)
def OQ (S:AQ) (wi:TI) (fr:List (Option Nat)) (g:TG) (tc:TT) (tk tv:TE):TE:=λ σ H Q=>wi σ H λ J H1=>oO S J g tc tk tv fr σ H1 λ D H'=>Q (.ref D) H'
abbrev tDC:=OQ LZ
def EM (X:Cx) (S:AQ):Prop:=∀ (Y:Cx),Y.prog=X.prog->Y.w=X.w->Y.K=X.K->Y.A=X.A->∀ (pins:List (Addr×Obj)) (σ:St) (H:Hp) (s:Shared) (D:Addr) (y z:V) (u r:Value) (N:Hp->Prop) (E:Value->Shared->Prop),
 Inv Y pins σ H s->aX y u->aX z r->S D y z H N->wpAny (model Y.prog Y.w) Y.A (dictSet D u r) (λ _ s'=>∃ H',Inv Y pins σ H' s'/\N H') E s
section
variable {prog:Program}{A:Around}{R:Result->Shared->Prop}{s:Shared}
theorem uR {kx vx target iter:Expr}{ifs:List Expr}{scope:Scope}{pos:Pos}{it:Value}{D:Addr}{env:Env} (I:Nat->Shared->Prop)
  (turn:∀ n s,I n s->wpAny (model prog w) A (pyNext it) (λ r af=>match r with
   | none=>R (.ok .next) af
   | some v=>wpAny (model prog w) A (letOwnedTupleGo target it v) (λ _ cq=>wpAny (model prog w) A (assign target env v) (λ _ be=>
     wpAny (model prog w) A (forIn ifs true λ c r=>if r=true then do let ok <- isTrue c env (eval c env);pure (ForInStep.yield ok) else pure (ForInStep.yield r)) (λ ok bg=>
      if ok=true then wpAny (model prog w) A (eval kx env) (λ kv ce=>wpAny (model prog w) A (eval vx env) (λ vv cx=>
       wpAny (model prog w) A (dictSet D kv vv) (λ _ fq=>∃ m,m < n/\I m fq) (notedBy (model prog w) A env λ e s'=>R (.error e) s') cx) (notedBy (model prog w) A env λ e s'=>R (.error e) s') ce) (notedBy (model prog w) A env λ e s'=>R (.error e) s') bg
      else ∃ m,m < n/\I m bg) (notedBy (model prog w) A env λ e s'=>R (.error e) s') be) (notedBy (model prog w) A env λ e s'=>R (.error e) s') cq) (notedBy (model prog w) A env λ e s'=>R (.error e) s') af)
    (notedBy (model prog w) A env λ e s'=>R (.error e) s') s)
  (n:Nat) (h:I n s) :
  codeAny (model prog w) A (.compLoop (.DictComp kx vx [⟨target,iter,ifs,0⟩] scope pos) 0 it (.ref D) env) R s:=by
 refine codeAny_loop rfl I (λ n s hI=>?_) n h;show wpAny _ A ((compTurn (.DictComp kx vx [⟨target,iter,ifs,0⟩] scope pos) 0 it (.ref D) env).onRaise (λ x=>do noteFrame x env;theTreesLotGoes x)) _ _ s;refine wpAny_noted ?_;rw[compTurn_dict];refine aaa (wpAny_standAt (aaa (abl (turn n s hI) (λ r af h₁=>?_) λ _ _ h'=>h')));cases r with
 | none=>exact aaf h₁
 | some v=>
  refine aaa (abl h₁ (λ _ cq df=>?_) λ _ _ h'=>h');refine aaa (abl df (λ _ be aj=>aaa (abl aj (λ ok bg ai=>?_) λ _ _ h'=>h')) λ _ _ h'=>h');cases ok with
  | false=>exact aaf ⟨rfl,ai⟩
  | true=>
   exact aaa (aaa (abl ai (λ kv ce am=>aaa (abq (abl am (λ vv cx az=>aaa (wpAny_standAt (abq (abl az (λ _ fq cb=>aaf ⟨rfl,cb⟩) λ _ _ h'=>h')))) λ _ _ h'=>h'))) λ _ _ h'=>h'))
end
section
variable {X:Cx}{pins:List (Addr×Obj)}{σ:St}{H:Hp}{s:Shared}{a:Addr}{v:V}{u r:Value}{A:Around}{E:Value->Shared->Prop}{kvs:List (eV×V)}{k:eV}
theorem GS {Q:Unit->Shared->Prop} (I:Inv X pins σ H s) (e:H a=some (.dK kvs)) (l:kvs.length < sizeLine) (ry:aX (kV k) u) (rv:aX v r) (h:∀ s',Inv X pins σ (upd H a (.dK (fG kvs k v))) s'->Q () s') :
  wpAny (model X.prog X.w) A (dictSet a u r) Q E s:=by
 obtain⟨z,hd,vs,rel,dd⟩:=EE I.hok e;have hz:vs.length<=sizeLine:=by rw[<- rel.length];exact z
 have hl:(fG kvs k v).length<=sizeLine:=by have:=eP kvs k v;omega
 refine wpAny_dictSet_pairs (hsz:=hz) (tJ ry) dd λ h' dd' hs=>h _ ?_;have he:∃ q,h'.get? a=some q:=let ⟨q,_,_,hq,_⟩:=dd';⟨q,hq⟩;exact iK I (by rw[e];exact True.intro) hs he (KZ hl hd (rel.put k rv) dd')
end
section
variable {X:Cx}
theorem LY:EM X LZ:=by
 intro Y _ _ _ _ pins σ H s D y z u r N E I ry rz ⟨kvs,k,ey,hD,hl,n⟩;subst ey;exact GS I hD hl ry rz λ s' I'=>⟨_,I',n⟩
theorem L7 {Sr:AQ}{kx vx tg iter:Expr}{ifs:List Expr}{scope:Scope}{pos:Pos}{N':List Str}{fr:List (Option Nat)}{cl:List (Str×Addr)}{g:TG}{tc:TT}{tk tv:TE}
  {pins:List (Addr×Obj)}{σ:St}{H:Hp}{s:Shared}{J:It}{fp:List Addr}{it:Addr}{tn:Nat->Heap->Prop}{Q:Addr->Hp->Prop}{RR:Value->Addr->Result->Shared->Prop}{E:Value->Shared->Prop}
  (hS:EM X Sr) (hx:∀ e s,¬ X.xe e s) (hc:X.calm=true) (S:LcOk X scope cl N' fr)
  (hg:∀ fp s H,PG (jE X N' scope cl fp s H) tg g) (ht:∀ fp s H,NJ (jE X N' scope cl fp s H) ifs tc) (hk:∀ fp s H,PE (jE X N' scope cl fp s H) kx tk) (hv:∀ fp s H,PE (jE X N' scope cl fp s H) vx tv)
  (I:Inv X pins σ H s) (T:Turn X.prog X.w X.K tg J fp it tn) (st:tn 0 s.heap) (hf:∀ b∈fp,kB X pins H b) (h:oO Sr J g tc tk tv fr σ H Q)
  (hRR:∀ D C H' s' m',Inv X pins σ H' s'->Q D H'->s'.heap.Ns C m'->kB X pins H' C->RR (.ref D) C (.ok .next) s') :
  wpAny (model X.prog X.w) X.A newDict (λ acc bg=>wpAny (model X.prog X.w) X.A (newFunctionEnv scope X.env.globals cl [] X.env.qual none .none (some X.env)) (λ cenv ce=>
   codeAny (model X.prog X.w) X.A (.compStart (.DictComp kx vx [⟨tg,iter,ifs,0⟩] scope pos) 0 (.ref it) acc { cenv with scope:=relabel scope X.env }) (RR acc cenv.locals) ce) E bg) E s:=by
 have hcell:=S.nocell;rw[acr] at hcell;refine wpAny_newObj_type (wpAny_newFunctionEnv (λ x hx'=>by simpa using hcell x hx') (by intro y hy;simp at hy) (λ h₁ bx bz=>?_) S.kind);dsimp only at bx bz ⊢;have fresh:H s.heap.objs.size=none:=I.hok.fresh (aal _);have I3:Inv X pins σ (upd H s.heap.objs.size (.dK [])) { s with heap:=s.heap.push { cls:=.type "dict",data:=.dict #[] },toks:=s.toks }:=
  I.laid (a:=s.heap.objs.size) (o:=.dK []) (t':=s.toks) (λ _ _ q=>aac _ q) (aal _) (tV s.heap I.big)
 have hf3:∀ b∈fp,kB X pins (upd H s.heap.objs.size (.dK [])) b:=λ b hb=>by
  obtain⟨o,ho,_⟩:=T.obj _ _ st b hb;exact⟨by rw[aI (abc (aaq ho))];exact (hf b hb).1,(hf b hb).2⟩
 generalize hs3:({ s with heap:=s.heap.push { cls:=.type "dict",data:=.dict #[] },toks:=s.toks }:Shared)=s3 at I3;have e3:s3.heap=s.heap.push { cls:=.type "dict",dict:=none,data:=.dict #[] }:=by rw[<- hs3]
 have e3s:({ s with heap:=s.heap.push { cls:=.type "dict",dict:=none,data:=.dict #[] } }:Shared)=s3:=hs3;have hsz3:s3.heap.objs.size=s.heap.objs.size+1:=by rw[e3,aci]
 have hfo:∀ b∈fp,b < s3.heap.objs.size:=λ b hb=>by
  obtain⟨o,ho,_⟩:=T.obj _ _ st b hb;rw[hsz3];exact Nat.lt_succ_of_lt (aaq ho)
 rw[<- e3] at bx bz ⊢;have old3:∀ b o,s3.heap.get? b=some o->h₁.get? b=some o:=λ b o e=>bz.extBut b o (abc (aaq e)) (aac _ e);have old:∀ b o,s.heap.get? b=some o->s3.heap.get? b=some o:=λ b o e=>by rw[e3];exact aac _ e
 have I4:=S.invC (tk:=s3.toks) I3 hf3 hfo old3 bx;obtain⟨W,⟨m0,w0⟩,turn⟩:=h s.heap.objs.size fresh;have stat:∀ {H':Hp},(∀ b∈fp,H' b=none)->∀ b∈fp,kB (jE X N' scope cl fp s3 (upd H s.heap.objs.size (.dK []))) [] H' b:=λ hn b hb=>by
  refine⟨hn b hb,abc (hfo b hb),?_,.inl hb,λ x c e=>(hf b hb).2.2.2.2.1 x c (S.cls.get x c e),λ p hp=>absurd (show p∈([]:List (Addr×Obj)) from hp) (by simp)⟩;intro hz;obtain⟨_,f1,f2,_⟩:=hf b hb;rcases aao.mp (I.stkSub b hz) with e | e
  ·exact f1 e
  ·exact f2 e
 have loop:∀ s4:Shared,s4={ s3 with heap:=h₁,toks:=s3.toks }->
   codeAny (model X.prog X.w) X.A (.compLoop (.DictComp kx vx [⟨tg,iter,ifs,0⟩] scope pos) 0 (.ref it) (.ref s.heap.objs.size) (compEnvC scope cl s3.heap.objs.size X.env)) (RR (.ref s.heap.objs.size) s3.heap.objs.size) s4:=by
  intro s4 hs4;refine uR (λ n s'=>∃ i Z H',Inv (jE X N' scope cl fp s3 (upd H s.heap.objs.size (.dK []))) [] Z H' s'/\tn i s'.heap/\(∀ b∈fp,H' b=none)/\W i n Z H') ?_ m0
   ⟨0,xW fr σ,_,by rw[hs4];exact I4,by rw[hs4];exact T.keep _ _ _ st λ b _ o e=>old3 b o (old b o e),λ b hb=>(hf3 b hb).1,w0⟩
  rintro n s5 ⟨i,cn,H5,I5,st5,fr5,w5⟩;rcases turn i n cn H5 w5 with ⟨stop,qn⟩ | ⟨go,N,hN,step⟩
  ·refine cK (T.done (jE X N' scope cl fp s3 (upd H s.heap.objs.size (.dK []))) rfl rfl rfl hc i [] s5 cn H5 _ I5 (stat fr5) st5 stop) λ r s6 ⟨hr,I6⟩=>?_;subst hr;obtain⟨m',hm',_⟩:=I6.loc;exact hRR _ _ H5 s6 m' (I3.outC I6 hf3) qn hm' (I3.fpOk (aal _) I6.free)
  ·refine cK (T.item (jE X N' scope cl fp s3 (upd H s.heap.objs.size (.dK []))) rfl rfl rfl hc i [] s5 cn H5 _ I5 (stat fr5) st5 go) λ r s6 ⟨u,hr,h6⟩=>?_;subst hr;refine cK h6 λ _ s7 ⟨x,H7,I7,r7,y7,st7,fr7⟩=>?_;have I7':=I7.pinned (stat fr7) (T.obj _ _ st7);refine abl (hg fp s3 _ _ s7 cn H7 x u _ I7' r7 (step x H7 y7)) (λ _ s8 ⟨bq,H8,I8,q8⟩=>?_) λ e s' z=>(hx e s' z).elim;refine abl (ht fp s3 _ _ s8 bq H8 _ I8 q8) (λ ok s9 ⟨H9,I9,q9⟩=>?_) λ e s' z=>(hx e s' z).elim;have again:∀ {s10:Shared}{H10:Hp},Inv (jE X N' scope cl fp s3 (upd H s.heap.objs.size (.dK []))) ([]++pE fp s7.heap) bq H10 s10->N bq H10->
     ∃ m,m < n/\∃ i Z H',Inv (jE X N' scope cl fp s3 (upd H s.heap.objs.size (.dK []))) [] Z H' s10/\tn i s10.heap/\(∀ b∈fp,H' b=none)/\W i m Z H':=λ {s10 H10} I10 n10=>by
    obtain⟨m',hm,w10⟩:=hN bq H10 n10;refine⟨m',hm,i+1,bq,H10,I10.unpinned,T.keep _ _ _ st7 λ b hb o e=>(I10.pin (b,o) (abj _ (abj _ (gC hb e)))).1,λ b hb=>?_,w10⟩;obtain⟨o,e,d⟩:=T.obj _ _ st7 b hb;exact (I10.pin (b,o) (abj _ (abj _ (gC hb e)))).2.1
   cases ok with
   | false=>
    rw[if_neg aar] at q9 ⊢;exact again I9 q9
   | true=>
    rw[if_pos rfl] at q9 ⊢;refine abl (hk fp s3 _ _ s9 bq H9 _ I9 q9) (λ y s10 ⟨yv,H10,I10,r10,q10⟩=>?_) λ e s' z=>(hx e s' z).elim;refine abl (hv fp s3 _ _ s10 bq H10 _ I10 q10) (λ z s11 ⟨zv,H11,I11,r11,q11⟩=>?_) λ e s' z=>(hx e s' z).elim;exact cK (hS (jE X N' scope cl fp s3 (upd H s.heap.objs.size (.dK []))) rfl rfl rfl rfl _ _ _ _ _ _ _ _ _ _ _ I11 r10 r11 q11) λ _ s12 ⟨H12,I12,n12⟩=>again I12 n12
 exact codeAny_compStart_dict (loop _ (by rw[<- e3s];rfl)) (T.self X.A 0 _ _ _ (T.keep _ _ _ st λ b _ o e=>old3 b o (old b o e)) (loop _ (by rw[<- e3s];rfl)))
theorem JD {Sr:AQ}{kx vx tg iter:Expr}{ifs:List Expr}{scope:Scope}{pos:Pos}{N':List Str}{fr:List (Option Nat)}{cl:List (Str×Addr)}{wi:TI}{g:TG}{tc:TT}{tk tv:TE}
  (hS:EM X Sr) (hx:∀ e s,¬ X.xe e s) (hc:X.calm=true) (S:LcOk X scope cl N' fr) (hi:PI X tg iter wi)
  (hg:∀ fp s H,PG (jE X N' scope cl fp s H) tg g) (ht:∀ fp s H,NJ (jE X N' scope cl fp s H) ifs tc) (hk:∀ fp s H,PE (jE X N' scope cl fp s H) kx tk) (hv:∀ fp s H,PE (jE X N' scope cl fp s H) vx tv)
  (hs:∀ x,foldedSetIterable iter X.env x=pure x:=by intro _;rfl):PE X (.DictComp kx vx [⟨tg,iter,ifs,0⟩] scope pos) (OQ Sr wi fr g tc tk tv):=by
 intro pins s σ H Q I h;have hloc:=S.locs;rw[acr] at hloc;show wpAny _ X.A (comprehension (.DictComp kx vx [⟨tg,iter,ifs,0⟩] scope pos) scope X.env _ newDict false (eval iter X.env)) _ _ s;refine wpAny_comprehension_free (use:=none) rfl hs S.clos S.kind (λ x hx' hl=>by have:=hloc x hx';rw[hl] at this;simpa using this) (cK (hi pins s σ H _ I h) λ v s1 h1=>cK h1 λ itv s2 h2=>?_);obtain⟨it,fp,tn,J,H2,e,I2,T,st2,f2,rest⟩:=h2;subst e;refine L7 (RR:=λ acc C=>compPost (model X.prog X.w) X.A X.xe none (EP X pins σ Q) acc C) hS hx hc S hg ht hk hv I2 T st2 f2 rest ?_;intro D C H' s' m' I' q hn f;exact⟨m',hn,λ h' hsb=>⟨.ref D,H',I'.letgo f hsb,rfl,q⟩⟩
theorem RJ {kx vx tg iter:Expr}{ifs:List Expr}{scope:Scope}{pos:Pos}{N':List Str}{fr:List (Option Nat)}{cl:List (Str×Addr)}{wi:TI}{g:TG}{tc:TT}{tk tv:TE}
  (hx:∀ e s,¬ X.xe e s) (hc:X.calm=true) (S:LcOk X scope cl N' fr) (hi:PI X tg iter wi)
  (hg:∀ fp s H,PG (jE X N' scope cl fp s H) tg g) (ht:∀ fp s H,NJ (jE X N' scope cl fp s H) ifs tc) (hk:∀ fp s H,PE (jE X N' scope cl fp s H) kx tk) (hv:∀ fp s H,PE (jE X N' scope cl fp s H) vx tv)
  (hs:∀ x,foldedSetIterable iter X.env x=pure x:=by intro _;rfl):PE X (.DictComp kx vx [⟨tg,iter,ifs,0⟩] scope pos) (tDC wi fr g tc tk tv):=JD LY hx hc S hi hg ht hk hv hs
end
section
variable {prog:Program}{KK:Type}[DecidableEq KK]{knd:HeapKind prog w KK}{A:Around}{E:Value->Shared->Prop}{s:Shared}
theorem qN {d a:Addr}{xs:List (KK×Addr×Value)}{k:KK}{v:Value}{Q:Value->Shared->Prop} (hu:knd.room A) (hkey:knd.is s.heap k a) (hm:s.heap.DictOfH knd d xs)
  (hthere:∀ p,atKey xs k=some p->Q p.2 { s with toks:=s.toks+knd.draws k })
  (hQ:atKey xs k=none->∀ h',h'.DictOfH knd d (storedH xs k a v)->Heap.SameBut d s.heap h'->Q v { s with heap:=h',toks:=s.toks+knd.draws k })
  (hsz:xs.length<=sizeLine):wpAny (model prog w) A (dictSetDefault d (.ref a) v) Q E s:=by
 obtain⟨o,es,ep,ho,hc,hd,he,his,hn⟩:=hm;unfold dictSetDefault
 try with_reducible refine abq ?_
 refine aaa (knd.pyHash hu hkey ?_);refine aaa (wpAny_dictFind_heap (s:={ s with toks:=s.toks+knd.draws k }) hu hkey ho hd he his hn ?_ ?_)
 ·intro hno;have hnot:k∉xs.map (·.1):=not_mem_keys_of_get hno;refine aaa (acz (aaa (wpAny_updateDictKeys (hz:=by have e:=size_of_entries he;omega) (s:={ s with toks:=s.toks+knd.draws k }) ho hd (aaf (hQ (atKey_none_of_get hno) _ ⟨_,_,ep+1,acw _ ho (Obj.isFreed_of_dict (Obj.data_mapDictKeys hd _)),
   hc.mapDictKeys _,Obj.data_mapDictKeys hd _,?_,?_,?_⟩ (Heap.SameBut.update ..))))))
  ·rw[storedH_new (atKey_none_of_get hno)];simp [he,entryOfKey]
  ·rw[storedH_new (atKey_none_of_get hno)];intro x hx;rcases abk.mp hx with hx | hx
   ·exact knd.keeps (his x hx) ho hd (Heap.SameBut.update ..)
   ·simp only [aan] at hx;subst hx;exact knd.keeps hkey ho hd (Heap.SameBut.update ..)
  ·rw[storedH_new (atKey_none_of_get hno)];rw[aam,List.nodup_append];refine⟨hn,by simp,?_⟩;intro x hx y hy;simp only [aba,acl,aan] at hy;subst hy;exact λ e=>hnot (e ▸ hx)
 ·intro j p hj;refine aaa (wpAny_dictEntries (s:={ s with toks:=s.toks+knd.draws k }) ho hd ?_);rw[entry_at he j,hj];exact aaa (acz (aaf (hthere p (atKey_of_get hn hj))))
theorem lO {d a:Addr}{xs:List (KK×Addr×Value)}{k:KK}{v:Value}{Q:Value->Shared->Prop} (hu:knd.room A.in1) (hkey:knd.is s.heap k a) (hd:(d == sysModules)=false) (hm:s.heap.DictOfH knd d xs)
  (hthere:∀ p,atKey xs k=some p->Q p.2 { s with toks:=s.toks+knd.draws k })
  (hQ:atKey xs k=none->∀ h',h'.DictOfH knd d (storedH xs k a v)->Heap.SameBut d s.heap h'->Q v { s with heap:=h',toks:=s.toks+knd.draws k })
  (hsz:xs.length<=sizeLine):wpAny (model prog w) A (call (.builtin "dict.setdefault") [.ref d,.ref a,v]) Q E s:=by
 refine wpAny_call_entry PySem.F.slot_dict_setdefault hm.typeIs PySem.F.entry_dict_setdefault ?_ (PySem.F.args_dict_setdefault_3 _ _ _);unfold Builtin.«dict.setdefault»;refine aaa ?_;unfold Builtin.Dict.keyAndDefault;refine aaa (wpAny_notOrdered_dict hm.typeIs ?_);show wpAny _ _ (pure (d,Value.ref a,some v)) _ _ s;refine aaf ?_;show wpAny _ _ (if (d == sysModules)=true then _ else (dictSetDefault d (.ref a) v >>= _)) _ _ s;rw[if_neg (by rw[hd];exact aar)];exact aaa (qN hu hkey hm (λ p hp=>aaf ⟨_,rfl,hthere p hp⟩) (λ hn h' hm' hs'=>aaf ⟨_,rfl,hQ hn h' hm' hs'⟩) hsz)
theorem G7 {d:Addr}{xs:List (KK×Addr×Value)}{Q:Value->Shared->Prop} (hd:(d == sysModules)=false) (hm:s.heap.DictOfH knd d xs) (hfit:(xs.length:Int) < 2 ^ 63)
  (h:Q (.int xs.length (s.toks+1)) { s with toks:=s.toks+1+1 }):wpAny (model prog w) A (call (.builtin "len") [.ref d]) Q E s:=by
 refine Calls.call_function_entry kind_len plain_len entry_len (args_len1 _) ?_;unfold Builtin.«len»;refine aaa (m:=oneArg "len" _) (aaf ?_);refine aaa (m:=callSpecial? (.ref d) (Str.ofString "__len__")) (wpAny_callSpecial?_slot (name:=Str.ofString "__len__") hm.typeIs PySem.F.slot_dict_len
  (wpAny_call_entry PySem.F.slot_dict_len hm.typeIs PySem.F.entry_dict_len ?_ (PySem.F.args_dict_len_1 _)))
 obtain⟨o,es,ep,ho,hc,hdat,he,his,hn⟩:=hm;show wpAny _ _ (dictSize d >>= _) _ _ s;unfold dictSize;refine aaa (aaa (wpAny_dictEntries ho hdat (aaf ?_)));show wpAny _ _ (Builtin.Dict.pendingCount d >>= _) _ _ s;refine aaa (wpAny_pendingCount_other hd ?_);have:es.size=xs.length:=size_of_entries he;have e0:((es.size:Int)+((0:Nat):Int))=(xs.length:Int):=by rw[this];omega
 rw[show retInt ((es.size:Int)+((0:Nat):Int))=retInt (xs.length:Int) by rw[e0]];refine aaa (wpAny_mkInt (aaf ⟨_,rfl,?_⟩));show wpAny _ _ _ _ _ { s with toks:=s.toks+1 };refine aaa (abq (aaf ?_));refine aaa (wpAny_letGo ?_);show wpAny _ _ (if ((xs.length:Nat):Int) < 0 then _ else _) _ _ _;rw[if_neg (by omega)];show wpAny _ _ (if ((xs.length:Nat):Int) ≥ 2 ^ 63 then _ else _) _ _ _;rw[if_neg (by omega)];exact aaa (wpAny_mkInt (aaf ⟨_,rfl,h⟩))
end
section
variable {X:Cx}{pins:List (Addr×Obj)}{σ:St}{H:Hp}{s:Shared}{a:Addr}{S:D}{kvs:List (D×V)}
theorem bZ.exact (I:Inv X pins σ H s) (g:bZ X.prog X.w X.K H a S kvs):s.TypeIs (.ref a) "dict" /\ (∀ b,Value.ref a=.ref b->∃ ob,s.heap.get? b=Option.some ob/\ob.dict=none):=by
 obtain⟨_,_,xs,_,dd⟩:=g.at I;refine⟨dd.typeIs,λ b q=>?_⟩;cases q;obtain⟨ob,_,_,h1,h2,_⟩:=dd;exact⟨ob,h1,h2.2.1⟩
def NX (P:Program) (w:World) (K:aab):List V->Hp->VK->Prop:=λ xs H Q=>∃ a S kvs,xs=[.ref a]/\bZ P w K H a S kvs/\Q (.int kvs.length) H
theorem HC:dZ X (.builtin "len") (NX X.prog X.w X.K):=by
 intro pins s σ H xs us Q I r h;obtain⟨a,S,kvs,rfl,g,q⟩:=h;obtain⟨u,rfl,rx⟩:=pW r;cases rx;obtain⟨hd,hz,ys,p,dd⟩:=g.at I;have hl:=Paired.length p;have hs:sizeLine=16777216:=sizeLine_eq;exact G7 hd dd (by omega) ⟨.int kvs.length,H,I.tok _,⟨_,by rw[hl]⟩,q⟩
theorem D7 {P:Program}{w:World}{K:aab} (hP:X.prog=P) (hw:X.w=w) (hK:X.K=K):dZ X (.builtin "len") (NX P w K):=by subst hP hw hK;exact HC
def NL (P:Program) (w:World) (K:aab) (td ty tx:TE):TE:=λ σ H Q=>td σ H λ x H1=>∃ a S1 kvs1,x=.ref a/\bZ P w K H1 a S1 kvs1/\ty σ H1 λ y H2=>tx σ H2 λ z H3=>∃ S kvs k,bZ P w K H3 a S kvs/\KeyD K H3 S k y/\kvs.length < sizeLine/\
 (∀ v,cY kvs k=some v->Q v H3)/\(cY kvs k=none->∀ H4,cB a H3 H4->bZ P w K H4 a S (fG kvs k z)->Q z H4)
theorem MI {o e f:Expr}{td ty tx:TE}{apos cpos:Pos} (hu:X.A.units+64 < cLine) (ho:PE X o td) (he:PE X e ty) (hf:PE X f tx) (m:M2 X o "setdefault" apos e f cpos):PE X (.Call (.Attribute o "setdefault" apos) [e,f] [] cpos) (NL X.prog X.w X.K td ty tx):=by
 intro pins s σ H Q I h;refine wpAny_Call_method m.base m.few m.line PySem.F.plainAttrs_dict PySem.F.slot_dict_setdefault PySem.F.type_dict_setdefault (cK (ho pins s σ H _ I h) λ u s1 ⟨x,H1,I1,rx,a,S1,kvs1,ex,g1,q1⟩=>?_);subst ex;obtain rfl:u=Value.ref a:=rx;obtain⟨t1,t2⟩:=g1.exact I1;refine⟨t1,t2,?_⟩;rw[m.trees];refine Calls.callWith_builtin rfl (Calls.evalArgs_plain (Calls.spliced_cons (cK (he pins s1 σ H1 _ I1 q1) λ iv s2 ⟨y,H2,I2,ry,q2⟩=>
  Calls.spliced_cons (cK (hf pins s2 σ H2 _ I2 q2) λ fv s3 ⟨z,H3,I3,rz,S,kvs,k,g,hk,hlen,qa,qb⟩=>Calls.spliced_nil ?_))))
 obtain⟨b,rfl⟩:=hk.tup;cases ry;obtain⟨hd,hz,xs,p,dd⟩:=g.at I3;have hl:=Paired.length p;have hval:=KD.val k p;refine lO (knd:=eA X.prog X.w S) (show X.A.in1.units+8 < cLine by show X.A.units+1+8 < cLine;omega) (hk.at I3) hd dd (λ pp hp=>?_) (λ hn h' dd' hsb=>?_) (by omega)
 ·rw[hp] at hval;cases hv:cY kvs k with
  | none=>rw[hv] at hval;exact hval.elim
  | some v=>
   rw[hv] at hval;exact⟨v,H3,I3.tok _,hval,qa v hv⟩
 ·rw[hn] at hval;have hv:cY kvs k=none:=by
   cases hv:cY kvs k with
   | none=>rfl
   | some v=>rw[hv] at hval;exact hval.elim
  obtain⟨qo,es,ep,hq,h2,h3,h4,_,h5⟩:=dd';have mu:=g.mut;have bt:cB a H3 (upd H3 a (.ext (mT X.prog X.w S a (storedH xs k b fv)))):=cB.upd;have ts:=bt.ts (K:=X.K) mu;have hlp:(fG kvs k z).length<=sizeLine:=by have:=eP kvs k z;omega
  exact⟨z,_,iK I3 mu hsb ⟨qo,hq⟩ (ob:=.ext (mT X.prog X.w S a (storedH xs k b fv))) ⟨⟨qo,es,ep,hq,h2,h3,h4,h5⟩,⟨qo,hq⟩,λ h1 h2' ⟨o',es',ep',z1,z⟩ kk=>⟨o',es',ep',kk _ z1,z⟩⟩,rz,qb hv _ bt (.inr ⟨_,aB,hd,hlp,KD.mono (KD.put p hk rz) ts⟩)⟩
theorem JB {P:Program}{w:World}{K:aab}{o e f:Expr}{td ty tx:TE}{apos cpos:Pos} (hP:X.prog=P) (hw:X.w=w) (hK:X.K=K) (hu:X.A.units+64 < cLine) (ho:PE X o td) (he:PE X e ty) (hf:PE X f tx) (m:M2 X o "setdefault" apos e f cpos):PE X (.Call (.Attribute o "setdefault" apos) [e,f] [] cpos) (NL P w K td ty tx):=by
 subst hP hw hK;exact MI hu ho he hf m
end
abbrev M3 (P:Program) (w:World) (K:aab):AQ:=λ D y z H N=>∃ S kvs k,bZ P w K H D S kvs/\KeyD K H S k y/\kvs.length < sizeLine/\∀ H',cB D H H'->bZ P w K H' D S (fG kvs k z)->N H'
section
variable {X:Cx}{pins:List (Addr×Obj)}{σ:St}{H:Hp}{s:Shared}{a:Addr}{v:V}{u r:Value}{A:Around}{E:Value->Shared->Prop}{kvs:List (D×V)}{k S:D}
theorem CZ {Q:Unit->Shared->Prop} (hu:A.units+8 < cLine) (I:Inv X pins σ H s) (g:bZ X.prog X.w X.K H a S kvs) {y:V} (hk:KeyD X.K H S k y) (l:kvs.length < sizeLine) (ry:aX y u) (rv:aX v r)
  (h:∀ H' s',Inv X pins σ H' s'->cB a H H'->bZ X.prog X.w X.K H' a S (fG kvs k v)->Q () s') :
  wpAny (model X.prog X.w) A (dictSet a u r) Q E s:=by
 obtain⟨b,rfl⟩:=hk.tup;cases ry;obtain⟨hd,hz,xs,p,dd⟩:=g.at I;have hz':xs.length<=sizeLine:=by rw[<- Paired.length p];exact hz
 have hlp:(fG kvs k v).length<=sizeLine:=by have:=eP kvs k v;omega
 refine wpAny_dictSet_heap (knd:=eA X.prog X.w S) (hsz:=hz') hu (hk.at I) dd λ h' dd' hsb=>?_;obtain⟨qo,es,ep,hq,h2,h3,h4,_,h5⟩:=dd';have mu:=g.mut;have bt:cB a H (upd H a (.ext (mT X.prog X.w S a (storedH xs k b r)))):=cB.upd;have ts:=bt.ts (K:=X.K) mu;exact h _ _ (iK I mu hsb ⟨qo,hq⟩ (ob:=.ext (mT X.prog X.w S a (storedH xs k b r))) ⟨⟨qo,es,ep,hq,h2,h3,h4,h5⟩,⟨qo,hq⟩,λ h1 h2' ⟨o',es',ep',z1,z⟩ kk=>⟨o',es',ep',kk _ z1,z⟩⟩) bt (.inr ⟨_,aB,hd,hlp,KD.mono (KD.put p hk rv) ts⟩)
end
section
variable {X:Cx}
theorem M0 (hu:X.A.units+64 < cLine):EM X (M3 X.prog X.w X.K):=by
 intro Y h1 h2 h3 h4 pins σ H s D y z u r N E I ry rz ⟨S,kvs,k,g,hk,hl,n⟩;rw[<- h1,<- h2,<- h3] at g n;rw[<- h3] at hk;exact CZ (by rw[h4];omega) I g hk hl ry rz λ H' s' I' b' d'=>⟨H',I',n H' b' d'⟩
theorem MJ {P:Program}{w:World}{K:aab}{kx vx tg iter:Expr}{ifs:List Expr}{scope:Scope}{pos:Pos}{N':List Str}{fr:List (Option Nat)}{cl:List (Str×Addr)}{wi:TI}{g:TG}{tc:TT}{tk tv:TE}
  (hP:X.prog=P) (hw:X.w=w) (hK:X.K=K) (hu:X.A.units+64 < cLine) (hx:∀ e s,¬ X.xe e s) (hc:X.calm=true) (S:LcOk X scope cl N' fr) (hi:PI X tg iter wi)
  (hg:∀ fp s H,PG (jE X N' scope cl fp s H) tg g) (ht:∀ fp s H,NJ (jE X N' scope cl fp s H) ifs tc) (hk:∀ fp s H,PE (jE X N' scope cl fp s H) kx tk) (hv:∀ fp s H,PE (jE X N' scope cl fp s H) vx tv)
  (hs:∀ x,foldedSetIterable iter X.env x=pure x:=by intro _;rfl):PE X (.DictComp kx vx [⟨tg,iter,ifs,0⟩] scope pos) (OQ (M3 P w K) wi fr g tc tk tv):=by subst hP hw hK;exact JD (M0 hu) hx hc S hi hg ht hk hv hs
def NW (K:aab):List V->Hp->VK->Prop:=λ xs H Q=>∃ (p:Addr) (ns:List Int),xs=[.ref p]/\bR K H p (ns.map V.int)/\0 < ns.length/\∀ M,M∈ns->(∀ a∈ns,a<=M)->Q (.int M) H
theorem HB (hc:X.calm=true):dZ X (.builtin "max") (NW X.K):=by
 intro pins s σ H xs us Q I r h;obtain⟨p,ns,rfl,hq,h0,q⟩:=h;obtain⟨u,rfl,ru⟩:=r.one;cases ru;obtain⟨its,rv,pl,hz⟩:=I.list hq;have hi:=nF rv;have hl:=pl.isList;obtain⟨ys,e⟩:=hi.allInts.items;have hns:ns=ys.toList.map (·.1):=by rw[<- hi.numsOf,<- nums_intItems,<- e]
 have hsz:0 < ys.size:=by
  have h3:=h0;rw[hns,aad,abi] at h3;exact h3
 rw[e] at hl;refine max_intList (I.ok.hd hc) hl hsz λ v h' tk hv hk=>?_;obtain⟨t,rfl⟩:=intItems_at hv;obtain⟨h1,h2⟩:=argBest_gt (numAt ys) (ys.size - 1);refine⟨.int _,H,I.kept hk,⟨t,rfl⟩,q _ ?_ λ a ha=>?_⟩
 ·rw[hns,numAt_eq];exact getD_mem (by rw[aad,abi];omega)
 ·rw[hns] at ha;obtain⟨j,hj,rfl⟩:=mem_getD ha;rw[aad,abi] at hj;rw[<- numAt_eq];exact h2 j (by omega)
theorem D6 {K:aab} (hK:X.K=K) (hc:X.calm=true):dZ X (.builtin "max") (NW K):=by subst hK;exact HB hc
end
section
variable {g:TG}{tc:TT}{te:TE}{fr:List (Option Nat)}{σ:St}{H1:Hp}{Q:Addr->Hp->Prop}
theorem JV {t:Bool}{a:Addr}{xs:List V} (Pv:Addr->Nat->List V->St->Hp->Prop)
  (hq:∀ D i r σ H,Pv D i r σ H->jK K H t a xs)
  (h0:∀ D,H1 D=none->Pv D 0 [] (xW fr σ) (upd H1 D (.lst []))) (hstop:∀ D r Z H',Pv D xs.length r Z H'->Q D H')
  (hgo:∀ D i x r Z H' T,xs[i]? = some x->Pv D i r Z H'->H' T=none->g (.ref T) Z (upd H' T (.tup [.int (i:Int),x])) λ ag H3=>tc ag H3 λ b H4=>
    if b=true then te ag H4 λ y H5=>H5 D=some (.lst r)/\r.length < PySem.sizeLine/\Pv D (i+1) (r++[y]) ag (upd H5 D (.lst (r++[y])))
    else Pv D (i+1) r ag H4):iN (QJ K t a) g tc te fr σ H1 Q:=by
 refine nE (n:=xs.length) Pv h0 (λ D r Z H' p=>⟨⟨xs,hq D _ r Z H' p,aal _⟩,hstop D r Z H' p⟩) λ D i r Z H' hi p=>⟨⟨xs,xs[i],hq D _ r Z H' p,by simp [hi]⟩,?_⟩;rintro v H2 ⟨T,x,hT,rfl,e1,rfl⟩;exact hgo D i x r Z H' T (e1 xs (hq D _ r Z H' p)) p hT
theorem L6 {P:Program}{w:World}{tk tv:TE}{t:Bool}{a:Addr}{xs:List V} (Pv:Addr->Nat->St->Hp->Prop)
  (hq:∀ D i σ H,Pv D i σ H->jK K H t a xs)
  (h0:∀ D,H1 D=none->Pv D 0 (xW fr σ) (upd H1 D (.dK []))) (hstop:∀ D Z H',Pv D xs.length Z H'->Q D H')
  (hgo:∀ D i x Z H' T,xs[i]? = some x->Pv D i Z H'->H' T=none->g (.ref T) Z (upd H' T (.tup [.int (i:Int),x])) λ ag H3=>tc ag H3 λ b H4=>
    if b=true then tk ag H4 λ y H5=>tv ag H5 λ z H6=>∃ S kvs k,bZ P w K H6 D S kvs/\KeyD K H6 S k y/\kvs.length < sizeLine/\∀ H7,cB D H6 H7->bZ P w K H7 D S (fG kvs k z)->Pv D (i+1) ag H7
    else Pv D (i+1) ag H4):oO (M3 P w K) (QJ K t a) g tc tk tv fr σ H1 Q:=by
 refine L5 (S:=M3 P w K) (n:=xs.length) Pv h0 (λ D Z H' p=>⟨⟨xs,hq D _ Z H' p,aal _⟩,hstop D Z H' p⟩) λ D i Z H' hi p=>⟨⟨xs,xs[i],hq D _ Z H' p,by simp [hi]⟩,?_⟩;rintro v H2 ⟨T,x,hT,rfl,e1,rfl⟩;exact hgo D i x Z H' T (e1 xs (hq D _ Z H' p)) p hT
end
end L2
namespace Tw
open PySem L2
theorem cZ {n:Nat} (h:n<=10000000):n < sizeLine:=by rw[sizeLine_eq];omega
section
variable {α:Type}{dD:α->L2.D}{nxt:α->Int->α}{fin:α->Int->Bool}{ok:α->Prop}{G:Hp->Prop}{S:L2.D}
def OW (K:aab) (dD:α->L2.D) (nxt:α->Int->α) (fin:α->Int->Bool) (ok:α->Prop) (G:Hp->Prop) (most:Nat):Sp:=λ vs H Q _=>∃ (x:V) (d:α) (a:Nat),vs=[x,.int a]/\Is K H (dD d) x/\ok d/\a<=most/\G H/\
 ∀ p y H',aG H H'->bC K H' p [y,.bl (fin d a)]->Is K H' (dD (nxt d a)) y->Q (.ref p) H'
structure Goes (K:aab) (dD:α->L2.D) (nxt:α->Int->α) (ok:α->Prop) (G:Hp->Prop) (S:L2.D) (most:Nat):Prop where
 next:∀ d (a:Nat),ok d->a<=most->ok (nxt d a)
 key:∀ d,ok d->∀ H v,Is K H (dD d) v->KeyD K H S (dD d) v
 stay:∀ H H',bI K H H'->G H->G H'
def vB (P:Program) (w:World) (K:aab) (mg:Str->Option Value) (base:Heap) (cT:Addr) (dD:α->L2.D):QE:=λ s outer vs H Q E=>∃ (nxt:α->Int->α) (fin:α->Int->Bool) (ok:α->Prop) (G:Hp->Prop) (S:L2.D) (x:V) (f c:Addr) (ob oc:Obj) (cl:List (Str×Addr)) (most lim:Nat) (first:α),
 vs=[x,.ref f,.int most,.int lim]/\1<=lim/\lim<=1000/\most<=1000/\Is K H (dD first) x/\ok first/\Goes K dD nxt ok G S most/\G H/\FnH H f c ob oc/\(∃ cls od fd sl,ob=⟨cls,od,.func fd,sl⟩)/\EN P w K mg base 6 f c ob oc cl (OW K dD nxt fin ok G most) s/\
 (∀ c∈cl.map (·.2),H c=none/\c∉jL outer/\c < s.heap.objs.size/\∃ o,s.heap.get? c=some o)/\
 (∀ row fs,HG dD nxt fin most lim first=.ends row fs->∀ p rl fl H',aG H H'->bC K H' p [.ref rl,.ref fl]->H' rl=some (.lst (row.map V.int))->H rl=none->row.length<=2000->Q (.ref p) H')/\
 (HG dD nxt fin most lim first=.many->∀ H',aG H H'->E (.ref cT) none H')/\
 (∀ fs,HG dD nxt fin most lim first=.on fs->∀ p fl us H',aG H H'->bC K H' p [.non,.ref fl]->H' fl=some (.lst us)->H fl=none->Paired (λ (p:α×List Int) v=>KeyD K H' S (dD p.1) v) fs us->(∀ q∈fs,ok q.1)->fs.length<=lim->Q (.ref p) H')
theorem mK:FnScope ["first","step","most","limit","found","rows","place","here","amount","row","behind","is_end"] ["first","step","most","limit"] (aM (bO 26)):={}
theorem mO {f:Addr}{fd:FuncData} (F:Fun K "go_through" "go_through" (bO 26) f fd) (T:Txt mg) (XC_TooMany:ExC K "TooMany" c_TooMany) :
  FnOkS P w K mg base (nO P w) 7 f fd ["first","step","most","limit"] (vB P w K mg base c_TooMany dD):=by
 refine F.okS mK (λ s o vs H Q E h=>?_) (λ cdv A outer s H vs Q E hr e0 h L=>?_)
 ·obtain⟨nxt,fin,ok,G,S,x,f,c,ob,oc,cl,most,lim,first,rfl,_⟩:=h;rfl
 ·obtain⟨nxt,fin,ok,G,S,x,f',c,ob,oc,cl,most,lim,first,rfl,hl1,hl2,hm,hx,hok,gs,hG,hF,RF,RS,hc,kE,kM,kO⟩:=h;have sc:=mK;have RC:∀ c∈cl.map (·.2),H c=none/\c∉jL outer/\c∉([]:List Addr)/\c < s.heap.objs.size/\∃ o,s.heap.get? c=some o:=λ c hc'=>by
   obtain⟨h1,h2,h3⟩:=hc c hc';exact⟨h1,h2,by simp,h3⟩
  refine⟨_,(aD (M9 (i:=4) (j:=5) (k:=6) rfl sc.nd rfl rfl rfl (by decide) (by decide) (by decide) rfl rfl rfl (aA (cJ (aA (pv 0) aC)) (aA (FU (P:=P) (w:=w) (K:=K) rfl rfl rfl hr.units (pv 0) (cJ aC)) (aA aH aC))) rfl)
   (aD (sM PassesOwn.leaving (bE sV (pv 6) (bD (cD (K:=K) rfl) rfl T.b_len ace (aA (pv 4) aC)) (bP _)) (aD (aQ (i:=7) sc.nd rfl (Or.inl rfl) (bA (aO (K:=K) rfl) (pv 4) (pv 6) (λ _ _=>rfl)))
   (aD (eD PassesOwn.leaving rfl (eC rfl T.b_range (aA (bB dB (pv 2) aH) aC)) (aF (i:=8) sc.nd rfl (Or.inl rfl)) (aD (aQ (i:=9) sc.nd rfl (Or.inl rfl) (bB xH (bA (K3 (P:=P) (w:=w) (K:=K) rfl rfl rfl hr.units) (pv 5) (pv 7) (λ _ _=>rfl)) (cJ (aA (pv 8) aC))))
   (aD (cI (JF RS RF (hr.mono (by decide)) RC (i:=1) rfl (.inl rfl) (aA (pv 7) (aA (pv 8) aC)) rfl rfl) (aU (K:=K) (n:=2) rfl rfl (aE (aF (i:=10) sc.nd rfl (Or.inl rfl)) (aE (aF (i:=11) sc.nd rfl (Or.inl rfl)) aS))))
   (aD (eF (pC (pv 11)) (aJ (bH (bF (aA (pv 9) (aA (pv 4) aC))))) cA)
   (aJ (eF (bE (JI (P:=P) (w:=w) (K:=K) rfl rfl rfl hr.units) (pv 10) (pv 5) (by rfl)) (aD (eF (bE O2 (bD (cD (K:=K) rfl) rfl T.b_len ace (aA (pv 4) aC)) (pv 3) (bP _)) (aJ (zH L rfl rfl XC_TooMany.exc XC_TooMany.ns PySem.F.excBase_ValueError (aA g9 aC))) cA)
   (aD (FS (P:=P) (w:=w) (K:=K) rfl rfl rfl hr.units (pv 5) (pv 10) (pv 9) rfl)
   (aJ (dA (gA (K:=K) rfl abm abn abo cX (pv 4) (aA (pv 10) aC)))))) cA))))))
   (aJ (BR (i:=6) sc.nd rfl (Or.inl rfl) aH CP)))))
   (aJ (bH (bF (aA fT (aA (pv 4) aC))))))),?_⟩
  refine⟨_,rfl,(show 1<=sizeLine by decide),λ fl hfl=>λ sd hsd=>⟨_,rfl,abw _,λ r0 hr0=>?_⟩⟩;have nfs:fl≠sd:=aK (show upd H fl (.lst [x]) fl=_ from aB) hsd;have nsr:sd≠r0:=aK (show upd (upd H fl (.lst [x])) sd (.dK []) sd=_ from aB) hr0;have nfr:fl≠r0:=aK (show upd (upd H fl (.lst [x])) sd (.dK []) fl=_ by rw[aI nfs];exact aB) hr0;have s1:aG H (upd (upd (upd H fl (.lst [x])) sd (.dK [])) r0 (.lst [])):=((aG.new hfl).trans (aG.new hsd)).trans (aG.new hr0);have ff:H fl=none:=hfl;have fsd:H sd=none:=(aG.new hfl).free hsd;have g1:upd (upd (upd H fl (.lst [x])) sd (.dK [])) r0 (.lst []) fl=some (.lst [x]):=by rw[aI nfr,aI nfs];exact aB
  have g2:upd (upd (upd H fl (.lst [x])) sd (.dK [])) r0 (.lst []) sd=some (.dK []):=by rw[aI nsr];exact aB
  have g3:upd (upd (upd H fl (.lst [x])) sd (.dK [])) r0 (.lst []) r0=some (.lst []):=aB;generalize upd (upd (upd H fl (.lst [x])) sd (.dK [])) r0 (.lst [])=H1 at s1 g1 g2 g3 ⊢;have A3:=gs.key first hok H1 x (Is.mono s1.ts _ _ hx)
  refine⟨g2,S,dD first,A3,λ H3 b3 d3=>⟨_,_,_,rfl,?_⟩⟩;have mu2:lS (H1 sd):=by rw[g2];exact trivial
  have ts3:=b3.ts (K:=K) mu2;have B3:BfsAt P w K dD S H3 fl sd [x] [(dD first,.ref r0)] [(first,[])]:=⟨b3 _ _ nfs g1,.cons (A3.mono ts3) .nil,d3,.cons ⟨rfl,r0,rfl,Ne.symm nfr,b3 _ _ (Ne.symm nsr) g3⟩ .nil⟩;have s3:aG H H3:=λ b o e=>b3 b o (aK e fsd) (s1 b o e);have F3:FnH H3 f' c ob oc:=hF.same s3;have G3:G H3:=gs.stay _ _ s3.ts hG;clear g1 g2 g3;refine⟨λ m Z H'=>aG H H'/\∃ (p:Nat) (fs:Fs α) (us:List V) (kvs:List (L2.D×V)) (v7 v8 v9 v10 v11:Option V),m=lim+1 - p/\BfsAt P w K dD S H' fl sd us kvs fs/\p<=fs.length/\fs.length<=lim/\(∀ q∈fs,ok q.1/\q.2.length < fs.length)/\iP dD nxt fin most lim (lim+1 - p) p fs=HG dD nxt fin most lim first/\
    Z=[some x,some (.ref f'),some (.int most),some (.int lim),some (.ref fl),some (.ref sd),some (.int (p:Int)),v7,v8,v9,v10,v11],
   ⟨_,s3,0,_,_,_,_,_,_,_,_,rfl,B3,abw _,by simpa using hl1,λ q hq=>by rw[aan] at hq;subst hq;exact⟨hok,(show 0 < 1 by decide)⟩,rfl,rfl⟩,?_⟩
  clear B3 F3 G3 d3 ts3 b3 mu2;rintro m Z H4 ⟨s4,p,fs,us,kvs,v7,v8,v9,v10,v11,rfl,B4,hp,hlf,hoks,hb,rfl⟩;have eul:=B4.lenU;have lm:lim<=10000000:=by omega
  refine⟨_,rfl,_,rfl,fl,us,rfl,.inl (bR.of B4.lst),_,_,rfl,rfl,_,rfl,kI (λ hT=>?_) λ hN=>?_⟩
  ·have hT:(p:Int) < us.length:=by simpa using hT
   have hpl:p < fs.length:=by omega
   refine⟨λ Z H'=>aG H H'/\∃ (p':Nat) (fs:Fs α) (us:List V) (kvs:List (L2.D×V)) (v7 v8 v9 v10 v11:Option V),p'=p+1/\BfsAt P w K dD S H' fl sd us kvs fs/\p'<=fs.length/\fs.length<=lim/\(∀ q∈fs,ok q.1/\q.2.length < fs.length)/\iP dD nxt fin most lim (lim+1 - p') p' fs=HG dD nxt fin most lim first/\
    Z=[some x,some (.ref f'),some (.int most),some (.int lim),some (.ref fl),some (.ref sd),some (.int (p':Int)),v7,v8,v9,v10,v11],λ Z H' ⟨h1,p',fs',us',kvs',w7,w8,w9,w10,w11,h2,h⟩=>⟨lim+1 - p',by omega,h1,p',fs',us',kvs',w7,w8,w9,w10,w11,rfl,h⟩,?_⟩
   obtain⟨⟨d,r0'⟩,hq⟩:∃ q,fs[p]? = some q:=⟨_,aag hpl⟩;obtain⟨v,hv,kv⟩:=Paired.get' B4.its hq;have okd:ok d:=(hoks _ (aah hq)).1;obtain⟨r,er⟩:=Option.isSome_iff_exists.mp (hU (dD:=dD) (aah hq));refine⟨_,rfl,_,rfl,.inl ⟨fl,us,(p:Int),v,rfl,rfl,bR.of B4.lst,gH hv,?_⟩⟩;refine⟨_,rfl,_,_,rfl,rfl,_,rfl,by omega,by omega,?_⟩;rw[show ((most:Int)+1).toNat=most+1 by omega];refine fK (lo:=0) (n:=most+1) (λ i Z H'=>aG H H'/\∃ (fs:Fs α) (us:List V) (kvs:List (L2.D×V)) (v8 v9 v10 v11:Option V),BfsAt P w K dD S H' fl sd us kvs fs/\p < fs.length/\fs.length<=lim/\(∀ q∈fs,ok q.1/\q.2.length < fs.length)/\dI dD fs (dD d)=some r/\r.length < fs.length/\
    OB dD nxt fin most lim p (pR dD nxt fin lim d r (most+1 - i) (i:Nat) fs)=HG dD nxt fin most lim first/\KeyD K H' S (dD d) v/\
    Z=[some x,some (.ref f'),some (.int most),some (.int lim),some (.ref fl),some (.ref sd),some (.int (p:Int)),some v,v8,v9,v10,v11]) ?_ ?_ ?_
   ·refine⟨s4,fs,us,kvs,_,_,_,_,B4,hpl,hlf,hoks,er,?_,?_,kv,rfl⟩
    ·obtain⟨q,hq1,hq2⟩:∃ q∈fs,q.2=r:=by
      unfold dI at er;obtain⟨q,e1,e2⟩:=aas.mp er;exact⟨q,List.mem_of_find?_eq_some e1,e2⟩
     rw[<- hq2];exact (hoks q hq1).2
    ·rw[<- hb,show lim+1 - p=(lim - p)+1 by omega];exact (HI hq er rfl).symm
   ·rintro i Z H5 hi ⟨s5,fs,us,kvs,w8,w9,w10,w11,B5,hpl5,hlf5,hoks5,er5,hrl,hb5,kv5,rfl⟩;rw[Int.zero_add];have eul5:=B5.lenU;dsimp only [kQ];rcases B5.val (dD d) with ⟨z,_⟩ | ⟨r',ra0,z1,z2,z3,z4⟩
    ·rw[er5] at z;cases z
    rw[er5] at z1;cases z1;refine⟨_,rfl,_,rfl,sd,S,kvs,dD d,.ref ra0,rfl,B5.dic,kv5,z2,_,rfl,(show 1<=sizeLine by decide),λ la hla=>⟨ra0,la,r.map V.int,[.int i],rfl,rfl,aG.new hla _ _ z4,aB,by rw[aad,sizeLine_eq];show r.length+1<=_;omega,λ ra hra=>?_⟩⟩;have s6:aG H5 (upd (upd H5 la (.lst [.int i])) ra (.lst (r.map V.int++[.int i]))):=(aG.new hla).trans (aG.new hra);have g6:upd (upd H5 la (.lst [.int i])) ra (.lst (r.map V.int++[.int i])) ra=some (.lst ((r++[(i:Int)]).map V.int)):=by rw[aB,aam];rfl
    have nra:ra≠fl:=λ z=>by
     have:=(aG.new hla).free hra;rw[z,B5.lst] at this;cases this
    have fra:H ra=none:=(s5.trans (aG.new hla)).free hra;generalize upd (upd H5 la (.lst [.int i])) ra (.lst (r.map V.int++[.int i]))=H6 at s6 g6 ⊢;have B6:=B5.same s6;have F6:FnH H6 f' c ob oc:=hF.same (s5.trans s6);refine⟨rfl,F6,_,rfl,_,rfl,F6,v,d,i,rfl,(kv5.mono s6.ts).is,okd,by omega,gs.stay _ _ (s5.trans s6).ts hG,λ pp y H7 s7 qp iy=>?_⟩;refine⟨pp,_,rfl,qp,rfl,_,_,rfl,_,_,rfl,rfl,?_⟩;have B7:=B6.same s7;have ok':ok (nxt d i):=gs.next d i okd (by omega);have ky:=gs.key _ ok' H7 y iy;have hla1:most+1 - i=(most - i)+1:=by omega
    rw[hla1] at hb5;refine⟨_,rfl,_,rfl,?_⟩;cases hf:fin d i with
    | true=>
     refine fH ?_;rw[oR hf] at hb5;have e5:HG dD nxt fin most lim first=.ends (r++[(i:Int)]) fs:=hb5.symm
     refine⟨_,rfl,_,rfl,(show 2<=sizeLine by decide),λ tp htp=>?_⟩;have s8:=aG.new (o:=HO.tup [.ref ra,.ref fl]) htp;exact kE _ _ e5 tp ra fl _ (((s5.trans s6).trans s7).trans s8) (bC.of aB) (s8 _ _ (s7 _ _ g6)) fra (by rw[aau,ach];omega)
    | false=>
     refine eE ?_;refine⟨_,rfl,_,rfl,sd,S,kvs,dD (nxt d i),rfl,B7.dic,ky,_,rfl,?_⟩;rw[B7.isSome];cases hv':(dI dD fs (dD (nxt d i))).isSome with
     | true=>
      refine eE ?_;rw[mC hf hv'] at hb5;exact⟨(s5.trans s6).trans s7,fs,us,kvs,_,_,_,_,B7,hpl5,hlf5,hoks5,er5,hrl,by rw[show most+1 - (i+1)=most - i by omega];exact hb5,kv5.mono (s6.trans s7).ts,rfl⟩
     | false=>
      refine fH ?_;refine⟨_,rfl,fl,us,rfl,.inl (bR.of B7.lst),_,rfl,_,_,rfl,rfl,_,rfl,kI (λ hT2=>?_) λ hN2=>?_⟩
      ·have hT2:(us.length:Int) ≥ lim:=by simpa using hT2
       rw[jH hf hv' (by omega)] at hb5;exact⟨by show 1<=100;decide,kM hb5.symm _ ((s5.trans s6).trans s7)⟩
      ·have hN2:¬ (us.length:Int) ≥ lim:=by simpa using hN2
       have hlt:fs.length < lim:=by omega
       rw[mD hf hv' hlt] at hb5;refine⟨_,rfl,_,rfl,_,rfl,sd,S,kvs,dD (nxt d i),rfl,B7.dic,ky,cZ (by rw[B7.lenK];omega),λ H8 b8 d8=>?_⟩;obtain⟨B9,mu8⟩:=B7.put hv' ky (s7 _ _ g6) nra b8 d8;have hfl8:H8 fl=some (.lst us):=b8 _ _ B7.ne B7.lst;refine⟨_,rfl,.inl ⟨rfl,_,bR.of hfl8⟩,_,rfl,fl,us,_,rfl,rfl,hfl8,cZ (by omega),?_⟩;have s8:aG H H8:=λ b o e=>b8 b o (aK e fsd) (((s5.trans s6).trans s7) b o e);have bt9:cB fl H8 (upd H8 fl (.lst (us++[y]))):=cB.upd;refine⟨s8.put ff,_,_,_,_,_,_,_,B9,by rw[aau];omega,by rw[aau,ach];omega,λ q hq=>?_,EZ _ er5,by rw[aau];omega,by rw[show most+1 - (i+1)=most - i by omega];exact hb5,((kv5.mono (s6.trans s7).ts).mono (b8.ts B7.dic.mut)).mono (bt9.ts mu8),rfl⟩;rw[aau,ach];rcases abk.1 hq with hq | hq
       ·obtain⟨h1,h2⟩:=hoks5 q hq;exact⟨h1,by omega⟩
       ·rw[aan] at hq;subst hq;exact⟨ok',by show (r++[(i:Int)]).length < _;rw[aau,ach];omega⟩
   ·
    rintro Z H5 ⟨s5,fs,us,kvs,w8,w9,w10,w11,B5,hpl5,hlf5,hoks5,er5,hrl,hb5,kv5,rfl⟩;rw[Nat.sub_self] at hb5;refine⟨_,rfl,_,_,rfl,rfl,s5,p+1,fs,us,kvs,_,_,_,_,_,rfl,B5,hpl5,hlf5,hoks5,?_,rfl⟩;rw[<- hb5];show iP dD nxt fin most lim (lim+1 - (p+1)) (p+1) fs=iP dD nxt fin most lim (lim - p) (p+1) fs;rw[show lim+1 - (p+1)=lim - p by omega]
  ·
   have hN:¬ (p:Int) < us.length:=by simpa using hN
   rw[HH (by omega)] at hb;refine⟨_,rfl,(show 2<=sizeLine by decide),λ tp htp=>?_⟩;have s8:=aG.new (o:=HO.tup [.non,.ref fl]) htp;have B8:=B4.same s8;exact kO fs hb.symm tp fl us _ (s4.trans s8) (bC.of aB) B8.lst ff B8.its (λ q hq=>(hoks q hq).1) hlf
end
def kL (n:Nat):V:=.int (n:Int)
def BI (K:aab):Sp:=λ vs H Q _=>∃ (l:Addr) (us:List V) (ds:List L2.D) (S:L2.D),vs=[.ref l]/\H l=some (.lst us)/\Paired (λ d v=>KeyD K H S d v) ds us/\ds.length<=1000/\
 ∀ r H',aG H H'->H' r=some (.lst ((dC ds).map kL))->H r=none->Q (.ref r) H'
theorem qB:FnScope ["signs","numbers","sign"] ["signs"] (aM (bO 35)):={}
theorem zN {f:Addr}{fd:FuncData} (F:Fun K "numbered" "numbered" (bO 35) f fd) (T:Txt mg):FnOk P w K mg base mG 1 f fd ["signs"] (BI K):=by
 refine F.ok qB (λ vs H Q E h=>?_) (λ cdv A outer s H vs Q E hr h=>?_)
 ·obtain⟨l,us,ds,S,rfl,_⟩:=h;rfl
 ·obtain⟨l,us,ds,S,rfl,hl,pr,hlen,k⟩:=h;have sc:=qB;have eul:us.length=ds.length:=(Paired.length pr).symm;refine⟨_,(aD (aQ (i:=1) sc.nd rfl (Or.inr rfl) zI)
   (aD (eD PassesOwn.never rfl (eY (K:=K) rfl (pv 0)) (aF (i:=2) sc.nd rfl (Or.inl rfl)) (aJ (dA (JB (P:=P) (w:=w) (K:=K) rfl rfl rfl hr.units (pv 1) (pv 2) (bD (D7 (P:=P) (w:=w) (K:=K) rfl rfl rfl) rfl T.b_len ace (aA (pv 1) aC)) ⟨rfl,rfl,rfl,rfl⟩))))
   (aJ (bH (i5 (λ _ _ h=>h) rfl (LcOk.mk (N':=["sign","numbers"]) (fr:=[none,some 1]) rfl ⟨rfl,trivial⟩ rfl rfl rfl rfl rfl ⟨⟨_,rfl,rfl,rfl,rfl⟩,trivial⟩) (eY (K:=K) rfl (pv 0)) (λ _ _ _=>(aF (i:=0) (show (["sign","numbers"]:List Str).Nodup by decide +kernel) rfl (Or.inl rfl) (Or.inr rfl))) (λ _ _ _=>cG) (λ _ _ _=>(bA (K3 (P:=P) (w:=w) (K:=K) rfl rfl rfl hr.units) (pv 1) (pv 0) (λ _ _=>rfl)))))))),?_⟩
  refine λ sd hsd=>?_;have fsd:H sd=none:=hsd;have s1:aG H (upd H sd (.dK [])):=aG.new hsd;have g1:upd H sd (.dK []) sd=some (.dK []):=aB;generalize upd H sd (.dK [])=H1 at s1 g1 ⊢;refine⟨_,rfl,l,rfl,⟨_,bR.of (s1 _ _ hl)⟩,tP (K:=K) (a:=l) (xs:=us) (λ j Z H'=>aG H H'/\bZ P w K H' sd S (gL 0 (aP (ds.take j)))/\∃ v2,Z=[some (.ref l),some (.ref sd),v2]) ?_ ?_ ?_ ?_⟩
  ·exact⟨s1,bZ.new g1,_,rfl⟩
  ·rintro i Z H' _ ⟨s2,_⟩;exact bR.of (s2 _ _ hl)
  ·rintro j u Z H2 hu ⟨s2,dd,v2,rfl⟩;obtain⟨d,hd,kd⟩:=Paired.getR pr hu;have hj:=(aae.mp hu).1;have hsl:(aP (ds.take j)).length<=ds.length:=acd (jP _) (by rw[aav];omega);have ht:aP (ds.take (j+1))=jI (aP (ds.take j)) d:=by rw[List.take_add_one,hd];exact fE _ _
   refine⟨_,rfl,sd,S,_,rfl,dd,_,rfl,_,rfl,sd,S,_,rfl,dd,S,_,d,dd,kd.mono s2.ts,cZ (by rw[lZ];omega),λ v hv=>?_,λ hn H4 b4 d4=>?_⟩
   ·refine⟨s2,?_,_,rfl⟩;have hm:d∈aP (ds.take j):=Classical.byContradiction λ z=>by rw[nA 0 _ z] at hv;cases hv
    rw[ht,dU hm];exact dd
   ·refine⟨λ b o e=>b4 b o (aK e fsd) (s2 b o e),?_,_,rfl⟩;have hm:d∉aP (ds.take j):=λ z=>by rw[lY 0 _ z] at hn;cases hn
    rw[oA _ hn,lZ] at d4;rw[ht,dW hm,n9,Nat.zero_add];exact d4
  ·rintro Z H2 ⟨s2,dd,v2,rfl⟩;rw[eul,aay] at dd;refine⟨_,rfl,l,rfl,⟨_,bR.of (s2 _ _ hl)⟩,jZ (K:=K) (a:=l) (xs:=us) (λ D i r Z H'=>H2 D=none/\aG H2 H'/\H' D=some (.lst r)/\r=((dC ds).take i).map kL/\∃ u,Z=[u,some (.ref sd)])
    (λ D i r Z H' p=>bR.of (p.2.1 _ _ (s2 _ _ hl))) (λ D hD=>⟨hD,aG.new hD,aB,rfl,none,rfl⟩) ?_ ?_⟩
   ·rintro D r Z H3 ⟨hDn,sm,hDl,rfl,_⟩;rw[eul,<- gJ ds,aay] at hDl;exact k D H3 (s2.trans sm) hDl (s2.free hDn)
   ·rintro D i u r Z H3 hu ⟨hDn,sm,hDl,rfl,v,rfl⟩;obtain⟨d,hd,kd⟩:=Paired.getR pr hu;have hi:=(aae.mp hu).1;have hm:d∈aP ds:=cC.mpr (aah hd);refine fU ?_;refine⟨_,rfl,_,rfl,sd,S,_,d,_,rfl,dd.same sm,kd.mono (s2.trans sm).ts,lY 0 _ hm,hDl,cZ (by rw[aad,aav,gJ];omega),hDn,sm.put hDn,aB,?_,_,rfl⟩;rw[List.take_add_one,lC hd,aam,Nat.zero_add];rfl
end Tw
namespace L2
open PySem PySem.Spec PyProof.Rows TwZ
section
variable {X:Cx}{pins:List (Addr×Obj)}{σ:St}{H:Hp}{s:Shared}
theorem yC {us:List Value}{j:Nat}{w:Value} (h1:j < us.toArray.size) (h:us[j]? = some w):us.toArray[j]=w:=by
 have:us[j]? = some us.toArray[j]:=by simp
 rw[this] at h;exact abf h
theorem AM:∀ (ns ms:List Int),ns.length=ms.length->(List.range ns.length).all (λ j=>decide (ns[j]? = ms[j]?))=decide (ns=ms)
 | [],[],_=>rfl
 | [],_::_,h=>by simp at h
 | _::_,[],h=>by simp at h
 | n::ns,m::ms,h=>by
  have ih:=AM ns ms (by simpa using h);rw[abb,List.range_succ_eq_map,List.all_cons,List.all_map];have e:((λ j=>decide ((n::ns)[j]? = (m::ms)[j]?)) ∘ Nat.succ)=λ j=>decide (ns[j]? = ms[j]?):=by funext j;simp
  rw[e,ih]
  by_cases h1:n=m <;> by_cases h2:ns=ms <;> simp [h1,h2]
def DO (K:aab):R2:=λ x y H Q=>∃ (a b:Addr) (ns ms:List Int),x=.ref a/\y=.ref b/\bR K H a (ns.map V.int)/\bR K H b (ms.map V.int)/\ns.length=ms.length/\Q (.bl (decide (ns=ms))) H
theorem FW (hu:X.A.units+64 < cLine):h9 X (compareOp .Eq) (DO X.K):=by
 intro pins s σ H x y v u Q I rx ry h;obtain⟨a,b,ns,ms,rfl,rfl,q1,q2,hl,q⟩:=h;cases rx;cases ry;obtain⟨us,r1,p1,_⟩:=I.list q1;obtain⟨vs,r2,p2,_⟩:=I.list q2;have e1:=r1.length;have e2:=r2.length;rw[aad] at e1 e2;refine SeqAt.eq_listAt (e:=λ j=>decide (ns[j]? = ms[j]?)) p1.isList p2.isList (by simp;omega) (by omega) (λ j h1 h2=>?_) ?_
 ·have j1:j < ns.length:=by rw[e1];simpa using h1
  have j2:j < ms.length:=by rw[e2];simpa using h2
  obtain⟨w1,g1,t,rfl⟩:=r1.get (i:=j) (x:=.int ns[j]) (by simp);obtain⟨w2,g2,t',rfl⟩:=r2.get (i:=j) (x:=.int ms[j]) (by simp);rw[yC h1 g1,yC h2 g2];have:decide (ns[j]? = ms[j]?)=(ns[j] == ms[j]):=by rw[aag j1,aag j2];by_cases h:ns[j]=ms[j] <;> simp [h]
  rw[this];exact SeqAt.EqAt.int_int _ _ _ _
 ·rw[aaw,<- e1,AM ns ms hl];exact⟨.bl _,H,I,rfl,q⟩
theorem CB {K:aab} (hK:X.K=K) (hu:X.A.units+64 < cLine):h9 X (compareOp .Eq) (DO K):=by subst hK;exact FW hu
def LI (K:aab) (H:Hp) (x y:V):Prop:=∃ a b xs ys,x=.ref a/\y=.ref b/\bC K H a xs/\bC K H b ys/\xs.length=ys.length/\∀ (i:Nat) u v,xs[i]? = some u->ys[i]? = some v->EqE K H u v
def zE (K:aab):R2:=λ x y H Q=>LI K H x y/\Q (.bl false) H
theorem BY (hu:X.A.units+64 < cLine):h9 X (compareOp .NotEq) (zE X.K):=by
 intro pins s σ H x y v u Q I rx ry h;obtain⟨⟨a,b,xs,ys,rfl,rfl,q1,q2,hl,he⟩,q⟩:=h;cases rx;cases ry;obtain⟨us,r1,p1,_⟩:=I.tuple q1;obtain⟨vs,r2,p2,_⟩:=I.tuple q2;have e1:=r1.length;have e2:=r2.length;have hin:X.A.in1.units=X.A.units+1:=rfl;refine SeqAt.RcNeAt.tuples (A:=X.A) (s:=s) (e:=λ _=>true) p1 p2 (by omega) (λ j h1 h2=>?_) X.prog X.w X.xe _ ?_
 ·have j1:j < xs.length:=by rw[e1];simpa using h1
  have j2:j < ys.length:=by rw[e2];simpa using h2
  obtain⟨w1,g1,t1⟩:=r1.get (i:=j) (x:=xs[j]) (by simp);obtain⟨w2,g2,t2⟩:=r2.get (i:=j) (x:=ys[j]) (by simp);rw[yC h1 g1,yC h2 g2];exact (he j _ _ (by simp) (by simp)).at I (by omega) t1 t2
 ·have e5:(!(((List.range (min us.toArray.size vs.toArray.size)).all (λ _=>true)) && us.toArray.size == vs.toArray.size))=false:=by simp;omega
  rw[e5];exact⟨.bl false,H,I,rfl,q⟩
theorem qH {K:aab} (hK:X.K=K) (hu:X.A.units+64 < cLine):h9 X (compareOp .NotEq) (zE K):=by subst hK;exact BY hu
end
end L2
namespace Tw
open PySem L2
def wF (K:aab) (H:Hp) (row:List (Nat×Bool)) (u:V):Prop:=∃ a vs,u=.ref a/\H a=some (.lst vs)/\Paired (λ (p:Nat×Bool) v=>∃ q,v=.ref q/\bC K H q [kL p.1,.bl p.2]) row vs
def gF (K:aab) (H:Hp) (ml:Addr) (m:gU):Prop:=∃ us,H ml=some (.lst us)/\Paired (wF K H) m us
theorem wF.same {K:aab}{H H':Hp}{row:List (Nat×Bool)}{u:V} (h:wF K H row u) (s:aG H H'):wF K H' row u:=by
 obtain⟨a,vs,e,h1,h2⟩:=h;exact⟨a,vs,e,s _ _ h1,Paired.mapP h2 λ _ _ ⟨q,e,z⟩=>⟨q,e,s.tup z⟩⟩
theorem gF.same {K:aab}{H H':Hp}{ml:Addr}{m:gU} (h:gF K H ml m) (s:aG H H'):gF K H' ml m:=by
 obtain⟨us,h1,h2⟩:=h;exact⟨us,s _ _ h1,Paired.mapP h2 λ _ _ z=>z.same s⟩
structure MachOk (m:gU) (wd:Nat):Prop where
 len:m.length<=1000
 wid:∀ row∈m,row.length=wd
 wd:wd<=1001
 lt:∀ row∈m,∀ p∈row,p.1 < m.length
theorem uQ (xs:List Int):(L2.D.tup (xs.map L2.D.int)).depth=1:=by
 rw[L2.D.depth,gZ _ jC]
theorem y2 (xs:List Bool):(L2.D.tup (xs.map L2.D.bl)).depth=1:=by
 rw[L2.D.depth,gZ _ tX]
theorem oM {K:aab}{H:Hp}:∀ xs:List Int,IsL K H (xs.map L2.D.int) (xs.map V.int)
 | []=>by rw[acl,L2.IsL];rfl
 | x::xs=>by rw[aba,aba,L2.IsL];exact⟨_,_,rfl,by rw[L2.Is],oM xs⟩
theorem DZ {K:aab}{H:Hp}:∀ xs:List Bool,IsL K H (xs.map L2.D.bl) (xs.map V.bl)
 | []=>by rw[acl,L2.IsL];rfl
 | x::xs=>by rw[aba,aba,L2.IsL];exact⟨_,_,rfl,by rw[L2.Is],DZ xs⟩
def CO (row:List Bool):L2.D:=.tup (row.map L2.D.bl)
def A3 (z:Nat×List Nat):L2.D:=.tup [.int (z.1:Int),.tup ((z.2.map λ (n:Nat)=>(n:Int)).map L2.D.int)]
theorem N0 {K:aab}{H:Hp}{a:Addr}{row:List Bool}{wd:Nat} (h:bC K H a (row.map V.bl)) (hw:row.length=wd):KeyD K H (.tup (List.replicate wd (.bl false))) (CO row) (.ref a):=by
 refine⟨?_,?_,?_,?_,a,rfl⟩
 ·show sh (.tup (row.map L2.D.bl))=_;rw[sh,wX,hw]
 ·show (L2.D.tup (row.map L2.D.bl)).depth<=7;rw[y2];decide
 ·show dF (.tup (row.map L2.D.bl));rw[dF];exact mY _
 ·show Is K H (.tup (row.map L2.D.bl)) _;rw[L2.Is];exact⟨a,_,rfl,h,DZ row⟩
theorem MZ {K:aab}{H:Hp}{a b:Addr}{z:Nat×List Nat}{wd:Nat} (h:bC K H a [kL z.1,.ref b]) (hb:bC K H b (z.2.map kL)) (hw:z.2.length=wd):KeyD K H (.tup [.int 0,.tup (List.replicate wd (.int 0))]) (A3 z) (.ref a):=by
 refine⟨?_,?_,?_,?_,a,rfl⟩
 ·show sh (.tup [.int (z.1:Int),.tup ((z.2.map λ (n:Nat)=>(n:Int)).map L2.D.int)])=_;rw[sh,kK,kK,kK,sh,sh,nZ,aad,hw]
 ·show (L2.D.tup [.int (z.1:Int),.tup ((z.2.map λ (n:Nat)=>(n:Int)).map L2.D.int)]).depth<=7;rw[L2.D.depth,bM,bM,bM,jC,uQ];decide
 ·show dF (.tup [.int (z.1:Int),.tup ((z.2.map λ (n:Nat)=>(n:Int)).map L2.D.int)]);rw[dF,cP,cP,cP,dF,dF];exact⟨trivial,iH _,trivial⟩
 ·show Is K H (.tup [.int (z.1:Int),.tup ((z.2.map λ (n:Nat)=>(n:Int)).map L2.D.int)]) _;refine Is.tupOf (ds:=[.int (z.1:Int),.tup ((z.2.map λ (n:Nat)=>(n:Int)).map L2.D.int)]) h (.cons (by rw[L2.Is];rfl) (.cons (by
   rw[L2.Is];exact⟨b,_,rfl,hb,by have:=oM (K:=K) (H:=H) (z.2.map λ (n:Nat)=>(n:Int));rw[aca (g:=V.int)] at this;exact this⟩) .nil))
theorem K2 {a b:List Bool} (h:CO a=CO b):a=b:=by
 injection h with h;exact (List.map_inj_right λ x y e=>by injection e).mp h
theorem K1 {a b:Nat×List Nat} (h:A3 a=A3 b):a=b:=by
 injection h with h;injection h with h1 h;injection h with h2 _;injection h1 with h1;injection h2 with h2;have h2:=(List.map_inj_right λ x y (e:L2.D.int x=L2.D.int y)=>by injection e).mp h2;have h2:=(List.map_inj_right λ (x y:Nat) (e:(x:Int)=(y:Int))=>by omega).mp h2;exact Prod.ext (by omega) h2
def wP (K:aab):Sp:=λ vs H Q _=>∃ (ml:Addr) (m:gU) (wd:Nat),vs=[.ref ml]/\gF K H ml m/\MachOk m wd/\
 ∀ n r H',aG H H'->H' r=some (.lst ((aL m n).map kL))->gE m (aL m n)=aL m n->H r=none->Q (.ref r) H'
theorem qA:FnScope ["machine","rooms","finer"] ["machine"] (aM (bO 34)):={}
theorem zM {f f1:Addr}{fd fd1:FuncData} (F:Fun K "rooms_of" "rooms_of" (bO 34) f fd) (T:Txt mg) (G_numbered:Callee P w K mg base "numbered" ["signs"] 1 (BI K) f1 fd1):FnOk P w K mg base mG 2 f fd ["machine"] (wP K):=by
 refine F.ok qA (λ vs H Q E h=>?_) (λ cdv A outer s H vs Q E hr h=>?_)
 ·obtain⟨ml,m,wd,rfl,_⟩:=h;rfl
 ·obtain⟨ml,m,wd,rfl,⟨us,hml,pr⟩,mok,k⟩:=h;have sc:=qA;have eul:us.length=m.length:=(Paired.length pr).symm;have hm:=mok.len;have hwd:=mok.wd;refine⟨_,(aD (aQ (i:=1) sc.nd rfl (Or.inr rfl) (eG G_numbered hr (aA (i5 (λ _ _ h=>h) rfl (LcOk.mk (N':=["pairs"]) (fr:=[none]) rfl trivial rfl rfl rfl rfl rfl trivial) (eY (K:=K) rfl (pv 0)) (λ _ _ _=>(aF (i:=0) (show (["pairs"]:List Str).Nodup by decide +kernel) rfl (Or.inl rfl) (Or.inr rfl))) (λ _ _ _=>cG) (λ _ _ _=>(aV (bN (K:=K) rfl) rfl T.b_tuple bV (aA (i5 (λ _ _ h=>h) rfl (LcOk.mk (N':=["behind","tips"]) (fr:=[none,none]) rfl trivial rfl rfl rfl rfl rfl trivial) (eY (K:=K) rfl (pv 0)) (λ _ _ _=>(aU (K:=K) (n:=2) rfl rfl (aE (aF (i:=0) (show (["behind","tips"]:List Str).Nodup by decide +kernel) rfl (Or.inl rfl) (Or.inr rfl)) (aE (aF (i:=1) (show (["behind","tips"]:List Str).Nodup by decide +kernel) rfl (Or.inl rfl) (Or.inr rfl)) aS)))) (λ _ _ _=>cG) (λ _ _ _=>(pv 1))) aC)))) aC)))
   (aJ (sM PassesOwn.never (pC kY) (aD (aQ (i:=2) sc.nd rfl (Or.inl rfl) (eG G_numbered hr (aA (i5 (λ _ _ h=>h) rfl (LcOk.mk (N':=["state","pairs","rooms"]) (fr:=[none,none,some 1]) rfl ⟨rfl,trivial⟩ rfl rfl rfl rfl rfl ⟨⟨_,rfl,rfl,rfl,rfl⟩,trivial⟩) (iZ (K:=K) rfl rfl T.b_enumerate (aA (pv 0) aC)) (λ _ _ _=>(aU (K:=K) (n:=2) rfl rfl (aE (aF (i:=0) (show (["state","pairs","rooms"]:List Str).Nodup by decide +kernel) rfl (Or.inl rfl) (Or.inr rfl)) (aE (aF (i:=1) (show (["state","pairs","rooms"]:List Str).Nodup by decide +kernel) rfl (Or.inl rfl) (Or.inr rfl)) aS)))) (λ _ _ _=>cG) (λ _ _ _=>(bF (aA (bA (aO (K:=K) rfl) (pv 2) (pv 0) (λ _ _=>rfl)) (aA (aV (bN (K:=K) rfl) rfl T.b_tuple bV (aA (i5 (λ _ _ h=>h) rfl (LcOk.mk (N':=["behind","tips","rooms"]) (fr:=[none,none,some 2]) rfl ⟨rfl,trivial⟩ rfl rfl rfl rfl rfl ⟨⟨_,rfl,rfl,rfl,rfl⟩,trivial⟩) (eY (K:=K) rfl (pv 1)) (λ _ _ _=>(aU (K:=K) (n:=2) rfl rfl (aE (aF (i:=0) (show (["behind","tips","rooms"]:List Str).Nodup by decide +kernel) rfl (Or.inl rfl) (Or.inr rfl)) (aE (aF (i:=1) (show (["behind","tips","rooms"]:List Str).Nodup by decide +kernel) rfl (Or.inl rfl) (Or.inr rfl)) aS)))) (λ _ _ _=>cG) (λ _ _ _=>(bA (aO (K:=K) rfl) (pv 2) (pv 0) (λ _ _=>rfl)))) aC)) aC))))) aC)))
   (aD (eF (bE (CB (K:=K) rfl hr.units) (pv 2) (pv 1) (bP _)) (aJ (bH (pv 1))) cA)
   (aJ (aQ (i:=1) sc.nd rfl (Or.inr rfl) (pv 2)))))))),?_⟩
  refine⟨_,rfl,ml,rfl,⟨_,bR.of hml⟩,jZ (K:=K) (a:=ml) (xs:=us) (λ D i r Z H'=>H D=none/\aG H H'/\H' D=some (.lst r)/\Paired (λ d v=>KeyD K H' (.tup (List.replicate wd (.bl false))) d v) ((m.take i).map λ row=>CO (row.map (·.2))) r/\∃ u,Z=[u])
   (λ D i r Z H' p=>bR.of (p.2.1 _ _ hml)) (λ D hD=>⟨hD,aG.new hD,aB,.nil,none,rfl⟩) ?_ ?_⟩
  rotate_left
  ·rintro D i u r Z H1 hu ⟨hDn,sm,hDl,prD,v,rfl⟩;obtain⟨row,hrow,ra⟩:=Paired.getR pr hu;have hi:=(aae.mp hu).1;obtain⟨a,vs,rfl,ha,pv'⟩:=ra.same sm;have evl:vs.length=row.length:=(Paired.length pv').symm;have ewd:=mok.wid row (aah hrow);have hrl:r.length=(m.take i).length:=by rw[<- Paired.length prD,aad]
   refine fU ?_;refine⟨_,rfl,a,rfl,⟨_,bR.of ha⟩,jZ (K:=K) (a:=a) (xs:=vs) (λ D2 j r2 Z H'=>H1 D2=none/\aG H1 H'/\H' D2=some (.lst r2)/\r2=((row.take j).map (·.2)).map V.bl/\∃ x y,Z=[x,y])
    (λ D2 j r2 Z H' p=>bR.of (p.2.1 _ _ ha)) (λ D2 hD2=>⟨hD2,aG.new hD2,aB,rfl,none,none,rfl⟩) ?_ ?_⟩
   rotate_left
   ·rintro D2 j y r2 Z H2 hy ⟨hD2,sm2,hDl2,rfl,v1,v2,rfl⟩;obtain⟨p,hp,q,rfl,qq⟩:=Paired.getR pv' hy;have hj:=(aae.mp hy).1;refine⟨q,_,rfl,sm2.tup qq,rfl,_,_,rfl,_,_,rfl,rfl,?_⟩;refine hJ ⟨_,rfl,hDl2,cZ (by rw[aad,aad,aav];omega),hD2,sm2.put hD2,aB,?_,_,_,rfl⟩;rw[aZ hp];simp
   ·rintro D2 r2 Z H2 ⟨hD2,sm2,hDl2,rfl,_⟩;rw[evl,aay] at hDl2;refine⟨D2,_,rfl,.inl ⟨bR.of hDl2,λ tp htp=>?_⟩⟩;have s3:=aG.new (o:=HO.tup ((row.map (·.2)).map V.bl)) htp;refine⟨s3 _ _ (sm2 _ _ hDl),cZ (by rw[hrl,aav];omega),hDn,((sm.trans sm2).trans s3).put hDn,aB,?_,_,rfl⟩;have ts:bI K H1 (upd (upd H2 tp (.tup ((row.map (·.2)).map V.bl))) D (.lst (r++[.ref tp]))):=(sm2.trans s3).ts.trans (cB.ts (K:=K) (H:=upd H2 tp (.tup ((row.map (·.2)).map V.bl))) (t:=D) cB.upd (by rw[s3 _ _ (sm2 _ _ hDl)];exact trivial));rw[aZ hrow,aam];refine Paired.snoc (Paired.mapP prD λ _ _ h=>h.mono ts) (N0 ?_ (by rw[aad];exact ewd));exact (cB.ts (K:=K) (H:=upd H2 tp (.tup ((row.map (·.2)).map V.bl))) (t:=D) cB.upd (by rw[s3 _ _ (sm2 _ _ hDl)];exact trivial)) _ _ (bC.of aB)
  ·rintro D r Z H1 ⟨hDn,sm,hDl,prD,_⟩;rw[eul,aay] at prD;refine⟨D,r,_,_,rfl,hDl,prD,by rw[aad];exact hm,λ rl H2 s2 hrl frl=>?_⟩;have e0:dC (m.map λ row=>CO (row.map (·.2)))=aL m 0:=by
    show _=dC (m.map λ r=>r.map (·.2));rw[show (m.map λ row=>CO (row.map (·.2)))=(m.map λ r=>r.map (·.2)).map CO by rw[aca];rfl];exact oC λ a _ b _ e=>K2 e
   rw[e0] at hrl;refine⟨λ q Z H'=>aG H H'/\∃ (n:Nat) (rl:Addr) (v2:Option V),q=m.length - (aP (aL m n)).length/\H' rl=some (.lst ((aL m n).map kL))/\H rl=none/\Z=[some (.ref ml),some (.ref rl),v2],⟨_,sm.trans s2,0,rl,_,rfl,hrl,sm.free frl,rfl⟩,?_⟩;clear hrl frl hDl prD hDn e0 sm s2;rintro q Z H3 ⟨s3,n,rl,v2,rfl,hrl,frl,rfl⟩;refine⟨_,rfl,fH ?_⟩;refine⟨λ Z H'=>aG H H'/\∃ (rl:Addr) (v2:Option V),H' rl=some (.lst ((aL m (n+1)).map kL))/\aL m (n+1)≠aL m n/\H rl=none/\Z=[some (.ref ml),some (.ref rl),v2],?_,?_⟩
   ·rintro Z H' ⟨h1,rl',v2',h2,h3,h4,h5⟩;have h6:=CW (m:=m) (n:=n) h3;have h7:=FR m (n+1);have h6:(aP (aL m n)).length < (aP (aL m (n+1))).length:=h6;exact⟨m.length - (aP (aL m (n+1))).length,by omega,h1,n+1,rl',v2',rfl,h2,h4,h5⟩
   have hml3:=s3 _ _ hml;refine⟨_,rfl,false,ml,rfl,⟨_,bR.of hml3⟩,JV (K:=K) (t:=false) (a:=ml) (xs:=us) (λ D i r Z H'=>H3 D=none/\aG H3 H'/\H' D=some (.lst r)/\Paired (λ d v=>KeyD K H' (.tup [.int 0,.tup (List.replicate wd (.int 0))]) d v) (((d9 m (aL m n)).take i).map A3) r/\∃ u1 u2,Z=[u1,u2,some (.ref rl)])
    (λ D i r Z H' p=>bR.of (p.2.1 _ _ hml3)) (λ D hD=>⟨hD,aG.new hD,aB,.nil,none,none,rfl⟩) ?_ ?_⟩
   rotate_left
   ·rintro D i u r Z H4 tt hu ⟨hDn,sm,hDl,prD,w1,w2,rfl⟩ htt;obtain⟨row,hrow,ra⟩:=Paired.getR pr hu;have hi:=(aae.mp hu).1;have s5:=aG.new (o:=HO.tup [.int (i:Int),u]) htt;obtain⟨a,vs,rfl,ha,pv'⟩:=ra.same ((s3.trans sm).trans s5);have evl:vs.length=row.length:=(Paired.length pv').symm;have ewd:=mok.wid row (aah hrow);have hrow':=aah hrow;have hrl5:=(sm.trans s5) _ _ hrl;have hln:=bX m n;obtain⟨ri,hri⟩:∃ ri,(aL m n)[i]? = some ri:=⟨_,aag (by omega)⟩;have hsg:=g7 hri hrow;have hrlen:r.length=((d9 m (aL m n)).take i).length:=by rw[<- Paired.length prD,aad]
    refine⟨tt,_,rfl,bC.of aB,rfl,_,_,rfl,_,_,rfl,rfl,?_⟩;refine hJ ?_;generalize upd H4 tt (.tup [.int (i:Int),.ref a])=H5 at s5 ha pv' hrl5 ⊢;refine⟨_,rfl,_,rfl,.inl ⟨rl,_,(i:Int),kL ri,rfl,rfl,bR.of hrl5,gH (by rw[aaj,hri];rfl),?_⟩⟩;refine⟨_,rfl,a,rfl,⟨_,bR.of ha⟩,jZ (K:=K) (a:=a) (xs:=vs) (λ D2 j r2 Z H'=>H5 D2=none/\aG H5 H'/\H' D2=some (.lst r2)/\r2=((row.take j).map λ q=>(aL m n).getD q.1 0).map kL/\∃ x y,Z=[x,y,some (.ref rl)])
     (λ D2 j r2 Z H' p=>bR.of (p.2.1 _ _ ha)) (λ D2 hD2=>⟨hD2,aG.new hD2,aB,rfl,none,none,rfl⟩) ?_ ?_⟩
    rotate_left
    ·rintro D2 j y r2 Z H6 hy ⟨hD2,sm2,hDl2,rfl,v1,v3,rfl⟩;obtain⟨p,hp,q,rfl,qq⟩:=Paired.getR pv' hy;have hj:=(aae.mp hy).1;have hpl:=mok.lt row hrow' p (aah hp);obtain⟨rp,hrp⟩:∃ rp,(aL m n)[p.1]? = some rp:=⟨_,aag (by omega)⟩;refine⟨q,_,rfl,sm2.tup qq,rfl,_,_,rfl,_,_,rfl,rfl,?_⟩;refine hJ ⟨_,rfl,_,rfl,.inl ⟨rl,_,(p.1:Int),kL rp,rfl,rfl,bR.of (sm2 _ _ hrl5),gH (by rw[aaj,hrp];rfl),hDl2,cZ (by rw[aad,aad,aav];omega),hD2,sm2.put hD2,aB,?_,_,_,rfl⟩⟩;rw[aZ hp,aam,aam,List.map_singleton,List.map_singleton,aai,hrp];rfl
    ·rintro D2 r2 Z H6 ⟨hD2,sm2,hDl2,rfl,_⟩;rw[evl,aay] at hDl2;refine⟨D2,_,rfl,.inl ⟨bR.of hDl2,λ tp htp=>⟨(show 2<=sizeLine by decide),λ t2 ht2=>?_⟩⟩⟩;have s7:=aG.new (o:=HO.tup ((row.map λ q=>(aL m n).getD q.1 0).map kL)) htp;have s8:=aG.new (o:=HO.tup [kL ri,.ref tp]) ht2;have g8:upd (upd H6 tp (.tup ((row.map λ q=>(aL m n).getD q.1 0).map kL))) t2 (.tup [kL ri,.ref tp]) D=some (.lst r):=s8 _ _ (s7 _ _ (sm2 _ _ (s5 _ _ hDl)));have k1:bC K (upd (upd H6 tp (.tup ((row.map λ q=>(aL m n).getD q.1 0).map kL))) t2 (.tup [kL ri,.ref tp])) t2 [kL ri,.ref tp]:=bC.of aB;have k2:bC K (upd (upd H6 tp (.tup ((row.map λ q=>(aL m n).getD q.1 0).map kL))) t2 (.tup [kL ri,.ref tp])) tp ((row.map λ q=>(aL m n).getD q.1 0).map kL):=s8.tup (bC.of aB);have s68:=s7.trans s8;generalize upd (upd H6 tp (.tup ((row.map λ q=>(aL m n).getD q.1 0).map kL))) t2 (.tup [kL ri,.ref tp])=H8 at s68 g8 k1 k2 ⊢;have b9:bI K H8 (upd H8 D (.lst (r++[.ref t2]))):=cB.ts (t:=D) cB.upd (by rw[g8];exact trivial);refine⟨g8,cZ (by rw[hrlen,aav,iX (bX m n)];omega),hDn,(((sm.trans s5).trans sm2).trans s68).put hDn,aB,?_,_,_,rfl⟩;rw[aZ hsg,aam];refine Paired.snoc (Paired.mapP prD λ _ _ h=>h.mono (((s5.trans sm2).trans s68).ts.trans b9)) (MZ (z:=(ri,row.map λ q=>(aL m n).getD q.1 0)) (b9 _ _ k1) (b9 _ _ k2) (by rw[aad];exact ewd))
   ·rintro D r Z H4 ⟨hDn,sm,hDl,prD,_⟩;rw[eul,<- iX (bX m n),aay] at prD;refine⟨D,r,_,_,rfl,hDl,prD,by rw[aad,iX (bX m n)];exact hm,λ fl H5 s5 hfl ffl=>?_⟩;have e1:dC ((d9 m (aL m n)).map A3)=aL m (n+1):=oC λ a _ b _ e=>K1 e;rw[e1] at hfl;have hrl5:=(sm.trans s5) _ _ hrl;refine⟨_,rfl,_,rfl,fl,rl,(aL m (n+1)).map λ (n:Nat)=>(n:Int),(aL m n).map λ (n:Nat)=>(n:Int),rfl,rfl,bR.of (by rw[aca];exact hfl),bR.of (by rw[aca];exact hrl5),by rw[aad,aad,bX,bX],_,rfl,?_⟩;refine kI (λ hT=>?_) λ hN=>?_
    ·have hT:aL m (n+1)=aL m n:=(List.map_inj_right λ (x y:Nat) (e:(x:Int)=(y:Int))=>by omega).mp (abx hT);refine⟨_,rfl,?_⟩;exact k n rl H5 ((s3.trans sm).trans s5) hrl5 hT frl
    ·have hN:aL m (n+1)≠aL m n:=λ z=>hN (abt (by rw[z]));refine⟨_,rfl,?_⟩;exact⟨(s3.trans sm).trans s5,fl,_,hfl,hN,(s3.trans sm).free ffl,rfl⟩
end Tw
namespace L2
open PySem PySem.Spec PyProof.Rows TwZ
section
variable {X:Cx}{pins:List (Addr×Obj)}{σ:St}{H:Hp}{s:Shared}
end
section
variable {H:Hp}
end
section
variable {X:Cx}
def Pl (H:Hp) (a:Addr) (xs:List V):Prop:=∃ o:Obj,H a=some (.frz o (.tup xs))/\o.dict=none
theorem Pl.sq {H:Hp}{a:Addr}{xs:List V} (h:Pl H a xs):bC K H a xs:=by obtain⟨o,h,_⟩:=h;exact .inl (.inr ⟨o,h⟩)
def NR (K:aab):List V->Hp->VK->Prop:=λ xs H Q=>∃ p ys,xs=[.ref p]/\bR K H p ys/\∀ (l:Addr) (o:Obj),H l=none->o.dict=none->Q (.ref l) (upd H l (.frz o (.tup ys)))
theorem GV:dZ X (.type "tuple") (NR X.K):=by
 intro pins s σ H xs us Q I r h;obtain⟨p,ys,rfl,hq,q⟩:=h;obtain⟨u,rfl,rx⟩:=pW r;cases rx;obtain⟨its,r',pl,hz⟩:=I.list hq;have hlen:=r'.length;refine call_tuple_list pl.isList (λ h' kp=>?_) (by simp only [aaw] <;> omega);have I1:Inv X pins σ H { s with heap:=h' }:=I.kept (t':=s.toks) kp;have I2:Inv X pins σ (upd H h'.objs.size (.frz { cls:=.type "tuple",data:=.seq its.toArray } (.tup ys))) { s with heap:=h'.push { cls:=.type "tuple",data:=.seq its.toArray } }:=
  I1.laid (t':=s.toks) (λ b o e=>aac _ e) (aal _) (show bQ X.prog X.w _ _ _ (.frz _ (.tup ys)) from ⟨aak _ rfl,hz,its,r',IsTup.new _ _⟩)
 exact⟨.ref h'.objs.size,_,I2,rfl,q _ _ (I1.hok.fresh (aal _)) rfl⟩
theorem D5 (hK:X.K=K):dZ X (.type "tuple") (NR K):=by subst hK;exact GV
end
end L2
namespace Tw
open PySem L2
def S5 (K:aab) (H:Hp) (t:Tick) (v:V):Prop:=∃ (f:Addr) (st:V) (tp:Addr),v=.ref f/\bC K H f [st,.ref tp,.int t.ground]/\Is K H (OU t.held t.coming t.doors) st/\Pl H tp (t.tip.map λ (j:Nat)=>V.int (j:Int))
def wM (K:aab):Sp:=λ args H Q _=>∃ (x y:V) (z:Addr) (net:Net) (held coming poured:List Int) (doors:List Bool),args=[x,y,.ref z]/\Is K H (gB net) x/\Is K H (OU held coming doors) y/\bC K H z (poured.map V.int)/\
 NetOk net/\StOk net held coming doors/\poured.length=net.vs.length/\∀ (v:V) H',aG H H'->S5 K H' (fN net held coming poured doors) v->Q v H'
theorem qS {f fF fS fD:Addr}{fd fdF fdS fdD:FuncData} (F:Fun K "tick_behind" "tick_behind" (bO 18) f fd) (T:Txt mg) (G_filled:Callee P w K mg base "filled" ["spouts","state","poured"] 1 (rW K) fF fdF)
  (G_settle:Callee P w K mg base "settle" ["vessel","has","sent"] 3 (rV K) fS fdS) (G_doors_behind:Callee P w K mg base "doors_behind" ["vessels","doors","tipped"] 1 (wT K) fD fdD):FnOk P w K mg base mG 4 f fd ["net","state","poured"] (wM K):=by
 refine F.ok kS (λ vs H Q E h=>?_) (λ cdv A outer s H vs Q E hr h=>?_)
 ·obtain⟨x,y,z,net,held,coming,poured,doors,rfl,_⟩:=h;rfl
 ·obtain⟨x,y,z,net,held,coming,poured,doors,rfl,hx,hy,qz,nok,sok,lp,k⟩:=h;have sc:=kS;have hu:=A6 hr;refine⟨_,(aD (cI (pv 0) (aU (K:=K) (n:=2) rfl rfl (aE (aF (i:=3) sc.nd rfl (Or.inl rfl)) (aE (aF (i:=4) sc.nd rfl (Or.inl rfl)) aS))))
   (aD (cI (bF (aA (cJ aC) (aA (cJ aC) (aA zI aC)))) (aU (K:=K) (n:=3) rfl rfl (aE (aF (i:=5) sc.nd rfl (Or.inl rfl)) (aE (aF (i:=6) sc.nd rfl (Or.inl rfl)) (aE (aF (i:=7) sc.nd rfl (Or.inr rfl)) aS)))))
   (aD (eD PassesOwn.never rfl (iZ (K:=K) rfl rfl T.b_enumerate (aA (eG G_filled hr (aA (pv 4) (aA (pv 1) (aA (pv 2) aC)))) aC)) (aU (K:=K) (n:=2) rfl rfl (aE (aF (i:=8) sc.nd rfl (Or.inl rfl)) (aE (aF (i:=9) sc.nd rfl (Or.inl rfl)) aS))) (aD (cI (eG G_settle hr (aA (bA (aO (K:=K) rfl) (pv 3) (pv 8) (λ _ _=>rfl)) (aA (pv 9) (aA (pv 7) aC)))) (aU (K:=K) (n:=2) rfl rfl (aE (aF (i:=10) sc.nd rfl (Or.inl rfl)) (aE (aF (i:=11) sc.nd rfl (Or.inl rfl)) aS))))
   (aD (dA (gA (K:=K) rfl abm abn abo cX (pv 5) (aA (pv 10) aC)))
   (aJ (eF (pC (pv 11)) (aJ (dA (gA (K:=K) rfl abm abn abo cX (pv 6) (aA (pv 8) aC)))) cA)))))
   (aD (fJ (i:=12) sc.nd rfl rfl (λ _ _ h=>h) rfl (LcOk.mk (N':=["number","sent"]) (fr:=[none,some 7]) rfl ⟨rfl,trivial⟩ rfl rfl rfl rfl rfl ⟨⟨_,rfl,rfl,rfl,rfl⟩,trivial⟩) (eC rfl T.b_range (aA (bD (cD (K:=K) rfl) rfl T.b_len ace (aA (pv 3) aC)) aC)) (λ _ _ _=>(aF (i:=0) (show (["number","sent"]:List Str).Nodup by decide +kernel) rfl (Or.inl rfl) (Or.inr rfl))) (λ _ _ _=>cG) (λ _ _ _=>(sS hu (pv 1) (pv 0) aH ⟨rfl,rfl,rfl,rfl⟩)))
   (aD (aQ (i:=13) sc.nd rfl (Or.inl rfl) (eG G_doors_behind hr (aA (pv 3) (aA (bA (aO (K:=K) rfl) (pv 1) aH (λ _ _=>rfl)) (aA (pv 6) aC)))))
   (aJ (bH (bF (aA (bF (aA (aV (bN (K:=K) rfl) rfl T.b_tuple bV (aA (pv 5) aC)) (aA (aV (bN (K:=K) rfl) rfl T.b_tuple bV (aA (pv 12) aC)) (aA (pv 13) aC)))) (aA (aV (D5 (K:=K) rfl) rfl T.b_tuple bV (aA (pv 6) aC)) (aA (sS hu (pv 7) fT aH ⟨rfl,rfl,rfl,rfl⟩) aC))))))))))),?_⟩
  obtain⟨ax,av,as,xs,ys,rfl,qx,qv,lv,qs,ls⟩:=iM hx;obtain⟨ay,b1,b2,b3,rfl,qy,q1,q2,q3⟩:=NM hy;have exl:xs.length=net.vs.length:=by rw[lv.length,aad]
  refine⟨_,rfl,ax,_,rfl,qx,rfl,_,_,rfl,_,_,rfl,rfl,?_⟩;refine⟨abw _,λ hl hhl=>⟨abw _,λ tl htl=>λ sd hsd=>⟨(show 3<=sizeLine by decide),λ tp htp=>⟨tp,_,rfl,bC.of aB,rfl,_,_,rfl,_,_,rfl,_,_,rfl,rfl,?_⟩⟩⟩⟩;have n1:hl≠tl:=aK (show upd H hl (.lst []) hl=_ from aB) htl;have fh:H hl=none:=hhl;have ft:H tl=none:=aG.free (aG.new hhl) htl;have fs:H sd=none:=aG.free ((aG.new hhl).trans (aG.new htl)) hsd;have n2:hl≠sd:=aK (by rw[aI n1];exact aB) hsd;have n3:tl≠sd:=aK (show upd (upd H hl (.lst [])) tl (.lst []) tl=_ from aB) hsd;have sm0:aG H (upd (upd (upd (upd H hl (.lst [])) tl (.lst [])) sd (.dK [])) tp (.tup [.ref hl,.ref tl,.ref sd])):=(((aG.new hhl).trans (aG.new htl)).trans (aG.new hsd)).trans (aG.new htp);have g1:upd (upd (upd (upd H hl (.lst [])) tl (.lst [])) sd (.dK [])) tp (.tup [.ref hl,.ref tl,.ref sd]) hl=some (.lst []):=aG.new htp _ _ (by rw[aI n2,aI n1];exact aB);have g2:upd (upd (upd (upd H hl (.lst [])) tl (.lst [])) sd (.dK [])) tp (.tup [.ref hl,.ref tl,.ref sd]) tl=some (.lst []):=aG.new htp _ _ (by rw[aI n3];exact aB);have g3:upd (upd (upd (upd H hl (.lst [])) tl (.lst [])) sd (.dK [])) tp (.tup [.ref hl,.ref tl,.ref sd]) sd=some (.dK []):=aG.new htp _ _ aB;generalize upd (upd (upd (upd H hl (.lst [])) tl (.lst [])) sd (.dK [])) tp (.tup [.ref hl,.ref tl,.ref sd])=H0 at sm0 g1 g2 g3 ⊢;refine⟨_,rfl,_,rfl,_,rfl,.ref as,.ref ay,z,net.sps,held,coming,poured,doors,net.vs.length,rfl,Is.tupOf (sm0.tup qs) (IsL.mono sm0.ts _ _ ls),Is.mono sm0.ts _ _ hy,sm0.tup qz,sok.h,sok.c,lp,sok.d,nok.hi,nok.sps,λ ha H1 sm1 fha hha=>?_⟩;have hsl:(bJ net held coming poured doors).length=net.vs.length:=by
   unfold bJ;rw[jB,jJ sok.h sok.c lp]
  have g1':=sm1 _ _ g1;have g2':=sm1 _ _ g2;have g3':=sm1 _ _ g3;have na1:hl≠ha:=aK g1 fha;have na2:tl≠ha:=aK g2 fha;have na3:sd≠ha:=aK g3 fha;have fa:H ha=none:=sm0.free fha;refine⟨false,ha,rfl,⟨_,bR.of hha⟩,A9 (K:=K) (t:=false) (a:=ha) (xs:=(bJ net held coming poured doors).map V.int)
   (λ i Z H'=>aG H H'/\H' ha=some (.lst ((bJ net held coming poured doors).map V.int))/\H' hl=some (.lst ((fC (net.vs.take i) ((bJ net held coming poured doors).take i)).map V.int))/\
    H' tl=some (.lst ((dR 0 (net.vs.take i) ((bJ net held coming poured doors).take i)).map λ (j:Nat)=>V.int (j:Int)))/\kG H' sd (eZ (net.vs.take i) ((bJ net held coming poured doors).take i))/\
    ∃ v8 v9 v10 v11,Z=[some (.ref ax),some (.ref ay),some (.ref z),some (.ref av),some (.ref as),some (.ref hl),some (.ref tl),some (.ref sd),v8,v9,v10,v11,none,none])
   (λ i Z H' p=>bR.of p.2.1) ⟨sm0.trans sm1,hha,by simpa [fC] using g1',by simpa [dR] using g2',⟨[],g3',by simp,λ k=>rfl⟩,none,none,none,none,rfl⟩ ?_ ?_⟩
  rotate_left
  ·rintro i x0 Z H2 Tt hx0 ⟨sm2,p1,p2,p3,p4,v8,v9,v10,v11,rfl⟩ hT;rw[aaj] at hx0;obtain⟨hi,hhi,rfl⟩:=aas.mp hx0;have hil:i < net.vs.length:=by rw[<- hsl];exact (aae.mp hhi).1
   have hv:net.vs[i]? = some net.vs[i]:=by simp [hil]
   have vok:=nok.vs _ (ada hil);obtain⟨xv,hxv,ixv⟩:=lv.get (i:=i) (d:=rJ net.vs[i]) (by rw[aaj,hv];rfl);have smT:=aG.new (o:=HO.tup [.int (i:Int),.int hi]) hT;refine⟨Tt,_,rfl,bC.of aB,rfl,_,_,rfl,_,_,rfl,rfl,?_⟩;have sm3:aG H (upd H2 Tt (.tup [.int (i:Int),.int hi])):=sm2.trans smT;obtain⟨kvs,d1,d2,d3⟩:=p4;have hgl:=vM (net.vs.take i) ((bJ net held coming poured doors).take i) λ v hv'=>nok.vs v (List.mem_of_mem_take hv');have htk:(net.vs.take i).length<=12:=by rw[aav];have:=nok.hi;omega
   refine⟨_,rfl,_,rfl,.inr (.inl ⟨av,xs,i,_,rfl,rfl,sm3.tup qv,gH hxv,_,rfl,_,rfl,xv,sd,hi,net.vs[i],_,_,_,rfl,Is.mono sm3.ts _ _ ixv,⟨kvs,smT _ _ d1,d2,d3⟩,by omega,vok,λ p H3 bt dg qp=>?_⟩)⟩;refine⟨p,_,rfl,qp,rfl,_,_,rfl,_,_,rfl,rfl,?_⟩;have e1:=bt hl _ n2 (smT _ _ p2);have e2:=bt tl _ n3 (smT _ _ p3);have e3:=bt ha _ (Ne.symm na3) (smT _ _ p1);have sm4:aG H H3:=λ b o e=>bt b o (aK e fs) (sm3 b o e);have stl:(fC (net.vs.take i) ((bJ net held coming poured doors).take i)).length<=12:=by
    rw[mV _ _ (by rw[aav,aav,hsl])];exact htk
   have tpl:=uX (net.vs.take i) ((bJ net held coming poured doors).take i) 0;refine⟨_,rfl,.inl ⟨rfl,_,bR.of e1⟩,_,rfl,hl,_,_,rfl,rfl,e1,aW (by simp;omega),?_⟩;have f1:upd H3 hl (.lst ((fC (net.vs.take i) ((bJ net held coming poured doors).take i)).map V.int++[.int (hV net.vs[i] hi)])) tl=some (.lst ((dR 0 (net.vs.take i) ((bJ net held coming poured doors).take i)).map λ (j:Nat)=>V.int (j:Int))):=by rw[aI (Ne.symm n1)];exact e2
   have s1:=q0 net.vs (bJ net held coming poured doors) i _ _ hv hhi;have s2:=rO net.vs (bJ net held coming poured doors) i 0 _ _ hv hhi;have s3:=tN net.vs (bJ net held coming poured doors) i _ _ hv hhi;have dgo:∀ {Hx:Hp},Hx sd=H3 sd->kG Hx sd (eZ (net.vs.take (i+1)) ((bJ net held coming poured doors).take (i+1))):=λ {Hx} e=>by
    obtain⟨kv,a1,a2,a3⟩:=dg;rw[s3];exact⟨kv,e.trans a1,a2,a3⟩
   refine⟨_,rfl,_,rfl,?_⟩;cases ht:eT net.vs[i] hi with
   | false=>
    refine eE ?_;rw[ht] at s2;refine⟨sm4.put fh,by rw[aI (Ne.symm na1)];exact e3,by rw[aB,s1,aam];rfl,by rw[s2];simpa using f1,dgo (by rw[aI (Ne.symm n2)]),_,_,_,_,rfl⟩
   | true=>
    refine fH ?_;rw[ht] at s2;refine⟨_,rfl,.inl ⟨rfl,_,bR.of f1⟩,_,rfl,tl,_,_,rfl,rfl,f1,aW (by simp;omega),?_⟩;refine⟨(sm4.put fh).put ft,by rw[aI (Ne.symm na2),aI (Ne.symm na1)];exact e3,by rw[aI n1,aB,s1,aam];rfl,?_,dgo (by rw[aI (Ne.symm n3),aI (Ne.symm n2)]),_,_,_,_,rfl⟩;rw[aB,s2];simp
  ·rintro Z H2 ⟨sm2,p1,p2,p3,p4,v8,v9,v10,v11,rfl⟩;rw[aad,hsl] at p2 p3 p4;have ek:net.vs.take net.vs.length=net.vs:=aay;have ek2:(bJ net held coming poured doors).take net.vs.length=bJ net held coming poured doors:=by rw[<- hsl,aay]
   rw[ek,ek2] at p2 p3 p4;obtain⟨kvs,d1,d2,d3⟩:=p4;refine⟨_,rfl,av,xs,rfl,.inr (sm2.tup qv),_,rfl,by omega,by have:=nok.hi;omega,?_⟩;have hn:((xs.length:Nat):Int).toNat=net.vs.length:=by rw[exl];simp
   rw[hn];refine oI (n:=net.vs.length) (λ D i r Z H'=>H2 D=none/\aG H2 H'/\H' D=some (.lst r)/\r=((gD net.vs.length (eZ net.vs (bJ net held coming poured doors))).take i).map V.int/\∃ v,Z=[v,some (.ref sd)])
    (λ D hD=>⟨hD,aG.new hD,aB,by simp,none,rfl⟩) ?_ ?_
   rotate_left
   ·rintro D i r Z H' hi ⟨hD,sm,hDl,rfl,v,rfl⟩;refine fU ?_;have hg:=lT.k (k:=oJ (some (i:Int))) (sm _ _ d1);refine⟨_,rfl,sd,rfl,.inl ⟨kvs,.inl (sm _ _ d1)⟩,_,rfl,_,hg,hDl,aW (by simp [gD];have:=nok.hi;omega),hD,sm.put hD,aB,?_,_,rfl⟩;have e:(gD net.vs.length (eZ net.vs (bJ net held coming poured doors)))[i]? = some (bS (some (i:Int)) (eZ net.vs (bJ net held coming poured doors))):=by
     unfold gD;simp [hi]
    rw[aZ e,aam];show _++[(cY kvs (oJ (some (i:Int)))).getD (.int 0)]=_;rw[d3];rfl
   ·rintro D r Z H3 ⟨hD,sm,hDl,rfl,_⟩;have ll:(gD net.vs.length (eZ net.vs (bJ net held coming poured doors))).length=net.vs.length:=by unfold gD;simp
    rw[acq (Nat.le_of_eq ll)] at hDl;have sm3:aG H H3:=sm2.trans sm;refine⟨_,rfl,_,rfl,.inr (.inl ⟨ay,_,2,_,rfl,rfl,sm3.tup qy,rfl,_,rfl,.ref av,.ref b3,tl,net.vs,doors,dR 0 net.vs (bJ net held coming poured doors),net.vs.length,rfl,Is.tupOf (sm3.tup qv) (IsL.mono sm3.ts _ _ lv),Is.tupOf (sm3.tup q3) (IsL.of_bools _),bR.of (sm _ _ p3),λ j hj=>by have:=yL _ _ _ _ hj;omega,λ v hv=>by rw[sok.d];exact nok.vs v hv,by rw[sok.d];exact nok.sp,λ dp H4 sm4 hdp=>?_⟩)⟩;obtain⟨da,dxs,rfl,qd,ld⟩:=hdp.un;have c1:=sm4 _ _ (sm _ _ p2);have c2:=sm4 _ _ hDl;have c3:=sm4 _ _ (sm _ _ p3);have c4:=sm4 _ _ (sm _ _ d1);refine⟨_,rfl,hl,_,rfl,.inl ⟨bR.of c1,λ t1 ht1=>?_⟩⟩;have m1:=aG.new (o:=HO.tup ((fC net.vs (bJ net held coming poured doors)).map V.int)) ht1;refine⟨_,rfl,D,_,rfl,.inl ⟨bR.of (m1 _ _ c2),λ t2 ht2=>?_⟩⟩;have m2:=aG.new (o:=HO.tup ((gD net.vs.length (eZ net.vs (bJ net held coming poured doors))).map V.int)) ht2;refine⟨_,rfl,(show 3<=sizeLine by decide),λ t3 ht3=>?_⟩;have m3:=aG.new (o:=HO.tup [.ref t1,.ref t2,.ref da]) ht3;refine⟨_,rfl,tl,_,rfl,bR.of (m3 _ _ (m2 _ _ (m1 _ _ c3))),λ t4 ob ht4 hob=>?_⟩;have m4:=aG.new (o:=HO.frz ob (.tup ((dR 0 net.vs (bJ net held coming poured doors)).map λ (j:Nat)=>V.int (j:Int)))) ht4;have c4':=m4 _ _ (m3 _ _ (m2 _ _ (m1 _ _ c4)));have hg:=lT.k (k:=oJ none) c4';refine⟨_,rfl,sd,rfl,.inl ⟨kvs,.inl c4'⟩,_,hg,(show 3<=sizeLine by decide),λ t5 ht5=>?_⟩;have m5:aG _ _:=aG.new (o:=HO.tup [.ref t3,.ref t4,(cY kvs (oJ none)).getD (.int 0)]) ht5;have eg:(cY kvs (oJ none)).getD (.int 0)=.int (bS none (eZ net.vs (bJ net held coming poured doors))):=d3 none;rw[eg] at m5 ⊢;have e1:((dR 0 net.vs (bJ net held coming poured doors)).map λ (i:Nat)=>L2.D.int (i:Int))=((dR 0 net.vs (bJ net held coming poured doors)).map λ (i:Nat)=>(i:Int)).map L2.D.int:=by rw[aca];rfl
    refine k _ _ ((((((sm3.trans sm4).trans m1).trans m2).trans m3).trans m4).trans m5) ⟨t5,.ref t3,t4,rfl,bC.of aB,?_,ob,m5 _ _ aB,hob⟩;exact Is.mono m5.ts _ _ (Is.mono m4.ts _ _ (NN (bC.of aB) (m3.tup (m2.tup (bC.of aB))) (m3.tup (bC.of aB)) (by
      have:=ld.bools;rw[this] at qd;exact m3.tup (m2.tup (m1.tup qd)))))
end Tw
namespace L2
open PySem PySem.Spec PyProof.Rows
section
variable {M:Model}{A:Around}{E:Value->Shared->Prop}{s:Shared}
end
section
variable {X:Cx}
end
end L2
namespace Tw
open PySem L2
end Tw
namespace L2
open PySem PySem.Spec PyProof.Rows TwZ
section
variable {X:Cx}
end
end L2
namespace Tw
open PySem L2
theorem E3 (k:Nat):∀ l:List Nat,E5 (.int (k:Int)) (l.map λ (i:Nat)=>V.int (i:Int))=decide (k∈l)
 | []=>rfl
 | x::l=>by
  show (vT (.int (x:Int)) (.int (k:Int)) || E5 (.int (k:Int)) (l.map λ (i:Nat)=>V.int (i:Int)))=_;rw[E3 k l];show (((x:Int) == (k:Int)) || decide (k∈l))=decide (k∈x::l)
  by_cases h:k=x
  ·subst h;simp
  ·have h1:((x:Int) == (k:Int))=false:=by simp;omega
   have h2:decide (k∈x::l)=decide (k∈l):=by simp [h]
   rw[h1,h2,Bool.false_or]
theorem tQ (l:List Nat):(l.map λ (i:Nat)=>V.int (i:Int)).all iJ=true:=by
 rw[acr];intro z hz;obtain⟨i,_,rfl⟩:=aaz.1 hz;rfl
def Sta.tkA (net:Net) (s:Sta) (a:Int):Tick:=fN net s.held s.coming (a::cU (net.vs.length - 1)) s.doors
def Sta.nxA (net:Net) (s:Sta) (a:Int):Sta:=⟨(s.tkA net a).held,(s.tkA net a).coming,(s.tkA net a).doors⟩
def iC (net:Net) (v:Int) (s:Sta) (a:Int):Bool:=E5 (.int v) ((s.tkA net a).tip.map λ (j:Nat)=>V.int (j:Int))
def kF (net:Net) (s:Sta):Prop:=StOk net s.held s.coming s.doors
theorem hZ {net:Net} (nok:NetOk net) (a:Int):(a::cU (net.vs.length - 1)).length=net.vs.length:=by
 rw[abb,wH];have:=nok.lo;omega
theorem lU (net:Net):kF net (kH net):=⟨wH _,wH _,by show (net.sps.map _).length=_;rw[aad]⟩
theorem n8 {net:Net} (nok:NetOk net) {s:Sta} (ih:kF net s) (a:Int):kF net (s.nxA net a):=by
 have hs:(bJ net s.held s.coming (a::cU (net.vs.length - 1)) s.doors).length=net.vs.length:=by
  unfold bJ;rw[jB,jJ ih.h ih.c (hZ nok a)]
 exact⟨mV _ _ hs.symm,by show (gD _ _).length=_;unfold gD;simp,by show (cS _ _ _).length=_;rw[nJ];exact ih.d⟩
def nU (K:aab):Sp:=λ vs H Q _=>∃ (x y:V) (net:Net) (s:Sta) (v a:Int),vs=[x,y,.int v,.int a]/\Is K H (gB net) x/\Is K H (cR s) y/\NetOk net/\kF net s/\
 ∀ p b H',aG H H'->bC K H' p [b,.bl (iC net v s a)]->Is K H' (cR (s.nxA net a)) b->Q (.ref p) H'
theorem yV:FnScope ["net","state","vessel","amount","behind","tipped","grounded"] ["net","state","vessel","amount"] (aM (bO 25)):={}
theorem JO {f f2 f3:Addr}{fd fd2 fd3:FuncData} (F:Fun K "watch" "watch" (bO 25) f fd) (T:Txt mg)
  (G_pouring:Callee P w K mg base "pouring" ["net","amount"] 1 (oZ K) f2 fd2) (G_tick_behind:Callee P w K mg base "tick_behind" ["net","state","poured"] 4 (wM K) f3 fd3) :
  FnOk P w K mg base mG 5 f fd ["net","state","vessel","amount"] (nU K):=by
 refine F.ok yV (λ vs H Q E h=>?_) (λ cdv A outer s H vs Q E hr h=>?_)
 ·obtain⟨x,y,net,s,v,a,rfl,_⟩:=h;rfl
 ·obtain⟨x,y,net,st,v,a,rfl,hx,hy,nok,sok,k⟩:=h;have sc:=yV;refine⟨_,(aD (cI (eG G_tick_behind hr (aA (pv 0) (aA (pv 1) (aA (eG G_pouring hr (aA (pv 0) (aA (pv 3) aC))) aC)))) (aU (K:=K) (n:=3) rfl rfl (aE (aF (i:=4) sc.nd rfl (Or.inl rfl)) (aE (aF (i:=5) sc.nd rfl (Or.inl rfl)) (aE (aF (i:=6) sc.nd rfl (Or.inl rfl)) aS)))))
   (aJ (bH (bF (aA (pv 4) (aA (jV (CA (K:=K) rfl) (pv 2) (pv 5) (by rfl)) aC)))))),?_⟩
  refine⟨_,rfl,_,rfl,_,rfl,_,rfl,x,net,a,rfl,hx,nok,λ z H1 s1 qz=>?_⟩;refine⟨x,y,z,net,st.held,st.coming,a::cU (net.vs.length - 1),st.doors,rfl,Is.mono s1.ts _ _ hx,Is.mono s1.ts _ _ hy,qz,nok,sok,hZ nok a,λ r H2 s2 tp=>?_⟩;obtain⟨f,y1,tpa,rfl,qf,j1,pla⟩:=tp;refine⟨f,_,rfl,qf,rfl,_,_,rfl,_,_,rfl,_,_,rfl,rfl,?_⟩;refine⟨_,rfl,_,rfl,_,rfl,tpa,_,rfl,.inr pla.sq,rfl,tQ _,(show 2<=sizeLine by decide),λ p hp=>?_⟩;have s3:=aG.new (o:=HO.tup [y1,.bl (iC net v st a)]) hp;exact k p y1 _ ((s1.trans s2).trans s3) (bC.of aB) (Is.mono s3.ts _ _ j1)
def O4 (i:Nat) (st:Stmt):Pos:=match (fB st)[i]? with
 | some (.Assign _ (.Call _ [_,.Lambda _ _ _ p,_,_] _ _) _)=>p
 | _=>⟨0,0,0,0⟩
structure SmT (Pt:Addr) (pos:Pos) (q:Str) (H H':Hp):Prop where
 but:QL Pt H H'
 t1:dM H Pt pos q
 t2:dM H' Pt pos q
theorem dM.of {H H':Hp}{Pt:Addr}{pos:Pos}{q:Str} (h:dM H Pt pos q) (s:aG H H'):SmT Pt pos q H H':=⟨λ b o _ e=>s b o e,h,h.same s⟩
theorem SmT.trans {H H' H'':Hp}{Pt:Addr}{pos:Pos}{q:Str} (a:SmT Pt pos q H H') (b:SmT Pt pos q H' H''):SmT Pt pos q H H'':=⟨λ c o n e=>b.but c o n (a.but c o n e),a.t1,b.t2⟩
theorem SmT.step {H H' H'':Hp}{Pt:Addr}{pos:Pos}{q:Str} (a:SmT Pt pos q H H') (b:aG H' H''):SmT Pt pos q H H'':=a.trans (dM.of a.t2 b)
theorem SmT.get {H H':Hp}{Pt:Addr}{pos:Pos}{q:Str} (a:SmT Pt pos q H H') {b:Addr}{o:HO} (e:H b=some o) (hn:∀ ps,o≠.tbl ps):H' b=some o:=a.but b o (λ z=>by
 obtain⟨ps,h⟩:=a.t1.some;rw[z,h] at e;exact hn ps (abf e).symm) e
theorem SmT.free {H H':Hp}{Pt:Addr}{pos:Pos}{q:Str} (a:SmT Pt pos q H H') {b:Addr} (h:H' b=none):H b=none:=by
 cases e:H b with
 | none=>rfl
 | some o=>
  by_cases hb:b=Pt
  ·obtain⟨ps,h2⟩:=a.t2.some;rw[hb,h2] at h;cases h
  ·rw[a.but b o hb e] at h;cases h
theorem SmT.ts {K:aab}{H H':Hp}{Pt:Addr}{pos:Pos}{q:Str} (a:SmT Pt pos q H H'):bI K H H':=λ b xs h=>by
 rcases h with (h | ⟨o,h⟩) | h
 ·exact .inl (.inl (a.get h λ ps z=>by cases z))
 ·exact .inl (.inr ⟨o,a.get h λ ps z=>by cases z⟩)
 ·exact .inr h
theorem Fun.okRC {x qual:Str}{st:Stmt}{f c:Addr}{fd:FuncData}{N ps:List Str}{k:Nat}{sp:Sp} (F:Fun K x qual st f fd) (hc:fd.code=.ref c) (S:FnScope N ps (aM st)) (len:∀ vs H Q E,sp vs H Q E->vs.length=ps.length)
  (hbody:∀ (A:Around) (outer:List Env) (s:Shared) (H:Hp) (vs:List V) (Q:VK) (E:XK),Room k (A.deeper (PyProof.Rows.envOfC qual (aM st) s.heap.objs.size f (.ref c)))->sp vs H Q E->
   Leaves (jD (nO P w) P w K mg base N qual (aM st) f (.ref c) A outer s H E) E->
   ∃ t,wG (jD (nO P w) P w K mg base N qual (aM st) f (.ref c) A outer s H E) (fB st) t/\t { nx:=λ _ H'=>Q .non H',rt:=Q } (start N vs) H):FnOk P w K mg base (nO P w) (k+1) f fd ps sp:=by
 obtain⟨oc,od,kV,doc,pm,an,cdv,ct,osl,rfl,lk,hcd⟩:=F.ex;obtain rfl:cdv=.ref c:=hc;exact KS lk hcd S len λ A outer s H vs Q E hr hsp=>hbody A outer s H vs Q E hr hsp ⟨rfl,rfl,rfl,λ _ _ h=>h⟩
theorem wK {H H':Hp}{t Pt:Addr}{pos:Pos}{q:Str} (h:dM H Pt pos q) (b:cB t H H') (hm:lS (H t)):dM H' Pt pos q:=by
 rcases h with h | ⟨c,oc,vs,tk,h1,h2,h3⟩
 ·exact .inl (b _ _ (λ z=>by rw[<- z,h] at hm;exact hm) h)
 ·exact .inr ⟨c,oc,vs,tk,b _ _ (λ z=>by rw[<- z,h1] at hm;exact hm) h1,b _ _ (λ z=>by rw[<- z,h2] at hm;exact hm) h2,h3⟩
section
variable {α:Type}{dD:α->L2.D}{nxt:α->Int->α}{fin:α->Int->Bool}{most lim:Nat}
theorem pP (hf:∀ d a,fin d a=false) {d:α}{r:List Int}:∀ (l:Nat) (a:Int) (fs:Fs α) (row:List Int) (f:Fs α),pR dD nxt fin lim d r l a fs≠.ends row f
 | 0,a,fs,row,f=>by intro h;cases h
 | l+1,a,fs,row,f=>by
  cases hv:(dI dD fs (dD (nxt d a))).isSome with
  | true=>rw[mC (hf d a) hv];exact pP hf l _ _ _ _
  | false=>
   by_cases hl:lim<=fs.length
   ·rw[jH (hf d a) hv hl];intro h;cases h
   ·rw[mD (hf d a) hv (by omega)];exact pP hf l _ _ _ _
theorem u8 (hf:∀ d a,fin d a=false):∀ (n p:Nat) (fs:Fs α) (row:List Int) (f:Fs α),iP dD nxt fin most lim n p fs≠.ends row f
 | 0,p,fs,row,f=>by intro h;cases h
 | n+1,p,fs,row,f=>by
  rw[iP];cases hd:fs[p]? with
  | none=>intro h;cases h
  | some d=>
   dsimp only;cases hb:pR dD nxt fin lim d.1 ((dI dD fs (dD d.1)).getD []) (most+1) 0 fs with
   | many=>intro h;cases h
   | ends row f=>exact absurd hb (pP hf _ _ _ _ _)
   | on fs1=>exact u8 hf n _ _ _ _
theorem pQ {d:α}{r:List Int}:∀ (l:Nat) (a:Int) (fs fs':Fs α),(fs.map λ q=>dD q.1).Nodup->pR dD nxt fin lim d r l a fs=.on fs'->(fs'.map λ q=>dD q.1).Nodup
 | 0,a,fs,fs',hn,h=>by cases h;exact hn
 | l+1,a,fs,fs',hn,h=>by
  cases hf:fin d a with
  | true=>rw[oR hf] at h;cases h
  | false=>
   cases hv:(dI dD fs (dD (nxt d a))).isSome with
   | true=>rw[mC hf hv] at h;exact pQ l _ _ _ hn h
   | false=>
    by_cases hl:lim<=fs.length
    ·rw[jH hf hv hl] at h;cases h
    ·rw[mD hf hv (by omega)] at h;refine pQ l _ _ _ ?_ h;rw[aam,List.nodup_append];refine⟨hn,by simp,λ x hx y hy e=>?_⟩;obtain⟨q,hq,rfl⟩:=aaz.mp hx;have hy:y=dD (nxt d a):=by simpa using hy
     have:=hU (dD:=dD) (d:=q.1) (r:=q.2) hq;rw[e,hy,hv] at this;cases this
theorem u9:∀ (n p:Nat) (fs fs':Fs α),(fs.map λ q=>dD q.1).Nodup->iP dD nxt fin most lim n p fs=.on fs'->(fs'.map λ q=>dD q.1).Nodup
 | 0,p,fs,fs',hn,h=>by cases h;exact hn
 | n+1,p,fs,fs',hn,h=>by
  rw[iP] at h;cases hd:fs[p]? with
  | none=>rw[hd] at h;cases h;exact hn
  | some d=>
   rw[hd] at h;dsimp only at h;cases hb:pR dD nxt fin lim d.1 ((dI dD fs (dD d.1)).getD []) (most+1) 0 fs with
   | many=>rw[hb] at h;cases h
   | ends row f=>rw[hb] at h;cases h
   | on fs1=>rw[hb] at h;exact u9 n _ _ _ (pQ _ _ _ _ hn hb) h
end
abbrev iE (net:Net) (most:Nat):BRes Sta:=HG cR (λ s a=>s.nxA net a) (λ _ _=>false) most 200 (kH net)
theorem yR {net:Net}{most:Nat}{row:List Int}{f:Fs Sta}:iE net most≠.ends row f:=u8 (λ _ _=>rfl) _ _ _ _ _
theorem yS {net:Net}{most:Nat}{fs:Fs Sta} (h:iE net most=.on fs):(fs.map λ q=>cR q.1).Nodup:=u9 _ _ _ _ (by simp) h
theorem mW {net:Net}{most:Nat}{fs:Fs Sta} (h:iE net most=.on fs):∀ q∈fs,∀ a:Nat,a<=most->∃ q'∈fs,q'.1=q.1.nxA net a:=λ q hq a ha=>by
 have:=((oQ (by decide) h).2 q hq a ha).2;obtain⟨q',h1,h2⟩:=gW this;exact⟨q',h1,eN _ _ h2⟩
def jY (net:Net) (v:Int) (fs:Fs Sta) (s:Sta) (n:Nat):List (Nat×Bool):=(List.range n).map λ (a:Nat)=>(cH (fs.map (·.1)) (s.nxA net a),iC net v s a)
def aY (net:Net) (v:Int) (most:Nat) (fs:Fs Sta):gU:=fs.map λ q=>jY net v fs q.1 (most+1)
theorem IZ (fs:Fs Sta) (s:Sta):cH (fs.map λ q=>cR q.1) (cR s)=cH (fs.map (·.1)) s:=by
 rw[show (fs.map λ q=>cR q.1)=(fs.map (·.1)).map cR by rw[aca];rfl];exact sO λ x _ h=>eN _ _ h
theorem G0 {ds:List L2.D}{n:Nat}{d:L2.D} (hn:ds.Nodup) (h:ds[n]? = some d):fG (gL 0 (ds.take n)) d (.int (n:Int))=gL 0 (ds.take (n+1)):=by
 have hl:=(aae.mp h).1;rw[aZ h,n9,oA]
 ·rw[aav,Nat.zero_add,Nat.min_eq_left (by omega)]
 ·refine nA 0 _ λ z=>?_;obtain⟨i,hi⟩:=abh.1 z;have hi2:=(aae.mp hi).1;rw[aav] at hi2;rw[List.getElem?_take_of_lt (by omega)] at hi;have e1:=oB hn hi;have e2:=oB hn h;omega
structure TxtL (mg:Str->Option Value):Prop where
 g_MOST_STATES:∃ u,mg "MOST_STATES_least" = some u/\aX (.int 200) u
def x9:Pos:=O4 0 (bO 33)
def M7:Str:=(("whole_machine" : Str)++(".<locals>." : Str))++("<lambda>" : Str)
def BK (K:aab) (Pt:Addr) (cM:Addr):Sp:=λ vs H Q E=>∃ (x:V) (net:Net) (v:Int) (most:Nat),vs=[x,.int v,.int most]/\Is K H (gB net) x/\NetOk net/\most<=1000/\dM H Pt x9 M7/\
 (iE net most=.many->∀ H',SmT Pt x9 M7 H H'->E (.ref cM) none H')/\
 (∀ fs,iE net most=.on fs->∀ ml H',SmT Pt x9 M7 H H'->gF K H' ml (aY net v most fs)->H ml=none->fs.length<=200->Q (.ref ml) H')
theorem iY:FnScope ["net","watched","most","row","states","places","machine","state","told"] ["net","watched","most"] (aM (bO 33)):={}
theorem pG {f f2 f3 f4 c Pt:Addr}{fd fd2 fd3 fd4:FuncData} (F:Fun K "whole_machine" "whole_machine" (bO 33) f fd) (T:Txt mg) (hcode:fd.code=.ref c) (NB_whole_machine:NestB mg base c Pt) (U:TxtL mg)
  (G_first_state:Callee P w K mg base "first_state" ["net"] 1 (nW K) f2 fd2)
  (G_watch:Callee P w K mg base "watch" ["net","state","vessel","amount"] 5 (nU K) f3 fd3) (G_go_through:CalleeS P w K mg base "go_through" ["first","step","most","limit"] 7 (vB P w K mg base c_TooMany cR) f4 fd4) :
  FnOk P w K mg base (nO P w) 8 f fd ["net","watched","most"] (BK K Pt c_TooMany):=by
 refine Fun.okRC F hcode iY (λ vs H Q E h=>?_) (λ A outer s H vs Q E hr h L=>?_)
 ·obtain⟨x,net,v,most,rfl,_⟩:=h;rfl
 ·obtain⟨x,net,v,most,rfl,hx,nok,hm,tab,kM,kO⟩:=h;have sc:=iY;refine⟨_,(aD (cI (sU G_go_through.ok (hr.mono (by decide)) rfl G_go_through.mg G_go_through.kp G_go_through.bd (jW L) rfl rfl (λ _=>rfl) (aA (eG G_first_state hr (aA (pv 0) aC)) (aA (JA rfl rfl rfl NB_whole_machine) (aA (pv 2) (aA (sR rfl U.g_MOST_STATES) aC))))) (aU (K:=K) (n:=2) rfl rfl (aE (aF (i:=3) sc.nd rfl (Or.inl rfl)) (aE (aF (i:=4) sc.nd rfl (Or.inl rfl)) aS))))
   (aD (lV λ pn=>(aQ (i:=5) sc.nd rfl (Or.inr rfl) (MJ (P:=P) (w:=w) (K:=K) rfl rfl rfl hr.units (λ _ _ h=>h) rfl (LcOk.mk (N':=["place","state"]) (fr:=[none,none]) rfl trivial rfl rfl rfl rfl rfl trivial) (iZ (K:=K) rfl rfl T.b_enumerate (aA (pv 4) aC)) (λ _ _ _=>(aU (K:=K) (n:=2) rfl rfl (aE (aF (i:=0) (show (["place","state"]:List Str).Nodup by decide +kernel) rfl (Or.inl rfl) (Or.inr rfl)) (aE (aF (i:=1) (show (["place","state"]:List Str).Nodup by decide +kernel) rfl (Or.inl rfl) (Or.inr rfl)) aS)))) (λ _ _ _=>cG) (λ _ _ _=>(pv 1)) (λ _ _ _=>(pv 0)))))
   (aD (aQ (i:=6) sc.nd rfl (Or.inl rfl) (cJ aC))
   (aD (lV λ pn=>(eD PassesOwn.never rfl (eY (K:=K) rfl (pv 4)) (aF (i:=7) sc.nd rfl (Or.inr rfl)) (aD (fJ (i:=8) sc.nd rfl rfl (λ _ _ h=>h) rfl (LcOk.mk (N':=["amount","net","state","watched"]) (fr:=[none,some 0,some 7,some 1]) rfl ⟨rfl,rfl,rfl,trivial⟩ rfl rfl rfl rfl rfl ⟨⟨_,rfl,rfl,rfl,rfl⟩,⟨_,rfl,rfl,rfl,rfl⟩,⟨_,rfl,rfl,rfl,rfl⟩,trivial⟩) (eC rfl T.b_range (aA (bB dB (pv 2) aH) aC)) (λ _ _ _=>(aF (i:=0) (show (["amount","net","state","watched"]:List Str).Nodup by decide +kernel) rfl (Or.inl rfl) (Or.inr rfl))) (λ _ _ _=>cG) (λ _ _ _=>(eG G_watch hr (aA (pv 1) (aA (pv 2) (aA (pv 3) (aA (pv 0) aC)))))))
   (aJ (dA (gA (K:=K) rfl abm abn abo cX (pv 6) (aA (i5 (λ _ _ h=>h) rfl (LcOk.mk (N':=["behind","tips","places"]) (fr:=[none,none,some 5]) rfl ⟨rfl,trivial⟩ rfl rfl rfl rfl rfl ⟨⟨_,rfl,rfl,rfl,rfl⟩,trivial⟩) (eY (K:=K) rfl (pv 8)) (λ _ _ _=>(aU (K:=K) (n:=2) rfl rfl (aE (aF (i:=0) (show (["behind","tips","places"]:List Str).Nodup by decide +kernel) rfl (Or.inl rfl) (Or.inr rfl)) (aE (aF (i:=1) (show (["behind","tips","places"]:List Str).Nodup by decide +kernel) rfl (Or.inl rfl) (Or.inr rfl)) aS)))) (λ _ _ _=>cG) (λ _ _ _=>(bF (aA (bA (K3 (P:=P) (w:=w) (K:=K) rfl rfl rfl hr.units) (pv 2) (pv 0) (λ _ _=>rfl)) (aA (pv 1) aC))))) aC)))))))
   (aJ (bH (pv 6))))))),?_⟩
  refine⟨_,rfl,x,net,rfl,hx,nok,λ st H1 s1 hst=>⟨tab.same s1,λ fa ca oc ctv H2 hfa bt tab2 fnh hoc=>⟨_,rfl,λ s1' cf=>?_⟩⟩⟩;have sT:SmT Pt x9 M7 H H2:=(dM.of tab s1).trans ⟨bt,tab.same s1,tab2⟩;have cN:(jD (nO P w) P w K mg base ["net","watched","most","row","states","places","machine","state","told"] "whole_machine" (aM (bO 33)) f (.ref c) A outer s H E).env.cells.lookup ("net" : Str)=some (s.heap.objs.size+1):=rfl;have cW:(jD (nO P w) P w K mg base ["net","watched","most","row","states","places","machine","state","told"] "whole_machine" (aM (bO 33)) f (.ref c) A outer s H E).env.cells.lookup ("watched" : Str)=some (s.heap.objs.size+1+1):=rfl;refine⟨λ s a=>s.nxA net a,λ _ _=>false,kF net,λ H=>Is K H (gB net) x,IH net,st,fa,ca,_,oc,[("watched",s.heap.objs.size+1+1),("net",s.heap.objs.size+1)],most,200,kH net,rfl,by decide,by decide,hm,?_,lU net,⟨λ d a h _=>n8 nok h a,λ d h H v e=>xR h e,λ H H' t h=>Is.mono t _ _ h⟩,Is.mono sT.ts _ _ hx,fnh,⟨_,_,_,_,rfl⟩,?_,?_,?_,?_,?_⟩
  ·exact Is.mono (SmT.ts ⟨bt,tab.same s1,tab2⟩) _ _ hst
  ·have two:∀ (y:Str) (c:Addr),List.lookup y [(("watched" : Str),s.heap.objs.size+1+1),(("net" : Str),s.heap.objs.size+1)]=some c->(y = "watched" /\ c=s.heap.objs.size+1+1)\/(y = "net" /\ c=s.heap.objs.size+1):=λ y c h=>by
    have:=abe h;rcases aao.1 this with z | z
    ·injection z with z1 z2;exact .inl ⟨z1,z2⟩
    ·rw[aan] at z;injection z with z1 z2;exact .inr ⟨z1,z2⟩
   refine A2 (N:=["state","amount","net","watched"]) (ps:=["state","amount"]) (fv:=[x,.int v]) ⟨rfl,rfl,rfl,by decide +kernel,rfl,by decide +kernel,by decide +kernel,?_,?_⟩ ?_ rfl hoc ?_ ?_ ?_ ?_
   ·intro y hy;have:=abe hy;simp only [aao,Prod.mk.injEq,reduceCtorEq,and_false,and_true,false_or,or_false,acj] at this;rcases this with rfl | rfl
    ·exact⟨_,rfl⟩
    ·exact⟨_,rfl⟩
   ·refine List.Pairwise.cons (λ y hy=>?_) (List.pairwise_singleton _ _);rw[aan] at hy;subst hy;show s.heap.objs.size+1+1≠s.heap.objs.size+1;omega
   ·rintro vs H' Q' ⟨x',d,a,rfl,_⟩;rfl
   ·intro us hus;obtain⟨u1,u2,rfl⟩:∃ u1 u2,us=[u1,u2]:=by
     match us,hus with
     | [u1,u2],_=>exact⟨u1,u2,rfl⟩
    rfl
   ·intro y c' h;rcases two y c' h with ⟨rfl,rfl⟩ | ⟨rfl,rfl⟩
    ·exact cf.cell _ _ cW
    ·exact cf.cell _ _ cN
   ·intro i y u h1 h2
    match i,h1,h2 with
    | 0,h1,h2=>
     cases h1;cases h2;obtain⟨c',u,h3,h4,h5⟩:=cf.val 0 "net" x rfl rfl rfl;rw[cN] at h3;cases h3;exact⟨rfl,_,u,rfl,h4,h5⟩
    | 1,h1,h2=>
     cases h1;cases h2;obtain⟨c',u,h3,h4,h5⟩:=cf.val 1 "watched" (.int v) rfl rfl rfl;rw[cW] at h3;cases h3;exact⟨rfl,_,u,rfl,h4,h5⟩
    | i+2,h1,h2=>simp at h2
   ·rintro A' outer' s' H' vs Q' hr' ⟨y,d,a,rfl,hy,okd,ha,hG,kk⟩;refine⟨_,bF (aA (bA (aO (K:=K) rfl) (eG G_watch hr' (aA (pv 2) (aA (pv 0) (aA (pv 3) (aA (pv 1) aC))))) aH (λ _ _=>rfl)) (aA kY aC)),?_⟩;refine⟨_,rfl,_,rfl,_,rfl,_,rfl,x,y,net,d,v,a,rfl,hG,hy,nok,okd,λ p b H'' s'' q1 q2=>?_⟩;refine .inr (.inl ⟨p,_,0,_,rfl,rfl,q1,rfl,(show 2<=sizeLine by decide),λ tp htp=>?_⟩);have s3:=aG.new (o:=HO.tup [b,.bl false]) htp;exact kk tp b _ (s''.trans s3) (bC.of aB) (Is.mono s3.ts _ _ q2)
  ·intro c' hc';have hc2:c'=s.heap.objs.size+1+1\/c'=s.heap.objs.size+1:=by simpa using hc'
   rcases hc2 with rfl | rfl
   ·obtain⟨h1,h2,h3⟩:=cf.out _ _ cW;obtain⟨u,o,h4,_⟩:=cf.cell _ _ cW;exact⟨h1,h2,h3,o,h4⟩
   ·obtain⟨h1,h2,h3⟩:=cf.out _ _ cN;obtain⟨u,o,h4,_⟩:=cf.cell _ _ cN;exact⟨h1,h2,h3,o,h4⟩
  ·intro row fs e;exact absurd e yR
  ·intro e H3 s3;exact kM e H3 (sT.step s3)
  ·intro fs e p fl us H3 s3 qp hfl ffl pr oks hlen;have e:iE net most=.on fs:=e;have hnd:=yS e;have hsh:=mW e;have eul:us.length=fs.length:=(Paired.length pr).symm;have sT3:=sT.step s3;have hx3:=Is.mono sT3.ts _ _ hx;refine⟨p,_,rfl,qp,rfl,_,_,rfl,_,_,rfl,rfl,?_⟩;refine⟨_,rfl,false,fl,rfl,⟨_,bR.of hfl⟩,L6 (K:=K) (P:=P) (w:=w) (t:=false) (a:=fl) (xs:=us) (λ D i Z H'=>H3 D=none/\aG H3 H'/\bZ P w K H' D (IH net) (gL 0 ((fs.map λ q=>cR q.1).take i))/\∃ u1 u2,Z=[u1,u2])
    (λ D i Z H' p=>bR.of (p.2.1 _ _ hfl)) (λ D hD=>⟨hD,aG.new hD,bZ.new aB,none,none,rfl⟩) ?_ ?_⟩
   rotate_left
   ·rintro D i u Z H4 tt hu ⟨hDn,sm,dd,w1,w2,rfl⟩ htt;obtain⟨q,hq,kq⟩:=Paired.getR pr hu;have hi:=(aae.mp hu).1;have s5:=aG.new (o:=HO.tup [.int (i:Int),u]) htt;refine⟨tt,_,rfl,bC.of aB,rfl,_,_,rfl,_,_,rfl,rfl,?_⟩;refine hJ ⟨_,rfl,_,rfl,IH net,_,cR q.1,dd.same s5,kq.mono (sm.trans s5).ts,cZ (by rw[lZ,aav,aad];omega),λ H7 b7 d7=>?_⟩;refine⟨hDn,λ b o e=>b7 b o (aK e hDn) ((sm.trans s5) b o e),?_,_,_,rfl⟩;rw[G0 hnd (by rw[aaj,hq];rfl)] at d7;exact d7
   rintro sd Z H4 ⟨fsd,s4,dd,_⟩;rw[eul,show fs.length=(fs.map λ q=>cR q.1).length by rw[aad],aay] at dd;refine⟨abw _,λ ml hml=>?_⟩;have s5:=aG.new (o:=HO.lst []) hml;have g5:upd H4 ml (.lst []) ml=some (.lst []):=aB;have fml3:H3 ml=none:=s4.free hml;have sdm:sd≠ml:=λ z=>by obtain⟨o,e⟩:=dd.some;rw[z,hml] at e;cases e
   have dd5:=dd.same s5;have s35:=s4.trans s5;generalize upd H4 ml (.lst [])=H5 at s5 g5 dd5 s35 ⊢;refine⟨_,rfl,fl,rfl,⟨_,bR.of (s35 _ _ hfl)⟩,tP (K:=K) (a:=fl) (xs:=us) (λ j Z H'=>aG H3 H'/\bZ P w K H' sd (IH net) (gL 0 (fs.map λ q=>cR q.1))/\(∃ ms,H' ml=some (.lst ms)/\Paired (λ row u=>∃ a,u=.ref a/\a≠ml/\wF K H' row u) ((aY net v most fs).take j) ms)/\
    ∃ v7 v8,Z=[some x,some (.int v),some (.int most),some .non,some (.ref fl),some (.ref sd),some (.ref ml),v7,v8]) ?_ ?_ ?_ ?_⟩
   ·exact⟨s35,dd5,⟨[],g5,.nil⟩,_,_,rfl⟩
   ·rintro i Z H' _ ⟨s6,_⟩;exact bR.of (s6 _ _ hfl)
   ·rintro j u Z H6 hu ⟨s6,dd6,⟨ms,hms,prm⟩,v7,v8,rfl⟩;obtain⟨q,hq,kq⟩:=Paired.getR pr hu;have hqm:=aah hq;have okq:=oks q hqm;have hj:=(aae.mp hu).1;have hmsl:ms.length<=fs.length:=by rw[<- Paired.length prm,aav];unfold aY;rw[aad];omega
    dsimp only [gP,yN];refine⟨_,rfl,_,_,rfl,rfl,_,rfl,by omega,by omega,?_⟩;rw[show ((most:Int)+1).toNat=most+1 by omega];refine oI (n:=most+1) (λ D i r Z H'=>H6 D=none/\aG H6 H'/\H' D=some (.lst r)/\Paired (λ (a:Nat) y=>∃ p b,y=.ref p/\bC K H' p [b,.bl (iC net v q.1 a)]/\Is K H' (cR (q.1.nxA net a)) b) (List.range i) r/\∃ u1,Z=[u1,some x,some u,some (.int v)]) (λ D hD=>⟨hD,aG.new hD,aB,.nil,none,rfl⟩) ?_ ?_;rotate_left
    ·rintro D i r Z H7 hi ⟨hDn,sm,hDl,prD,w1,rfl⟩;have hrl:r.length=i:=by rw[<- Paired.length prD,acb]
     refine fU ?_;refine⟨_,rfl,_,rfl,_,rfl,_,rfl,x,u,net,q.1,v,i,rfl,Is.mono (s6.trans sm).ts _ _ hx3,(kq.mono (s6.trans sm).ts).is,nok,okq,λ pp b H8 s8 q8 i8=>?_⟩;have hD8:=s8 _ _ hDl;have t9:bI K H8 (upd H8 D (.lst (r++[.ref pp]))):=cB.ts (t:=D) cB.upd (by rw[hD8];exact trivial);refine⟨hD8,cZ (by omega),hDn,(sm.trans s8).put hDn,aB,?_,_,rfl⟩;rw[adk];refine Paired.snoc (Paired.mapP prD λ a y ⟨p,b,h1,h2,h3⟩=>⟨p,b,h1,(s8.ts.trans t9) _ _ h2,Is.mono (s8.ts.trans t9) _ _ h3⟩) ⟨pp,b,rfl,t9 _ _ q8,Is.mono t9 _ _ i8⟩
    rintro D r Z H7 ⟨hDn,sm,hDl,prD,_⟩;have hrl:r.length=most+1:=by rw[<- Paired.length prD,acb]
    have hms7:=sm _ _ hms;have nDm:D≠ml:=λ z=>by rw[z,hms] at hDn;cases hDn
    refine⟨_,rfl,.inl ⟨rfl,_,bR.of hms7⟩,_,rfl,D,rfl,⟨_,bR.of hDl⟩,jZ (K:=K) (a:=D) (xs:=r) (λ D2 i r2 Z H'=>H7 D2=none/\aG H7 H'/\H' D2=some (.lst r2)/\Paired (λ (p:Nat×Bool) y=>∃ q,y=.ref q/\bC K H' q [kL p.1,.bl p.2]) (jY net v fs q.1 i) r2/\∃ u1 u2,Z=[u1,u2,some (.ref sd)])
     (λ D2 i r2 Z H' p=>bR.of (p.2.1 _ _ hDl)) (λ D2 hD2=>⟨hD2,aG.new hD2,aB,.nil,none,none,rfl⟩) ?_ ?_⟩
    rotate_left
    ·rintro D2 i y r2 Z H8 hy ⟨hD2n,sm2,hD2l,prD2,w1,w2,rfl⟩;obtain⟨a,ha,pp,b,rfl,qp,ib⟩:=Paired.getR prD hy;have hi:=(aae.mp hy).1;have ea:a=i:=by rw[List.getElem?_range (by omega)] at ha;exact (abf ha).symm
     subst ea;have hr2:r2.length=a:=by rw[<- Paired.length prD2];unfold jY;rw[aad,acb]
     obtain⟨q',hq'm,hq'⟩:=hsh q hqm a (by omega);have hkm:cR (q.1.nxA net a)∈fs.map λ q=>cR q.1:=aaz.mpr ⟨q',hq'm,by rw[hq']⟩;refine⟨pp,_,rfl,sm2.tup qp,rfl,_,_,rfl,_,_,rfl,rfl,?_⟩;refine hJ ⟨_,rfl,_,rfl,sd,IH net,_,cR (q.1.nxA net a),_,rfl,dd6.same (sm.trans sm2),xR (n8 nok okq a) (Is.mono sm2.ts _ _ ib),lY 0 _ hkm,_,rfl,(show 2<=sizeLine by decide),λ t2 ht2=>?_⟩;rw[IZ,Nat.zero_add];have s9:=aG.new (o:=HO.tup [kL (cH (fs.map (·.1)) (q.1.nxA net a)),.bl (iC net v q.1 a)]) ht2;have hD9:=s9 _ _ hD2l;have t9:bI K (upd H8 t2 (.tup [kL (cH (fs.map (·.1)) (q.1.nxA net a)),.bl (iC net v q.1 a)])) (upd (upd H8 t2 (.tup [kL (cH (fs.map (·.1)) (q.1.nxA net a)),.bl (iC net v q.1 a)])) D2 (.lst (r2++[.ref t2]))):=cB.ts (t:=D2) cB.upd (by rw[hD9];exact trivial);refine⟨hD9,cZ (by omega),hD2n,(sm2.trans s9).put hD2n,aB,?_,_,_,rfl⟩;have em:jY net v fs q.1 (a+1)=jY net v fs q.1 a++[(cH (fs.map (·.1)) (q.1.nxA net a),iC net v q.1 a)]:=by unfold jY;rw[adk,aam];rfl
     rw[em];exact Paired.snoc (Paired.mapP prD2 λ _ _ ⟨z,h1,h2⟩=>⟨z,h1,(s9.ts.trans t9) _ _ h2⟩) ⟨t2,rfl,t9 _ _ (bC.of aB)⟩
    ·rintro D2 r2 Z H8 ⟨hD2n,sm2,hD2l,prD2,_⟩;rw[hrl] at prD2;have hms8:=sm2 _ _ hms7;refine⟨ml,ms,_,rfl,rfl,hms8,cZ (by omega),?_⟩;have b9:cB ml H8 (upd H8 ml (.lst (ms++[.ref D2]))):=cB.upd;have mu8:lS (H8 ml):=by rw[hms8];exact trivial
     have t9:=b9.ts (K:=K) mu8;have nD2m:D2≠ml:=λ z=>by rw[z,hms7] at hD2n;cases hD2n
     have s68:=(s6.trans sm).trans sm2;refine⟨λ b o e=>b9 b o (aK e fml3) (s68 b o e),(dd6.same (sm.trans sm2)).mono t9 (λ o e=>b9 _ _ sdm e),⟨_,aB,?_⟩,_,_,rfl⟩;rw[aZ (xs:=aY net v most fs) (by unfold aY;rw[aaj,hq];rfl)];refine Paired.snoc (Paired.mapP prm λ row u ⟨a,h1,h2,h3⟩=>⟨a,h1,h2,?_⟩) ⟨D2,rfl,nD2m,D2,r2,rfl,b9 _ _ nD2m hD2l,Paired.mapP prD2 λ _ _ ⟨z,h4,h5⟩=>⟨z,h4,t9 _ _ h5⟩⟩;obtain⟨a',vs,h4,h5,h6⟩:=h3.same (sm.trans sm2);rw[h1] at h4;cases h4;exact⟨a,vs,h1,b9 _ _ h2 h5,Paired.mapP h6 λ _ _ ⟨z,h7,h8⟩=>⟨z,h7,t9 _ _ h8⟩⟩
   ·
    rintro Z H6 ⟨s6,dd6,⟨ms,hms,prm⟩,v7,v8,rfl⟩;refine⟨_,rfl,?_⟩;rw[eul,show fs.length=(aY net v most fs).length by unfold aY;rw[aad],aay] at prm;exact kO fs e ml H6 (sT3.step s6) ⟨ms,hms,Paired.mapP prm λ _ _ ⟨_,_,_,h⟩=>h⟩ (sT3.free fml3) hlen
def lG (m:gU) (rs:List Nat) (i:Nat):List (Nat×Bool):=(m.getD i []).map λ p=>(rs.getD p.1 0,p.2)
def dP (m:gU) (rs:List Nat):gU:=(List.range (aP rs).length).map λ r=>lG m rs (cH rs r)
theorem MU {ds:List Nat} (hd:dC ds=ds) {M:Int} (h1:M∈ds.map λ (n:Nat)=>(n:Int)) (h2:∀ a∈ds.map λ (n:Nat)=>(n:Int),a<=M):M+1=((aP ds).length:Int):=by
 obtain⟨x,hx,rfl⟩:=aaz.mp h1;have hx':x∈dC ds:=by rw[hd];exact hx
 unfold dC at hx';obtain⟨d,hdm,e⟩:=aaz.mp hx';have hlt:=lW (cC.mpr hdm);have hpos:0 < (aP ds).length:=by omega
 obtain⟨z,hz⟩:∃ z,(aP ds)[(aP ds).length - 1]? = some z:=⟨_,aag (by omega)⟩;have hzp:=oB (iG ds) hz;have hzm:z∈ds:=cC.mp (aah hz);have hin:cH (aP ds) z∈dC ds:=aco hzm;rw[hd] at hin;have:=h2 _ (aco (f:=λ (n:Nat)=>(n:Int)) hin);rw[hzp] at this;omega
theorem xN {ds:List Nat} (hd:dC ds=ds) {r:Nat} (h:r < (aP ds).length):r∈ds:=by
 obtain⟨z,hz⟩:∃ z,(aP ds)[r]? = some z:=⟨_,aag h⟩;have hzp:=oB (iG ds) hz;have hzm:z∈ds:=cC.mp (aah hz);have hin:cH (aP ds) z∈dC ds:=aco hzm;rw[hd,hzp] at hin;exact hin
theorem sP {α:Type}{d:α}:∀ {xs:List α}{i:Nat}{z:α},i < cH xs d->xs[i]? = some z->z≠d
 | [],i,z,h,_=>absurd h (adb _)
 | x::xs,i,z,h,e=>by
  by_cases c:x=d
  ·rw[cH,if_pos c] at h;exact absurd h (adb _)
  ·rw[cH,if_neg c] at h;cases i with
   | zero=>cases e;exact c
   | succ i=>exact sP (xs:=xs) (i:=i) (by omega) (by simpa using e)
theorem GJ (ns:List Nat):(ns.map kL).all iJ=true:=by
 rw[acr];intro z hz;obtain⟨n,_,rfl⟩:=aaz.mp hz;rfl
def wQ (K:aab) (Pt:Addr) (cM:Addr):Sp:=λ vs H Q E=>∃ (x:V) (net:Net) (v:Int) (most:Nat),vs=[x,.int v,.int most]/\Is K H (gB net) x/\NetOk net/\most<=1000/\dM H Pt x9 M7/\
 (iE net most=.many->∀ H',SmT Pt x9 M7 H H'->E (.ref cM) none H')/\
 (∀ fs,iE net most=.on fs->∀ n rl H',SmT Pt x9 M7 H H'->gE (aY net v most fs) (aL (aY net v most fs) n)=aL (aY net v most fs) n->gF K H' rl (dP (aY net v most fs) (aL (aY net v most fs) n))->H rl=none->fs.length<=200->Q (.ref rl) H')
theorem G4 {net:Net}{v:Int}{most:Nat}{fs:Fs Sta} (h:iE net most=.on fs) (hl:fs.length<=200) (hm:most<=1000):MachOk (aY net v most fs) (most+1):=by
 refine⟨by unfold aY;rw[aad];omega,λ row hr=>?_,by omega,λ row hr p hp=>?_⟩
 ·obtain⟨q,_,rfl⟩:=aaz.mp hr;unfold jY;rw[aad,acb]
 ·obtain⟨q,hq,rfl⟩:=aaz.mp hr;obtain⟨a,ha,rfl⟩:=aaz.mp hp;rw[abz] at ha;obtain⟨q',h1,h2⟩:=mW h q hq a (by omega);have:=lW (xs:=fs.map (·.1)) (d:=q.1.nxA net a) (aaz.mpr ⟨q',h1,h2⟩);rw[aad] at this;show cH (fs.map (·.1)) (q.1.nxA net a) < _;unfold aY;rw[aad];exact this
theorem yW:FnScope ["net","watched","most","machine","rooms","firsts"] ["net","watched","most"] (aM (bO 32)):={}
theorem JP {f f2 f3 Pt:Addr}{fd fd2 fd3:FuncData} (F:Fun K "least" "least" (bO 32) f fd) (T:Txt mg)
  (G_whole_machine:CalleeR P w K mg base "whole_machine" ["net","watched","most"] 8 (BK K Pt c_TooMany) f2 fd2) (G_rooms_of:Callee P w K mg base "rooms_of" ["machine"] 2 (wP K) f3 fd3) :
  FnOk P w K mg base (nO P w) 9 f fd ["net","watched","most"] (wQ K Pt c_TooMany):=by
 refine F.okR yW (λ vs H Q E h=>?_) (λ cdv A outer s H vs Q E hr h L=>?_)
 ·obtain⟨x,net,v,most,rfl,_⟩:=h;rfl
 ·obtain⟨x,net,v,most,rfl,hx,nok,hm,tab,kM,kO⟩:=h;have sc:=yW;refine⟨_,(aD (aQ (i:=3) sc.nd rfl (Or.inr rfl) (gQ G_whole_machine.ok (hr.mono (by decide)) rfl G_whole_machine.mg G_whole_machine.kp G_whole_machine.bd .nil (jW L) (aA (pv 0) (aA (pv 1) (aA (pv 2) aC)))))
   (aD (aQ (i:=4) sc.nd rfl (Or.inr rfl) (eG G_rooms_of hr (aA (pv 3) aC)))
   (aD (lV λ pn=>(fJ (i:=5) sc.nd rfl rfl (λ _ _ h=>h) rfl (LcOk.mk (N':=["room","rooms"]) (fr:=[none,some 4]) rfl ⟨rfl,trivial⟩ rfl rfl rfl rfl rfl ⟨⟨_,rfl,rfl,rfl,rfl⟩,trivial⟩) (eC rfl T.b_range (aA (bB dB (bD (D6 (K:=K) rfl rfl) rfl T.b_max PyProof.Rows.boot_max (aA (pv 4) aC)) aH) aC)) (λ _ _ _=>(aF (i:=0) (show (["room","rooms"]:List Str).Nodup by decide +kernel) rfl (Or.inl rfl) (Or.inr rfl))) (λ _ _ _=>cG) (λ _ _ _=>(gA (K:=K) rfl abm PySem.F.slot_list_index PySem.F.type_list_index JR (pv 1) (aA (pv 0) aC)))))
   (aJ (lV λ pn=>(bH (i5 (λ _ _ h=>h) rfl (LcOk.mk (N':=["state","rooms","machine"]) (fr:=[none,some 4,some 3]) rfl ⟨rfl,rfl,trivial⟩ rfl rfl rfl rfl rfl ⟨⟨_,rfl,rfl,rfl,rfl⟩,⟨_,rfl,rfl,rfl,rfl⟩,trivial⟩) (eY (K:=K) rfl (pv 5)) (λ _ _ _=>(aF (i:=0) (show (["state","rooms","machine"]:List Str).Nodup by decide +kernel) rfl (Or.inl rfl) (Or.inr rfl))) (λ _ _ _=>cG) (λ _ _ _=>(i5 (λ _ _ h=>h) rfl (LcOk.mk (N':=["behind","tips","rooms"]) (fr:=[none,none,some 1]) rfl ⟨rfl,trivial⟩ rfl rfl rfl rfl rfl ⟨⟨_,rfl,rfl,rfl,rfl⟩,trivial⟩) (eY (K:=K) rfl (bA (aO (K:=K) rfl) (pv 2) (pv 0) (λ _ _=>rfl))) (λ _ _ _=>(aU (K:=K) (n:=2) rfl rfl (aE (aF (i:=0) (show (["behind","tips","rooms"]:List Str).Nodup by decide +kernel) rfl (Or.inl rfl) (Or.inr rfl)) (aE (aF (i:=1) (show (["behind","tips","rooms"]:List Str).Nodup by decide +kernel) rfl (Or.inl rfl) (Or.inr rfl)) aS)))) (λ _ _ _=>cG) (λ _ _ _=>(bF (aA (bA (aO (K:=K) rfl) (pv 2) (pv 0) (λ _ _=>rfl)) (aA (pv 1) aC))))))))))))),?_⟩
  refine⟨_,rfl,_,rfl,_,rfl,x,net,v,most,rfl,hx,nok,hm,tab,kM,λ fs e ml H1 sT hma fml hlen=>?_⟩;have mok:=G4 (v:=v) e hlen hm;refine⟨_,rfl,ml,aY net v most fs,most+1,rfl,hma,mok,λ n rl H2 s2 hrl hst frl=>?_⟩;have ln:=bX (aY net v most fs) n;have nn:=jQ (aY net v most fs) n;have kO':=λ rl H'=>kO fs e n rl H';obtain⟨us,hml,pr⟩:=hma.same s2;have lm:=mok.len;have hmlt:=mok.lt;have hmw:=mok.wid;have hml0:0 < (aY net v most fs).length:=by
   obtain⟨q,hq,_⟩:=(oQ (by decide) e).1;unfold aY;rw[aad];exact List.length_pos_of_mem hq
  generalize aY net v most fs=m at ln nn kO' pr hmlt hmw hst hrl hml0 lm;generalize aL m n=rs at ln nn kO' hst hrl;have sT2:=sT.step s2;have eul:us.length=m.length:=(Paired.length pr).symm;have hcl:(aP rs).length<=rs.length:=jP rs;refine⟨_,rfl,rl,rs.map λ (n:Nat)=>(n:Int),rfl,bR.of (by rw[aca];exact hrl),by rw[aad];omega,λ M hM1 hM2=>?_⟩;have eM:=MU nn hM1 hM2;refine⟨_,_,rfl,rfl,_,rfl,by omega,by omega,?_⟩;rw[show (M+1).toNat=(aP rs).length by omega];refine oI (n:=(aP rs).length) (λ D i r Z H'=>H2 D=none/\aG H2 H'/\H' D=some (.lst r)/\r=((List.range i).map λ z=>cH rs z).map kL/\∃ u1,Z=[u1,some (.ref rl)]) (λ D hD=>⟨hD,aG.new hD,aB,rfl,none,rfl⟩) ?_ ?_;rotate_left
  ·rintro D i r Z H3 hi ⟨hDn,sm,hDl,rfl,u1,rfl⟩;have him:=xN nn hi;have hpl:=lW him;refine fU ?_;refine⟨_,rfl,.inl ⟨rfl,_,bR.of (sm _ _ hrl)⟩,_,rfl,rl,_,.int (i:Int),cH rs i,rfl,rfl,sm _ _ hrl,rfl,GJ _,by rw[aad];exact hpl,λ z hz=>?_,λ j z hj hz=>?_,hDl,cZ (by rw[aad,aad,acb];omega),hDn,sm.put hDn,aB,?_,_,rfl⟩
   ·rw[aaj,i4 him] at hz;cases hz;show vT (.int (i:Int)) (.int (i:Int))=true;simp [vT]
   ·rw[aaj] at hz;obtain⟨y,hy,rfl⟩:=aas.mp hz;have:=sP hj hy;show vT (.int (y:Int)) (.int (i:Int))=false;simp [vT];omega
   ·rw[adk,aam,aam];rfl
  rintro fl r Z H3 ⟨ffl,s3,hfl,rfl,_⟩;refine⟨_,rfl,fl,rfl,⟨_,bR.of hfl⟩,jZ (K:=K) (a:=fl) (xs:=((List.range (aP rs).length).map λ z=>cH rs z).map kL) (λ D i r Z H'=>H3 D=none/\aG H3 H'/\H' D=some (.lst r)/\Paired (λ row u=>∃ a,u=.ref a/\a≠D/\wF K H' row u) ((dP m rs).take i) r/\∃ u1,Z=[u1,some (.ref rl),some (.ref ml)])
   (λ D i r Z H' p=>bR.of (p.2.1 _ _ hfl)) (λ D hD=>⟨hD,aG.new hD,aB,.nil,none,rfl⟩) ?_ ?_⟩
  ·rintro D r Z H4 ⟨hDn,sm,hDl,prD,_⟩;rw[aad,aad,acb,show (aP rs).length=(dP m rs).length by unfold dP;rw[aad,acb],aay] at prD;exact kO' D H4 (sT2.step (s3.trans sm)) hst ⟨r,hDl,Paired.mapP prD λ _ _ ⟨_,_,_,h⟩=>h⟩ (sT2.free (s3.free hDn)) hlen
  ·rintro D i y r Z H4 hy ⟨hDn,sm,hDl,prD,u1,rfl⟩;rw[aaj,aaj] at hy;obtain⟨z,hz,rfl⟩:=aas.mp hy;obtain⟨i',hi',rfl⟩:=aas.mp hz;have hil:=(aae.mp hi').1;rw[acb] at hil;have ei:i'=i:=by rw[List.getElem?_range hil] at hi';exact (abf hi').symm
   subst ei;have him:=xN nn hil;have hpl:=lW him;have hrl4:=(s3.trans sm) _ _ hrl;obtain⟨row,hrow⟩:∃ row,m[cH rs i']? = some row:=⟨_,aag (by omega)⟩;have hrowm:=aah hrow;obtain⟨u,hu,ra⟩:=Paired.get' pr hrow;obtain⟨a,vs,rfl,ha,pv'⟩:=ra.same (s3.trans sm);have evl:vs.length=row.length:=(Paired.length pv').symm;have hwd:=hmw row hrowm;have hrlen:r.length<=(dP m rs).length:=by rw[<- Paired.length prD,aav];omega
   have hll:(dP m rs).length=(aP rs).length:=by unfold dP;rw[aad,acb]
   refine fU ?_;refine⟨_,rfl,_,rfl,.inl ⟨ml,us,(cH rs i':Int),.ref a,rfl,rfl,bR.of ((s3.trans sm) _ _ hml),gH hu,?_⟩⟩;refine⟨a,rfl,⟨_,bR.of ha⟩,jZ (K:=K) (a:=a) (xs:=vs) (λ D2 j r2 Z H'=>H4 D2=none/\aG H4 H'/\H' D2=some (.lst r2)/\Paired (λ (p:Nat×Bool) y=>∃ q,y=.ref q/\bC K H' q [kL p.1,.bl p.2]) ((row.take j).map λ p=>(rs.getD p.1 0,p.2)) r2/\∃ u1 u2,Z=[u1,u2,some (.ref rl)])
    (λ D2 j r2 Z H' p=>bR.of (p.2.1 _ _ ha)) (λ D2 hD2=>⟨hD2,aG.new hD2,aB,.nil,none,none,rfl⟩) ?_ ?_⟩
   rotate_left
   ·rintro D2 j y r2 Z H5 hy2 ⟨hD2n,sm2,hD2l,prD2,w1,w2,rfl⟩;obtain⟨p,hp,q,rfl,qq⟩:=Paired.getR pv' hy2;have hj:=(aae.mp hy2).1;have hplt:=hmlt row hrowm p (aah hp);obtain⟨rp,hrp⟩:∃ rp,rs[p.1]? = some rp:=⟨_,aag (by omega)⟩;have hr2:r2.length<=row.length:=by rw[<- Paired.length prD2,aad,aav];omega
    refine⟨q,_,rfl,sm2.tup qq,rfl,_,_,rfl,_,_,rfl,rfl,?_⟩;refine hJ ⟨_,rfl,_,rfl,.inl ⟨rl,_,(p.1:Int),kL rp,rfl,rfl,bR.of (sm2 _ _ hrl4),gH (by rw[aaj,hrp];rfl),_,rfl,(show 2<=sizeLine by decide),λ t2 ht2=>?_⟩⟩;have s9:=aG.new (o:=HO.tup [kL rp,.bl p.2]) ht2;have hD9:=s9 _ _ hD2l;have t9:bI K (upd H5 t2 (.tup [kL rp,.bl p.2])) (upd (upd H5 t2 (.tup [kL rp,.bl p.2])) D2 (.lst (r2++[.ref t2]))):=cB.ts (t:=D2) cB.upd (by rw[hD9];exact trivial);refine⟨hD9,cZ (by have:=mok.wd;omega),hD2n,(sm2.trans s9).put hD2n,aB,?_,_,_,rfl⟩;rw[aZ hp,aam];refine Paired.snoc (Paired.mapP prD2 λ _ _ ⟨z,h1,h2⟩=>⟨z,h1,(s9.ts.trans t9) _ _ h2⟩) ⟨t2,rfl,?_⟩;dsimp only;rw[show (rs.getD p.1 0)=rp by rw[aai,hrp];rfl];exact t9 _ _ (bC.of aB)
   ·rintro D2 r2 Z H5 ⟨hD2n,sm2,hD2l,prD2,_⟩;rw[evl,aay] at prD2;have hD5:=sm2 _ _ hDl;have b9:cB D H5 (upd H5 D (.lst (r++[.ref D2]))):=cB.upd;have mu:lS (H5 D):=by rw[hD5];exact trivial
    have t9:=b9.ts (K:=K) mu;have nD:D2≠D:=λ z=>by rw[z,hDl] at hD2n;cases hD2n
    refine⟨hD5,cZ (by omega),hDn,(sm.trans sm2).put hDn,aB,?_,_,rfl⟩;rw[aZ (xs:=dP m rs) (x:=lG m rs (cH rs i')) (by unfold dP;rw[aaj,List.getElem?_range hil];rfl)];refine Paired.snoc (Paired.mapP prD λ row u ⟨a,h1,h2,h3⟩=>⟨a,h1,h2,?_⟩) ⟨D2,rfl,nD,D2,r2,rfl,b9 _ _ nD hD2l,?_⟩
    ·obtain⟨a',vs',h4,h5,h6⟩:=h3.same sm2;rw[h1] at h4;cases h4;exact⟨a,vs',h1,b9 _ _ h2 h5,Paired.mapP h6 λ _ _ ⟨z,h7,h8⟩=>⟨z,h7,t9 _ _ h8⟩⟩
    ·unfold lG;rw[aai,hrow];exact Paired.mapP prD2 λ _ _ ⟨z,h4,h5⟩=>⟨z,h4,t9 _ _ h5⟩
abbrev ES:=List Nat->Bool
section
variable {α:Type}(nxt:α->Int->α)(out:α->Int->Bool)(most:Nat)
def bh:α->ES
 | _,[]=>false
 | s,a::w=>if a<=most then (if w=[] then out s a else bh (nxt s a) w) else false
def RZ (b:ES) (a:Nat):ES:=λ w=>if w=[] then false else b (a::w)
variable {nxt out most}
theorem D8 {s:α}{a:Nat} (h:a<=most):bh nxt out most s [a]=out s a:=by rw[bh,if_pos h,if_pos rfl]
theorem tY {s:α}{a:Nat} (h:a<=most):bh nxt out most (nxt s a)=RZ (bh nxt out most s) a:=by
 funext w;unfold RZ
 by_cases hw:w=[]
 ·rw[if_pos hw,hw,bh]
 ·rw[if_neg hw];conv=>rhs;rw[bh,if_pos h,if_neg hw]
theorem S3 {s t:α} (R:α->α->Prop) (h0:R s t) (ho:∀ s t,R s t->∀ a:Nat,a<=most->out s a=out t a) (hn:∀ s t,R s t->∀ a:Nat,a<=most->R (nxt s a) (nxt t a)):bh nxt out most s=bh nxt out most t:=by
 funext w
 induction w generalizing s t with
 | nil=>rw[bh,bh]
 | cons a w ih=>
  rw[bh,bh]
  by_cases h:a<=most
  ·rw[if_pos h,if_pos h,ho s t h0 a h,ih (hn s t h0 a h)]
  ·rw[if_neg h,if_neg h]
end
section
variable {α:Type}{nxt:α->Int->α}{out:α->Int->Bool}{most:Nat}{L:List α}
def xQ (nxt:α->Int->α) (out:α->Int->Bool) (L:List α) (s:α) (n:Nat):List (Nat×Bool):=(List.range n).map λ (a:Nat)=>(cH L (nxt s a),out s a)
def kD (nxt:α->Int->α) (out:α->Int->Bool) (most:Nat) (L:List α):gU:=L.map λ s=>xQ nxt out L s (most+1)
theorem gT {i:Nat}{s:α} (h:L[i]? = some s):(kD nxt out most L)[i]? = some (xQ nxt out L s (most+1)):=by unfold kD;rw[aaj,h];rfl
theorem oF:(kD nxt out most L).length=L.length:=by unfold kD;rw[aad]
theorem fX {ap:Type} (f:Nat×Bool->ap) (s:α) (n:Nat):(xQ nxt out L s n).map f=(List.range n).map λ (a:Nat)=>f (cH L (nxt s a),out s a):=by unfold xQ;rw[aca];rfl
theorem fW {ap:Type}{f g:Nat->ap}{n:Nat}:(List.range n).map f=(List.range n).map g↔∀ a,a < n->f a=g a:=by
 rw[List.map_inj_left];exact⟨λ h a ha=>h a (abz.mpr ha),λ h a ha=>h a (abz.mp ha)⟩
theorem nY (hsh:∀ s∈L,∀ a:Nat,a<=most->nxt s a∈L) {i:Nat}{s:α} (h:L[i]? = some s) {a:Nat} (ha:a<=most):L[cH L (nxt s a)]? = some (nxt s a):=i4 (hsh s (aah h) a ha)
theorem o8 (hsh:∀ s∈L,∀ a:Nat,a<=most->nxt s a∈L):∀ (n:Nat) (i j:Nat) (s t:α),L[i]? = some s->L[j]? = some t->bh nxt out most s=bh nxt out most t->(aL (kD nxt out most L) n)[i]? = (aL (kD nxt out most L) n)[j]?
 | 0,i,j,s,t,hi,hj,e=>by
  show (dC ((kD nxt out most L).map λ r=>r.map (·.2)))[i]? = (dC ((kD nxt out most L).map λ r=>r.map (·.2)))[j]?;rw[gK (a:=(xQ nxt out L s (most+1)).map (·.2)) (b:=(xQ nxt out L t (most+1)).map (·.2)) (by rw[aaj,gT hi];rfl) (by rw[aaj,gT hj];rfl),fX,fX,fW];intro a ha;show out s a=out t a;rw[<- D8 (nxt:=nxt) (out:=out) (most:=most) (by omega),e,D8 (by omega)]
 | n+1,i,j,s,t,hi,hj,e=>by
  have ih:=o8 hsh n;have ln:=bX (kD nxt out most L) n;rw[oF] at ln;have li:=(aae.mp hi).1;have lj:=(aae.mp hj).1;obtain⟨ri,hri⟩:∃ r,(aL (kD nxt out most L) n)[i]? = some r:=⟨_,aag (by omega)⟩;obtain⟨rj,hrj⟩:∃ r,(aL (kD nxt out most L) n)[j]? = some r:=⟨_,aag (by omega)⟩;show (dC (d9 _ _))[i]? = (dC (d9 _ _))[j]?;rw[gK (g7 hri (gT hi)) (g7 hrj (gT hj))];have e1:ri=rj:=by
   have:=ih i j s t hi hj e;rw[hri,hrj] at this;exact abf this
  rw[e1,fX,fX];refine congrArg (Prod.mk rj) (fW.mpr λ a ha=>?_);have h1:=nY hsh hi (show a<=most by omega);have h2:=nY hsh hj (show a<=most by omega);have:=ih _ _ _ _ h1 h2 (by rw[tY (by omega),tY (by omega),e]);show (aL _ n).getD (cH L (nxt s a)) 0=(aL _ n).getD (cH L (nxt t a)) 0;rw[aai,aai,this]
theorem sL:∀ (n:Nat) {m:gU} (i j:Nat),i < m.length->j < m.length->(aL m n)[i]? = (aL m n)[j]?->(BQ m)[i]? = (BQ m)[j]?
 | 0,m,i,j,_,_,h=>h
 | n+1,m,i,j,hi,hj,h=>by
  have ln:=bX m n;obtain⟨ri,hri⟩:∃ r,(aL m n)[i]? = some r:=⟨_,aag (by omega)⟩;obtain⟨rj,hrj⟩:∃ r,(aL m n)[j]? = some r:=⟨_,aag (by omega)⟩;have h':(dC (d9 m (aL m n)))[i]? = (dC (d9 m (aL m n)))[j]?:=h;rw[gK (g7 hri (aag hi)) (g7 hrj (aag hj))] at h';have e:=(Prod.mk.inj h').1;exact sL n i j hi hj (by rw[hri,hrj,e])
theorem yA (hsh:∀ s∈L,∀ a:Nat,a<=most->nxt s a∈L) {n:Nat} (hf:gE (kD nxt out most L) (aL (kD nxt out most L) n)=aL (kD nxt out most L) n) {i j:Nat}{s t:α} (hi:L[i]? = some s) (hj:L[j]? = some t)
  (h:(aL (kD nxt out most L) n)[i]? = (aL (kD nxt out most L) n)[j]?):bh nxt out most s=bh nxt out most t:=by
 have ln:=bX (kD nxt out most L) n;rw[oF] at ln;refine S3 (λ s t=>∃ i j:Nat,L[i]? = some s/\L[j]? = some t/\(aL (kD nxt out most L) n)[i]? = (aL (kD nxt out most L) n)[j]?) ⟨i,j,hi,hj,h⟩ ?_ ?_
 ·rintro s t ⟨i,j,hi,hj,h⟩ a ha;have li:=(aae.mp hi).1;have lj:=(aae.mp hj).1;have h0:=sL n i j (by rw[oF];exact li) (by rw[oF];exact lj) h;have h0:(dC ((kD nxt out most L).map λ r=>r.map (·.2)))[i]? = (dC ((kD nxt out most L).map λ r=>r.map (·.2)))[j]?:=h0;rw[gK (a:=(xQ nxt out L s (most+1)).map (·.2)) (b:=(xQ nxt out L t (most+1)).map (·.2)) (by rw[aaj,gT hi];rfl) (by rw[aaj,gT hj];rfl),fX,fX,fW] at h0;exact h0 a (by omega)
 ·rintro s t ⟨i,j,hi,hj,h⟩ a ha;have li:=(aae.mp hi).1;have lj:=(aae.mp hj).1;obtain⟨ri,hri⟩:∃ r,(aL (kD nxt out most L) n)[i]? = some r:=⟨_,aag (by omega)⟩;obtain⟨rj,hrj⟩:∃ r,(aL (kD nxt out most L) n)[j]? = some r:=⟨_,aag (by omega)⟩;have h':=h;rw[<- hf] at h';have h':(dC (d9 _ _))[i]? = (dC (d9 _ _))[j]?:=h';rw[gK (g7 hri (gT hi)) (g7 hrj (gT hj)),fX,fX] at h';have e:=fW.mp (Prod.mk.inj h').2 a (by omega);have h1:=nY hsh hi ha;have h2:=nY hsh hj ha;refine⟨_,_,h1,h2,?_⟩;have l1:=(aae.mp h1).1;have l2:=(aae.mp h2).1;have e:(aL _ n).getD (cH L (nxt s a)) 0=(aL _ n).getD (cH L (nxt t a)) 0:=e;rw[aai,aai] at e;rw[aag (by omega),aag (by omega)] at e ⊢;exact congrArg some e
theorem FQ (hsh:∀ s∈L,∀ a:Nat,a<=most->nxt s a∈L) {n:Nat} (hf:gE (kD nxt out most L) (aL (kD nxt out most L) n)=aL (kD nxt out most L) n):aL (kD nxt out most L) n=dC (L.map (bh nxt out most)):=by
 have ln:=bX (kD nxt out most L) n;rw[oF] at ln;rw[<- jQ];refine pH (by rw[ln,aad]) λ i j a b c d ha hb hc hd=>?_;rw[aaj] at hc hd;obtain⟨s,hs,rfl⟩:=aas.mp hc;obtain⟨t,ht,rfl⟩:=aas.mp hd;refine⟨λ e=>yA hsh hf hs ht (by rw[ha,hb,e]),λ e=>?_⟩;have:=o8 hsh n i j s t hs ht e;rw[ha,hb] at this;exact abf this
def CN (M:List ES) (most:Nat):gU:=M.map λ b=>(List.range (most+1)).map λ a=>(cH M (RZ b a),b [a])
theorem G8 (hsh:∀ s∈L,∀ a:Nat,a<=most->nxt s a∈L) {n:Nat} (hf:gE (kD nxt out most L) (aL (kD nxt out most L) n)=aL (kD nxt out most L) n):dP (kD nxt out most L) (aL (kD nxt out most L) n)=CN (aP (L.map (bh nxt out most))) most:=by
 have e:=FQ hsh hf;have nn:=jQ (kD nxt out most L) n;generalize aL (kD nxt out most L) n=rs at e nn;have ec:(aP rs).length=(aP (L.map (bh nxt out most))).length:=by rw[e,EI]
 unfold dP CN;refine List.ext_getElem? λ r=>?_;rcases Nat.lt_or_ge r (aP rs).length with h | h
 ·rw[aaj,aaj,List.getElem?_range h];have him:=xN nn h;have hg:=i4 him;have hpl:=lW him;have hlr:rs.length=L.length:=by rw[e,gJ,aad]
  obtain⟨s,hs⟩:∃ s,L[cH rs r]? = some s:=⟨_,aag (by omega)⟩;have hb:(L.map (bh nxt out most))[cH rs r]? = some (bh nxt out most s):=by rw[aaj,hs];rfl
  have hM:(aP (L.map (bh nxt out most)))[r]? = some (bh nxt out most s):=by
   have q:=lC hb;rw[<- e,hg] at q;have q:=abf q;rw[q];exact i4 (cC.mpr (aah hb))
  rw[hM];show some (lG (kD nxt out most L) rs (cH rs r))=some _;congr 1;unfold lG;rw[aai,gT hs];show (xQ nxt out L s (most+1)).map _=_;rw[fX,fW];intro a ha;have h1:=nY hsh hs (show a<=most by omega);have hb1:(L.map (bh nxt out most))[cH L (nxt s a)]? = some (bh nxt out most (nxt s a)):=by rw[aaj,h1];rfl
  show (rs.getD (cH L (nxt s a)) 0,out s a)=_;rw[aai];have q:=lC hb1;rw[<- e] at q;rw[q,tY (by omega),D8 (by omega)];rfl
 ·rw[acg (by rw[aad,acb];exact h),acg (by rw[aad,<- ec];exact h)]
end
def yP (most:Nat) (M:List ES) (k:Nat):List ES:=match M[k]? with
 | none=>M
 | some b=>((List.range (most+1)).map (RZ b)).foldl jI M
def qO (most:Nat) (b0:ES):Nat->List ES
 | 0=>[b0]
 | k+1=>yP most (qO most b0 k) k
theorem zB {most:Nat}{b0:ES}{q:Nat} (h:(qO most b0 q).length<=q):∀ d,qO most b0 (q+d)=qO most b0 q
 | 0=>rfl
 | d+1=>by
  have ih:=zB h d;show yP most (qO most b0 (q+d)) (q+d)=_;rw[ih];unfold yP;rw[acg (by omega)]
theorem vR {α ap:Type} (f:α->ap):∀ (ds L:List α),aP ((ds.foldl jI L).map f)=(ds.map f).foldl jI (aP (L.map f))
 | [],L=>rfl
 | d::ds,L=>by
  rw[ack,vR f ds,aba,ack]
  by_cases c:d∈L
  ·rw[dU c,dU (cC.mpr (aco c))]
  ·rw[dW c,aam,List.map_singleton,fE]
section
variable {α:Type}{dD:α->L2.D}{nxt:α->Int->α}{fin out:α->Int->Bool}{most lim:Nat}
theorem uA (hinj:∀ x y,dD x=dD y->x=y) {d:α}{r:List Int}:∀ (l a:Nat) (fs fs':Fs α),pR dD nxt fin lim d r l (a:Nat) fs=.on fs'->fs'.map (·.1)=((List.range l).map λ i=>nxt d ((a+i:Nat):Int)).foldl jI (fs.map (·.1))
 | 0,a,fs,fs',h=>by cases h;rfl
 | l+1,a,fs,fs',h=>by
  rw[List.range_succ_eq_map,aba,ack,aca];have em:((λ i=>nxt d ((a+i:Nat):Int)) ∘ Nat.succ)=λ i=>nxt d ((a+1+i:Nat):Int):=by
   funext i;show nxt d ((a+(i+1):Nat):Int)=_;rw[show a+(i+1)=a+1+i by omega]
  rw[em,Nat.add_zero];cases hf:fin d a with
  | true=>rw[oR hf] at h;cases h
  | false=>
   cases hv:(dI dD fs (dD (nxt d a))).isSome with
   | true=>
    rw[mC hf hv] at h;obtain⟨q,hq,e⟩:=gW hv;rw[dU (by rw[<- hinj _ _ e];exact aco (f:=(·.1)) hq)];exact uA hinj l (a+1) fs fs' h
   | false=>
    by_cases hl:lim<=fs.length
    ·rw[jH hf hv hl] at h;cases h
    ·rw[mD hf hv (by omega)] at h;rw[dW]
     ·have:=uA hinj l (a+1) _ fs' h;rw[aam] at this;exact this
     ·intro z;obtain⟨q,hq,e⟩:=aaz.mp z;have:=hU (dD:=dD) (d:=q.1) (r:=q.2) hq;rw[e,hv] at this;cases this
theorem IL {xs ys:List ES}:∃ m,aP (xs++ys)=aP xs++m:=by unfold aP;rw[List.foldl_append];exact vP _ _
theorem AL (hinj:∀ x y,dD x=dD y->x=y) {b0:ES}:∀ (n p:Nat) (fs fs':Fs α),lim < p+n->p<=fs.length->fs.length<=lim->(∀ (i:Nat) q,i < p->fs[i]? = some q->∀ a:Nat,a<=most->nxt q.1 a∈fs.map (·.1))->
  qO most b0 (aP (((fs.map (·.1)).take p).map (bh nxt out most))).length=aP ((fs.map (·.1)).map (bh nxt out most))->iP dD nxt fin most lim n p fs=.on fs'->
  qO most b0 (aP ((fs'.map (·.1)).map (bh nxt out most))).length=aP ((fs'.map (·.1)).map (bh nxt out most))
 | 0,p,fs,fs',h1,h2,h3,_,_,_=>by omega
 | n+1,p,fs,fs',h1,h2,h3,hi,hM,h=>by
  rw[iP] at h;cases hd:fs[p]? with
  | none=>
   rw[hd] at h;cases h;have hp:=List.getElem?_eq_none_iff.mp hd;rw[acq (by rw[aad];exact hp)] at hM;exact hM
  | some d=>
   rw[hd] at h;dsimp only at h;cases hb:pR dD nxt fin lim d.1 ((dI dD fs (dD d.1)).getD []) (most+1) 0 fs with
   | many=>rw[hb] at h;cases h
   | ends row f=>rw[hb] at h;cases h
   | on fs1=>
    rw[hb] at h;obtain⟨⟨more,m⟩,hl,_⟩:=LA (most+1) 0 fs fs1 hb;have hpl:=(aae.mp hd).1;have hfo:=uA hinj (most+1) 0 fs fs1 hb;have hfo:fs1.map (·.1)=((List.range (most+1)).map λ (i:Nat)=>nxt d.1 i).foldl jI (fs.map (·.1)):=by
     rw[hfo];congr 1;refine adf λ i _=>?_;rw[Nat.zero_add]
    have hin1:∀ x∈fs.map (·.1),x∈fs1.map (·.1):=λ x hx=>by rw[m,aam];exact aby _ hx
    have hdn:∀ a:Nat,a<=most->nxt d.1 a∈fs1.map (·.1):=λ a ha=>by
     rw[hfo,pM];exact .inr (aaz.mpr ⟨a,abz.mpr (by omega),rfl⟩)
    have hs1:aP ((fs1.map (·.1)).map (bh nxt out most))=((List.range (most+1)).map (RZ (bh nxt out most d.1))).foldl jI (aP ((fs.map (·.1)).map (bh nxt out most))):=by
     rw[hfo,vR];congr 1;rw[aca];refine adf λ a ha=>?_;exact tY (by have:=abz.mp ha;omega)
    have hdp:(fs.map (·.1))[p]? = some d.1:=by rw[aaj,hd];rfl
    refine AL hinj n (p+1) fs1 fs' (by omega) (by rw[m,aau];omega) (hl h3) (λ i q h4 h5 a ha=>?_) ?_ h
    ·rcases (show i < p\/i=p by omega) with h6 | rfl
     ·rw[m,abg (by omega)] at h5;exact hin1 _ (hi i q h6 h5 a ha)
     ·rw[m,abg hpl,hd] at h5;cases h5;exact hdn a ha
    ·
     have ht:(fs1.map (·.1)).take (p+1)=(fs.map (·.1)).take p++[d.1]:=by
      rw[m,aam,List.take_append_of_le_length (by rw[aad];omega),aZ hdp]
     rw[ht,aam,List.map_singleton,fE,hs1]
     by_cases c:bh nxt out most d.1∈aP (((fs.map (·.1)).take p).map (bh nxt out most))
     ·rw[dU c,hM];refine (vQ _ _ λ b hb=>?_).symm;obtain⟨a,ha,rfl⟩:=aaz.mp hb;have ha:=abz.mp ha;obtain⟨s,hs,e⟩:=aaz.mp (cC.mp c);obtain⟨i,hi'⟩:=abh.1 hs;have hil:=(aae.mp hi').1;rw[aav] at hil;rw[List.getElem?_take_of_lt (by omega),aaj] at hi';obtain⟨q,hq,e2⟩:=aas.mp hi';have:=hi i q (by omega) hq a (by omega);rw[e2] at this;rw[cC,<- e,<- tY (by omega)];exact aco this
     ·rw[dW c,aau,ach];show yP most (qO most b0 _) _=_;rw[hM];unfold yP;have hgx:(aP ((fs.map (·.1)).map (bh nxt out most)))[(aP (((fs.map (·.1)).take p).map (bh nxt out most))).length]? = some (bh nxt out most d.1):=by
       have e1:(fs.map (·.1)).map (bh nxt out most)=((fs.map (·.1)).take p).map (bh nxt out most)++[bh nxt out most d.1]++((fs.map (·.1)).drop (p+1)).map (bh nxt out most):=by
        rw[<- List.map_singleton,<- aam,<- aam,<- aZ hdp,List.take_append_drop]
       obtain⟨mm,em⟩:=IL (xs:=((fs.map (·.1)).take p).map (bh nxt out most)++[bh nxt out most d.1]) (ys:=((fs.map (·.1)).drop (p+1)).map (bh nxt out most));rw[e1,em,fE,dW c,acv,acm (aal _),Nat.sub_self];rfl
      rw[hgx]
theorem NF (hinj:∀ x y,dD x=dD y->x=y) {first:α}{fs:Fs α} (h1:1<=lim) (h:HG dD nxt fin most lim first=.on fs):∃ q,∀ k,q<=k->qO most (bh nxt out most first) k=aP ((fs.map (·.1)).map (bh nxt out most)):=by
 have e:=AL (out:=out) hinj (b0:=bh nxt out most first) (lim+1) 0 [(first,[])] fs (by omega) (by simp) (by simpa using h1) (λ i q h=>absurd h (adb _)) (by
  show [bh nxt out most first]=aP [bh nxt out most first];show _=jI [] _;rw[dW (by simp)];rfl) h
 refine⟨(aP ((fs.map (·.1)).map (bh nxt out most))).length,λ k hk=>?_⟩;obtain⟨d,rfl⟩:=Nat.exists_eq_add_of_le hk;rw[zB (by rw[e];exact aal _) d,e]
end
theorem FL {most:Nat}{b0:ES}{M M':List ES} (h:∃ q,∀ k,q<=k->qO most b0 k=M) (h':∃ q,∀ k,q<=k->qO most b0 k=M'):M=M':=by
 obtain⟨q,h⟩:=h;obtain⟨q',h'⟩:=h';rw[<- h (max q q') (Nat.le_max_left _ _),<- h' (max q q') (Nat.le_max_right _ _)]
theorem G5 (net:Net) (v:Int) (most:Nat) (fs:Fs Sta):aY net v most fs=kD (λ s a=>s.nxA net a) (iC net v) most (fs.map (·.1)):=by
 unfold aY kD;rw[aca];rfl
def QD (net:Net) (v:Int) (most:Nat):ES:=bh (λ s a=>s.nxA net a) (iC net v) most (kH net)
theorem tH {net:Net}{v:Int}{most:Nat}{fs:Fs Sta} (h:iE net most=.on fs) {n:Nat} (hf:gE (aY net v most fs) (aL (aY net v most fs) n)=aL (aY net v most fs) n) :
  ∃ M,dP (aY net v most fs) (aL (aY net v most fs) n)=CN M most/\∃ q,∀ k,q<=k->qO most (QD net v most) k=M:=by
 have hsh:∀ s∈fs.map (·.1),∀ a:Nat,a<=most->s.nxA net a∈fs.map (·.1):=λ s hs a ha=>by
  obtain⟨q,hq,rfl⟩:=aaz.mp hs;obtain⟨q',h1,h2⟩:=mW h q hq a ha;exact aaz.mpr ⟨q',h1,h2⟩
 rw[G5] at hf ⊢;exact⟨_,G8 (α:=Sta) (nxt:=λ (s:Sta) a=>s.nxA net a) (out:=iC net v) (most:=most) (L:=fs.map (·.1)) hsh hf,NF (α:=Sta) (dD:=cR) (nxt:=λ (s:Sta) a=>s.nxA net a) (fin:=λ _ _=>false) (out:=iC net v) (most:=most) (lim:=200) eN (by decide) h⟩
section
variable {r dx R M T:Addr}{H H':Hp}{S:RunS}{fp:List Addr}{np mv:V}{ts:List Addr}{rs ms:List V}
end
section
variable {t sl:Addr}{σ:St}{H0:Hp}
end
section
variable {H:Hp}{r:Addr}{S:RunS}{fp:List Addr}
end
abbrev iR:=List (Int×Int)
def iI (ms:iR) (i:Int):Option Int:=(ms.find? λ p=>decide (p.1=i)).map (·.2)
def nN (ms:iR):List (eV×V):=ms.map λ p=>(Sum.inl p.1,V.int p.2)
theorem wI (i:Int):∀ ms:iR,cY (nN ms) (Sum.inl i)=(iI ms i).map V.int
 | []=>rfl
 | p::ms=>by
  have ih:=wI i ms;show cY ((Sum.inl p.1,V.int p.2)::nN ms) (Sum.inl i)=_;unfold iI at ih ⊢
  by_cases h:p.1=i
  ·rw[dH (by rw[h]),List.find?_cons_of_pos (by simpa using h)];rfl
  ·rw[cQ (λ z=>h (by injection z)),ih,List.find?_cons_of_neg (by simpa using h)]
theorem DF:∀ ms:iR,cY (nN ms) (Sum.inr none)=none
 | []=>rfl
 | p::ms=>by
  show cY ((Sum.inl p.1,V.int p.2)::nN ms) (Sum.inr none)=_;rw[cQ (λ z=>by cases z),DF ms]
def HK (H:Hp) (a:Addr) (ms:iR):Prop:=Rd H a (.dK (nN ms))
theorem HK.isD {H:Hp}{a:Addr}{ms:iR} (h:HK H a ms):IsD H a:=.inl ⟨_,h⟩
theorem HK.get {H:Hp}{a:Addr}{ms:iR} (h:HK H a ms) (t:Option Int):lT H a (iB t) ((t.bind (iI ms)).map V.int):=by
 cases t with
 | none=>exact .inl ⟨_,Sum.inr none,h,rfl,(DF ms).symm⟩
 | some i=>exact .inl ⟨_,Sum.inl i,h,rfl,(wI i ms).symm⟩
theorem HK.same {H H':Hp}{a:Addr}{ms:iR} (h:HK H a ms) (s:aG H H'):HK H' a ms:=by
 rcases h with h | ⟨o,h⟩
 ·exact .inl (s _ _ h)
 ·exact .inr ⟨o,s _ _ h⟩
theorem EB (o:Option Int):(o.map V.int).getD .non=iB o:=by cases o <;> rfl
def uH (nv:iR) (o:Option Int×Int):Option Int×Int:=(o.1.bind (iI nv),o.2)
def iL (ms:iR) (a:Str×Int):Option (Str×Int):=(iI ms a.2).map λ s=>(a.1,s)
def qP (nv ms:iR) (v:Vs):Vs:=⟨v.size,v.brim,v.outs.map (uH nv),v.holds,v.spill.bind (iI nv),v.acts.filterMap (iL ms)⟩
def qQ (nv:iR) (s:wE):wE:=((iI nv s.1).getD 0,s.2)
def dQ:Vs:=⟨1,1,[],false,none,[]⟩
def R6 (net:Net) (nv ms:iR):Net:=⟨nv.map λ p=>qP nv ms (net.vs.getD p.1.toNat dQ),ms.map λ p=>qQ nv (net.sps.getD p.1.toNat (0,0,false))⟩
structure RenOk (net:Net) (nv ms:iR):Prop where
 vs:∀ p∈nv,0<=p.1/\p.1 < net.vs.length
 sp:∀ p∈ms,0<=p.1/\p.1 < net.sps.length
 tg:∀ p∈ms,∃ j,iI nv (net.sps.getD p.1.toNat (0,0,false)).1=some j
 lv:nv.length<=12
 ls:ms.length<=12
theorem uN {α ap:Type} (f:α->Option ap) (l:List α):(l.filterMap f).length<=l.length:=List.length_filterMap_le f l
section
variable {aw:Addr}
def BG (K:aab):Sp:=λ vs H Q _=>∃ (x:V) (dv ds:Addr) (v:Vs) (nv ms:iR),vs=[x,.ref dv,.ref ds]/\Is K H (rJ v) x/\v.outs.length<=3/\v.acts.length<=3/\HK H dv nv/\HK H ds ms/\∀ p H',aG H H'->Is K H' (rJ (qP nv ms v)) p->Q p H'
theorem gI:FnScope ["vessel","new_vessels","new_spouts","size","brim","outs","holds","spill","acts","told_outs","told_acts"] ["vessel","new_vessels","new_spouts"] (aM (bO 9)):={}
theorem lB {f:Addr}{fd:FuncData} (F:Fun K "renumbered_vessel" "renumbered_vessel" (bO 9) f fd) (T:Txt mg):FnOk P w K mg base mG 1 f fd ["vessel","new_vessels","new_spouts"] (BG K):=by
 refine F.ok gI (λ vs H Q E h=>?_) (λ cdv A outer s H vs Q E hr h=>?_)
 ·obtain⟨x,dv,ds,v,nv,ms,rfl,_⟩:=h;rfl
 ·obtain⟨x,dv,ds,v,nv,ms,rfl,hx,o3,a3,hdv,hds,k⟩:=h;have sc:=gI;have hu:=A6 hr;refine⟨_,(aD (cI (pv 0) (aU (K:=K) (n:=6) rfl rfl (aE (aF (i:=3) sc.nd rfl (Or.inl rfl)) (aE (aF (i:=4) sc.nd rfl (Or.inl rfl)) (aE (aF (i:=5) sc.nd rfl (Or.inl rfl)) (aE (aF (i:=6) sc.nd rfl (Or.inl rfl)) (aE (aF (i:=7) sc.nd rfl (Or.inl rfl)) (aE (aF (i:=8) sc.nd rfl (Or.inl rfl)) aS))))))))
   (aD (fJ (i:=9) sc.nd rfl rfl (λ _ _ h=>h) rfl (LcOk.mk (N':=["target","parts","new_vessels"]) (fr:=[none,none,some 1]) rfl ⟨rfl,trivial⟩ rfl rfl rfl rfl rfl ⟨⟨_,rfl,rfl,rfl,rfl⟩,trivial⟩) (fR (K:=K) rfl (pv 5)) (λ _ _ _=>(aU (K:=K) (n:=2) rfl rfl (aE (aF (i:=0) (show (["target","parts","new_vessels"]:List Str).Nodup by decide +kernel) rfl (Or.inl rfl) (Or.inr rfl)) (aE (aF (i:=1) (show (["target","parts","new_vessels"]:List Str).Nodup by decide +kernel) rfl (Or.inl rfl) (Or.inr rfl)) aS)))) (λ _ _ _=>cG) (λ _ _ _=>(bF (aA (zJ hu (pv 2) (pv 0) ⟨rfl,rfl,rfl,rfl⟩) (aA (pv 1) aC)))))
   (aD (fJ (i:=10) sc.nd rfl rfl (λ _ _ h=>h) rfl (LcOk.mk (N':=["word","spout","new_spouts"]) (fr:=[none,none,some 2]) rfl ⟨rfl,trivial⟩ rfl rfl rfl rfl rfl ⟨⟨_,rfl,rfl,rfl,rfl⟩,trivial⟩) (fR (K:=K) rfl (pv 8)) (λ _ _ _=>(aU (K:=K) (n:=2) rfl rfl (aE (aF (i:=0) (show (["word","spout","new_spouts"]:List Str).Nodup by decide +kernel) rfl (Or.inl rfl) (Or.inr rfl)) (aE (aF (i:=1) (show (["word","spout","new_spouts"]:List Str).Nodup by decide +kernel) rfl (Or.inl rfl) (Or.inr rfl)) aS)))) (λ _ _ _=>xC (PB (PK hu (pv 1) (pv 2)))) (λ _ _ _=>(bF (aA (pv 0) (aA (xE hu (pv 2) (pv 1) (λ _ _=>rfl)) aC)))))
   (aJ (bH (bF (aA (pv 3) (aA (pv 4) (aA (aV (bN (K:=K) rfl) rfl T.b_tuple bV (aA (pv 9) aC)) (aA (pv 6) (aA (zJ hu (pv 1) (pv 7) ⟨rfl,rfl,rfl,rfl⟩) (aA (aV (bN (K:=K) rfl) rfl T.b_tuple bV (aA (pv 10) aC)) aC)))))))))))),?_⟩
  obtain⟨a,o,c,rfl,q,io,ic⟩:=yH hx;obtain⟨oa,os,rfl,qo,lo⟩:=io.un;obtain⟨ca,cs,rfl,qc,lc⟩:=ic.un;have eol:os.length=v.outs.length:=by rw[lo.length,aad]
  have ecl:cs.length=v.acts.length:=by rw[lc.length,aad]
  refine⟨_,rfl,a,_,rfl,q,rfl,_,_,rfl,_,_,rfl,_,_,rfl,_,_,rfl,_,_,rfl,_,_,rfl,rfl,?_⟩;refine⟨_,rfl,oa,rfl,⟨_,qo⟩,lI (K:=K) (a:=oa) (xs:=os) (λ D i r Z H'=>H D=none/\aG H H'/\H' D=some (.lst r)/\IsL K H' (((v.outs.take i).map (uH nv)).map qR) r/\∃ u1 u2,Z=[u1,u2,some (.ref dv)])
   (λ D i r Z H' p=>p.2.1.tup qo) (λ D hD=>⟨hD,aG.new hD,aB,.nil,none,none,rfl⟩) ?_ ?_⟩
  rotate_left
  ·rintro D i y r Z H1 hy ⟨hD,sm,hDl,lr,u1,u2,rfl⟩;obtain⟨t,ht,ta,rfl,qt⟩:=rA lo hy;have hil:=(aae.mp ht).1;refine⟨ta,_,rfl,sm.tup qt,rfl,_,_,rfl,_,_,rfl,rfl,?_⟩;refine hJ ?_;have hd1:=hdv.same sm;refine⟨_,rfl,dv,rfl,hd1.isD,_,rfl,_,hd1.get t.1,_,rfl,(show 2<=sizeLine by decide),λ e he=>?_⟩;rw[EB];have m1:=aG.new (o:=HO.tup [iB (t.1.bind (iI nv)),.int t.2]) he;have i1:Is K (upd H1 e (.tup [iB (t.1.bind (iI nv)),.int t.2])) (qR (uH nv t)) (.ref e):=Is.tupOf (ds:=[LO (t.1.bind (iI nv)),.int t.2]) (bC.of aB) (.cons (Is.tgOf _) (.cons (Is.i _) .nil));generalize upd H1 e (.tup [iB (t.1.bind (iI nv)),.int t.2])=H2 at m1 i1 ⊢;have hDl2:=m1 _ _ hDl;have muD:lS (H2 D):=by rw[hDl2];exact trivial
   have hrl:r.length<=12:=by rw[lr.length,aad,aad,aav];omega
   refine⟨hDl2,aW (by omega),hD,(sm.trans m1).put hD,aB,?_,_,_,rfl⟩;rw[acx,ht,aam,aam];exact L2.IsL.snoc (Is.mono (cB.ts cB.upd muD) _ _ i1) (L2.IsL.mono (m1.ts.trans (cB.ts cB.upd muD)) _ _ lr)
  rintro D1 r1 Z H1 ⟨hD1,sm1,hDl1,lr1,_⟩;rw[eol,aay] at lr1;refine⟨_,rfl,ca,rfl,⟨_,sm1.tup qc⟩,lI (K:=K) (a:=ca) (xs:=cs) (λ D i r Z H'=>H1 D=none/\aG H1 H'/\H' D=some (.lst r)/\IsL K H' (((v.acts.take i).filterMap (iL ms)).map pT) r/\∃ u1 u2,Z=[u1,u2,some (.ref ds)])
   (λ D i r Z H' p=>p.2.1.tup (sm1.tup qc)) (λ D hD=>⟨hD,aG.new hD,aB,.nil,none,none,rfl⟩) ?_ ?_⟩
  rotate_left
  ·rintro D i y r Z H2 hy ⟨hD,sm,hDl,lr,u1,u2,rfl⟩;obtain⟨t,ht,ta,rfl,qt⟩:=rF lc hy;have hil:=(aae.mp ht).1;have sA:=sm1.trans sm;have hd2:=hds.same sA;refine⟨ta,_,rfl,sA.tup qt,rfl,_,_,rfl,_,_,rfl,rfl,?_⟩;refine⟨_,rfl,_,rfl,ds,_,rfl,hd2.get (some t.2),_,rfl,?_⟩;have hsn:(v.acts.take (i+1)).filterMap (iL ms)=(v.acts.take i).filterMap (iL ms)++(iL ms t).toList:=by
    rw[acx,ht,List.filterMap_append];show _++List.filterMap (iL ms) [t]=_;cases hz:iL ms t <;> simp [List.filterMap_cons,hz]
   have hrl:r.length<=12:=by
    rw[lr.length,aad];have:=uN (iL ms) (v.acts.take i);rw[aav] at this;omega
   cases hz:iI ms t.2 with
   | none=>
    have hn:iL ms t=none:=by unfold iL;rw[hz];rfl
    rw[hn] at hsn;have e0:((some t.2).bind (iI ms)).map V.int=none:=by show (iI ms t.2).map V.int=_;rw[hz];rfl
    rw[e0];refine eE ⟨hD,sm,hDl,?_,_,_,rfl⟩;rw[hsn];show IsL K H2 (((v.acts.take i).filterMap (iL ms)++[]).map pT) r;rw[acy];exact lr
   | some j=>
    have hn:iL ms t=some (t.1,j):=by unfold iL;rw[hz];rfl
    rw[hn] at hsn;have e0:((some t.2).bind (iI ms)).map V.int=some (.int j):=by show (iI ms t.2).map V.int=_;rw[hz];rfl
    have g0:=hd2.get (some t.2);rw[e0] at g0 ⊢;refine fH ⟨_,rfl,_,rfl,_,rfl,ds,.int j,rfl,g0,(show 2<=sizeLine by decide),λ e he=>?_⟩;have m1:=aG.new (o:=HO.tup [.str t.1,.int j]) he;have i1:Is K (upd H2 e (.tup [.str t.1,.int j])) (pT (t.1,j)) (.ref e):=Is.tupOf (ds:=[.str t.1,.int j]) (bC.of aB) (.cons (Is.s _) (.cons (Is.i _) .nil));generalize upd H2 e (.tup [.str t.1,.int j])=H3 at m1 i1 ⊢;have hDl2:=m1 _ _ hDl;have muD:lS (H3 D):=by rw[hDl2];exact trivial
    refine⟨hDl2,aW (by omega),hD,(sm.trans m1).put hD,aB,?_,_,_,rfl⟩;rw[hsn,aam];exact L2.IsL.snoc (Is.mono (cB.ts cB.upd muD) _ _ i1) (L2.IsL.mono (m1.ts.trans (cB.ts cB.upd muD)) _ _ lr)
  rintro D2 r2 Z H2 ⟨hD2,sm2,hDl2,lr2,_⟩;rw[ecl,aay] at lr2;refine⟨_,rfl,_,rfl,_,rfl,D1,_,rfl,.inl ⟨bR.of (sm2 _ _ hDl1),λ p1 hp1=>?_⟩⟩;have m3:=aG.new (o:=HO.tup r1) hp1;have t3:bC K (upd H2 p1 (.tup r1)) p1 r1:=bC.of aB;generalize upd H2 p1 (.tup r1)=H3 at m3 t3 ⊢;have s03:=(sm1.trans sm2).trans m3;have hd3:=hdv.same s03;refine⟨_,rfl,_,rfl,dv,rfl,hd3.isD,_,rfl,_,hd3.get v.spill,_,rfl,D2,_,rfl,.inl ⟨bR.of (m3 _ _ hDl2),λ p2 hp2=>⟨(show 6<=sizeLine by decide),λ p hp=>?_⟩⟩⟩;rw[EB];have m4:=aG.new (o:=HO.tup r2) hp2;have t4:bC K (upd H3 p2 (.tup r2)) p2 r2:=bC.of aB;generalize upd H3 p2 (.tup r2)=H4 at m4 t4 hp ⊢;have m5:=aG.new (o:=HO.tup [.int v.size,.int v.brim,.ref p1,.bl v.holds,iB (v.spill.bind (iI nv)),.ref p2]) hp;refine k _ _ ((s03.trans m4).trans m5) ?_;exact Is.tupOf (ds:=[.int v.size,.int v.brim,.tup ((v.outs.map (uH nv)).map qR),.bl v.holds,LO (v.spill.bind (iI nv)),.tup ((v.acts.filterMap (iL ms)).map pT)]) (bC.of aB)
   (.cons (Is.i _) (.cons (Is.i _) (.cons (Is.tupOf ((m4.trans m5).tup t3) (L2.IsL.mono (((sm2.trans m3).trans m4).trans m5).ts _ _ lr1)) (.cons (Is.b _) (.cons (Is.tgOf _) (.cons (Is.tupOf (m5.tup t4) (L2.IsL.mono ((m3.trans m4).trans m5).ts _ _ lr2)) .nil))))))
end
def eK (n:Nat) (f:Nat->Int):Int:=((List.range n).map f).sum
theorem pY (n:Nat) (f:Nat->Int):eK (n+1) f=eK n f+f n:=by
 unfold eK;rw[adk,aam,List.sum_append];simp
theorem iD (f:Nat->Int):∀ n:Nat,eK (n+1) f=f 0+eK n λ k=>f (k+1)
 | 0=>by simp [eK]
 | n+1=>by rw[pY,iD f n,pY n λ k=>f (k+1)];omega
theorem nS {n:Nat}{f g:Nat->Int} (h:∀ k,k < n->f k=g k):eK n f=eK n g:=by
 unfold eK;congr 1;exact adf λ k hk=>h k (abz.1 hk)
theorem mU (p:Nat->Bool) (f:Nat->Int):∀ l:List Nat,(∀ k∈l,p k=false->f k=0)->((l.filter p).map f).sum=(l.map f).sum
 | [],_=>rfl
 | k::l,h=>by
  have ih:=mU p f l λ k hk=>h k (aap _ hk);cases e:p k with
  | true=>rw[add e,aba,aba,List.sum_cons,List.sum_cons,ih]
  | false=>rw[adc (by simp [e]),aba,List.sum_cons,ih,h k aat e];omega
theorem pZ (l:List Nat) (f:Nat->Int):(l.map f).sum=eK l.length λ q=>f (l.getD q 0):=by
 induction l with
 | nil=>rfl
 | cons a l ih=>rw[aba,List.sum_cons,ih,abb,iD];rfl
theorem qJ {ap:Type} (p:Nat->Bool) (f:ap->Nat->ap):∀ (l:List Nat) (b:ap),(∀ k∈l,p k=false->∀ b,f b k=b)->(l.filter p).foldl f b=l.foldl f b
 | [],_,_=>rfl
 | k::l,b,h=>by
  have ih:=λ b=>qJ p f l b λ k hk=>h k (aap _ hk);cases e:p k with
  | true=>rw[add e,ack,ack,ih]
  | false=>rw[adc (by simp [e]),ack,ih,h k aat e]
theorem FC:∀ (n:Nat) (S:List Nat),S.Pairwise (· < ·)->(∀ y∈S,y < n)->S=(List.range n).filter λ k=>decide (k∈S):=by
 intro n S up lt;have h2:((List.range n).filter λ k=>decide (k∈S)).Pairwise (· < ·):=List.Pairwise.filter _ List.pairwise_lt_range;have hm:∀ x,x∈S↔x∈(List.range n).filter λ k=>decide (k∈S):=λ x=>by
  rw[acu,abz];exact⟨λ h=>⟨lt x h,by simpa using h⟩,λ h=>by simpa using h.2⟩
 generalize (List.range n).filter (λ k=>decide (k∈S))=T at h2 hm;clear lt
 induction S generalizing T with
 | nil=>
  cases T with
  | nil=>rfl
  | cons y T=>exact absurd ((hm y).2 aat) (by simp)
 | cons x S ih=>
  cases T with
  | nil=>exact absurd ((hm x).1 aat) (by simp)
  | cons y T=>
   rw[List.pairwise_cons] at up h2;have exy:x=y:=by
    have hx:=(hm x).1 aat;have hy:=(hm y).2 aat;rcases aao.1 hx with z | z
    ·exact z
    ·rcases aao.1 hy with z' | z'
     ·exact z'.symm
     ·have:=h2.1 x z;have:=up.1 y z';omega
   subst exy;rw[ih up.2 T h2.2 λ z=>⟨λ hz=>?_,λ hz=>?_⟩]
   ·rcases aao.1 ((hm z).1 (aap _ hz)) with q | q
    ·subst q;exact absurd (up.1 z hz) (acn _)
    ·exact q
   ·rcases aao.1 ((hm z).2 (aap _ hz)) with q | q
    ·subst q;exact absurd (h2.1 z hz) (acn _)
    ·exact q
def sI:wE:=(0,0,false)
def lM (ss:List wE) (ds:List Bool) (j:Nat) (k:Nat):Int:=if ds.getD k false=true/\(ss.getD k sI).1=(j:Int) then (ss.getD k sI).2.1 else 0
theorem EC (j:Nat):∀ (ss:List wE) (ds:List Bool) (has:List Int),ss.length=ds.length->(∀ s∈ss,0<=s.1/\s.1 < has.length)->(fZ has ss ds).getD j 0=has.getD j 0+eK ss.length (lM ss ds j)
 | [],[],has,_,_=>by simp [fZ,eK]
 | [],_::_,_,h,_=>by simp at h
 | _::_,[],_,h,_=>by simp at h
 | s::ss,d::ds,has,h,hs=>by
  have h0:=hs s aat;have ih:=EC j ss ds (mR has s d) (by simpa using h) λ x hx=>by rw[vS];exact hs x (aap _ hx)
  show (fZ (mR has s d) ss ds).getD j 0=_;rw[ih,abb,iD];have e:(mR has s d).getD j 0=has.getD j 0+lM (s::ss) (d::ds) j 0:=by
   unfold mR lM;show (if d=true then has.set s.1.toNat (has.getD s.1.toNat 0+s.2.1) else has).getD j 0=has.getD j 0+if d=true/\s.1=(j:Int) then s.2.1 else 0
   cases d with
   | false=>simp
   | true=>
    rw[if_pos rfl]
    by_cases c:s.1=(j:Int)
    ·rw[if_pos ⟨rfl,c⟩,c,abu,aai,adh (by omega)];rfl
    ·rw[if_neg (λ z=>c z.2),aai,adj (by omega),<- aai];omega
  rw[e,Int.add_assoc];rfl
theorem EL (j:Nat):∀ (a b c:List Int),a.length=b.length->a.length=c.length->(kJ a b c).getD j 0=a.getD j 0+b.getD j 0+c.getD j 0
 | [],[],[],_,_=>by simp [kJ]
 | x::a,y::b,z::c,h1,h2=>by
  show ((x+y+z)::kJ a b c).getD j 0=_;cases j with
  | zero=>rfl
  | succ j=>exact EL j a b c (by simpa using h1) (by simpa using h2)
 | [],[],_::_,_,h=>by simp at h
 | [],_::_,_,h,_=>by simp at h
 | _::_,[],_,h,_=>by simp at h
 | _::_,_::_,[],_,h=>by simp at h
theorem KH {net:Net}{h c p:List Int}{d:List Bool} (ok:NetOk net) (st:StOk net h c d) (pl:p.length=net.vs.length) (j:Nat) :
  (bJ net h c p d).getD j 0=h.getD j 0+c.getD j 0+p.getD j 0+eK net.sps.length (lM net.sps d j):=by
 unfold bJ;rw[EC j net.sps d _ st.d.symm λ s hs=>by rw[jJ st.h st.c pl];exact ok.sps s hs,EL j h c p (by rw[st.h,st.c]) (by rw[st.h,pl])]
theorem xT {net:Net}{h c p:List Int}{d:List Bool} (st:StOk net h c d) (pl:p.length=net.vs.length):(bJ net h c p d).length=net.vs.length:=by
 unfold bJ;rw[jB,jJ st.h st.c pl]
theorem E8 (t:Option Int):∀ (vs:List Vs) (hs:List Int),vs.length=hs.length->bS t (eZ vs hs)=eK vs.length λ i=>bS t (eU (vs.getD i dQ) (hs.getD i 0))
 | [],[],_=>rfl
 | [],_::_,h=>by simp at h
 | _::_,[],h=>by simp at h
 | v::vs,a::hs,h=>by
  show bS t (eU v a++eZ vs hs)=_;rw[gG,E8 t vs hs (by simpa using h),abb,iD];rfl
theorem yQ:∀ (vs:List Vs) (hs:List Int) (j:Nat),vs.length=hs.length->j < vs.length->(fC vs hs).getD j 0=hV (vs.getD j dQ) (hs.getD j 0)
 | [],_,j,_,h=>by simp at h
 | _::_,[],_,h,_=>by simp at h
 | v::vs,a::hs,0,_,_=>rfl
 | v::vs,a::hs,j+1,h,hj=>yQ vs hs j (by simpa using h) (by simpa using hj)
theorem rP:∀ (i:Nat) (vs:List Vs) (hs:List Int),vs.length=hs.length->dR i vs hs=((List.range vs.length).filter λ j=>eT (vs.getD j dQ) (hs.getD j 0)).map (i + ·)
 | _,[],[],_=>rfl
 | _,[],_::_,h=>by simp at h
 | _,_::_,[],h=>by simp at h
 | i,v::vs,a::hs,h=>by
  have ih:=rP (i+1) vs hs (by simpa using h);rw[abb,List.range_succ_eq_map];have e:((List.map Nat.succ (List.range vs.length)).filter λ j=>eT ((v::vs).getD j dQ) ((a::hs).getD j 0))=((List.range vs.length).filter λ j=>eT (vs.getD j dQ) (hs.getD j 0)).map Nat.succ:=by
   rw[List.filter_map];rfl
  have e2:∀ l:List Nat,(l.map Nat.succ).map (i + ·)=l.map (i+1 + ·):=λ l=>by
   rw[aca];exact adf λ k _=>by show i+(k+1)=i+1+k;omega
  show (if eT v a=true then i::dR (i+1) vs hs else dR (i+1) vs hs)=_
  by_cases c:eT v a=true
  ·rw[if_pos c,add (by exact c),e,aba,e2,ih];rfl
  ·rw[if_neg c,adc (by exact c),e,e2,ih]
def LF (w:Str) (b:Bool):Bool:=if w = "open" then true else if w = "turn" then !b else false
def fY (k:Nat) (as:List (Str×Int)) (b:Bool):Bool:=as.foldl (λ b a=>if a.2.toNat=k then LF a.1 b else b) b
theorem uC (k:Nat):∀ (as:List (Str×Int)) (ds:List Bool),k < ds.length->(dX ds as).getD k false=fY k as (ds.getD k false)
 | [],_,_=>rfl
 | a::as,ds,h=>by
  show (dX (qX ds a) as).getD k false=fY k as (if a.2.toNat=k then LF a.1 (ds.getD k false) else ds.getD k false);rw[uC k as (qX ds a) (by unfold qX;rw[List.length_set];exact h)];congr 1;unfold qX
  by_cases c:a.2.toNat=k
  ·rw[if_pos c,c,aai,adh h];rfl
  ·rw[if_neg c,aai,adj c,<- aai]
theorem AO (as:List (Str×Int)):∀ ds:List Bool,(dX ds as).length=ds.length:=by
 induction as with
 | nil=>intro ds;rfl
 | cons a as ih=>intro ds;show (dX (qX ds a) as).length=_;rw[ih];unfold qX;rw[List.length_set]
theorem AB (vs:List Vs) (k:Nat):∀ (tip:List Nat) (ds:List Bool),k < ds.length->(∀ i∈tip,i < vs.length)->(cS vs ds tip).getD k false=tip.foldl (λ b i=>fY k (vs.getD i dQ).acts b) (ds.getD k false)
 | [],_,_,_=>rfl
 | i::tip,ds,h,ht=>by
  have hi:=ht i aat;have e:vs[i]? = some (vs.getD i dQ):=by rw[aai,aag hi];rfl
  show (cS vs (match vs[i]? with | some v=>dX ds v.acts | none=>ds) tip).getD k false=_;rw[e];show (cS vs (dX ds (vs.getD i dQ).acts) tip).getD k false=_;rw[AB vs k tip _ (by rw[AO];exact h) λ i hi=>ht i (aap _ hi),uC k _ ds h];rfl
theorem JW (n:Nat) (gs:List (Option Int×Int)) {k:Nat} (h:k < n):(gD n gs).getD k 0=bS (some (k:Int)) gs:=by
 unfold gD;rw[aai,aaj,List.getElem?_range h];rfl
theorem rQ {net:Net}{h c p:List Int}{d:List Bool} (st:StOk net h c d) (pl:p.length=net.vs.length) :
  (fN net h c p d).tip=(List.range net.vs.length).filter λ j=>eT (net.vs.getD j dQ) ((bJ net h c p d).getD j 0):=by
 show dR 0 net.vs (bJ net h c p d)=_;rw[rP 0 net.vs _ (xT st pl).symm];simp
theorem uY {net:Net}{h c p:List Int}{d:List Bool} (st:StOk net h c d) (pl:p.length=net.vs.length) {j:Nat} (hj:j < net.vs.length) :
  (fN net h c p d).held.getD j 0=hV (net.vs.getD j dQ) ((bJ net h c p d).getD j 0):=yQ _ _ j (xT st pl).symm hj
theorem pX {net:Net}{h c p:List Int}{d:List Bool} (st:StOk net h c d) (pl:p.length=net.vs.length) {j:Nat} (hj:j < net.vs.length) :
  (fN net h c p d).coming.getD j 0=eK net.vs.length λ i=>bS (some (j:Int)) (eU (net.vs.getD i dQ) ((bJ net h c p d).getD i 0)):=by
 show (gD net.vs.length _).getD j 0=_;rw[JW _ _ hj,E8 _ _ _ (xT st pl).symm]
theorem rR {net:Net}{h c p:List Int}{d:List Bool} (st:StOk net h c d) (pl:p.length=net.vs.length) {k:Nat} (hk:k < net.sps.length) :
  (fN net h c p d).doors.getD k false=(List.range net.vs.length).foldl (λ b i=>if eT (net.vs.getD i dQ) ((bJ net h c p d).getD i 0)=true then fY k (net.vs.getD i dQ).acts b else b) (d.getD k false):=by
 show (cS net.vs d (fN net h c p d).tip).getD k false=_;rw[AB net.vs k _ d (by rw[st.d];exact hk) λ i hi=>?_]
 ·rw[rQ st pl,List.foldl_filter]
 ·rw[rQ st pl] at hi;exact abz.1 (acu.1 hi).1
def AV (net:Net) (k:Nat):Vs:=net.vs.getD k ⟨1,1,[],false,none,[]⟩
def qM (net:Net) (k:Int):Int:=(net.sps.getD k.toNat (0,0,false)).1
def eQ (net:Net) (v:Vs):List (Option Int):=v.outs.map (·.1)++[v.spill]++v.acts.map λ a=>some (qM net a.2)
def eS (net:Net) (x:Nat) (f:List Nat):Nat->List Nat
 | 0=>f
 | k+1=>if k∉eS net x f k/\some (x:Int)∈eQ net (AV net k) then eS net x f k++[k] else eS net x f k
theorem i7 (net:Net) (x:Nat) (f:List Nat) (k:Nat):eS net x f (k+1)=if k∉eS net x f k/\some (x:Int)∈eQ net (AV net k) then eS net x f k++[k] else eS net x f k:=rfl
theorem jA (net:Net) (x:Nat) (f:List Nat):∀ k,∃ g,eS net x f k=f++g
 | 0=>⟨[],by rw[acy];rfl⟩
 | k+1=>by
  obtain⟨g,e⟩:=jA net x f k;rw[i7]
  split
  ·exact⟨g++[k],by rw[e,acv]⟩
  ·exact⟨g,e⟩
theorem tM {net:Net}{x n:Nat}{f:List Nat} (nd:f.Nodup) (hf:∀ y∈f,y < n):∀ k,k<=n->(eS net x f k).Nodup/\∀ y∈eS net x f k,y < n
 | 0,_=>⟨nd,hf⟩
 | k+1,hk=>by
  obtain⟨h1,h2⟩:=tM (net:=net) (x:=x) nd hf k (by omega);rw[i7]
  split
  ·rename_i c
   refine⟨?_,λ y hy=>?_⟩
   ·rw[List.nodup_append];refine⟨h1,by simp,λ a ha b hb e=>?_⟩;have:=aan.1 hb;subst this e;exact c.1 ha
   ·rcases abk.1 hy with z | z
    ·exact h2 y z
    ·have:=aan.1 z;omega
  ·exact⟨h1,h2⟩
theorem j3:∀ (n:Nat) (l:List Nat),l.Nodup->(∀ y∈l,y < n)->l.length<=n
 | 0,[],_,_=>aal _
 | 0,x::l,_,h=>absurd (h x aat) (adb _)
 | n+1,l,nd,h=>by
  have ih:=j3 n (l.erase n) (nd.erase n) λ y hy=>by
   have h1:=nd.mem_erase_iff.1 hy;have:=h y h1.2;omega
  by_cases m:n∈l
  ·rw[List.length_erase_of_mem m] at ih;omega
  ·rw[List.erase_of_not_mem m] at ih;omega
def pV (net:Net):Nat->Nat->List Nat->List Nat
 | 0,_,f=>f
 | fuel+1,p,f=>match f[p]? with
  | none=>f
  | some x=>pV net fuel (p+1) (eS net x f net.vs.length)
theorem HP {net:Net}{fuel p x:Nat}{f:List Nat} (h:f[p]? = some x):pV net (fuel+1) p f=pV net fuel (p+1) (eS net x f net.vs.length):=by
 show (match f[p]? with | none=>f | some x=>pV net fuel (p+1) (eS net x f net.vs.length))=_;rw[h]
theorem EY {net:Net}{fuel p:Nat}{f:List Nat} (h:f.length<=p):pV net fuel p f=f:=by
 cases fuel with
 | zero=>rfl
 | succ fuel=>
  show (match f[p]? with | none=>f | some x=>pV net fuel (p+1) (eS net x f net.vs.length))=_;rw[acg h]
def eW (net:Net) (w:Nat):List Nat:=pV net 13 0 [w]
structure WalkAt (net:Net) (w p:Nat) (f:List Nat):Prop where
 nd:f.Nodup
 lt:∀ y∈f,y < net.vs.length
 has:w∈f
 le:p<=f.length
 eq:pV net (13 - p) p f=eW net w
theorem WalkAt.first {net:Net}{w:Nat} (h:w < net.vs.length):WalkAt net w 0 [w]:=
 ⟨by simp,λ y hy=>by have:=aan.1 hy;omega,aan.2 rfl,abw _,rfl⟩
theorem WalkAt.len {net:Net}{w p:Nat}{f:List Nat} (a:WalkAt net w p f):f.length<=net.vs.length:=j3 _ _ a.nd a.lt
theorem WalkAt.go {net:Net}{w p x:Nat}{f:List Nat} (a:WalkAt net w p f) (h12:net.vs.length<=12) (h:f[p]? = some x):WalkAt net w (p+1) (eS net x f net.vs.length):=by
 have hl:=a.len;have hp:=(aae.mp h).1;obtain⟨h1,h2⟩:=tM (net:=net) (x:=x) a.nd a.lt net.vs.length (aal _);obtain⟨g,e⟩:=jA net x f net.vs.length;refine⟨h1,h2,by rw[e];exact aby _ a.has,by rw[e,aau];omega,?_⟩;rw[<- a.eq,show 13 - p=(13 - (p+1))+1 by omega,HP h]
theorem WalkAt.done {net:Net}{w p:Nat}{f:List Nat} (a:WalkAt net w p f) (h:f.length<=p):f=eW net w:=by
 rw[<- a.eq,EY h]
theorem JS {net:Net}{w:Nat} (h12:net.vs.length<=12):∀ (m p:Nat) (f:List Nat),WalkAt net w p f->13 - p=m->∃ p',WalkAt net w p' (eW net w)
 | 0,p,f,a,e=>by
  have:=a.len;have:=a.le;omega
 | m+1,p,f,a,e=>by
  rcases Nat.lt_or_ge p f.length with z | z
  ·exact JS h12 m (p+1) _ (a.go h12 (aag z)) (by omega)
  ·exact⟨p,a.done z ▸ a⟩
theorem xP {net:Net}{w:Nat} (h12:net.vs.length<=12) (h:w < net.vs.length):(eW net w).Nodup/\(∀ y∈eW net w,y < net.vs.length)/\w∈eW net w:=by
 obtain⟨p,a⟩:=JS h12 13 0 _ (WalkAt.first h) rfl;exact⟨a.nd,a.lt,a.has⟩
end Tw
namespace TwS
open PySem
def Up (xs:Array Nat):Prop:=∀ i j a b:Nat,i < j->xs[i]? = some a->xs[j]? = some b->a < b
theorem tZ (xs:Array Nat) (h:Up xs) (j:Nat):∀ (fuel lo hi:Nat),hi<=xs.size->lo<=hi->hi - lo<=fuel->(∀ i a,i < lo->xs[i]? = some a->a < j)->(∀ i a,hi<=i->xs[i]? = some a->j<=a)->
  (∀ i a,i < SetTable.below.go xs j fuel lo hi->xs[i]? = some a->a < j)/\(∀ i a,SetTable.below.go xs j fuel lo hi<=i->xs[i]? = some a->j<=a)/\SetTable.below.go xs j fuel lo hi<=xs.size
 | 0,lo,hi,h1,h2,h3,l,r=>by
  have:lo=hi:=by omega
  subst this;show (∀ i a,i < lo->_)/\(∀ i a,lo<=i->_)/\lo<=_;exact⟨l,r,h1⟩
 | fuel+1,lo,hi,h1,h2,h3,l,r=>by
  have e0:SetTable.below.go xs j (fuel+1) lo hi=if lo < hi then (if xs.getD ((lo+hi) / 2) j < j then SetTable.below.go xs j fuel ((lo+hi) / 2+1) hi else SetTable.below.go xs j fuel lo ((lo+hi) / 2)) else lo:=rfl
  rw[e0]
  by_cases hlt:lo < hi
  ·rw[if_pos hlt];have hm:(lo+hi) / 2 < xs.size:=by omega
   have hg:xs[(lo+hi) / 2]? = some (xs.getD ((lo+hi) / 2) j):=by
    rw[abp hm,Array.getD_eq_getD_getElem?,abp hm];rfl
   by_cases hc:xs.getD ((lo+hi) / 2) j < j
   ·rw[if_pos hc];refine tZ xs h j fuel ((lo+hi) / 2+1) hi h1 (by omega) (by omega) (λ i a hi' e=>?_) r;rcases Nat.lt_or_ge i ((lo+hi) / 2) with z | z
    ·exact Nat.lt_trans (h _ _ _ _ z e hg) hc
    ·have:i=(lo+hi) / 2:=by omega
     subst this;rw[hg] at e;cases e;exact hc
   ·rw[if_neg hc];refine tZ xs h j fuel lo ((lo+hi) / 2) (by omega) (by omega) (by omega) l (λ i a hi' e=>?_);rcases Nat.lt_or_ge ((lo+hi) / 2) i with z | z
    ·exact acd (Nat.le_of_not_lt hc) (ade (h _ _ _ _ z hg e))
    ·have:i=(lo+hi) / 2:=by omega
     subst this;rw[hg] at e;cases e;exact Nat.le_of_not_lt hc
  ·rw[if_neg hlt];have:lo=hi:=by omega
   subst this;exact⟨l,r,h1⟩
theorem u7 {xs:Array Nat} (h:Up xs) (j:Nat):(∀ i a,i < SetTable.below xs j->xs[i]? = some a->a < j)/\(∀ i a,SetTable.below xs j<=i->xs[i]? = some a->j<=a)/\SetTable.below xs j<=xs.size:=
 tZ xs h j xs.size 0 xs.size (aal _) (abw _) (by omega) (λ i a hi _=>absurd hi (adb _)) (λ i a hi e=>by
  have:=(Array.getElem?_eq_some_iff.mp e).1;omega)
theorem D9 {xs:Array Nat} (h:Up xs) {i a:Nat} (e:xs[i]? = some a):SetTable.below xs (a+1)=i+1:=by
 obtain⟨h1,h2,h3⟩:=u7 h (a+1);have hi:=(Array.getElem?_eq_some_iff.mp e).1;rcases Nat.lt_trichotomy (SetTable.below xs (a+1)) (i+1) with z | z | z
 ·have:=h2 i a (by omega) e;omega
 ·exact z
 ·have hlt:i+1 < xs.size:=by omega
  have e2:xs[i+1]? = some xs[i+1]:=abp hlt;have l1:=h1 (i+1) _ z e2;have l2:=h i (i+1) _ _ (Nat.lt_succ_self _) e e2;omega
theorem NG {xs:Array Nat} (h:Up xs):SetTable.below xs 0=0:=by
 obtain⟨h1,_,h3⟩:=u7 h 0;rcases Nat.eq_zero_or_pos (SetTable.below xs 0) with z | z
 ·exact z
 ·have e2:xs[0]? = some xs[0]:=abp (by omega);have:=h1 0 _ z e2;omega
theorem OI:Up #[]:=λ i j a b _ e _=>by simp at e
theorem qY {xs:Array Nat}:Up xs↔xs.toList.Pairwise (· < ·):=by
 rw[List.pairwise_iff_getElem];constructor
 ·intro h i j hi hj hij;exact h i j _ _ hij (by rw[<- acf];exact aag hi) (by rw[<- acf];exact aag hj)
 ·intro h i j a b hij e1 e2;rw[<- acf] at e1 e2;obtain⟨p1,rfl⟩:=aae.mp e1;obtain⟨p2,rfl⟩:=aae.mp e2;exact h i j p1 p2 hij
theorem OH {xs:Array Nat} (h:Up xs) {j:Nat} (hn:xs[SetTable.below xs j]?≠some j):Up (SetTable.insertAt xs (SetTable.below xs j) j):=by
 obtain⟨h1,h2,h3⟩:=u7 h j;rw[qY,SetTable.toList_insertAt,List.pairwise_append,List.pairwise_cons];have hl:=qY.1 h;refine⟨hl.take,⟨λ a ha=>?_,hl.drop⟩,λ a ha b hb=>?_⟩
 ·obtain⟨i,hi⟩:=abh.1 ha;rw[List.getElem?_drop,acf] at hi;have le:=h2 _ _ (Nat.le_add_right _ _) hi;rcases Nat.lt_or_ge j a with z | z
  ·exact z
  ·have ej:j=a:=by omega
   subst ej;rcases Nat.eq_zero_or_pos i with e0 | e0
   ·subst e0;exact absurd hi hn
   ·have hlt:SetTable.below xs j < xs.size:=by
     have:=(Array.getElem?_eq_some_iff.mp hi).1;omega
    have e2:xs[SetTable.below xs j]? = some xs[SetTable.below xs j]:=abp hlt;have l2:=h2 _ _ (aal _) e2;have l3:=h _ _ _ _ (show SetTable.below xs j < SetTable.below xs j+i by omega) e2 hi;omega
 ·obtain⟨i,hi⟩:=abh.1 ha;rw[List.getElem?_take] at hi
  split at hi
  ·rename_i hlt
   rw[acf] at hi;have l1:=h1 _ _ hlt hi;rcases aao.1 hb with z | z
   ·subst z;exact l1
   ·obtain⟨i2,hi2⟩:=abh.1 z;rw[List.getElem?_drop,acf] at hi2;have:=h2 _ _ (Nat.le_add_right _ _) hi2;omega
  ·cases hi
theorem HS (n:Nat):Up (Array.range n):=by
 rw[qY,Array.toList_range];exact List.pairwise_lt_range
structure Tidy (b:Bool) (t:SetTable):Prop where
 led:t.led=b
 up:Up t.place
 dm:t.dummies = #[]
theorem BB (b:Bool):Tidy b (.fresh 0 0 b):=⟨rfl,OI,rfl⟩
theorem jM {b:Bool}{t:SetTable} (h:Tidy b t) (n:Nat):Tidy b (t.standIn n):=⟨h.led,HS n,rfl⟩
theorem LR {b:Bool}{t:SetTable} (h:Tidy b t) (n:Nat):Tidy b (t.orStandIn n):=by
 unfold SetTable.orStandIn
 split
 ·exact h
 ·exact jM h n
theorem A7 (j:Nat):SetTable.has #[] j=false:=by
 unfold SetTable.has;simp
theorem FK {b:Bool}{t:SetTable} (h:Tidy b t) (j:Nat):t.slot j≠.dummy:=by
 unfold SetTable.slot;rw[h.dm,A7];dsimp only
 by_cases c:(t.place[SetTable.below t.place j]? == some j)=true
 ·rw[if_pos c];intro z;cases z
 ·rw[if_neg c,if_neg (by decide)];intro z;cases z
theorem sN {b:Bool}{t:SetTable} (h:Tidy b t) (hash:Int):∀ (fuel:Nat) (p:SetTable.Probe) (m:SetTable.Met),p.dummy=none->SetTable.probe.go t (λ _=>hash+1) hash fuel p=some m->
  ∃ j,m=.empty j none/\t.place[SetTable.below t.place j]?≠some j
 | 0,p,m,_,e=>by cases e
 | fuel+1,p,m,hd,e=>by
  unfold SetTable.probe.go at e;have adv:(t.advance p).dummy=none:=by
   unfold SetTable.advance
   split <;> exact hd
  split at e
  ·rename_i hs
   cases e;refine⟨p.j,by rw[hd],λ z=>?_⟩;unfold SetTable.slot at hs;simp [z] at hs
  ·rename_i hs
   exact absurd hs (FK h _)
  ·rename_i i hs
   split at e
   ·rename_i hh
    simp at hh;omega
   ·exact sN h hash fuel _ m adv e
theorem HX {b:Bool}{t:SetTable} (h:Tidy b t) (es:Array (Int×Value)) (hash:Int) (x:Value):Tidy b (layNew t es hash x).2.1:=by
 unfold layNew
 split
 ·rename_i slot wasDummy hf
  unfold SetTable.freeSlot at hf
  split at hf
  ·rename_i j dummy hp
   obtain⟨j',e,hn⟩:=sN h hash _ (t.probeStart hash) _ rfl hp;cases e;cases hf;refine LR (t:=(t.put _).1) ⟨h.led,OH h.up hn,?_⟩ _;show (if SetTable.has t.dummies _ then _ else t.dummies) = #[];rw[h.dm,A7];rfl
  ·cases hf
 ·exact jM h _
theorem BA {b:Bool}{t:SetTable} (h:Tidy b t) (es:Array (Int×Value)) (n:Nat):Tidy b (relayAll t es n).2.1:=by
 unfold relayAll
 split
 ·rename_i t' order hr
  dsimp only
  split
  ·show Tidy b t';unfold SetTable.relaid SetTable.laid at hr;obtain⟨owner,ho,e⟩:=Option.bind_eq_some_iff.mp hr;cases e;refine⟨h.led,?_,rfl⟩;rw[qY];dsimp only;rw[List.pairwise_map,List.pairwise_filterMap];refine List.pairwise_lt_range.imp λ {a c} hac x hx y hy=>?_;obtain⟨x',_,rfl⟩:=aas.mp hx;obtain⟨y',_,rfl⟩:=aas.mp hy;exact hac
  ·exact jM h _
 ·exact jM h _
end TwS
namespace TwS
open PySem PyProof.Rows
def A5:Value->Int
 | .int i _=>i
 | _=>0
structure Cnt (prog:Program) (w:World) (b:Bool) (L:List Int) (es:Array (Int×Value)) (t:SetTable):Prop where
 el:ElemsOf (intKind prog w) es.toList
 pm:(es.toList.map λ e=>A5 e.2).Perm L
 bd:es.size < scanBound
 ft:t.fits es.size=true
 td:Tidy b t
def lQ (prog:Program) (w:World) (b:Bool) (h:Heap) (a:Addr) (L:List Int):Prop:=
 ∃ o es ep t,h.get? a=some o/\o.ExactSet/\o.data=.set es ep t/\Cnt prog w b L es t
section
variable {prog:Program}{b:Bool}{A:Around}{E:Value->Shared->Prop}{s:Shared}{a:Addr}{L:List Int}
theorem KY {es:List (Int×Value)} (h:ElemsOf (intKind prog w) es) {e:Int×Value} (he:e∈es):∃ i t,e.2=.int i t:=by
 obtain⟨⟨k,hk,_⟩,_⟩:=h e he;obtain⟨t,z⟩:=Value.isInt_shape hk;exact⟨k,t,z⟩
theorem K6 {es:List (Int×Value)} (h:ElemsOf (intKind prog w) es) {e:Int×Value} (he:e∈es) (k:Int):(intKind prog w).is k e.2=decide (A5 e.2=k):=by
 obtain⟨i,t,z⟩:=KY h he;rw[z];show (i == k)=decide (i=k);rfl
theorem DU {es:Array (Int×Value)}{t:SetTable} (c:Cnt prog w b L es t) (k:Int):k∈L↔∃ e∈es.toList,(intKind prog w).is k e.2=true:=by
 rw[<- c.pm.mem_iff,aaz];constructor
 ·rintro⟨e,he,z⟩;exact⟨e,he,by rw[K6 c.el he];exact abt z⟩
 ·rintro⟨e,he,z⟩;rw[K6 c.el he] at z;exact⟨e,he,abx z⟩
theorem DW {es:Array (Int×Value)}{t:SetTable} (c:Cnt prog w b L es t):es.size=L.length:=by
 rw[<- c.pm.length_eq,aad,abi]
theorem vX {o:Obj}{es es':Array (Int×Value)}{ep:Nat}{t t':SetTable}{h:Heap}{L':List Int} (g:h.get? a=some o) (x:o.ExactSet) (d:o.data=.set es ep t) (c:Cnt prog w b L' es' t') :
  (h.update a (Obj.putSet es' t')).get? a=some { o with data:=.set es' (ep+1) t' }/\lQ prog w b (h.update a (Obj.putSet es' t')) a L':=by
 have u:(h.update a (Obj.putSet es' t')).get? a=some { o with data:=.set es' (ep+1) t' }:=by
  have:=acw (Obj.putSet es' t') g (by rw[putSet_of es' t' d];rfl);rw[putSet_of es' t' d] at this;exact this
 exact⟨u,_,_,_,_,u,x,rfl,c⟩
theorem vN (q:Bool) {s1:Shared}{R:Unit->Shared->Prop} (h:R () s1):wpAny (model prog w) A (match q with | true=>rule "set.scan.the-table-gave-way" | false=>pure ()) R E s1:=by
 cases q
 ·exact aaf h
 ·exact acz h
theorem LB {k:Int}{tk:Tok}{R:Bool->Shared->Prop} (hS:lQ prog w b s.heap a L) (room:L.length+1 < scanBound)
  (hR:∀ h',Heap.SameBut a s.heap h'->lQ prog w b h' a (if k∈L then L else L++[k])->R (!decide (k∈L)) { s with heap:=h' }) :
  wpAny (model prog w) A (setAddHashed a (.int k tk) ((intKind prog w).hash k)) R E s:=by
 obtain⟨o,es,ep,t,g,x,d,c⟩:=hS;have ln:=DW c;have isk:(intKind prog w).is k (.int k tk)=true:=intKind_is _ _ _ _;have sc:(Value.int k tk).scannable=true:=rfl;unfold setAddHashed setAddHashedIn;refine abq (aaa (wpAny_setState_of (prog:=prog) g d c.ft ?_));dsimp only;rw[byScan_of sc c.bd c.el,if_pos rfl];unfold setAddByScan;refine aaa (aaa (acz (aaa (wpAny_setScan_of isk g d c.ft c.el ?_))))
 by_cases m:k∈L
 ·obtain⟨e,he,z⟩:=(DU c k).1 m;cases q:es.toList.findIdx? (λ e=>(intKind prog w).is k e.2) with
  | none=>have:=List.findIdx?_eq_none_iff.mp q e he;rw[z] at this;cases this
  | some j=>
   have r:=hR s.heap (Heap.SameBut.refl a s.heap);rw[if_pos m,abt m] at r;exact aaf (aaf (r ⟨o,es,ep,t,g,x,d,c⟩))
 ·cases q:es.toList.findIdx? (λ e=>(intKind prog w).is k e.2) with
  | some j=>
   obtain⟨hj,z,_⟩:=List.findIdx?_eq_some_iff_getElem.mp q;exact absurd ((DU c k).2 ⟨_,ada hj,z⟩) m
  | none=>
   dsimp only;rw[if_neg m,acp m] at hR;have p1:=layNew_perm t es ((intKind prog w).hash k) (.int k tk);have f1:=layNew_fits t es ((intKind prog w).hash k) (.int k tk);have t1:=HX c.td es ((intKind prog w).hash k) (.int k tk);generalize layNew t es ((intKind prog w).hash k) (.int k tk)=Y at p1 f1 t1 ⊢;obtain⟨es1,tb1,wd,gv⟩:=Y;dsimp only at p1 f1 t1 ⊢;rw[Array.toList_push] at p1;have c1:Cnt prog w b (L++[k]) es1 tb1:=by
    refine⟨(c.el.push isk sc).perm p1,?_,?_,f1,t1⟩
    ·refine (p1.map _).trans ?_;rw[aam];exact c.pm.append_right _
    ·rw[<- abi,p1.length_eq,aau,abi,ln];exact room
   have fin:∀ (tb2:SetTable),Cnt prog w b (L++[k]) es1 tb2->wpAny (model prog w) A (do
     storeSet a es1 tb2
     if (!wd && tb2.tooFull)=true then do
       (match (relayAll tb2 es1 (SetTable.grown es1.size)).2.2 with | true=>rule "set.scan.the-table-gave-way" | false=>pure ())
       storeSet a (relayAll tb2 es1 (SetTable.grown es1.size)).1 (relayAll tb2 es1 (SetTable.grown es1.size)).2.1
       pure (some true)
      else pure (some true)) (λ r s'=>wpAny (model prog w) A (match r with | some added=>pure added | none=>setAddHashedIn a (.int k tk) ((intKind prog w).hash k) 99999) R E s') E s:=by
    intro tb2 c2;refine aaa (wpAny_storeSet_of g d ?_ (fits_of_scanBound c2.bd));obtain⟨g1,S1⟩:=vX g x d c2;have sb:=Heap.SameBut.update s.heap a (Obj.putSet es1 tb2)
    split
    ·have p3:=relayAll_perm tb2 es1 (SetTable.grown es1.size);have f3:=relayAll_fits tb2 es1 (SetTable.grown es1.size);have t3:=BA c2.td es1 (SetTable.grown es1.size);generalize relayAll tb2 es1 (SetTable.grown es1.size)=Y at p3 f3 t3 ⊢;obtain⟨es3,tb3,gv3⟩:=Y;dsimp only at p3 f3 t3 ⊢;have c3:Cnt prog w b (L++[k]) es3 tb3:=⟨c2.el.perm p3,(p3.map _).trans c2.pm,by rw[<- abi,p3.length_eq,abi];exact c2.bd,f3,t3⟩;refine aaa (vN gv3 (aaa (wpAny_storeSet_of g1 rfl ?_ (fits_of_scanBound c3.bd))));exact aaf (aaf (hR _ (sb.trans (Heap.SameBut.update _ a _)) (vX g1 x rfl c3).2))
    ·exact aaf (aaf (hR _ sb S1))
   refine aaa (vN gv ?_)
   split
   ·refine aaa ?_;rw[hashByValue_scannable 8 sc];refine aaf ?_;exact fin _ c1
   ·refine aaa (aaf ?_);exact fin _ c1
end
end TwS
namespace TwS
open PySem PySem.Spec PyProof.Rows
def dd (val:Nat->Int):Nat->List Int
 | 0=>[]
 | i+1=>if val i∈dd val i then dd val i else dd val i++[val i]
theorem y3 (val:Nat->Int) (i:Nat):dd val (i+1)=if val i∈dd val i then dd val i else dd val i++[val i]:=rfl
theorem CY (val:Nat->Int):∀ i,(dd val i).length<=i
 | 0=>aal _
 | i+1=>by
  have ih:=CY val i;rw[y3]
  split
  ·omega
  ·rw[aau,ach];omega
theorem L4 (val:Nat->Int) (k:Int):∀ n,k∈dd val n↔∃ i,i < n/\val i=k
 | 0=>⟨λ z=>(by cases z),λ z=>(by obtain⟨i,hi,_⟩:=z;exact absurd hi (adb _))⟩
 | n+1=>by
  have ih:=L4 val k n;have key:k∈dd val (n+1)↔k∈dd val n\/val n=k:=by
   rw[y3]
   split
   ·rename_i z
    exact⟨.inl,λ y=>y.elim id λ e=>e ▸ z⟩
   ·rw[abk,aan];exact⟨λ y=>y.imp id Eq.symm,λ y=>y.imp id Eq.symm⟩
  rw[key,ih];constructor
  ·rintro (⟨i,hi,e⟩ | e)
   ·exact⟨i,by omega,e⟩
   ·exact⟨n,by omega,e⟩
  ·rintro⟨i,hi,e⟩;rcases Nat.lt_or_ge i n with z | z
   ·exact .inl ⟨i,z,e⟩
   ·have:i=n:=by omega
    subst this;exact .inr e
theorem AE (val:Nat->Int):∀ n,(dd val n).Nodup
 | 0=>List.nodup_nil
 | n+1=>by
  have ih:=AE val n;rw[y3]
  split
  ·exact ih
  ·rename_i z
   rw[List.nodup_append];refine⟨ih,by simp,λ x hx y hy=>?_⟩;rw[aan] at hy;subst hy;exact λ e=>z (e ▸ hx)
section
variable {prog:Program}{b:Bool}{A:Around}{R:Result->Shared->Prop}{I:Addr}{fp wr:List Addr}{G:Array GenState->Array GenState->Prop}{n:Nat}{P:Nat->Value->Prop}{St:Nat->Shared->Prop}
theorem lQ.at {h h':Heap}{a:Addr}{L:List Int} (x:lQ prog w b h a L) (e:∀ o,h.get? a=some o->h'.get? a=some o):lQ prog w b h' a L:=by
 obtain⟨o,es,ep,t,g,r⟩:=x;exact⟨o,es,ep,t,e o g,r⟩
theorem IJ (Wk:WalksS prog w A.in1 I fp wr G n P St) (S:Addr) (off:S∉fp) (val:Nat->Int) (vals:∀ i v,P i v->∃ t,v=.int (val i) t) (small:n+1 < scanBound) :
  ∀ (m i:Nat) (s:Shared),n - i=m->i<=n->St i s->lQ prog w b s.heap S (dd val i)->(∀ s',Moved (S::wr) G s s'->lQ prog w b s'.heap S (dd val n)->R (.ok (.ret .none)) s')->
   codeAny (model prog w) A (.builtin "set.update.loop" ⟨[.ref S,.ref I],[]⟩) R s:=by
 have offw:S∉wr:=λ z=>off (Wk.sub _ z);have more:∀ c∈wr,c∈S::wr:=λ c hc=>aap _ hc;intro m
 induction m with
 | zero=>
  intro i s hm hi st hS k;obtain rfl:i=n:=by omega
  refine codeAny_builtin F.entry_set_update_loop ?_;rw[Around.under_plainId F.plain_set_update_loop _];show wpAny _ A.in1 (pyNext (.ref I) >>= _) _ _ s;refine aaa (Wk.done s _ _ st λ s1 mv=>?_);exact aaf (k s1 (mv.mono more) (hS.at λ o e=>mv.heap S o offw e))
 | succ m ih=>
  intro i s hm hi st hS k;have lt:i < n:=by omega
  refine codeAny_builtin F.entry_set_update_loop ?_;rw[Around.under_plainId F.plain_set_update_loop _];show wpAny _ A.in1 (pyNext (.ref I) >>= _) _ _ s;refine aaa (Wk.item i s _ _ lt st λ v s1 hv st1 mv=>?_);obtain⟨t,rfl⟩:=vals i v hv;have hS1:lQ prog w b s1.heap S (dd val i):=hS.at λ o e=>mv.heap S o offw e;show wpAny _ A.in1 (holding [Value.int (val i) t] (setAdd S (.int (val i) t)) >>= _) _ _ s1;refine aaa (abq ?_);unfold setAdd;refine abq (aaa ((intKind prog w).pyHash (k:=val i) (intKind_is _ _ _ _) ?_));have rm:(dd val i).length+1 < scanBound:=by have:=CY val i;omega
  refine LB (s:={ s1 with toks:=s1.toks+1 }) hS1 rm λ h2 sb hS2=>?_;refine aaf ⟨plainId_quiet F.plain_set_update_loop _,ih (i+1) _ (by omega) lt (Wk.frame _ s1 _ _ st1 (Nat.le_succ _) λ c hc o e=>?_) hS2 λ s3 mv3 hS3=>?_⟩
  ·rw[sb.2 c λ z:c=S=>off (z ▸ hc)];exact e
  ·refine k s3 (Moved.trans Wk.gtrans ((mv.mono more).then_heap (Nat.le_succ _) λ c o hc e=>?_) mv3) hS3;rw[sb.2 c λ z:c=S=>hc (by rw[z];exact aat)];exact e
end
section
variable {prog:Program}{A:Around}{E:Value->Shared->Prop}{s:Shared}
abbrev iO (w:World):Obj:={ cls:=.type "set",dict:=none,data:=.set #[] 0 (.fresh 0 0 (!w.params.followText "set-order")) }
theorem MR (v:Value) {Q:Value->Shared->Prop} (k:Q (.ref s.heap.objs.size) { s with heap:=s.heap.push (iO w) }) :
  codeAny (model prog w) A (.call (.builtin "set.__new__") ⟨[.type "set",v],[]⟩) (wants Q E) s:=by
 refine codeAny_of_tree ?_;show wpAny _ A.in1 (checkBuiltinCall "set.__new__" ⟨[.type "set",v],[]⟩ >>= λ _=>again (.builtin "set.__new__" ⟨[.type "set",v],[]⟩)) _ _ s;refine aaa (wpAny_of_eq (F.newCall_set_1 v) (aaf ⟨plainId_quiet F.plain_set_new _,codeAny_builtin F.entry_set_new ?_⟩));rw[Around.under_plainId F.plain_set_new _];unfold Builtin.«set.__new__» Builtin.Frozenset.newClass;have su:=sub_set_self;obtain⟨hp,g,d,tk,os⟩:=s;dsimp only
 wp_walk
 refine wpAny_askSetting (aaf ?_);dsimp only;simp only [newObj];exact aaa (wpAny_alloc (aaf (aaf k)))
theorem GH:Cnt prog w (!w.params.followText "set-order") [] #[] (.fresh 0 0 (!w.params.followText "set-order")):=
 ⟨λ e he=>by simp at he,by simp,by unfold scanBound;decide,by rfl,BB _⟩
theorem L8 {l:Addr}{items:Array Value}{ns:List Int}{Q:Value->Shared->Prop} (hh:A.handled=none) (hl:s.heap.IsList l items) (hi:IntsAre items.toList ns) (small:items.size+1 < scanBound)
  (k:∀ (h':Heap) (tk:Nat),lQ prog w (!w.params.followText "set-order") h' s.heap.objs.size (dd (λ i=>ns.getD i 0) items.size)->(∀ c o,c < s.heap.objs.size->s.heap.get? c=some o->h'.get? c=some o)->
   Q (.ref s.heap.objs.size) { s with heap:=h',toks:=tk }) :
  wpAny (model prog w) A (call (.type "set") [.ref l]) Q E s:=by
 obtain⟨c0,tl0,mro0⟩:=F.called_set.mro;have made0:=F.called_set.made;have sub0:=F.called_set.sub;refine wpAny_call (codeAny_of_tree ?_);show wpAny _ _ (callAny (.type "set") _) _ _ _;refine aaf ⟨Code.quiet_builtin _ (by decide +kernel),codeAny_builtin F.entry_type_call ?_⟩;rw[Around.under_plain (weight_type_call_type "set" [.ref l] []) rfl];have nt:=F.called_set.notType;have cc:=F.called_set.canCreate;have tc:=F.typeCall_set_1 (.ref l)
 repeat (any_goals (first | assumption | wp_step))
 refine codeAny_mono (MR (.ref l) (E:=E) (Q:=λ v s1=>v=.ref s.heap.objs.size/\s1={ s with heap:=s.heap.push (iO w) }) ⟨rfl,rfl⟩) λ r s1 hr=>?_;cases r with
 | error e=>exact hr
 | ok fl=>
  cases fl with
  | ret obj=>
   obtain⟨rfl,rfl⟩:=hr;have gS:(s.heap.push (iO w)).get? s.heap.objs.size=some (iO w):=aak _ rfl;have ty:Shared.TypeIs { s with heap:=s.heap.push (iO w) } (.ref s.heap.objs.size) "set" := ⟨_,gS,rfl⟩;have il:=F.called_set.init.lookup;have ib:=F.called_set.init.bind (.ref s.heap.objs.size)
   repeat (any_goals (first | assumption | wp_step))
   refine codeAny_mono (codeAny_call_builtin (R:=wants (λ r s2=>r=.none/\∃ h' tk,s2={ s with heap:=h',toks:=tk }/\lQ prog w (!w.params.followText "set-order") h' s.heap.objs.size (dd (λ i=>ns.getD i 0) items.size)/\
     (∀ c o,c < s.heap.objs.size->s.heap.get? c=some o->h'.get? c=some o)) E) F.called_set.init.plain F.entry_set_init (check_set_init_1 ty ?_)) λ r2 s2 hr2=>?_
   ·obtain⟨ol,hol,cl,nl,dl⟩:=hl;obtain⟨ocls,odict,odata,oslots⟩:=ol;simp only at cl dl;subst cl dl;have hol1:(s.heap.push (iO w)).get? l=some { cls:=.type "list",dict:=odict,data:=.seq items nl,slots:=oslots }:=aac _ hol;have s1:=F.sub_list_set;have s2:=F.sub_list_frozenset;have ne:(Value.type "list" == Value.type "dict")=false:=by decide
    have hl1:(s.heap.push (iO w)).IsList l items:=⟨_,hol1,rfl,nl,rfl⟩;unfold Builtin.«set.__init__» noKeywords Builtin.Frozenset.updateFrom;generalize hPI:pyIter=PI
    wp_walk
    subst hPI;refine wpAny_pyIter_list hl1 (aaa (wpAny_runValue ?_));have ll:l < s.heap.objs.size:=aaq hol;have h3:A.in1.in1.in1.handled=none:=by simp [hh]
    have zz:(s.heap.push (iO w)).objs.size=s.heap.objs.size+1:=aci _ _;have neI:l≠(s.heap.push (iO w)).objs.size:=by rw[zz];exact abc (Nat.lt_succ_of_lt ll)
    have offS:s.heap.objs.size∉[(s.heap.push (iO w)).objs.size,l]:=by
     rw[zz];simp only [aao,aan,acj,or_false,not_or];exact⟨abc (Nat.lt_succ_self _),Nat.ne_of_gt ll⟩
    refine IJ ((Walks.list h3 _ l neI items).toS) s.heap.objs.size offS (λ i=>ns.getD i 0) (λ i v hv=>IntsAre.int_at hi i v (by rw[acf];exact hv)) small (items.size - 0) 0 _ (by omega) (abw _)
     ⟨⟨_,aak _ rfl,rfl,rfl⟩,hl1.push _⟩ ⟨_,#[],0,_,aac _ gS,⟨rfl,rfl,rfl⟩,rfl,GH⟩ ?_
    intro s4 mv hS4;obtain⟨h4,g4,d4,tk4,os4⟩:=s4;obtain rfl:g4=s.gens:=mv.gens;obtain rfl:d4=s.drawn:=mv.drawn;obtain rfl:os4=s.os:=mv.os;show wpAny _ _ _ _ _ _;refine aaf ?_;show wpAny _ _ (ret Value.none) _ _ _;refine aaf ⟨rfl,h4,tk4,rfl,hS4,λ c o hc e=>?_⟩;exact mv.heap c o (by
     simp only [aao,aan,acj,or_false,not_or];exact⟨abc hc,by rw[zz];exact abc (Nat.lt_succ_of_lt hc)⟩) (aac _ (aac _ e))
   ·cases r2 with
    | error e=>exact hr2
    | ok fl2=>
     cases fl2 with
     | ret r=>
      obtain⟨rfl,h',tk,rfl,hS2,hk2⟩:=hr2
      repeat (any_goals (first | assumption | wp_step))
      exact k _ _ hS2 hk2
     | _=>exact hr2.elim
  | _=>exact hr.elim
end
theorem fP:Slot "set_iterator" "__next__" "set_iterator.__next__" :=
 .of (owner := "set_iterator") (n := "__next__") (by rw[typeLookup_type,builtinLookup_eq_fast];kernel_rfl) (by decide +kernel) (by decide +kernel) (by decide +kernel)
  (by first | exact .inl (by decide +kernel) | exact .inr (by decide +kernel)) (by rw[isSubtype_type];kernel_rfl)
theorem uO:entryFor table "set_iterator.__next__" = some Builtin.«set_iterator.__next__»:=entryFor_of_fast (by kernel_rfl)
theorem yD (a:Value):argsOk "set_iterator.__next__" ⟨[a],[]⟩:=by unfold argsOk;kernel_rfl
theorem mH:Slot "set" "__iter__" "set.__iter__" :=
 .of (owner := "set") (n := "__iter__") (by rw[typeLookup_type,builtinLookup_eq_fast];kernel_rfl) (by decide +kernel) (by decide +kernel) (by decide +kernel)
  (by first | exact .inl (by decide +kernel) | exact .inr (by decide +kernel)) (by rw[isSubtype_type];kernel_rfl)
theorem tS:entryFor table "set.__iter__" = some Builtin.«frozenset.__iter__»:=entryFor_alias (id' := "frozenset.__iter__") (by kernel_rfl) rfl (by decide +kernel) (by kernel_rfl)
theorem nX:Slot "set_iterator" "__iter__" "set_iterator.__iter__" :=
 .of (owner := "set_iterator") (n := "__iter__") (by rw[typeLookup_type,builtinLookup_eq_fast];kernel_rfl) (by decide +kernel) (by decide +kernel) (by decide +kernel)
  (by first | exact .inl (by decide +kernel) | exact .inr (by decide +kernel)) (by rw[isSubtype_type];kernel_rfl)
theorem uP:entryFor table "set_iterator.__iter__" = some Builtin.«dict_keyiterator.__iter__»:=entryFor_alias (id' := "dict_keyiterator.__iter__") (by kernel_rfl) rfl (by decide +kernel) (by kernel_rfl)
theorem yE (a:Value):argsOk "set_iterator.__iter__" ⟨[a],[]⟩:=by unfold argsOk;kernel_rfl
theorem uT (a:Value):argsOk "set.__iter__" ⟨[a],[]⟩:=by unfold argsOk;kernel_rfl
abbrev K5 (f:Value) (i:Nat) (S:Addr) (n ep:Nat):Obj:={ cls:=.type "set_iterator",data:=.fields #[f,rawInt (i:Int),.ref S,rawInt (n:Int),rawInt (ep:Int)] }
section
variable {prog:Program}{A:Around}{E:Value->Shared->Prop}{s:Shared}{I S:Addr}{o:Obj}{es:Array (Int×Value)}{ep i:Nat}{t:SetTable}
theorem yO {Q:Fin->Shared->Prop} (hh:A.handled=none) (hE:∀ h' e,(∀ c q,s.heap.get? c=some q->h'.get? c=some q)->(∃ q,h'.get? e=some q/\q.cls=.type "StopIteration")->E (.ref e) { s with heap:=h' }) :
  wpAny (model prog w) A (newExc (.type "StopIteration") [] >>= λ x=>raiseNew x) Q E s:=by
 refine aaa ?_;simp only [newExc,newTuple];refine aaa (wpAny_newObj_type ?_ (by size_fits));refine aaa (m:=firstArgMember _ _) (wpAny_of_eq (a:=Value.none) (by first | rfl | (simp only [firstArgMember];rfl)) (wpAny_newObj_type ?_ (by size_fits)));simp only [raiseNew];refine aaa (wpAny_handled ?_);rw[hh];exact aaa (aaf (wpAny_throw (hE _ _ (λ c q e=>aac _ (aac _ e)) ⟨_,aak _ rfl,rfl⟩)))
theorem gX {f:Value}{n:Nat}{Q:Option Value->Shared->Prop} (hI:s.heap.get? I=some (K5 f i S n ep))
  (h:wpAny (model prog w) A.in1 (Builtin.«set_iterator.__next__» ⟨[.ref I],[]⟩) (λ fin s'=>∃ v,fin=.done (.ret v)/\Q (some v) s') (λ e s'=>(∃ a q,e=.ref a/\s'.heap.get? a=some q/\q.cls=.type "StopIteration")/\Q none s') s) :
  wpAny (model prog w) A (pyNext (.ref I)) Q E s:=by
 have ty:s.TypeIs (.ref I) "set_iterator" := ⟨_,hI,rfl⟩;unfold pyNext;refine aaa (wpAny_attempt (wpAny_callSpecial?_slot (name:=Str.ofString "__next__") ty fP
  (wpAny_call_entry fP ty uO (abl h (λ fin s' z=>?_) λ e s' z=>?_) (yD _))))
 ·obtain⟨v,rfl,q⟩:=z;exact⟨v,rfl,aaf q⟩
 ·obtain⟨⟨a,q,rfl,ho,hc⟩,z⟩:=z;exact aaa (wpAny_isInstance (T := "StopIteration") (b:=true) ⟨q,ho,hc⟩ isSubtype_stop (aaf z))
theorem pB {f:Value}{n:Nat}{Q:Value->Shared->Prop} (hI:s.heap.get? I=some (K5 f i S n ep)) (k:Q (.ref I) s):wpAny (model prog w) A (pyIter (.ref I)) Q E s:=by
 have ty:s.TypeIs (.ref I) "set_iterator" := ⟨_,hI,rfl⟩;refine wpAny_pyIter_slot ty nX (wpAny_call_entry nX ty uP ?_ (yE _));show wpAny _ _ (ret (.ref I)) _ _ s;exact aaf ⟨_,rfl,"set_iterator",_,ty,fP.lookup,k⟩
theorem zS {slot nx:Nat}{x:Value}{Q:Fin->Shared->Prop} (hI:s.heap.get? I=some (K5 (rawInt (slot:Int)) i S es.size ep)) (g:s.heap.get? S=some o) (d:o.data=.set es ep t) (ft:t.fits es.size=true)
  (hn:∀ (R:Option (Value×Nat)->Shared->Prop),R (some (x,nx)) s->wpAny (model prog w) A (setNext S slot i ep) R E s)
  (k:∀ h',h'.get? I=some (K5 (rawInt (nx:Int)) (i+1) S es.size ep)->Heap.SameBut I s.heap h'->Q (.done (.ret x)) { s with heap:=h' }) :
  wpAny (model prog w) A (Builtin.«set_iterator.__next__» ⟨[.ref I],[]⟩) Q E s:=by
 show wpAny _ _ (fieldsOf (.ref I) >>= _) _ _ s;refine aaa (wpAny_fieldsOf hI rfl ?_);show wpAny _ _ (setEntries S >>= _) _ _ s;unfold setEntries;refine aaa (aaa (wpAny_setState_of g d ft (aaf ?_)));dsimp only;rw[if_neg (by simp)];show wpAny _ _ (setNext S (slot:Int).toNat (i:Int).toNat (ep:Int).toNat >>= _) _ _ s;rw[abu,abu,abu];refine aaa (hn _ ?_);refine aaa (wpAny_setField_rec hI (by simp) λ h1 g1 b1=>?_);refine aaa (wpAny_setField_rec (s:={ s with heap:=h1 }) g1 (by simp) λ h2 g2 b2=>?_);exact aaf (k h2 (by simp at g2;exact g2) (b1.trans b2))
theorem ED {slot:Nat}{Q:Fin->Shared->Prop} (hh:A.handled=none) (hI:s.heap.get? I=some (K5 (rawInt (slot:Int)) i S es.size ep)) (g:s.heap.get? S=some o) (d:o.data=.set es ep t) (ft:t.fits es.size=true)
  (hn:∀ (R:Option (Value×Nat)->Shared->Prop),R none s->wpAny (model prog w) A (setNext S slot i ep) R E s)
  (hE:∀ h' e,(∀ c q,c≠I->s.heap.get? c=some q->h'.get? c=some q)->(∃ q,h'.get? e=some q/\q.cls=.type "StopIteration")->E (.ref e) { s with heap:=h' }) :
  wpAny (model prog w) A (Builtin.«set_iterator.__next__» ⟨[.ref I],[]⟩) Q E s:=by
 show wpAny _ _ (fieldsOf (.ref I) >>= _) _ _ s;refine aaa (wpAny_fieldsOf hI rfl ?_);show wpAny _ _ (setEntries S >>= _) _ _ s;unfold setEntries;refine aaa (aaa (wpAny_setState_of g d ft (aaf ?_)));dsimp only;rw[if_neg (by simp)];show wpAny _ _ (setNext S (slot:Int).toNat (i:Int).toNat (ep:Int).toNat >>= _) _ _ s;rw[abu,abu,abu];refine aaa (hn _ ?_);refine aaa (wpAny_setField_rec hI (by simp) λ h1 g1 b1=>?_);exact yO (s:={ s with heap:=h1 }) hh λ h' e kp st=>hE h' e (λ c q hc z=>kp c q (by rw[b1.2 c hc];exact z)) st
theorem CG {T:Addr}{ps:Array Value}{m p:Nat}{tk:Tok}{hx:Int}{x:Value}{Q:Fin->Shared->Prop} (hI:s.heap.get? I=some (K5 (.ref T) i S es.size ep)) (g:s.heap.get? S=some o) (d:o.data=.set es ep t) (ft:t.fits es.size=true)
  (hT:s.heap.get? T=some { cls:=.type "tuple",data:=.seq ps m }) (hp:ps[i]? = some (.int (p:Int) tk)) (hx:es[p]? = some (hx,x))
  (k:∀ h',h'.get? I=some (K5 (.ref T) (i+1) S es.size ep)->Heap.SameBut I s.heap h'->Q (.done (.ret x)) { s with heap:=h' }) :
  wpAny (model prog w) A (Builtin.«set_iterator.__next__» ⟨[.ref I],[]⟩) Q E s:=by
 show wpAny _ _ (fieldsOf (.ref I) >>= _) _ _ s;refine aaa (wpAny_fieldsOf hI rfl ?_);show wpAny _ _ (setEntries S >>= _) _ _ s;unfold setEntries;refine aaa (aaa (wpAny_setState_of g d ft (aaf ?_)));dsimp only;rw[if_neg (by simp)];show wpAny _ _ (seqItems? (.ref T) >>= _) _ _ s;refine aaa (wpAny_seqItems hT rfl ?_);dsimp only;rw[abu,hp];dsimp only;unfold setNextDrawn;refine aaa (aaa (wpAny_setState_of g d ft ?_));dsimp only;rw[abu,abu,if_neg (by simp),hx];refine aaf (aaa (wpAny_setField_rec hI (by simp) λ h1 g1 b1=>?_));exact aaf (k h1 (by simp at g1;exact g1) b1)
theorem GL {T:Addr}{ps:Array Value}{m:Nat}{Q:Fin->Shared->Prop} (hh:A.handled=none) (hI:s.heap.get? I=some (K5 (.ref T) i S es.size ep)) (g:s.heap.get? S=some o) (d:o.data=.set es ep t) (ft:t.fits es.size=true)
  (hT:s.heap.get? T=some { cls:=.type "tuple",data:=.seq ps m }) (hp:ps[i]? = none)
  (hE:∀ h' e,(∀ c q,c≠I->s.heap.get? c=some q->h'.get? c=some q)->(∃ q,h'.get? e=some q/\q.cls=.type "StopIteration")->E (.ref e) { s with heap:=h' }) :
  wpAny (model prog w) A (Builtin.«set_iterator.__next__» ⟨[.ref I],[]⟩) Q E s:=by
 show wpAny _ _ (fieldsOf (.ref I) >>= _) _ _ s;refine aaa (wpAny_fieldsOf hI rfl ?_);show wpAny _ _ (setEntries S >>= _) _ _ s;unfold setEntries;refine aaa (aaa (wpAny_setState_of g d ft (aaf ?_)));dsimp only;rw[if_neg (by simp)];show wpAny _ _ (seqItems? (.ref T) >>= _) _ _ s;refine aaa (wpAny_seqItems hT rfl ?_);dsimp only;rw[abu,hp];dsimp only;refine aaa (wpAny_setField_rec hI (by simp) λ h1 g1 b1=>?_);refine aaa (wpAny_setField_rec (s:={ s with heap:=h1 }) g1 (by simp) λ h2 g2 b2=>?_);exact yO (s:={ s with heap:=h2 }) hh λ h' e kp st=>hE h' e (λ c q hc z=>kp c q (by rw[b2.2 c hc,b1.2 c hc];exact z)) st
theorem o0 {slot:Nat}{R:Option (Value×Nat)->Shared->Prop} (tx:w.params.followText "set-order" = true) (g:s.heap.get? S=some o) (d:o.data=.set es ep t) (ft:t.fits es.size=true)
  (k:R (((pickOrder (w.params.setOrder S ep) es)[i]?).map λ e=>(e.2,slot)) s):wpAny (model prog w) A (setNext S slot i ep) R E s:=by
 unfold setNext;refine aaa (wpAny_setState_of g d ft ?_);dsimp only;refine aaa (aaa (wpAny_askSetting (aaf ?_)));rw[show (Setting.mk (model prog w).prog (model prog w).w.params).params.followText "set-order" = true from tx,if_pos rfl,if_neg (by simp)];unfold setWalk;refine aaa (aaa (wpAny_setState_of g d ft ?_));dsimp only;refine aaa (aaa (wpAny_askSetting (aaf ?_)));rw[show (Setting.mk (model prog w).prog (model prog w).w.params).params.followText "set-order" = true from tx,if_pos rfl];exact aaa (wpAny_askSetting (aaf (aaf k)))
theorem mI {slot:Nat}{R:Option (Value×Nat)->Shared->Prop} (tx:w.params.followText "set-order" = false) (g:s.heap.get? S=some o) (d:o.data=.set es ep t) (ft:t.fits es.size=true) (pl:t.plain=true\/es.size<=1) (ld:t.led=true)
  (k:R (match es[SetTable.below t.place slot]?,t.place[SetTable.below t.place slot]? with | some (_,x),some j=>some (x,j+1) | _,_=>none) s):wpAny (model prog w) A (setNext S slot i ep) R E s:=by
 unfold setNext;refine aaa (wpAny_setState_of g d ft ?_);dsimp only;refine aaa (aaa (wpAny_askSetting (aaf ?_)));rw[show (Setting.mk (model prog w).prog (model prog w).w.params).params.followText "set-order" = false from tx,if_neg (by simp)];have nd:¬ ((!t.plain && decide (es.size > 1))=true):=by
  rcases pl with z | z
  ·rw[z];simp
  ·rw[acp (by omega)];simp
 show wpAny _ _ (if (!t.plain && decide (es.size > 1))=true then _ else _) _ _ s;rw[if_neg nd];refine aaa ?_;show wpAny _ _ (if (!t.led && !es.isEmpty)=true then _ else _) _ _ s;rw[ld,if_neg (by simp)];exact aaf (aaf k)
end
theorem nH {α:Type}:∀ {l:List α}{i:Nat}{x:α},l[i]? = some x->(x::l.eraseIdx i).Perm l
 | [],_,_,h=>by cases h
 | y::l,0,x,h=>by cases h;exact List.Perm.refl _
 | y::l,i+1,x,h=>by
  have ih:=nH (l:=l) (i:=i) (x:=x) h;exact (List.Perm.swap y x _).trans (ih.cons y)
theorem DQ {α:Type} (next:Nat->Nat):∀ (fuel k:Nat) (left:List α) (out:Array α),left.length=fuel->(pickOrder.go next fuel k left out).toList.Perm (out.toList++left)
 | 0,k,left,out,h=>by
  have:left=[]:=List.eq_nil_of_length_eq_zero h;subst this;show out.toList.Perm _;rw[acy]
 | fuel+1,k,left,out,h=>by
  have hm:next k % left.length < left.length:=Nat.mod_lt _ (by omega);have e:left[next k % left.length]? = some left[next k % left.length]:=aag hm;show (match left[next k % left.length]? with | some x=>pickOrder.go next fuel (k+1) (left.eraseIdx (next k % left.length)) (out.push x) | none=>out).toList.Perm _;rw[e];refine (DQ next fuel (k+1) _ _ (by rw[List.length_eraseIdx,if_pos hm];omega)).trans ?_;rw[Array.toList_push,acv];exact (nH e).append_left _
theorem pF {α:Type} (next:Nat->Nat) (xs:Array α):(pickOrder next xs).toList.Perm xs.toList:=by
 have:=DQ next xs.size 0 xs.toList #[] (abi);simpa [pickOrder] using this
section
variable {prog:Program}{A:Around}{E:Value->Shared->Prop}
theorem D3 {src:Source}{n:Nat}{s:Shared}{R:Nat->Shared->Prop} (hn:n≠0) (k:∀ i d,i < n->R i { s with drawn:=d }):wpAny (model prog w) A (choose src n) R E s:=λ Γ p _=>by
 unfold choose;rw[Sem.wp_choose];refine⟨hn,?_⟩;rw[Sem.wp_pure];exact k _ _ (Nat.mod_lt _ (Nat.pos_of_ne_zero hn))
theorem AA {α:Type}:∀ (n:Nat) (xs:List α) (s:Shared) (R:List α->Shared->Prop),xs.length=n->(∀ ys d,ys.Perm xs->R ys { s with drawn:=d })->wpAny (model prog w) A (drawOrder n xs) R E s
 | 0,xs,s,R,h,k=>by
  have:xs=[]:=List.eq_nil_of_length_eq_zero h;subst this;exact aaf (k [] s.drawn (List.Perm.refl _))
 | n+1,[],s,R,h,k=>by cases h
 | n+1,x::xs,s,R,h,k=>by
  unfold drawOrder;refine aaa (D3 (by simp) λ i d hi=>?_);have e:(x::xs)[i]? = some (x::xs)[i]:=aag hi;rw[e];refine aaa (AA n _ _ _ (by rw[List.length_eraseIdx,if_pos hi];omega) λ ys d2 p=>?_);exact aaf (k _ _ ((p.cons _).trans (nH e)))
end
theorem E2:∀ (vs:List Value),(∀ v∈vs,∃ i t,v=.int i t)->IntsAre vs (vs.map A5)
 | [],_=>.nil
 | v::vs,h=>by
  obtain⟨i,t,rfl⟩:=h v aat;exact .cons i t (E2 vs λ v hv=>h v (aap _ hv))
theorem gY {P:Nat->Value->Prop}{acc:Array Value}{vs:List Value} (h:ItemsOf P acc vs.length) (hP:∀ j v,P j v->vs[j]? = some v):acc.toList=vs:=by
 apply List.ext_getElem?;intro j;rcases Nat.lt_or_ge j acc.size with hj | hj
 ·have e:acc[j]? = some acc[j]:=abp hj;rw[acf,e,hP j _ (h.2 j _ e)]
 ·rw[acg (by rw[abi];exact hj),acg (by rw[<- h.1];exact hj)]
section
variable {prog:Program}{S I T:Addr}{o:Obj}{es:Array (Int×Value)}{ep:Nat}{t:SetTable}{L:List Int}
theorem AW {b:Bool}{vs:List Value}{es':List (Int×Value)} (c:Cnt prog w b L es t) (hp:es'.Perm es.toList) (e:vs=es'.map (·.2)):IntsAre vs (vs.map A5)/\(vs.map A5).Perm L:=by
 subst e;refine⟨E2 _ λ v hv=>?_,?_⟩
 ·obtain⟨x,hx,rfl⟩:=aaz.1 hv;exact KY c.el (hp.mem_iff.1 hx)
 ·rw[aca];exact (hp.map _).trans c.pm
def BM (pl:Array Nat):Nat->Nat
 | 0=>0
 | i+1=>pl.getD i 0+1
theorem rX {pl:Array Nat} (h:Up pl):∀ i,i<=pl.size->SetTable.below pl (BM pl i)=i
 | 0,_=>NG h
 | i+1,hi=>by
  have e:pl[i]? = some (pl.getD i 0):=by rw[Array.getD_eq_getD_getElem?,abp (by omega)];rfl
  exact D9 h e
theorem EW {A:Around} (hh:A.handled=none) (tx:w.params.followText "set-order" = true) (d:o.data=.set es ep t) (ft:t.fits es.size=true) (ne:S≠I) :
  Walks prog w A I [I,S] [I] es.size (λ i v=>((pickOrder (w.params.setOrder S ep) es).toList.map (·.2))[i]? = some v) (λ i h=>h.get? I=some (K5 (rawInt ((0:Nat):Int)) i S es.size ep)/\h.get? S=some o) where
 sub:=λ c hc=>by simp at hc;simp [hc]
 frame:=λ _ _ _ st k=>⟨k I (by simp) _ st.1,k S (by simp) _ st.2⟩
 item:=λ i s Q E hi st k=>by
  have ln:(pickOrder (w.params.setOrder S ep) es).size=es.size:=by rw[<- abi,(pF _ es).length_eq,abi]
  have e:(pickOrder (w.params.setOrder S ep) es)[i]? = some ((pickOrder (w.params.setOrder S ep) es)[i]'(by omega)):=abp _;refine gX st.1 (zS (x:=((pickOrder (w.params.setOrder S ep) es)[i]'(by omega)).2) (nx:=0) st.1 st.2 d ft (λ R r=>o0 tx st.2 d ft (by rw[e];exact r)) λ h' g b=>⟨_,rfl,?_⟩);refine k _ h' s.toks ?_ ⟨g,by rw[b.2 S ne];exact st.2⟩ λ c q hc z=>by rw[b.2 c (λ y=>hc (by simp [y]))];exact z
  rw[aaj,acf,e];rfl
 done:=λ s Q E st k=>by
  have ln:(pickOrder (w.params.setOrder S ep) es).size=es.size:=by rw[<- abi,(pF _ es).length_eq,abi]
  have e:(pickOrder (w.params.setOrder S ep) es)[es.size]? = none:=Array.getElem?_eq_none (by omega);refine gX st.1 (ED hh st.1 st.2 d ft (λ R r=>o0 tx st.2 d ft (by rw[e];exact r)) λ h' x kp sp=>⟨?_,k h' s.toks λ c q hc z=>kp c q (λ y=>hc (by simp [y])) z⟩);obtain⟨q,e1,e2⟩:=sp;exact⟨_,q,rfl,e1,e2⟩
 self:=λ i s Q E st k=>pB st.1 k
theorem AX {A:Around} (hh:A.handled=none) (tx:w.params.followText "set-order" = false) (d:o.data=.set es ep t) (ft:t.fits es.size=true) (pl:t.plain=true\/es.size<=1) (td:Tidy true t) (ne:S≠I) :
  Walks prog w A I [I,S] [I] es.size (λ i v=>(es.toList.map (·.2))[i]? = some v) (λ i h=>h.get? I=some (K5 (rawInt ((BM t.place i:Nat):Int)) i S es.size ep)/\h.get? S=some o) where
 sub:=λ c hc=>by simp at hc;simp [hc]
 frame:=λ _ _ _ st k=>⟨k I (by simp) _ st.1,k S (by simp) _ st.2⟩
 item:=λ i s Q E hi st k=>by
  have psz:t.place.size=es.size:=by
   simp only [SetTable.fits,Bool.and_eq_true,beq_iff_eq] at ft;exact ft.1
  have e1:es[i]? = some es[i]:=abp hi;have e2:t.place[i]? = some (t.place.getD i 0):=by rw[Array.getD_eq_getD_getElem?,abp (by omega)];rfl
  have sb:=rX td.up i (by omega);refine gX st.1 (zS (x:=es[i].2) (nx:=BM t.place (i+1)) st.1 st.2 d ft (λ R r=>mI tx st.2 d ft pl td.led (by rw[sb,e1,e2];exact r)) λ h' g b=>⟨_,rfl,?_⟩);refine k _ h' s.toks ?_ ⟨g,by rw[b.2 S ne];exact st.2⟩ λ c q hc z=>by rw[b.2 c (λ y=>hc (by simp [y]))];exact z
  rw[aaj,acf,e1];rfl
 done:=λ s Q E st k=>by
  have psz:t.place.size=es.size:=by
   simp only [SetTable.fits,Bool.and_eq_true,beq_iff_eq] at ft;exact ft.1
  have e1:es[es.size]? = none:=Array.getElem?_eq_none (aal _);have sb:=rX td.up es.size (by omega);refine gX st.1 (ED hh st.1 st.2 d ft (λ R r=>mI tx st.2 d ft pl td.led (by rw[sb,e1];exact r)) λ h' x kp sp=>⟨?_,k h' s.toks λ c q hc z=>kp c q (λ y=>hc (by simp [y])) z⟩);obtain⟨q,e1,e2⟩:=sp;exact⟨_,q,rfl,e1,e2⟩
 self:=λ i s Q E st k=>pB st.1 k
theorem KU {α ap:Type}{f:α->Option ap}:∀ (l:List α) (j:Nat),(∀ p∈l,∃ y,f p=some y)->(l.filterMap f)[j]? = l[j]?.bind f
 | [],j,_=>by simp
 | p::l,j,h=>by
  obtain⟨y,hy⟩:=h p aat;rw[List.filterMap_cons_some hy];cases j with
  | zero=>simp [hy]
  | succ j=>simpa using KU l j λ q hq=>h q (aap _ hq)
theorem AY {A:Around} (hh:A.handled=none) (d:o.data=.set es ep t) (ft:t.fits es.size=true) {ord:List Nat}{m:Nat} (hord:ord.Perm (List.range es.size)) (ne:S≠I) (neT:T≠I) :
  Walks prog w A I [I,S,T] [I] es.size (λ i v=>((ord.filterMap λ p=>es[p]?).map (·.2))[i]? = some v)
   (λ i h=>h.get? I=some (K5 (.ref T) i S es.size ep)/\h.get? S=some o/\h.get? T=some { cls:=.type "tuple",data:=.seq (ord.map λ (i:Nat)=>rawInt (i:Int)).toArray m }) where
 sub:=λ c hc=>by simp at hc;simp [hc]
 frame:=λ _ _ _ st k=>⟨k I (by simp) _ st.1,k S (by simp) _ st.2.1,k T (by simp) _ st.2.2⟩
 item:=λ i s Q E hi st k=>by
  have ln:ord.length=es.size:=by rw[hord.length_eq,acb]
  have all:∀ p∈ord,∃ y,es[p]? = some y:=λ p hp=>⟨_,abp (abz.1 (hord.mem_iff.1 hp))⟩;have e0:ord[i]? = some (ord[i]'(by omega)):=aag _;obtain⟨y,hy⟩:=all _ (aah e0);have e1:(ord.map λ (i:Nat)=>rawInt (i:Int)).toArray[i]? = some (.int (((ord[i]'(by omega)):Nat):Int) 0):=by
   rw[List.getElem?_toArray,aaj,e0];rfl
  refine gX st.1 (CG (x:=y.2) st.1 st.2.1 d ft st.2.2 e1 (show es[ord[i]'(by omega)]? = some (y.1,y.2) from hy) λ h' g b=>⟨_,rfl,?_⟩);refine k _ h' s.toks ?_ ⟨g,by rw[b.2 S ne];exact st.2.1,by rw[b.2 T neT];exact st.2.2⟩ λ c q hc z=>by rw[b.2 c (λ y=>hc (by simp [y]))];exact z
  rw[aaj,KU _ _ all,e0];show Option.map _ (es[ord[i]'(by omega)]?)=_;rw[hy];rfl
 done:=λ s Q E st k=>by
  have ln:ord.length=es.size:=by rw[hord.length_eq,acb]
  have e1:(ord.map λ (i:Nat)=>rawInt (i:Int)).toArray[es.size]? = none:=by
   rw[List.getElem?_toArray,aaj,acg (by omega)];rfl
  refine gX st.1 (GL hh st.1 st.2.1 d ft st.2.2 e1 λ h' x kp sp=>⟨?_,k h' s.toks λ c q hc z=>kp c q (λ y=>hc (by simp [y])) z⟩);obtain⟨q,e1,e2⟩:=sp;exact⟨_,q,rfl,e1,e2⟩
 self:=λ i s Q E st k=>pB st.1 k
theorem IK {A:Around}{E:Value->Shared->Prop}{s:Shared}{Q:Value->Shared->Prop} (hS:lQ prog w (!w.params.followText "set-order") s.heap S L)
  (k:∀ (I:Addr) (h':Heap) (d':Drawn) (fp:List Addr) (P:Nat->Value->Prop) (St:Nat->Heap->Prop),(∀ A':Around,A'.handled=none->Walks prog w A' I fp [I] L.length P St)->St 0 h'->I∈fp->(∀ c∈fp,c=S\/s.heap.objs.size<=c)->
   s.heap.objs.size<=I->(∀ c q,s.heap.get? c=some q->h'.get? c=some q)->(∀ acc:Array Value,ItemsOf P acc L.length->∃ ms,IntsAre acc.toList ms/\ms.Perm L)->Q (.ref I) { s with heap:=h',drawn:=d' }) :
  wpAny (model prog w) A (pyIter (.ref S)) Q E s:=by
 obtain⟨o,es,ep,t,g,x,d,c⟩:=hS;have ln:=DW c;rw[<- ln] at k;have ty:s.TypeIs (.ref S) "set" := ⟨o,g,x.1⟩;have sz:S < s.heap.objs.size:=aaq g;refine wpAny_pyIter_slot ty mH (wpAny_call_entry mH ty tS ?_ (uT _));show wpAny _ _ (Builtin.Frozenset.sizeOf S >>= _) _ _ s;unfold Builtin.Frozenset.sizeOf setEntries;refine aaa (aaa (aaa (wpAny_setState_of g d c.ft (aaf (aaf ?_)))));dsimp only;unfold setDrawn;refine aaa (aaa (wpAny_setState_of g d c.ft ?_));dsimp only;refine aaa (aaa (wpAny_askSetting (aaf (aaf ?_))));show wpAny _ _ (if (!w.params.followText "set-order" && (!t.plain && decide (es.size > 1)))=true then _ else _) _ _ s
 by_cases cd:(!w.params.followText "set-order" && (!t.plain && decide (es.size > 1)))=true
 ·rw[if_pos cd];refine aaa (AA es.size _ _ _ (by rw[acb]) λ ord d' hord=>?_);refine aaa (wpAny_newTuple ?_ (by rw[aad,hord.length_eq,acb];exact fits_of_scanBound c.bd));unfold setEpoch;refine aaa (aaa (wpAny_setState_of (aac _ g) d c.ft (aaf ?_)));refine aaa (wpAny_newObj_type (aaf ⟨_,rfl,"set_iterator",_,⟨_,aak _ rfl,rfl⟩,fP.lookup,?_⟩));have z1:(s.heap.push { cls:=.type "tuple",data:=.seq (ord.map λ (i:Nat)=>rawInt (i:Int)).toArray }).objs.size=s.heap.objs.size+1:=aci _ _;refine k _ _ d' _ _ _ (λ A' hh=>AY hh d c.ft hord (T:=s.heap.objs.size) (abc (by rw[z1];exact Nat.lt_succ_of_lt sz)) (abc (by rw[z1];exact Nat.lt_succ_self _)))
   ⟨aak _ rfl,aac _ (aac _ g),aac _ (aak _ rfl)⟩ (by simp) (λ b hb=>?_) (by rw[z1];exact Nat.le_succ _) (λ b q e=>aac _ (aac _ e)) λ acc ha=>?_
  ·simp only [aao,aan,acj,or_false] at hb;rcases hb with rfl | rfl | rfl
   ·right;rw[z1];exact Nat.le_succ _
   ·exact .inl rfl
   ·exact .inr (aal _)
  ·have pm:(ord.filterMap λ p=>es[p]?).Perm es.toList:=(hord.filterMap _).trans (by rw[filterMap_getElem?_range]);have hv:=AW c pm rfl;rw[show es.size=((ord.filterMap λ p=>es[p]?).map (·.2)).length by rw[aad,pm.length_eq,abi]] at ha;rw[gY ha λ j v h=>h];exact⟨_,hv⟩
 ·rw[if_neg cd];refine aaa (aaf ?_);unfold setEpoch;refine aaa (aaa (wpAny_setState_of g d c.ft (aaf ?_)));refine aaa (wpAny_newObj_type (aaf ⟨_,rfl,"set_iterator",_,⟨_,aak _ rfl,rfl⟩,fP.lookup,?_⟩));have fr:∀ b∈[s.heap.objs.size,S],b=S\/s.heap.objs.size<=b:=λ b hb=>by
   simp only [aao,aan,acj,or_false] at hb;rcases hb with rfl | rfl
   ·exact .inr (aal _)
   ·exact .inl rfl
  cases tx:w.params.followText "set-order" with
  | true=>
   refine k s.heap.objs.size _ s.drawn _ _ _ (λ A' hh=>EW hh tx d c.ft (abc sz)) ⟨aak _ rfl,aac _ g⟩ (by simp) fr (aal _) (λ b q e=>aac _ e) λ acc ha=>?_;have pm:=pF (w.params.setOrder S ep) es;have hv:=AW c pm rfl;rw[show es.size=((pickOrder (w.params.setOrder S ep) es).toList.map (·.2)).length by rw[aad,pm.length_eq,abi]] at ha;rw[gY ha λ j v h=>h];exact⟨_,hv⟩
  | false=>
   rw[tx] at cd c;have pl:t.plain=true\/es.size<=1:=by
    cases hp:t.plain with
    | true=>exact .inl rfl
    | false=>
     rw[hp] at cd;refine .inr (Nat.le_of_not_lt λ z=>cd ?_);simp [z]
   refine k s.heap.objs.size _ s.drawn _ _ _ (λ A' hh=>AX hh tx d c.ft pl c.td (abc sz)) ⟨aak _ rfl,aac _ g⟩ (by simp) fr (aal _) (λ b q e=>aac _ e) λ acc ha=>?_;have hv:=AW c (List.Perm.refl _) rfl;rw[show es.size=(es.toList.map (·.2)).length by rw[aad,abi]] at ha;rw[gY ha λ j v h=>h];exact⟨_,hv⟩
end
theorem JU:typeLookup (.type "set") "__len__" = pure (some (.builtin "set.__len__")):=by rw[typeLookup_type,builtinLookup_eq_fast];kernel_rfl
theorem II:isSubtype (.type "set") (.type "set")=pure true:=by rw[isSubtype_type];kernel_rfl
section
variable {prog:Program}{A:Around}{E:Value->Shared->Prop}{s:Shared}{S:Addr}{L:List Int}
theorem K4 {α:Type}{M:Model}{c:Prop} [Decidable c] {x y:Sem α}{Q:α->Shared->Prop} (hc:c) (h:wpAny M A x Q E s):wpAny M A (if c then x else y) Q E s:=by rw[if_pos hc];exact h
theorem KB {Q:Bool->Shared->Prop} (ty:s.TypeIs (.ref S) "set") (k:Q false s):wpAny (model prog w) A (Builtin.List.listLengthHint (.ref S)) Q E s:=by
 unfold Builtin.List.listLengthHint;refine aaa (wpAny_specialOf ty JU ?_);show wpAny _ _ (isInstance (.ref S) (.type "set") >>= _) _ _ s;refine aaa (wpAny_isInstance ty II ?_);rw[if_neg (by simp)];refine K4 (by decide +kernel) ?_;exact aaa (wpAny_typeOf ty (aaf k))
theorem AG {Q:List Value->Shared->Prop} (hh:A.handled=none) (hS:lQ prog w (!w.params.followText "set-order") s.heap S L) (hL:L.length<=sizeLine)
  (k:∀ (h':Heap) (d':Drawn) (tk:Nat) (vs:List Value) (ms:List Int),IntsAre vs ms->ms.Perm L->(∀ c q,s.heap.get? c=some q->h'.get? c=some q)->s.heap.objs.size<=h'.objs.size->Q vs { s with heap:=h',drawn:=d',toks:=tk }) :
  wpAny (model prog w) A (collect (.ref S)) Q E s:=by
 obtain⟨o,_,_,_,g,x,_⟩:=id hS;have sz:S < s.heap.objs.size:=aaq g;unfold collect;refine aaa (wpAny_runValue (codeAny_builtin F.entry_proto_collect ?_));rw[Around.under_plainId F.plain_proto_collect _];show wpAny _ A.in1 (newList [] >>= λ l=>again (.builtin "list.__iadd__" ⟨[l,.ref S],[]⟩)) _ _ s;refine aaa (wpAny_newObj_type (aaf ⟨plainId_quiet F.plain_list_iadd _,codeAny_builtin F.entry_list_iadd ?_⟩));rw[Around.under_plainId F.plain_list_iadd _];show wpAny _ A.in1 (Builtin.List.listExtendWith (.ref s.heap.objs.size) (.ref S) (.ref s.heap.objs.size)) _ _ { s with heap:=s.heap.push { cls:=.type "list",data:=.seq ([]:List Value).toArray } };have hl1:(s.heap.push { cls:=.type "list",data:=.seq ([]:List Value).toArray }).get? s.heap.objs.size=some { cls:=.type "list",data:=.seq ([]:List Value).toArray }:=aak _ rfl;have kp1:∀ c q,s.heap.get? c=some q->(s.heap.push { cls:=.type "list",data:=.seq ([]:List Value).toArray }).get? c=some q:=λ c q e=>aac _ e;have zz:(s.heap.push { cls:=.type "list",data:=.seq ([]:List Value).toArray }).objs.size=s.heap.objs.size+1:=aci _ _;generalize s.heap.push { cls:=.type "list",data:=.seq ([]:List Value).toArray }=h1 at hl1 kp1 zz ⊢;have hS1:lQ prog w (!w.params.followText "set-order") h1 S L:=hS.at λ q e=>kp1 S q e;unfold Builtin.List.listExtendWith;refine aaa (wpAny_typeOf (T := "set") ⟨o,kp1 S o g,x.1⟩ ?_);have e1:Builtin.List.listSameRef (.ref s.heap.objs.size) (.ref S)=false:=by
  have:s.heap.objs.size≠S:=Nat.ne_of_gt sz;simp [Builtin.List.listSameRef,this]
 have e2:(Value.type "set" == Value.type "list")=false:=by decide
 have e3:(Value.type "set" == Value.type "tuple")=false:=by decide
 simp only [e1,e2,e3,Bool.or_false,Bool.false_eq_true,if_false];refine aaa (IK (s:={ s with heap:=h1 }) hS1 λ I h2 d2 fp P St Wk st0 hI hfp hIge kp2 yl=>?_);refine aaa (abq (KB ⟨o,kp2 S o (kp1 S o g),x.1⟩ ?_));refine K4 (by decide +kernel) ?_;refine aaa (acz (aaa ?_));show wpAny _ A.in1 (updateSeq s.heap.objs.size (·.push .none) >>= λ _=>updateSeq s.heap.objs.size (·.pop)) _ _ _;have hl2:=kp2 _ _ hl1;refine aaa (wpAny_updateSeq hl2 rfl ?_);have hl3:=acw (Obj.mapSeq (·.push Value.none)) hl2 rfl;refine wpAny_updateSeq hl3 rfl ?_;have hl4:=acw (Obj.mapSeq (·.pop)) hl3 rfl;have kp4:∀ c q,c≠s.heap.objs.size->h2.get? c=some q->((h2.update s.heap.objs.size (Obj.mapSeq (·.push Value.none))).update s.heap.objs.size (Obj.mapSeq (·.pop))).get? c=some q:=
  λ c q hc e=>(adi _ _ (Ne.symm hc)).trans ((adi _ _ (Ne.symm hc)).trans e)
 have off:s.heap.objs.size∉fp:=λ z=>by
  rcases hfp _ z with e | e
  ·exact absurd e (Nat.ne_of_gt sz)
  ·rw[zz] at e;exact absurd e (Nat.not_succ_le_self _)
 have neI:∀ c,c < s.heap.objs.size->c≠I:=λ c hc e=>by
  rw[zz] at hIge;exact absurd (aax (Nat.lt_succ_of_lt hc) hIge) (by rw[e];exact acn _)
 refine aaf ⟨plainId_quiet F.plain_extend_loop _,codeAny_extend_loopS ((Wk A.in1 hh).toS) hL _ off _ L.length 0 _ _ _ rfl (abw _)
  ((Wk A.in1 hh).frame 0 h2 _ st0 λ c hc q e=>kp4 c q (λ z=>off (z ▸ hc)) e) hl4 (ItemsOf.nil P) λ s5 acc n5 mv hl5 ha=>?_⟩
 obtain⟨h5,g5,d5,tk5,os5⟩:=s5;obtain rfl:g5=s.gens:=mv.gens;obtain rfl:d5=d2:=mv.drawn;obtain rfl:os5=s.os:=mv.os;show wpAny _ A (load s.heap.objs.size >>= _) _ _ _;refine aaa (wpAny_load hl5 (aaf ?_));obtain⟨ms,i1,i2⟩:=yl acc ha;have keep:∀ c q,s.heap.get? c=some q->h5.get? c=some q:=λ c q e=>by
  have hc:=aaq e;refine mv.heap c q ?_ (kp4 c q (abc hc) (kp2 c q (kp1 c q e)));simp only [aao,aan,acj,or_false,not_or];exact⟨abc hc,neI c hc⟩
 refine k h5 _ tk5 _ ms i1 i2 keep ?_;exact ade (aaq hl5)
theorem BL {Q:Value->Shared->Prop} (hh:A.handled=none) (hS:lQ prog w (!w.params.followText "set-order") s.heap S L) (h64:L.length < 64)
  (k:∀ (l:Addr) (h':Heap) (d':Drawn) (tk:Nat) (out:Array Value) (ms:List Int) (e:Nat),IntsAre out.toList ms->ms.Perm L->ms.Pairwise (·<=·)->s.heap.objs.size<=l->h'.get? l=some (seqObj "list" out e)->
   (∀ c q,s.heap.get? c=some q->h'.get? c=some q)->Q (.ref l) { s with heap:=h',drawn:=d',toks:=tk }) :
  wpAny (model prog w) A (call (.builtin "sorted") [.ref S]) Q E s:=by
 refine Calls.call_function_entry kind_sorted plain_sorted entry_sorted (args_sorted1 _) ?_;unfold Builtin.«sorted»;refine aaa (m:=checkCount "sorted" 1 1 _) (aaf ?_);refine aaa (AG hh hS (by rw[sizeLine_eq];omega) λ h1 d1 tk1 vs ns i1 i2 keep le=>?_);have hv:vs.length < 64:=by rw[IntsAre.length i1,i2.length_eq];exact h64
 refine aaa (wpAny_newList ?_);have hoL:(h1.push (seqObj "list" vs.toArray 0)).get? h1.objs.size=some (seqObj "list" vs.toArray 0):=aak _ rfl;refine aaa (abq (wpAny_call_entry slot_list_sort ⟨_,hoL,rfl⟩ entry_list_sort (list_sort_tree hoL i1 hv λ out ms a1 a2 a3=>⟨_,rfl,?_⟩) (args_list_sort _)));obtain⟨e,he⟩:=sortedHeap_at (vs:=vs) (out:=out) hoL;refine aaf ⟨_,rfl,k h1.objs.size _ _ _ out ms e a1 (a2.trans i2) a3 le he λ c q hc=>?_⟩;have hlt:=aaq (keep c q hc);rw[sortedHeap_old (abc hlt) (by rw[size_push'];exact Nat.lt_succ_of_lt hlt)];exact aac _ (keep c q hc)
end
end TwS
namespace L2
open PySem PySem.Spec PyProof.Rows TwZ TwS
def OZ (P:Program) (w:World) (a:Addr) (L:List Int):HO:=.ext λ h=>lQ P w (!w.params.followText "set-order") h a L
def Q7 (ns:List Int):List Int:=dd (λ i=>ns.getD i 0) ns.length
theorem N9 {ns:List Int}{k:Int}:k∈Q7 ns↔k∈ns:=by
 unfold Q7;rw[L4];constructor
 ·rintro⟨i,hi,e⟩;rw[aai,aag hi] at e;rw[<- e];exact ada hi
 ·intro h;obtain⟨i,hi,e⟩:=List.mem_iff_getElem.1 h;exact⟨i,hi,by rw[aai,aag hi,e];rfl⟩
theorem GP (ns:List Int):(Q7 ns).Nodup:=AE _ _
theorem NA (ns:List Int):(Q7 ns).length<=ns.length:=CY _ _
section
variable {X:Cx}{pins:List (Addr×Obj)}{σ:St}{H:Hp}{s:Shared}
theorem Inv.drew {d:Drawn} (I:Inv X pins σ H s):Inv X pins σ H { s with drawn:=d }:=⟨I.ok,I.os,I.bare,I.base,I.loc,I.cell,I.free,I.freeC,I.pin,I.hok,I.len⟩
def R9 (P:Program) (w:World) (K:aab):List V->Hp->VK->Prop:=λ xs H Q=>∃ (p:Addr) (ns:List Int),xs=[.ref p]/\bR K H p (ns.map V.int)/\ns.length<=1000/\∀ a,H a=none->Q (.ref a) (upd H a (OZ P w a (Q7 ns)))
theorem HA (hc:X.calm=true):dZ X (.type "set") (R9 X.prog X.w X.K):=by
 intro pins s σ H xs us Q I r h;obtain⟨p,ns,rfl,hq,hn,q⟩:=h;obtain⟨u,rfl,ru⟩:=r.one;cases ru;obtain⟨its,rv,p1,hz⟩:=I.list hq;have ia:=nF rv;have il:its.length=ns.length:=IntsAre.length ia;refine L8 (I.ok.hd hc) p1.isList (by simpa using ia) (by rw[aaw,il];unfold scanBound;omega) λ h' tk hS hk=>?_;rw[show its.toArray.size=ns.length by rw[aaw,il]] at hS;obtain⟨o,es,ep,t,g,r⟩:=id hS;exact⟨.ref s.heap.objs.size,_,I.laid (λ b u e=>hk b u (aaq e) e) (aal _) (show bQ X.prog X.w _ h' _ (OZ X.prog X.w s.heap.objs.size (Q7 ns)) from ⟨hS,⟨o,g⟩,λ h1 h2 x e=>x.at e⟩),rfl,q _ I.fresh⟩
def R8 (P:Program) (w:World):List V->Hp->VK->Prop:=λ xs H Q=>∃ (a:Addr) (L:List Int),xs=[.ref a]/\H a=some (OZ P w a L)/\L.length < 64/\∀ (l:Addr) (ms:List Int),H l=none->ms.Perm L->ms.Pairwise (·<=·)->Q (.ref l) (upd H l (.lst (ms.map V.int)))
theorem rK:∀ {vs:List Value}{ns:List Int},IntsAre vs ns->bL (ns.map V.int) vs
 | _,_,.nil=>.nil
 | _,_,.cons n t h=>.cons ⟨t,rfl⟩ (rK h)
theorem GY (hc:X.calm=true):dZ X (.builtin "sorted") (R8 X.prog X.w):=by
 intro pins s σ H xs us Q I r h;obtain⟨a,L,rfl,hq,hn,q⟩:=h;obtain⟨u,rfl,ru⟩:=r.one;cases ru;obtain⟨hS,_,_⟩:lQ X.prog X.w (!X.w.params.followText "set-order") s.heap a L/\_:=I.hok a _ hq;refine BL (I.ok.hd hc) hS hn λ l h' d' tk out ms e i1 i2 i3 le hl keep=>?_;refine⟨.ref l,upd H l (.lst (ms.map V.int)),(I.drew (d:=d')).laid keep le (show bQ X.prog X.w _ h' _ (.lst (ms.map V.int)) from ⟨?_,out.toList,e,rK i1,by rw[Array.toArray_toList];exact hl⟩),rfl,q l ms (I.hok.fresh le) i2 i3⟩;rw[aad,i2.length_eq,sizeLine_eq];omega
theorem GZ {P:Program}{w:World}{K:aab} (hP:X.prog=P) (hw:X.w=w) (hK:X.K=K) (hc:X.calm=true):dZ X (.type "set") (R9 P w K):=by
 subst hP hw hK;exact HA hc
theorem GX {P:Program}{w:World} (hP:X.prog=P) (hw:X.w=w) (hc:X.calm=true):dZ X (.builtin "sorted") (R8 P w):=by
 subst hP hw;exact GY hc
theorem HE:bootBuiltins "set" = some (.type "set"):=by decide +kernel
end
structure Rises (ns ms:List Int):Prop where
 up:ms.Pairwise (· < ·)
 mem:∀ k,k∈ms↔k∈ns
theorem IO {ns ms:List Int} (p:ms.Perm (Q7 ns)) (h:ms.Pairwise (·<=·)):Rises ns ms where
 up:=by
  have nd:ms.Nodup:=p.nodup_iff.2 (GP ns);exact (h.and nd).imp λ {a b} z=>by have:=z.1;have:=z.2;omega
 mem:=λ k=>by rw[p.mem_iff,N9]
end L2
namespace Tw
open PySem L2
def fL (l:List Nat):List V:=l.map λ (i:Nat)=>V.int (i:Int)
theorem NO {H:Hp}{net:Net}{ys:List V}{j:Nat} (l:IsL K H (net.sps.map yT) ys) (hj:j < net.sps.length):∃ a fl dr,ys[j]? = some (.ref a)/\bC K H a [.int (qM net (j:Int)),.int fl,.bl dr]:=by
 obtain⟨v,hv,iv⟩:=l.get (i:=j) (d:=yT net.sps[j]) (by rw[aaj,aag hj];rfl);obtain⟨a,xs,rfl,q,lx⟩:=(show Is K H (.tup [.int net.sps[j].1,.int net.sps[j].2.1,.bl net.sps[j].2.2]) v from iv).un;obtain⟨x1,r,rfl,h1,lx⟩:=lx.un;obtain⟨x2,r,rfl,h2,lx⟩:=lx.un;obtain⟨x3,r,rfl,h3,lx⟩:=lx.un;have:=lx.un0;subst this;have e:qM net (j:Int)=net.sps[j].1:=by
  unfold qM;rw[abu,aai,aag hj];rfl
 have e1:=h1.ui;have e2:=h2.ui;have e3:=h3.ub;subst e1 e2 e3;exact⟨a,_,_,hv,by rw[e];exact q⟩
def wR (K:aab):Sp:=λ vs H Q _=>∃ (x y:V) (net:Net) (v:Vs),vs=[x,y]/\Is K H (rJ v) x/\Is K H (.tup (net.sps.map yT)) y/\VOk net.vs.length net.sps.length v/\
 ∀ l H',aG H H'->H l=none->H' l=some (.lst ((eQ net v).map iB))->Q (.ref l) H'
theorem qC:FnScope ["vessel","spouts","size","brim","outs","holds","spill","acts"] ["vessel","spouts"] (aM (bO 12)):={}
theorem zP {f:Addr}{fd:FuncData} (F:Fun K "leads_to" "leads_to" (bO 12) f fd) (T:Txt mg):FnOk P w K mg base mG 1 f fd ["vessel","spouts"] (wR K):=by
 refine F.ok qC (λ vs H Q E h=>?_) (λ cdv A outer s H vs Q E hr h=>?_)
 ·obtain⟨x,y,net,v,rfl,_⟩:=h;rfl
 ·obtain⟨x,y,net,v,rfl,hx,hy,ok,k⟩:=h;have sc:=qC;refine⟨_,(aD (cI (pv 0) (aU (K:=K) (n:=6) rfl rfl (aE (aF (i:=2) sc.nd rfl (Or.inl rfl)) (aE (aF (i:=3) sc.nd rfl (Or.inl rfl)) (aE (aF (i:=4) sc.nd rfl (Or.inl rfl)) (aE (aF (i:=5) sc.nd rfl (Or.inl rfl)) (aE (aF (i:=6) sc.nd rfl (Or.inl rfl)) (aE (aF (i:=7) sc.nd rfl (Or.inl rfl)) aS))))))))
   (aJ (bH (bB xH (bB xH (i5 (λ _ _ h=>h) rfl (LcOk.mk (N':=["target","parts"]) (fr:=[none,none]) rfl trivial rfl rfl rfl rfl rfl trivial) (fR (K:=K) rfl (pv 4)) (λ _ _ _=>(aU (K:=K) (n:=2) rfl rfl (aE (aF (i:=0) (show (["target","parts"]:List Str).Nodup by decide +kernel) rfl (Or.inl rfl) (Or.inr rfl)) (aE (aF (i:=1) (show (["target","parts"]:List Str).Nodup by decide +kernel) rfl (Or.inl rfl) (Or.inr rfl)) aS)))) (λ _ _ _=>cG) (λ _ _ _=>(pv 0))) (cJ (aA (pv 6) aC))) (i5 (λ _ _ h=>h) rfl (LcOk.mk (N':=["word","spout","spouts"]) (fr:=[none,none,some 1]) rfl ⟨rfl,trivial⟩ rfl rfl rfl rfl rfl ⟨⟨_,rfl,rfl,rfl,rfl⟩,trivial⟩) (fR (K:=K) rfl (pv 7)) (λ _ _ _=>(aU (K:=K) (n:=2) rfl rfl (aE (aF (i:=0) (show (["word","spout","spouts"]:List Str).Nodup by decide +kernel) rfl (Or.inl rfl) (Or.inr rfl)) (aE (aF (i:=1) (show (["word","spout","spouts"]:List Str).Nodup by decide +kernel) rfl (Or.inl rfl) (Or.inr rfl)) aS)))) (λ _ _ _=>cG) (λ _ _ _=>(bA (aO (K:=K) rfl) (bA (aO (K:=K) rfl) (pv 2) (pv 1) (λ _ _=>rfl)) aH (λ _ _=>rfl)))))))),?_⟩
  obtain⟨va,o,c,rfl,qv,ho,hc⟩:=yH hx;obtain⟨oa,os,rfl,qo,lo⟩:=ho.un;obtain⟨ca,cs,rfl,qc,lc⟩:=hc.un;obtain⟨sa,ss,rfl,qs,ls⟩:=hy.un;have eol:os.length=v.outs.length:=by rw[lo.length,aad]
  have ecl:cs.length=v.acts.length:=by rw[lc.length,aad]
  have o3:=ok.o3;have a3:=ok.a3;refine⟨_,rfl,va,_,rfl,qv,rfl,_,_,rfl,_,_,rfl,_,_,rfl,_,_,rfl,_,_,rfl,_,_,rfl,rfl,?_⟩;refine⟨_,rfl,oa,rfl,⟨_,qo⟩,lI (K:=K) (a:=oa) (xs:=os) (λ D i r Z H'=>H D=none/\aG H H'/\H' D=some (.lst r)/\r=(v.outs.take i).map (λ o=>iB o.1)/\∃ u1 u2,Z=[u1,u2])
   (λ D i r Z H' p=>p.2.1.tup qo) (λ D hD=>⟨hD,aG.new hD,aB,rfl,none,none,rfl⟩) ?_ ?_⟩
  rotate_left
  ·rintro D i y r Z H1 hy ⟨hD,sm,hDl,rfl,u1,u2,rfl⟩;obtain⟨t,ht,ta,rfl,qt⟩:=rA lo hy;refine⟨ta,_,rfl,sm.tup qt,rfl,_,_,rfl,_,_,rfl,rfl,?_⟩;refine⟨_,rfl,hDl,aW (by rw[aad,aav];omega),hD,sm.put hD,aB,?_,_,_,rfl⟩;rw[acx,ht,aam];rfl
  rintro D1 r Z H1 ⟨hD1,s1,hD1l,rfl,_⟩;rw[eol,acq (aal _)] at hD1l;refine⟨_,rfl,(show 1<=sizeLine by decide),λ p2 hp2=>⟨D1,p2,_,_,rfl,rfl,aG.new hp2 _ _ hD1l,aB,ade (aW (by rw[aad];show v.outs.length+1<=1000;omega)),λ p3 hp3=>?_⟩⟩;have s3:=(s1.trans (aG.new (o:=HO.lst [iB v.spill]) hp2)).trans (aG.new (o:=HO.lst (v.outs.map (λ o=>iB o.1)++[iB v.spill])) hp3);have g3:upd (upd H1 p2 (.lst [iB v.spill])) p3 (.lst (v.outs.map (λ o=>iB o.1)++[iB v.spill])) p3=some (.lst (v.outs.map (λ o=>iB o.1)++[iB v.spill])):=aB;generalize upd (upd H1 p2 (.lst [iB v.spill])) p3 (.lst (v.outs.map (λ o=>iB o.1)++[iB v.spill]))=H3 at s3 g3 ⊢;refine⟨_,rfl,ca,rfl,⟨_,s3.tup qc⟩,lI (K:=K) (a:=ca) (xs:=cs) (λ D i r Z H'=>H3 D=none/\aG H3 H'/\H' D=some (.lst r)/\r=(v.acts.take i).map (λ a=>iB (some (qM net a.2)))/\∃ u1 u2,Z=[u1,u2,some (.ref sa)])
   (λ D i r Z H' p=>p.2.1.tup (s3.tup qc)) (λ D hD=>⟨hD,aG.new hD,aB,rfl,none,none,rfl⟩) ?_ ?_⟩
  rotate_left
  ·rintro D i y r Z H4 hy ⟨hD,sm,hDl,rfl,u1,u2,rfl⟩;have s4:=s3.trans sm;obtain⟨a,ha,ta,rfl,qt⟩:=rF (L2.IsL.mono s4.ts _ _ lc) hy;have aok:=ok.acts a (aah ha);obtain⟨j,hj⟩:∃ j:Nat,a.2=(j:Int):=⟨a.2.toNat,by have:=aok.lo;omega⟩;have hjl:j < net.sps.length:=by have:=aok.hi;omega
   obtain⟨pa,fl,dr,hpa,qpa⟩:=NO (L2.IsL.mono s4.ts _ _ ls) hjl;refine⟨ta,_,rfl,qt,rfl,_,_,rfl,_,_,rfl,rfl,?_⟩;refine⟨_,rfl,_,rfl,.inr (.inl ⟨sa,_,_,_,rfl,rfl,s4.tup qs,by rw[hj];exact gH hpa,.inr (.inl ⟨pa,_,0,_,rfl,rfl,qpa,rfl,hDl,aW (by rw[aad,aav];omega),hD,sm.put hD,aB,?_,_,_,rfl⟩)⟩)⟩;rw[acx,ha,aam,<- hj];rfl
  rintro D4 r Z H4 ⟨hD4,s4,hD4l,rfl,_⟩;rw[ecl,acq (aal _)] at hD4l;refine⟨p3,D4,_,_,rfl,rfl,s4 _ _ g3,hD4l,ade (aW (by rw[aau,aad,aad];show v.outs.length+1+v.acts.length<=1000;omega)),λ p5 hp5=>?_⟩;refine k p5 _ ((s3.trans s4).trans (aG.new hp5)) ((s3.trans s4).free hp5) ?_;rw[aB];unfold eQ;rw[aam,aam,aca,aca];rfl
theorem CQ (j:Int):∀ l:List (Option Int),E5 (.int j) (l.map iB)=decide (some j∈l)
 | []=>rfl
 | none::l=>by
  show (vT .non (.int j) || E5 (.int j) (l.map iB))=_;rw[CQ j l];show (false || decide (some j∈l))=_;rw[Bool.false_or,decide_eq_decide];simp
 | some i::l=>by
  show (vT (.int i) (.int j) || E5 (.int j) (l.map iB))=_;rw[CQ j l];show ((i == j) || decide (some j∈l))=_
  by_cases e:i=j
  ·subst e;simp
  ·have h1:(i == j)=false:=by simp [e]
   have h2:decide (some j∈some i::l)=decide (some j∈l):=by
    rw[decide_eq_decide];simp [Ne.symm e]
   rw[h1,h2,Bool.false_or]
theorem N7 (l:List (Option Int)):(l.map iB).all iJ=true:=by
 rw[acr];intro z hz;obtain⟨i,_,rfl⟩:=aaz.1 hz;cases i <;> rfl
structure MatS (net:Net) (w:Nat) (S:List Nat):Prop where
 up:S.Pairwise (· < ·)
 mem:∀ x,x∈S↔x∈eW net w\/x=0
theorem G2 {net:Net}{w:Nat}{ms:List Int} (h:Rises ((eW net w++[0]).map λ (i:Nat)=>(i:Int)) ms):∃ S:List Nat,ms.map V.int=fL S/\MatS net w S:=by
 have nn:∀ x∈ms,∃ i:Nat,i∈eW net w++[0]/\x=(i:Int):=λ x hx=>by
  obtain⟨i,hi,rfl⟩:=aaz.1 ((h.mem x).1 hx);exact⟨i,hi,rfl⟩
 have mm:∀ x:Nat,x∈ms.map Int.toNat↔x∈eW net w++[0]:=λ x=>by
  constructor
  ·intro hx;obtain⟨y,hy,rfl⟩:=aaz.1 hx;obtain⟨i,hi,rfl⟩:=nn y hy;exact hi
  ·intro hx;exact aaz.2 ⟨(x:Int),(h.mem _).2 (aaz.2 ⟨x,hx,rfl⟩),by omega⟩
 refine⟨ms.map Int.toNat,?_,?_,λ x=>?_⟩
 ·unfold fL;rw[aca];apply adf;intro x hx;obtain⟨i,_,rfl⟩:=nn x hx;rfl
 ·rw[List.pairwise_map];refine h.up.imp_of_mem λ {a b} ha hb hab=>?_;obtain⟨i,_,rfl⟩:=nn a ha;obtain⟨j,_,rfl⟩:=nn b hb;omega
 ·rw[mm x,abk,aan]
theorem G1 (f:List Nat):fL f++[V.int 0]=((f++[0]).map λ (i:Nat)=>(i:Int)).map V.int:=by
 unfold fL;rw[aca,aam];rfl
def p6 (K:aab) (cV:Addr):Sp:=λ vs H Q E=>∃ (x:V) (net:Net) (v:Int),vs=[x,.int v]/\Is K H (gB net) x/\NetOk net/\
 ((¬ (0<=v/\v < net.vs.length)/\E (.ref cV) none H)\/∃ j:Nat,v=(j:Int)/\j < net.vs.length/\∀ p S H',aG H H'->bC K H' p (fL S)->MatS net j S->Q (.ref p) H')
theorem sF:FnScope ["net","watched","vessels","spouts","found","place","number","vessel"] ["net","watched"] (aM (bO 11)):={}
theorem zO {f f1 f2:Addr}{fd fd1 fd2:FuncData} (F:Fun K "matters" "matters" (bO 11) f fd) (T:Txt mg) (G_need_vessel:CalleeR P w K mg base "need_vessel" ["net","number"] 2 (qZ K c_NoVessel) f1 fd1)
  (G_leads_to:Callee P w K mg base "leads_to" ["vessel","spouts"] 1 (wR K) f2 fd2):FnOk P w K mg base (nO P w) 3 f fd ["net","watched"] (p6 K c_NoVessel):=by
 refine F.okR sF (λ vs H Q E h=>?_) (λ cdv A outer s H vs Q E hr h L=>?_)
 ·obtain⟨x,net,v,rfl,_⟩:=h;rfl
 ·obtain⟨x,net,v,rfl,hx,nok,k⟩:=h;have sc:=sF;refine⟨_,(aD (dA (gQ G_need_vessel.ok (hr.mono (by decide)) rfl G_need_vessel.mg G_need_vessel.kp G_need_vessel.bd .nil (jW L) (aA (pv 0) (aA (pv 1) aC))))
   (aD (cI (pv 0) (aU (K:=K) (n:=2) rfl rfl (aE (aF (i:=2) sc.nd rfl (Or.inl rfl)) (aE (aF (i:=3) sc.nd rfl (Or.inl rfl)) aS))))
   (aD (PD (i:=4) (j:=5) rfl sc.nd rfl rfl (by decide) rfl rfl (aA (cJ (aA (pv 1) aC)) (aA aH aC)) rfl)
   (aD (lV λ pn=>(sM PassesOwn.never (bE sV (pv 5) (bD (cD (K:=K) rfl) rfl T.b_len ace (aA (pv 4) aC)) (bP _)) (aD (eD PassesOwn.never rfl (iZ (K:=K) rfl rfl T.b_enumerate (aA (pv 2) aC)) (aU (K:=K) (n:=2) rfl rfl (aE (aF (i:=6) sc.nd rfl (Or.inl rfl)) (aE (aF (i:=7) sc.nd rfl (Or.inl rfl)) aS))) (aJ (eF (PW.pt (mX (bE (ML (K:=K) rfl) (pv 6) (pv 4) (by rfl)) (jU (bE (CA (K:=K) rfl) (bA (aO (K:=K) rfl) (pv 4) (pv 5) (λ _ _=>rfl)) (eG G_leads_to hr (aA (pv 7) (aA (pv 3) aC))) (by rfl))))) (aJ (dA (gA (K:=K) rfl abm abn abo cX (pv 4) (aA (pv 6) aC)))) cA)))
   (aJ (BR (i:=5) sc.nd rfl (Or.inl rfl) aH CP)))))
   (aJ (bH (aV (bN (K:=K) rfl) rfl T.b_tuple bV (aA (bD (GX (P:=P) (w:=w) rfl rfl rfl) rfl T.b_sorted PyProof.Rows.boot_sorted (aA (aV (GZ (P:=P) (w:=w) (K:=K) rfl rfl rfl rfl) rfl T.b_set HE (aA (bB xH (pv 4) (cJ (aA aH aC))) aC)) aC)) aC)))))))),?_⟩
  refine⟨_,rfl,_,rfl,x,net,v,rfl,hx,?_⟩;rcases k with ⟨hn,k⟩ | ⟨j,rfl,hj,k⟩
  ·exact .inr ⟨hn,k⟩
  refine .inl ⟨by omega,by omega,?_⟩;have n12:=nok.hi;obtain⟨na,nb,nc,xs,ys,rfl,qn,qv,lv,qs,ls⟩:=iM hx;have exl:xs.length=net.vs.length:=by rw[lv.length,aad]
  refine⟨_,rfl,na,_,rfl,qn,rfl,_,_,rfl,_,_,rfl,rfl,?_⟩;refine⟨_,rfl,(show 1<=sizeLine by decide),λ fl hfl=>⟨_,_,rfl,?_⟩⟩;refine⟨λ m Z H'=>∃ (p:Nat) (f:List Nat) (v6 v7:Option V),m=13 - p/\WalkAt net j p f/\aG H H'/\H' fl=some (.lst (fL f))/\Z=[some (.ref na),some (.int (j:Int)),some (.ref nb),some (.ref nc),some (.ref fl),some (.int (p:Int)),v6,v7],
   ⟨13,0,[j],none,none,rfl,WalkAt.first hj,aG.new hfl,aB,rfl⟩,?_⟩
  rintro m Z H1 ⟨p,f,v6,v7,rfl,wa,s1,hf1,rfl⟩;have fle:=wa.len;have nfl:(fL f).length=f.length:=by unfold fL;rw[aad]
  refine⟨_,rfl,_,rfl,fl,_,rfl,.inl (bR.of hf1),_,_,rfl,rfl,_,rfl,kI (λ hT=>?_) λ hF=>?_⟩
  ·have hT:(p:Int) < ((fL f).length:Int):=abx hT;rw[nfl] at hT;have hp:p < f.length:=by omega
   obtain⟨y,hy⟩:∃ y,f[p]? = some y:=⟨_,aag hp⟩;refine⟨λ Z H''=>∃ m',m' < 13 - p/\∃ (p:Nat) (f:List Nat) (v6 v7:Option V),m'=13 - p/\WalkAt net j p f/\aG H H''/\H'' fl=some (.lst (fL f))/\Z=[some (.ref na),some (.int (j:Int)),some (.ref nb),some (.ref nc),some (.ref fl),some (.int (p:Int)),v6,v7],
    λ _ _ p=>p,?_⟩
   refine⟨_,rfl,true,nb,rfl,⟨_,(s1.tup qv)⟩,A9 (K:=K) (t:=true) (a:=nb) (xs:=xs) (λ i Z H'=>aG H H'/\H' fl=some (.lst (fL (eS net y f i)))/\∃ v6 v7,Z=[some (.ref na),some (.int (j:Int)),some (.ref nb),some (.ref nc),some (.ref fl),some (.int (p:Int)),v6,v7])
    (λ i Z H' q=>q.1.tup qv) ⟨s1,hf1,v6,v7,rfl⟩ ?_ ?_⟩
   ·rintro Z H2 ⟨s2,hf2,v6,v7,rfl⟩;rw[exl] at hf2;refine⟨_,rfl,_,_,rfl,rfl,13 - (p+1),by omega,p+1,_,v6,v7,rfl,wa.go n12 hy,s2,hf2,?_⟩;rfl
   ·rintro i x0 Z H2 Tt hx0 ⟨s2,hf2,v6,v7,rfl⟩ hT;have hil:i < net.vs.length:=by rw[<- exl];exact (aae.mp hx0).1
    have sT:=aG.new (o:=HO.tup [.int (i:Int),x0]) hT;refine⟨Tt,_,rfl,bC.of aB,rfl,_,_,rfl,_,_,rfl,rfl,?_⟩;have hf3:=sT _ _ hf2;have s3:=s2.trans sT;generalize upd H2 Tt (.tup [.int (i:Int),x0])=H3 at hf3 s3 ⊢;obtain⟨gg,eg⟩:=jA net y f i;have gok:=tM (net:=net) (x:=y) wa.nd wa.lt i (by omega);have gl:=j3 _ _ gok.1 gok.2;have hgp:(eS net y f i)[p]? = some y:=by rw[eg,abg hp];exact hy
    have hgs:=i7 net y f i;have iv:Is K H3 (rJ (AV net i)) x0:=by
     obtain⟨z,hz,iz⟩:=(L2.IsL.mono s3.ts _ _ lv).get (i:=i) (d:=rJ net.vs[i]) (by rw[aaj,aag hil];rfl);rw[hx0] at hz;cases hz;rw[show AV net i=net.vs[i] by unfold AV;rw[aai,aag hil];rfl];exact iz
    have vok:VOk net.vs.length net.sps.length (AV net i):=by
     rw[show AV net i=net.vs[i] by unfold AV;rw[aai,aag hil];rfl];exact nok.vs _ (ada hil)
    refine⟨_,rfl,_,rfl,fl,_,rfl,.inl (bR.of hf3),rfl,tQ _,_,rfl,?_⟩;rw[if_pos rfl,show E5 (.int (i:Int)) (fL (eS net y f i))=_ from E3 _ _];refine kI (λ h1=>?_) λ h1=>?_
    ·have h1:i∉eS net y f i:=by simpa using h1
     refine⟨_,rfl,_,rfl,.inl ⟨fl,_,_,_,rfl,rfl,bR.of hf3,gH (show (fL (eS net y f i))[p]? = some (V.int (y:Int)) by unfold fL;rw[aaj,hgp];rfl),_,rfl,_,rfl,x0,.ref nc,net,AV net i,rfl,iv,Is.tupOf (s3.tup qs) (L2.IsL.mono s3.ts _ _ ls),vok,λ l H4 s4 hln hl4=>?_⟩⟩;refine⟨l,_,rfl,.inl (bR.of hl4),rfl,N7 _,_,rfl,?_⟩;rw[if_neg aar,show E5 (.int (y:Int)) ((eQ net (AV net i)).map iB)=_ from CQ _ _];have hf4:=s4 _ _ hf3;refine kI (λ h2=>?_) λ h2=>?_
     ·rw[if_pos ⟨h1,abx h2⟩] at hgs;refine⟨_,rfl,.inl ⟨rfl,_,bR.of hf4⟩,_,rfl,fl,_,_,rfl,rfl,hf4,aW (by unfold fL;rw[aad];omega),(s3.trans s4).put hfl,?_,_,_,rfl⟩;rw[aB,hgs];unfold fL;rw[aam];rfl
     ·rw[if_neg (λ z=>h2 (abt z.2))] at hgs;exact⟨s3.trans s4,by rw[hgs];exact hf4,_,_,rfl⟩
    ·rw[if_neg (λ z=>h1 (by simpa using z.1))] at hgs;exact⟨s3,by rw[hgs];exact hf3,_,_,rfl⟩
  ·have hF:f.length<=p:=by
    rcases Nat.lt_or_ge p f.length with z | z
    ·exact absurd (abt (show (p:Int) < ((fL f).length:Int) by rw[nfl];omega)) hF
    ·exact z
   have ef:=wa.done hF;subst ef;refine⟨_,rfl,(show 1<=sizeLine by decide),λ p2 hp2=>⟨fl,p2,_,_,rfl,rfl,aG.new hp2 _ _ hf1,aB,ade (aW (by rw[nfl];show _+1<=1000;omega)),λ p3 hp3=>?_⟩⟩;rw[G1];have lnz:((eW net j++[0]).map λ (i:Nat)=>(i:Int)).length=(eW net j).length+1:=by rw[aad,aau];rfl
   have dl:=NA ((eW net j++[0]).map λ (i:Nat)=>(i:Int));refine⟨p3,_,rfl,bR.of aB,by omega,λ sa hsa=>⟨sa,_,rfl,aB,by omega,λ l ms hl pm pw=>⟨l,_,rfl,.inl ⟨bR.of aB,λ q hq=>?_⟩⟩⟩⟩;obtain⟨S,e1,mS⟩:=G2 (IO pm pw);refine k q S _ (((((s1.trans (aG.new hp2)).trans (aG.new hp3)).trans (aG.new hsa)).trans (aG.new hl)).trans (aG.new hq)) ?_ mS;rw[<- e1];exact bC.of aB
theorem OA {ms:iR}{i:Nat}{k:eV}{v:V} (h:(nN ms)[i]? = some (k,v)):∃ p,ms[i]? = some p/\k=Sum.inl p.1/\v=.int p.2:=by
 unfold nN at h;rw[aaj] at h;obtain⟨p,hp,e⟩:=aas.mp h;cases e;exact⟨p,hp,rfl,rfl⟩
section
variable {aw:Addr}
def IC (K:aab):Sp:=λ vs H Q _=>∃ (x:V) (dv ds:Addr) (net:Net) (nv ms:iR),vs=[x,.ref dv,.ref ds]/\Is K H (gB net) x/\NetOk net/\H dv=some (.dK (nN nv))/\H ds=some (.dK (nN ms))/\dv≠ds/\RenOk net nv ms/\
 ∀ p H',ButL [dv,ds] H H'->HK H' dv nv->Is K H' (gB (R6 net nv ms)) p->Q p H'
theorem mJ:FnScope ["net","new_vessels","new_spouts","vessels","spouts","told_vessels","told_spouts","number","target","flow","door"] ["net","new_vessels","new_spouts"] (aM (bO 8)):={}
theorem uI {f f1:Addr}{fd fd1:FuncData} (F:Fun K "renumbered" "renumbered" (bO 8) f fd) (T:Txt mg) (G_renumbered_vessel:Callee P w K mg base "renumbered_vessel" ["vessel","new_vessels","new_spouts"] 1 (BG K) f1 fd1) :
  FnOk P w K mg base mG 2 f fd ["net","new_vessels","new_spouts"] (IC K):=by
 refine F.ok mJ (λ vs H Q E h=>?_) (λ cdv A outer s H vs Q E hr h=>?_)
 ·obtain⟨x,dv,ds,net,nv,ms,rfl,_⟩:=h;rfl
 ·obtain⟨x,dv,ds,net,nv,ms,rfl,hx,nok,hdv,hds,nds,rok,k⟩:=h;have sc:=mJ;have hu:=A6 hr;refine⟨_,(aD (cI (pv 0) (aU (K:=K) (n:=2) rfl rfl (aE (aF (i:=3) sc.nd rfl (Or.inr rfl)) (aE (aF (i:=4) sc.nd rfl (Or.inl rfl)) aS))))
   (aD (fJ (i:=5) sc.nd rfl rfl (λ _ _ h=>h) rfl (LcOk.mk (N':=["number","new_vessels","new_spouts","vessels"]) (fr:=[none,some 1,some 2,some 3]) rfl ⟨rfl,rfl,rfl,trivial⟩ rfl rfl rfl rfl rfl ⟨⟨_,rfl,rfl,rfl,rfl⟩,⟨_,rfl,rfl,rfl,rfl⟩,⟨_,rfl,rfl,rfl,rfl⟩,trivial⟩) (DR (pv 1)) (λ _ _ _=>(aF (i:=0) (show (["number","new_vessels","new_spouts","vessels"]:List Str).Nodup by decide +kernel) rfl (Or.inl rfl) (Or.inr rfl))) (λ _ _ _=>cG) (λ _ _ _=>(eG G_renumbered_vessel hr (aA (bA (aO (K:=K) rfl) (pv 3) (pv 0) (λ _ _=>rfl)) (aA (pv 1) (aA (pv 2) aC))))))
   (aD (aQ (i:=6) sc.nd rfl (Or.inl rfl) (cJ aC))
   (aD (eD PassesOwn.never rfl (DR (pv 2)) (aF (i:=7) sc.nd rfl (Or.inl rfl)) (aD (cI (bA (aO (K:=K) rfl) (pv 4) (pv 7) (λ _ _=>rfl)) (aU (K:=K) (n:=3) rfl rfl (aE (aF (i:=8) sc.nd rfl (Or.inl rfl)) (aE (aF (i:=9) sc.nd rfl (Or.inl rfl)) (aE (aF (i:=10) sc.nd rfl (Or.inl rfl)) aS)))))
   (aJ (dA (gA (K:=K) rfl abm abn abo cX (pv 6) (aA (bF (aA (xE hu (pv 1) (pv 8) (λ _ _=>rfl)) (aA (pv 9) (aA (pv 10) aC)))) aC))))))
   (aJ (bH (bF (aA (aV (bN (K:=K) rfl) rfl T.b_tuple bV (aA (pv 5) aC)) (aA (aV (bN (K:=K) rfl) rfl T.b_tuple bV (aA (pv 6) aC)) aC))))))))),?_⟩
  obtain⟨na,nb,nc,xs,ys,rfl,q,q1,l1,q2,l2⟩:=iM hx;have exl:xs.length=net.vs.length:=by rw[l1.length,aad]
  have eyl:ys.length=net.sps.length:=by rw[l2.length,aad]
  have muv:lS (H dv):=by rw[hdv];exact trivial
  have mus:lS (H ds):=by rw[hds];exact trivial
  refine⟨_,rfl,na,_,rfl,q,rfl,_,_,rfl,_,_,rfl,rfl,?_⟩;refine⟨_,rfl,dv,_,rfl,hdv,λ ob=>?_⟩;have b1:cB dv H (upd H dv (.frz ob (.dK (nN nv)))):=cB.upd;have ts1:=b1.ts (K:=K) muv;have f1:upd H dv (.frz ob (.dK (nN nv))) dv=some (.frz ob (.dK (nN nv))):=aB;have hds1:=b1 _ _ (λ z=>nds z.symm) hds;generalize upd H dv (.frz ob (.dK (nN nv)))=H1 at b1 ts1 f1 hds1;refine MX (a:=dv) (o:=ob) (kvs:=nN nv) (λ D i r Z H'=>H1 D=none/\aG H1 H'/\H' D=some (.lst r)/\IsL K H' (((nv.take i).map λ p=>qP nv ms (net.vs.getD p.1.toNat dQ)).map rJ) r/\∃ u,Z=[u,some (.ref dv),some (.ref ds),some (.ref nb)])
   (λ D i r Z H' p=>p.2.1 _ _ f1) (λ D hD=>⟨hD,aG.new hD,aB,.nil,none,rfl⟩) ?_ ?_
  rotate_left
  ·rintro D i key vv r Z H2 hk ⟨hD,sm,hDl,lr,u,rfl⟩;obtain⟨pp,hpp,rfl,rfl⟩:=OA hk;have hil:=(aae.mp hpp).1;have hlv:=rok.lv;obtain⟨p0,p1⟩:=rok.vs pp (aah hpp);have hlt:pp.1.toNat < xs.length:=by omega
   have hxj:xs[pp.1.toNat]? = some xs[pp.1.toNat]:=by simp
   obtain⟨d,hd,iv⟩:=l1.get' hxj;rw[aaj] at hd;obtain⟨v,hv,rfl⟩:=aas.mp hd;have vok:=nok.vs v (aah hv);have egd:net.vs.getD pp.1.toNat dQ=v:=by rw[aai,hv];rfl
   refine fU ?_;have tsA:=ts1.trans sm.ts;refine⟨_,rfl,_,rfl,.inr (.inl ⟨nb,xs,pp.1,xs[pp.1.toNat],rfl,rfl,tsA _ _ q1,rE p0 hxj,_,rfl,_,rfl,_,dv,ds,v,nv,ms,rfl,Is.mono tsA _ _ iv,vok.o3,vok.a3,.inr ⟨ob,sm _ _ f1⟩,.inl (sm _ _ hds1),λ p H3 s3 ip=>?_⟩)⟩;have hDl3:=s3 _ _ hDl;have muD:lS (H3 D):=by rw[hDl3];exact trivial
   have hrl:r.length<=12:=by rw[lr.length,aad,aad,aav];omega
   refine⟨hDl3,aW (by omega),hD,(sm.trans s3).put hD,aB,?_,_,rfl⟩;rw[acx,hpp,aam,aam];refine L2.IsL.snoc ?_ (L2.IsL.mono (s3.ts.trans (cB.ts cB.upd muD)) _ _ lr);show Is K _ (rJ (qP nv ms (net.vs.getD pp.1.toNat dQ))) p;rw[egd];exact Is.mono (cB.ts cB.upd muD) _ _ ip
  rintro D1 r1 Z H2 ⟨hD1,sm1,hDl1,lr1,_⟩;have elen:(nN nv).length=nv.length:=by unfold nN;rw[aad]
  rw[elen,aay] at lr1;refine⟨abw _,λ D2 hD2=>?_⟩;have s3:=aG.new (o:=HO.lst []) hD2;have e3:upd H2 D2 (.lst []) D2=some (.lst []):=aB;generalize upd H2 D2 (.lst [])=H3 at s3 e3;have hds3:=s3 _ _ (sm1 _ _ hds1);have nD2:D2≠ds:=λ z=>by rw[z,sm1 _ _ hds1] at hD2;cases hD2
  have mus3:lS (H3 ds):=by rw[hds3];exact trivial
  refine⟨_,rfl,ds,_,rfl,hds3,λ ob2=>?_⟩;have b4:cB ds H3 (upd H3 ds (.frz ob2 (.dK (nN ms)))):=cB.upd;have ts4:=b4.ts (K:=K) mus3;have f4:upd H3 ds (.frz ob2 (.dK (nN ms))) ds=some (.frz ob2 (.dK (nN ms))):=aB;have e4:=b4 _ _ nD2 e3;have g4:=b4 _ _ nds (s3 _ _ (sm1 _ _ f1));have nD1:D1≠ds:=λ z=>by rw[z,hds1] at hD1;cases hD1
  have hDl4:=b4 _ _ nD1 (s3 _ _ hDl1);have ts14:=((ts1.trans sm1.ts).trans s3.ts).trans ts4;have lr4:=L2.IsL.mono (s3.ts.trans ts4) _ _ lr1;have nD12:D1≠D2:=λ z=>by rw[z] at hDl1;rw[hDl1] at hD2;cases hD2
  have nDv:D2≠dv:=λ z=>by rw[z,sm1 _ _ f1] at hD2;cases hD2
  have fD2:H1 D2=none:=sm1.free hD2;have keep04:∀ b o,b∉[dv,ds]->H b=some o->upd H3 ds (.frz ob2 (.dK (nN ms))) b=some o:=λ b o hb e=>b4 _ _ (λ z=>hb (by simp [z])) (s3 _ _ (sm1 _ _ (b1 _ _ (λ z=>hb (by simp [z])) e)));generalize upd H3 ds (.frz ob2 (.dK (nN ms)))=H4 at b4 ts4 f4 e4 g4 hDl4 ts14 lr4 keep04;refine KR (a:=ds) (o:=ob2) (kvs:=nN ms) (λ i Z H'=>cB D2 H4 H'/\∃ (r:List V) (v7 v8 v9 v10:Option V),H' D2=some (.lst r)/\IsL K H' (((ms.take i).map λ p=>qQ nv (net.sps.getD p.1.toNat (0,0,false))).map yT) r/\
    Z=[some (.ref na),some (.ref dv),some (.ref ds),some (.ref nb),some (.ref nc),some (.ref D1),some (.ref D2),v7,v8,v9,v10])
   (λ i Z H' p=>p.1 _ _ (λ z=>nD2 z.symm) f4) ⟨cB.refl _,[],_,_,_,_,e4,.nil,rfl⟩ ?_ ?_
  rotate_left
  ·rintro i key vv Z H5 hk ⟨b5,r,v7,v8,v9,v10,h5,lr,rfl⟩;obtain⟨pp,hpp,rfl,rfl⟩:=OA hk;have hil:=(aae.mp hpp).1;have hls:=rok.ls;obtain⟨p0,p1⟩:=rok.sp pp (aah hpp);obtain⟨j,hj⟩:=rok.tg pp (aah hpp);have hlt:pp.1.toNat < ys.length:=by omega
   have hyj:ys[pp.1.toNat]? = some ys[pp.1.toNat]:=by simp
   obtain⟨sp,hsp,sa,esa,qs⟩:=wL l2 hyj;have egd:net.sps.getD pp.1.toNat (0,0,false)=sp:=by rw[aai,hsp];rfl
   rw[egd] at hj;have muD4:lS (H4 D2):=by rw[e4];exact trivial
   have ts5:=ts14.trans (b5.ts muD4);have hrl:r.length<=12:=by rw[lr.length,aad,aad,aav];omega
   dsimp only [gP];refine⟨_,rfl,_,rfl,.inr (.inl ⟨nc,ys,pp.1,.ref sa,rfl,rfl,ts5 _ _ q2,rE p0 (by rw[hyj,esa]),sa,_,rfl,ts5 _ _ qs,rfl,_,_,rfl,_,_,rfl,_,_,rfl,rfl,?_⟩)⟩;have g0:lT H5 dv (.int sp.1) (some (.int j)):=by
    have:=HK.get (show HK H5 dv nv from .inr ⟨ob,b5 _ _ (λ z=>nDv z.symm) g4⟩) (some sp.1);rw[show ((some sp.1).bind (iI nv)).map V.int=some (.int j) by show (iI nv sp.1).map V.int=_;rw[hj];rfl] at this;exact this
   refine⟨_,rfl,.inl ⟨rfl,_,bR.of h5⟩,_,rfl,_,rfl,dv,.int j,rfl,g0,_,rfl,_,rfl,(show 3<=sizeLine by decide),λ e he=>?_⟩;have m6:=aG.new (o:=HO.tup [.int j,.int sp.2.1,.bl sp.2.2]) he;have i6:Is K (upd H5 e (.tup [.int j,.int sp.2.1,.bl sp.2.2])) (yT (qQ nv (net.sps.getD pp.1.toNat (0,0,false)))) (.ref e):=by
    rw[egd];unfold qQ;rw[hj];exact Is.tupOf (ds:=[.int j,.int sp.2.1,.bl sp.2.2]) (bC.of aB) (.cons (Is.i _) (.cons (Is.i _) (.cons (Is.b _) .nil)))
   generalize upd H5 e (.tup [.int j,.int sp.2.1,.bl sp.2.2])=H6 at m6 i6 ⊢;have h6:=m6 _ _ h5;have muD:lS (H6 D2):=by rw[h6];exact trivial
   refine⟨D2,r,_,rfl,rfl,h6,aW (by omega),(b5.trans m6.but).trans cB.upd,_,_,_,_,_,aB,?_,rfl⟩;rw[acx,hpp,aam,aam];exact L2.IsL.snoc (Is.mono (cB.ts cB.upd muD) _ _ i6) (L2.IsL.mono (m6.ts.trans (cB.ts cB.upd muD)) _ _ lr)
  ·rintro Z H5 ⟨b5,r2,v7,v8,v9,v10,h5,lr2,rfl⟩;have elen2:(nN ms).length=ms.length:=by unfold nN;rw[aad]
   rw[elen2,aay] at lr2;have muD4:lS (H4 D2):=by rw[e4];exact trivial
   have ts45:=b5.ts (K:=K) muD4;refine⟨_,rfl,D1,r1,rfl,.inl ⟨bR.of (b5 _ _ nD12 hDl4),λ p1 hp1=>?_⟩⟩;have m6:=aG.new (o:=HO.tup r1) hp1;have t6:bC K (upd H5 p1 (.tup r1)) p1 r1:=bC.of aB;generalize upd H5 p1 (.tup r1)=H6 at m6 t6;refine⟨_,rfl,D2,r2,rfl,.inl ⟨bR.of (m6 _ _ h5),λ p2 hp2=>⟨(show 2<=sizeLine by decide),λ p hp=>?_⟩⟩⟩;have m7:=aG.new (o:=HO.tup r2) hp2;have t7:bC K (upd H6 p2 (.tup r2)) p2 r2:=bC.of aB;generalize upd H6 p2 (.tup r2)=H7 at m7 t7 hp;have m8:=aG.new (o:=HO.tup [.ref p1,.ref p2]) hp;have m58:=(m6.trans m7).trans m8;refine k _ _ (λ b o hb e=>m58 _ _ (b5 _ _ (λ z=>?_) (keep04 b o hb e))) (.inr ⟨ob,m58 _ _ (b5 _ _ (λ z=>nDv z.symm) g4)⟩) ?_
   ·have:=b1.free (λ z'=>nDv (by rw[<- z'];)) fD2;rw[z,this] at e;cases e
   ·refine Is.tupOf (ds:=[.tup ((nv.map λ p=>qP nv ms (net.vs.getD p.1.toNat dQ)).map rJ),.tup ((ms.map λ p=>qQ nv (net.sps.getD p.1.toNat (0,0,false))).map yT)]) (bC.of aB) (.cons (Is.tupOf ((m7.trans m8).tup t6) (L2.IsL.mono (ts45.trans m58.ts) _ _ lr4)) (.cons (Is.tupOf (m8.tup t7) (L2.IsL.mono m58.ts _ _ lr2)) .nil))
end
end Tw
namespace L2
open PySem PySem.Spec PyProof.Rows
theorem NC {K:aab}{g:TG}{tc:TT}{tk tv:TE}{fr:List (Option Nat)}{σ:St}{H1:Hp}{Q:Addr->Hp->Prop}{t:Bool}{a:Addr}{xs:List V} (Pv:Addr->Nat->St->Hp->Prop)
  (hq:∀ D i σ H,Pv D i σ H->jK K H t a xs)
  (h0:∀ D,H1 D=none->Pv D 0 (xW fr σ) (upd H1 D (.dK []))) (hstop:∀ D Z H',Pv D xs.length Z H'->Q D H')
  (hgo:∀ D i x Z H' T,xs[i]? = some x->Pv D i Z H'->H' T=none->g (.ref T) Z (upd H' T (.tup [.int (i:Int),x])) λ ag H3=>tc ag H3 λ b H4=>
    if b=true then tk ag H4 λ y H5=>tv ag H5 λ z H6=>∃ kvs k,y=kV k/\H6 D=some (.dK kvs)/\kvs.length < sizeLine/\Pv D (i+1) ag (upd H6 D (.dK (fG kvs k z)))
    else Pv D (i+1) ag H4):Q8 (QJ K t a) g tc tk tv fr σ H1 Q:=by
 refine L5 (S:=LZ) (n:=xs.length) Pv h0 (λ D Z H' p=>⟨⟨xs,hq D _ Z H' p,aal _⟩,hstop D Z H' p⟩) λ D i Z H' hi p=>⟨⟨xs,xs[i],hq D _ Z H' p,by simp [hi]⟩,?_⟩;rintro v H2 ⟨T,x,hT,rfl,e1,rfl⟩;exact hgo D i x Z H' T (e1 xs (hq D _ Z H' p)) p hT
end L2
namespace Tw
open PySem L2
def cF:Nat->List Nat->iR
 | _,[]=>[]
 | k,s::r=>((s:Int),(k:Int))::cF (k+1) r
theorem gM:∀ (r:List Nat) (k:Nat),(cF k r).length=r.length
 | [],_=>rfl
 | s::r,k=>by show (cF (k+1) r).length+1=r.length+1;rw[gM r]
theorem zQ:∀ (r q:List Nat) (k:Nat),cF k (r++q)=cF k r++cF (k+r.length) q
 | [],q,k=>rfl
 | s::r,q,k=>by
  show _::cF (k+1) (r++q)=_::(cF (k+1) r++cF (k+(r.length+1)) q);rw[zQ r q,show k+1+r.length=k+(r.length+1) by omega]
theorem JT {x:Nat}:∀ {r:List Nat}{k:Nat},x∉r->iI (cF k r) (x:Int)=none
 | [],_,_=>rfl
 | s::r,k,h=>by
  have ih:=JT (r:=r) (k:=k+1) (x:=x) λ z=>h (aap _ z);have ne:¬ ((s:Int)=(x:Int)):=λ z=>h (by rw[show x=s by omega];exact aat);unfold iI at ih ⊢;show Option.map _ (List.find? _ (((s:Int),(k:Int))::cF (k+1) r))=none;rw[List.find?_cons_of_neg (by simpa using ne)];exact ih
def p7 (K:aab):Sp:=λ vs H Q _=>∃ (a:Addr) (t:Bool) (S:List Nat),vs=[.ref a]/\jK K H t a (fL S)/\(t=false->∃ o,H a=some o/\∀ H',H' a=some o->jK K H' t a (fL S))/\S.Nodup/\S.length<=12/\
 ∀ d H',aG H H'->H d=none->H' d=some (.dK (nN (cF 0 S)))->Q (.ref d) H'
theorem sG:FnScope ["kept"] ["kept"] (aM (bO 14)):={}
theorem CF {f:Addr}{fd:FuncData} (F:Fun K "counted" "counted" (bO 14) f fd) (T:Txt mg):FnOk P w K mg base mG 1 f fd ["kept"] (p7 K):=by
 refine F.ok sG (λ vs H Q E h=>?_) (λ cdv A outer s H vs Q E hr h=>?_)
 ·obtain⟨a,t,S,rfl,_⟩:=h;rfl
 ·obtain⟨a,t,S,rfl,qa,qk,nd,h12,k⟩:=h;have sc:=sG;refine⟨_,(aJ (bH (RJ (λ _ _ h=>h) rfl (LcOk.mk (N':=["place","number"]) (fr:=[none,none]) rfl trivial rfl rfl rfl rfl rfl trivial) (iZ (K:=K) rfl rfl T.b_enumerate (aA (pv 0) aC)) (λ _ _ _=>(aU (K:=K) (n:=2) rfl rfl (aE (aF (i:=0) (show (["place","number"]:List Str).Nodup by decide +kernel) rfl (Or.inl rfl) (Or.inr rfl)) (aE (aF (i:=1) (show (["place","number"]:List Str).Nodup by decide +kernel) rfl (Or.inl rfl) (Or.inr rfl)) aS)))) (λ _ _ _=>cG) (λ _ _ _=>(pv 1)) (λ _ _ _=>(pv 0))))),?_⟩;have keep:∀ {H':Hp},aG H H'->jK K H' t a (fL S):=λ {H'} sm=>by
   cases t with
   | true=>exact sm.tup (show bC K H a (fL S) from qa)
   | false=>
    obtain⟨o,e,h⟩:=qk rfl;exact h H' (sm _ _ e)
  have nl:(fL S).length=S.length:=by unfold fL;rw[aad]
  refine⟨_,rfl,t,a,rfl,⟨_,qa⟩,NC (K:=K) (t:=t) (a:=a) (xs:=fL S) (λ D i Z H'=>H D=none/\aG H H'/\H' D=some (.dK (nN (cF 0 (S.take i))))/\∃ u1 u2,Z=[u1,u2])
   (λ D i Z H' p=>keep p.2.1) (λ D hD=>⟨hD,aG.new hD,aB,none,none,rfl⟩) ?_ ?_⟩
  ·rintro D Z H' ⟨hD,sm,hDl,_⟩;rw[nl,acq (aal _)] at hDl;exact k D H' sm hD hDl
  ·rintro D i x Z H1 Tt hx ⟨hD,sm,hDl,u1,u2,rfl⟩ hT;unfold fL at hx;rw[aaj] at hx;obtain⟨z,hz,rfl⟩:=aas.mp hx;have hil:=(aae.mp hz).1;have sT:=aG.new (o:=HO.tup [.int (i:Int),.int (z:Int)]) hT;refine⟨Tt,_,rfl,bC.of aB,rfl,_,_,rfl,_,_,rfl,rfl,?_⟩;have hD2:=sT _ _ hDl;have lt:(S.take i).length=i:=by rw[aav];omega
   have no:z∉S.take i:=λ hm=>by
    obtain⟨q,hq⟩:=abh.1 hm;rw[List.getElem?_take] at hq
    split at hq
    ·rename_i hlt
     have hql:=(aae.mp hq).1;have e1:=(aae.mp hq).2;have e2:=(aae.mp hz).2;have:=(List.nodup_iff_pairwise_ne.1 nd);rw[List.pairwise_iff_getElem] at this;exact this q i hql hil hlt (e1.trans e2.symm)
    ·cases hq
   refine⟨_,rfl,_,rfl,nN (cF 0 (S.take i)),Sum.inl (z:Int),rfl,hD2,aW (by unfold nN;rw[aad,gM];omega),hD,(sm.trans sT).put hD,?_,_,_,rfl⟩;have hv:cY (nN (cF 0 (S.take i))) (Sum.inl (z:Int))=none:=by rw[wI,JT no];rfl
   rw[oA _ hv,aB,acx,hz,show (some z:Option Nat).toList=[z] from rfl,zQ,Nat.zero_add,lt];unfold nN;rw[aam];rfl
end Tw
namespace L2
open PySem PySem.Spec PyProof.Rows TwZ
theorem MW {K:aab}{g:TG}{tc:TT}{te:TE}{fr:List (Option Nat)}{σ:St}{H1:Hp}{Q:Addr->Hp->Prop}{t:Bool}{a:Addr}{xs:List V} (Pv:Addr->Nat->List V->St->Hp->Prop)
  (hq:∀ D i r σ H,Pv D i r σ H->jK K H t a xs)
  (h0:∀ D,H1 D=none->Pv D 0 [] (xW fr σ) (upd H1 D (.lst []))) (hstop:∀ D r Z H',Pv D xs.length r Z H'->Q D H')
  (hgo:∀ D i x r Z H' T,xs[i]? = some x->Pv D i r Z H'->H' T=none->g (.ref T) Z (upd H' T (.tup [.int (i:Int),x])) λ ag H3=>tc ag H3 λ b H4=>
    if b=true then te ag H4 λ y H5=>H5 D=some (.lst r)/\r.length < PySem.sizeLine/\Pv D (i+1) (r++[y]) ag (upd H5 D (.lst (r++[y])))
    else Pv D (i+1) r ag H4):iN (QJ K t a) g tc te fr σ H1 Q:=by
 refine nE (n:=xs.length) Pv h0 (λ D r Z H' p=>⟨⟨xs,hq D _ r Z H' p,aal _⟩,hstop D r Z H' p⟩) λ D i r Z H' hi p=>⟨⟨xs,xs[i],hq D _ r Z H' p,by simp [hi]⟩,?_⟩;rintro v H2 ⟨T,x,hT,rfl,e1,rfl⟩;exact hgo D i x r Z H' T (e1 xs (hq D _ r Z H' p)) p hT
end L2
namespace Tw
open PySem L2
theorem tE:∀ {r:List Nat}{k i x:Nat},r.Nodup->r[i]? = some x->iI (cF k r) (x:Int)=some ((k+i:Nat):Int)
 | [],_,_,_,_,h=>by cases h
 | s::r,k,0,x,_,h=>by
  cases h;unfold iI;show Option.map _ (List.find? _ (((s:Int),(k:Int))::cF (k+1) r))=_;rw[List.find?_cons_of_pos (by simp)];rfl
 | s::r,k,i+1,x,nd,h=>by
  rw[acs] at nd;have hx:x∈r:=aah (show r[i]? = some x from h);have ne:¬ ((s:Int)=(x:Int)):=λ z=>nd.1 (by rw[show s=x by omega];exact hx);have ih:=tE (r:=r) (k:=k+1) (i:=i) (x:=x) nd.2 h;rw[show k+1+i=k+(i+1) by omega] at ih;unfold iI at ih ⊢;show Option.map _ (List.find? _ (((s:Int),(k:Int))::cF (k+1) r))=_;rw[List.find?_cons_of_neg (by simpa using ne)];exact ih
theorem lD:∀ {r:List Nat}{k:Nat}{p:Int×Int},p∈cF k r->∃ s∈r,p.1=(s:Int)
 | [],_,_,h=>by cases h
 | s::r,k,p,h=>by
  rcases aao.1 h with z | z
  ·subst z;exact⟨s,aat,rfl⟩
  ·obtain⟨s',h1,h2⟩:=lD z;exact⟨s',aap _ h1,h2⟩
def oU (net:Net) (S:List Nat) (n:Nat):List Nat:=(List.range n).filter λ k=>decide (∃ s∈S,qM net (k:Int)=(s:Int))
theorem IE (net:Net) (S:List Nat) (n:Nat):oU net S (n+1)=oU net S n++(if ∃ s∈S,qM net (n:Int)=(s:Int) then [n] else []):=by
 unfold oU;rw[adk,List.filter_append]
 by_cases h:∃ s∈S,qM net (n:Int)=(s:Int)
 ·rw[if_pos h];congr 1;rw[add (by simpa using h)];rfl
 ·rw[if_neg h];congr 1;rw[adc (by simpa using h)];rfl
theorem r9 (net:Net) (S:List Nat) (n:Nat):(oU net S n).length<=n:=by
 unfold oU;exact acd (List.length_filter_le _ _) (by simp)
def bK (net:Net) (S:List Nat):Net:=R6 net (cF 0 S) (cF 0 (oU net S net.sps.length))
theorem MatS.nd {net:Net}{w:Nat}{S:List Nat} (m:MatS net w S):S.Nodup:=m.up.imp λ z=>abc z
theorem MatS.lt {net:Net}{w:Nat}{S:List Nat} (m:MatS net w S) (h12:net.vs.length<=12) (hw:w < net.vs.length):∀ y∈S,y < net.vs.length:=λ y hy=>by
 rcases (m.mem y).1 hy with z | z
 ·exact (xP h12 hw).2.1 y z
 ·omega
theorem DG {net:Net}{w:Nat}{S:List Nat} (nok:NetOk net) (m:MatS net w S) (hw:w < net.vs.length):RenOk net (cF 0 S) (cF 0 (oU net S net.sps.length)) where
 vs:=λ p hp=>by
  obtain⟨s,hs,e⟩:=lD hp;have:=m.lt nok.hi hw s hs;omega
 sp:=λ p hp=>by
  obtain⟨s,hs,e⟩:=lD hp;have:=abz.1 (acu.1 hs).1;omega
 tg:=λ p hp=>by
  obtain⟨s,hs,e⟩:=lD hp;obtain⟨y,hy,e2⟩:=abx (acu.1 hs).2;obtain⟨i,hi⟩:=abh.1 hy;refine⟨((0+i:Nat):Int),?_⟩;rw[e];show iI _ (qM net (s:Int))=_;rw[e2];exact tE m.nd hi
 lv:=by
  rw[gM];exact acd (j3 _ _ m.nd (m.lt nok.hi hw)) nok.hi
 ls:=by
  rw[gM];exact acd (r9 _ _ _) nok.sp
theorem E4 (z:Int):∀ l:List Nat,E5 (.int z) (fL l)=decide (∃ s∈l,z=(s:Int))
 | []=>by
  show false=_;rw[eq_comm,decide_eq_false_iff_not];rintro⟨s,h,_⟩;cases h
 | x::l=>by
  show (vT (.int (x:Int)) (.int z) || E5 (.int z) (fL l))=_;rw[E4 z l];show (((x:Int) == z) || decide (∃ s∈l,z=(s:Int)))=_
  by_cases h:(x:Int)=z
  ·rw[show ((x:Int) == z)=true by simp [h],Bool.true_or,eq_comm,decide_eq_true_eq];exact⟨x,aat,h.symm⟩
  ·rw[show ((x:Int) == z)=false by simp [h],Bool.false_or,decide_eq_decide];constructor
   ·rintro⟨s,h1,h2⟩;exact⟨s,aap _ h1,h2⟩
   ·rintro⟨s,h1,h2⟩;rcases aao.1 h1 with y | y
    ·subst y;exact absurd h2.symm h
    ·exact⟨s,y,h2⟩
def oY (K:aab) (cV:Addr):Sp:=λ vs H Q E=>∃ (x:V) (net:Net) (v:Int),vs=[x,.int v]/\Is K H (gB net) x/\NetOk net/\
 ((¬ (0<=v/\v < net.vs.length)/\E (.ref cV) none H)\/∃ j:Nat,v=(j:Int)/\j < net.vs.length/\∀ p S (i:Nat) H',aG H H'->MatS net j S->S[i]? = some j->Is K H' (.tup [gB (bK net S),.int (i:Int)]) p->Q p H')
theorem sC:FnScope ["net","watched","kept","vessels","spouts","new_vessels","new_spouts"] ["net","watched"] (aM (bO 13)):={}
theorem zL {f f1 f2 f3:Addr}{fd fd1 fd2 fd3:FuncData} (F:Fun K "trimmed" "trimmed" (bO 13) f fd) (T:Txt mg) (G_matters:CalleeR P w K mg base "matters" ["net","watched"] 3 (p6 K c_NoVessel) f1 fd1)
  (G_counted:Callee P w K mg base "counted" ["kept"] 1 (p7 K) f2 fd2) (G_renumbered:Callee P w K mg base "renumbered" ["net","new_vessels","new_spouts"] 2 (IC K) f3 fd3):FnOk P w K mg base (nO P w) 4 f fd ["net","watched"] (oY K c_NoVessel):=by
 refine F.okR sC (λ vs H Q E h=>?_) (λ cdv A outer s H vs Q E hr h L=>?_)
 ·obtain⟨x,net,v,rfl,_⟩:=h;rfl
 ·obtain⟨x,net,v,rfl,hx,nok,k⟩:=h;have sc:=sC;have hu:=A6 hr;refine⟨_,(aD (aQ (i:=2) sc.nd rfl (Or.inr rfl) (gQ G_matters.ok (hr.mono (by decide)) rfl G_matters.mg G_matters.kp G_matters.bd .nil (jW L) (aA (pv 0) (aA (pv 1) aC))))
   (aD (cI (pv 0) (aU (K:=K) (n:=2) rfl rfl (aE (aF (i:=3) sc.nd rfl (Or.inl rfl)) (aE (aF (i:=4) sc.nd rfl (Or.inl rfl)) aS))))
   (aD (aQ (i:=5) sc.nd rfl (Or.inl rfl) (eG G_counted hr (aA (pv 2) aC)))
   (aD (lV λ pn=>(aQ (i:=6) sc.nd rfl (Or.inl rfl) (eG G_counted hr (aA (i5 (λ _ _ h=>h) rfl (LcOk.mk (N':=["number","spout","kept"]) (fr:=[none,none,some 2]) rfl ⟨rfl,trivial⟩ rfl rfl rfl rfl rfl ⟨⟨_,rfl,rfl,rfl,rfl⟩,trivial⟩) (iZ (K:=K) rfl rfl T.b_enumerate (aA (pv 4) aC)) (λ _ _ _=>(aU (K:=K) (n:=2) rfl rfl (aE (aF (i:=0) (show (["number","spout","kept"]:List Str).Nodup by decide +kernel) rfl (Or.inl rfl) (Or.inr rfl)) (aE (aF (i:=1) (show (["number","spout","kept"]:List Str).Nodup by decide +kernel) rfl (Or.inl rfl) (Or.inr rfl)) aS)))) (λ _ _ _=>xC (bE (CA (K:=K) rfl) (bA (aO (K:=K) rfl) (pv 1) aH (λ _ _=>rfl)) (pv 2) (by rfl))) (λ _ _ _=>(pv 0))) aC))))
   (aJ (bH (bF (aA (eG G_renumbered hr (aA (pv 0) (aA (pv 5) (aA (pv 6) aC)))) (aA (xE hu (pv 5) (pv 1) (λ _ _=>rfl)) aC))))))))),?_⟩
  refine⟨_,rfl,_,rfl,x,net,v,rfl,hx,nok,?_⟩;rcases k with ⟨hn,k⟩ | ⟨j,rfl,hj,k⟩
  ·exact .inl ⟨hn,k⟩
  refine .inr ⟨j,rfl,hj,λ kp S H1 s1 qk mS=>?_⟩;have hx1:=Is.mono s1.ts _ _ hx;obtain⟨na,nb,nc,xs,ys,rfl,qn,qv,lv,qs,ls⟩:=iM hx1;have eyl:ys.length=net.sps.length:=by rw[ls.length,aad]
  have sl:S.length<=12:=acd (j3 _ _ mS.nd (mS.lt nok.hi hj)) nok.hi;refine⟨_,rfl,na,_,rfl,qn,rfl,_,_,rfl,_,_,rfl,rfl,?_⟩;refine⟨_,rfl,kp,true,S,rfl,qk,(λ z=>by cases z),mS.nd,sl,λ dv H2 s2 hdv edv=>?_⟩;refine⟨_,rfl,true,nc,rfl,⟨_,s2.tup qs⟩,MW (K:=K) (t:=true) (a:=nc) (xs:=ys) (λ D i r Z H'=>H2 D=none/\aG H2 H'/\H' D=some (.lst r)/\r=fL (oU net S i)/\∃ u1 u2,Z=[u1,u2,some (.ref kp)])
   (λ D i r Z H' p=>p.2.1.tup (s2.tup qs)) (λ D hD=>⟨hD,aG.new hD,aB,rfl,none,none,rfl⟩) ?_ ?_⟩
  rotate_left
  ·rintro D i y r Z H3 Tt hy ⟨hD,sm,hDl,rfl,u1,u2,rfl⟩ hT;have hil:i < net.sps.length:=by rw[<- eyl];exact (aae.mp hy).1
   have sT:=aG.new (o:=HO.tup [.int (i:Int),y]) hT;refine⟨Tt,_,rfl,bC.of aB,rfl,_,_,rfl,_,_,rfl,rfl,?_⟩;have s14:=(s2.trans sm).trans sT;have hD4:=sT _ _ hDl;generalize upd H3 Tt (.tup [.int (i:Int),y])=H4 at sT s14 hD4 ⊢;obtain⟨pa,fl,dr,hpa,qpa⟩:=NO (L2.IsL.mono s14.ts _ _ ls) hil;rw[hpa] at hy;cases hy;refine⟨_,rfl,.inr (.inl ⟨pa,_,0,_,rfl,rfl,qpa,rfl,_,rfl,kp,_,rfl,.inr (s14.tup qk),rfl,tQ _,_,rfl,?_⟩)⟩;rw[if_neg aar,E4];have hs:=IE net S i;have hln:=r9 net S i;have sp12:=nok.sp;refine kI (λ h1=>?_) λ h1=>?_
   ·rw[if_pos (abx h1)] at hs;refine⟨_,rfl,hD4,aW (by unfold fL;rw[aad];omega),hD,(sm.trans sT).put hD,aB,?_,_,_,rfl⟩;rw[hs];unfold fL;rw[aam];rfl
   ·rw[if_neg (λ z=>h1 (abt z)),acy] at hs;exact⟨hD,sm.trans sT,hD4,by rw[hs],_,_,rfl⟩
  rintro D r Z H3 ⟨hD,s3,hDl,rfl,_⟩;rw[eyl] at hDl;have spl:=r9 net S net.sps.length;have sp12:=nok.sp;refine⟨D,false,oU net S net.sps.length,rfl,bR.of hDl,(λ _=>⟨_,hDl,λ H' e=>bR.of e⟩),List.Pairwise.filter _ List.nodup_range,by omega,λ ds H4 s4 hds eds=>?_⟩;have s24:=s3.trans s4;have nds:dv≠ds:=λ z=>by rw[<- z,s3 _ _ edv] at hds;cases hds
  have hx4:=Is.mono (s2.trans s24).ts _ _ hx1;have jS:j∈S:=(mS.mem j).2 (.inl (xP nok.hi hj).2.2);obtain⟨i,hi⟩:=abh.1 jS;refine⟨_,rfl,_,rfl,_,rfl,.ref na,dv,ds,net,cF 0 S,cF 0 (oU net S net.sps.length),rfl,hx4,nok,s24 _ _ edv,eds,nds,DG nok mS hj,λ q H5 b5 rd ip=>?_⟩;have g0:lT H5 dv (.int (j:Int)) (some (.int (i:Int))):=by
   have:=HK.get rd (some (j:Int));rw[show ((some (j:Int)).bind (iI (cF 0 S))).map V.int=some (.int (i:Int)) by show (iI (cF 0 S) (j:Int)).map V.int=_;rw[tE mS.nd hi,Nat.zero_add];rfl] at this;exact this
  refine⟨_,rfl,_,rfl,dv,.int (i:Int),rfl,g0,(show 2<=sizeLine by decide),λ e he=>?_⟩;have s5:aG H H5:=λ b o hb=>b5 b o (λ z=>by
   simp only [aao,aan,acj,or_false] at z;rcases z with z | z
   ·rw[z,s1.free hdv] at hb;cases hb
   ·rw[z,((s1.trans s2).trans s3).free hds] at hb;cases hb) (((s1.trans s2).trans s24) b o hb)
  have s6:=aG.new (o:=HO.tup [q,.int (i:Int)]) he;exact k _ S i _ (s5.trans s6) mS hi (Is.tupOf (ds:=[gB (bK net S),.int (i:Int)]) (bC.of aB) (.cons (Is.mono s6.ts _ _ ip) (.cons (Is.i _) .nil)))
theorem zV {z:Int}:∀ {r:List Nat}{k:Nat},(¬ ∃ s∈r,z=(s:Int))->iI (cF k r) z=none
 | [],_,_=>rfl
 | s::r,k,h=>by
  have ih:=zV (r:=r) (k:=k+1) (z:=z) λ ⟨s',h1,h2⟩=>h ⟨s',aap _ h1,h2⟩;have ne:¬ ((s:Int)=z):=λ y=>h ⟨s,aat,y.symm⟩;unfold iI at ih ⊢;show Option.map _ (List.find? _ (((s:Int),(k:Int))::cF (k+1) r))=none;rw[List.find?_cons_of_neg (by simpa using ne)];exact ih
theorem lF {r:List Nat}{z y:Int} (nd:r.Nodup) (h:iI (cF 0 r) z=some y):∃ i s:Nat,r[i]? = some s/\z=(s:Int)/\y=(i:Int):=by
 by_cases c:∃ s∈r,z=(s:Int)
 ·obtain⟨s,hs,rfl⟩:=c;obtain⟨i,hi⟩:=abh.1 hs;rw[tE nd hi,Nat.zero_add] at h;injection h with h;exact⟨i,s,hi,rfl,h.symm⟩
 ·rw[zV c] at h;cases h
theorem kP {net:Net}{w:Nat}{S:List Nat} (nok:NetOk net) (m:MatS net w S) (hw:w < net.vs.length):NetOk (bK net S):=by
 have hS:S.length<=12:=acd (j3 _ _ m.nd (m.lt nok.hi hw)) nok.hi;have hK:(oU net S net.sps.length).length<=12:=acd (r9 _ _ _) nok.sp;have kn:(oU net S net.sps.length).Nodup:=List.Pairwise.filter _ List.nodup_range;have ev:(bK net S).vs.length=S.length:=by show (List.map _ _).length=_;rw[aad,gM]
 have es:(bK net S).sps.length=(oU net S net.sps.length).length:=by show (List.map _ _).length=_;rw[aad,gM]
 have z0:0∈S:=(m.mem 0).2 (.inr rfl);refine { lo:=by rw[ev];exact List.length_pos_of_mem z0,hi:=by rw[ev];exact hS,sp:=by rw[es];exact hK,vs:=λ v hv=>?_,sps:=λ p hp=>?_ }
 ·obtain⟨q,hq,rfl⟩:=aaz.1 hv;obtain⟨s,hs,e⟩:=lD hq;have hsl:=m.lt nok.hi hw s hs;rw[e,abu,aai,aag hsl,ev,es];have vok:=nok.vs _ (ada hsl);show VOk S.length (oU net S net.sps.length).length (qP (cF 0 S) (cF 0 (oU net S net.sps.length)) net.vs[s]);generalize net.vs[s]=v at vok;have idx:∀ (t:Option Int) (y:Int),t.bind (iI (cF 0 S))=some y->0<=y/\y < (S.length:Int):=λ t y h=>by
   cases t with
   | none=>cases h
   | some z=>
    obtain⟨i,s',h1,_,rfl⟩:=lF m.nd (show iI (cF 0 S) z=some y from h);have:=(aae.mp h1).1;omega
  refine { size:=vok.size,ne:=λ z=>vok.ne (List.map_eq_nil_iff.1 z),o3:=by show (v.outs.map _).length<=3;rw[aad];exact vok.o3,outs:=λ o ho=>?_,spill:=λ t ht=>idx _ _ ht,a3:=acd (List.length_filterMap_le _ _) vok.a3,acts:=λ a ha=>?_ }
  ·obtain⟨o',ho',rfl⟩:=aaz.1 (show o∈v.outs.map (uH (cF 0 S)) from ho);have ook:=vok.outs o' ho';exact⟨λ t ht=>idx _ _ ht,ook.lo,ook.hi⟩
  ·obtain⟨a',ha',e'⟩:=List.mem_filterMap.1 (show a∈v.acts.filterMap (iL (cF 0 (oU net S net.sps.length))) from ha);have aok:=vok.acts a' ha';unfold iL at e';obtain⟨y,hy,rfl⟩:=aas.mp e';obtain⟨i,s',h1,_,rfl⟩:=lF kn hy;have:=(aae.mp h1).1;exact⟨aok.word,by show (0:Int)<=(i:Int);omega,by show (i:Int) < _;omega⟩
 ·obtain⟨q,hq,rfl⟩:=aaz.1 hp;obtain⟨y,hy⟩:=(DG nok m hw).tg q hq;obtain⟨i,s',h1,_,rfl⟩:=lF m.nd hy;have:=(aae.mp h1).1;rw[ev];unfold qQ;rw[hy];exact⟨by show (0:Int)<=(i:Int);omega,by show (i:Int) < _;omega⟩
theorem vL {net:Net}{x:Nat}{f:List Nat}:∀ (n y:Nat),y < n->some (x:Int)∈eQ net (AV net y)->y∈eS net x f n
 | 0,_,h,_=>absurd h (adb _)
 | n+1,y,h,hl=>by
  rw[i7]
  by_cases c:y=n
  ·subst c
   by_cases m:y∈eS net x f y
   ·rw[if_neg λ z=>z.1 m];exact m
   ·rw[if_pos ⟨m,hl⟩];exact abj _ (aan.2 rfl)
  ·have ih:=vL (f:=f) n y (by omega) hl
   split
   ·exact aby _ ih
   ·exact ih
theorem pK {net:Net}{x:Nat}{f:List Nat}:∀ (n y:Nat),y∈eS net x f n->y∈f\/(y < n/\some (x:Int)∈eQ net (AV net y))
 | 0,y,h=>.inl h
 | n+1,y,h=>by
  rw[i7] at h
  split at h
  ·rename_i c
   rcases abk.1 h with z | z
   ·rcases pK n y z with q | q
    ·exact .inl q
    ·exact .inr ⟨by omega,q.2⟩
   ·have:=aan.1 z;subst this;exact .inr ⟨by omega,c.2⟩
  ·rcases pK n y h with q | q
   ·exact .inl q
   ·exact .inr ⟨by omega,q.2⟩
def LM (net:Net) (p:Nat) (f:List Nat):Prop:=∀ (i x y:Nat),i < p->f[i]? = some x->y < net.vs.length->some (x:Int)∈eQ net (AV net y)->y∈f
theorem rH {net:Net}{w:Nat} (h12:net.vs.length<=12) (Pr:Nat->Prop) (ps:∀ x y,x∈eW net w->Pr x->y < net.vs.length->some (x:Int)∈eQ net (AV net y)->Pr y) :
  ∀ (m p:Nat) (f:List Nat),WalkAt net w p f->LM net p f->(∀ y∈f,y∈eW net w->Pr y)->(∀ y∈f,y∈eW net w)->13 - p=m->
   (∀ x y:Nat,x∈eW net w->y < net.vs.length->some (x:Int)∈eQ net (AV net y)->y∈eW net w)/\∀ y∈eW net w,Pr y
 | 0,p,f,a,_,_,_,e=>by
  have:=a.len;have:=a.le;omega
 | m+1,p,f,a,c,pr,inn,e=>by
  rcases Nat.lt_or_ge p f.length with z | z
  ·have hx:=aag z;generalize f[p]=x at hx;have xm:=inn x (aah hx);have a':=a.go h12 hx;have sub:∀ (m p:Nat) (f:List Nat),WalkAt net w p f->13 - p=m->∀ y∈f,y∈eW net w:=by
    clear c pr inn a' z hx xm a e m p f x;intro m
    induction m with
    | zero=>intro p f a e;have:=a.len;have:=a.le;omega
    | succ m ih=>
     intro p f a e y hy;rcases Nat.lt_or_ge p f.length with z | z
     ·obtain⟨g,eg⟩:=jA net f[p] f net.vs.length;exact ih (p+1) _ (a.go h12 (aag z)) (by omega) y (by rw[eg];exact aby _ hy)
     ·rw[<- a.done z];exact hy
   obtain⟨g,eg⟩:=jA net x f net.vs.length;refine rH h12 Pr ps m (p+1) _ a' (λ i x' y hi hf hy hl=>?_) (λ y hy ym=>?_) (λ y hy=>sub _ _ _ a' rfl y hy) (by omega)
   ·by_cases ci:i=p
    ·subst ci;rw[eg,abg z,hx] at hf;injection hf with hf;subst hf;exact vL _ _ hy hl
    ·rw[eg,abg (by omega)] at hf;rw[eg];exact aby _ (c i x' y (by omega) hf hy hl)
   ·rcases pK _ _ hy with q | q
    ·exact pr y q ym
    ·exact ps x y xm (pr x (aah hx) xm) q.1 q.2
  ·have ef:=a.done z;subst ef;refine⟨λ x y hx hy hl=>?_,λ y hy=>pr y hy hy⟩;obtain⟨i,hi⟩:=abh.1 hx;have:=(aae.mp hi).1;exact c i x y (by omega) hi hy hl
theorem CK {net:Net}{w:Nat} (h12:net.vs.length<=12) (h:w < net.vs.length) {x y:Nat} (hx:x∈eW net w) (hy:y < net.vs.length) (hl:some (x:Int)∈eQ net (AV net y)):y∈eW net w:=by
 have hm:=(xP h12 h).2.2;refine (rH h12 (λ _=>True) (λ _ _ _ _ _ _=>trivial) 13 0 [w] (WalkAt.first h) (λ i _ _ hi _ _ _=>absurd hi (adb _)) (λ _ _ _=>trivial) (λ y hy=>?_) rfl).1 x y hx hy hl;have:=aan.1 hy;subst this;exact hm
section
variable {net:Net}{w:Nat}{S:List Nat}
theorem iU:(bK net S).vs.length=S.length:=by show (List.map _ _).length=_;rw[aad,gM]
theorem uW:(bK net S).sps.length=(oU net S net.sps.length).length:=by show (List.map _ _).length=_;rw[aad,gM]
theorem tD:∀ {r:List Nat}{k i x:Nat},r[i]? = some x->(cF k r)[i]? = some ((x:Int),((k+i:Nat):Int))
 | [],_,_,_,h=>by cases h
 | s::r,k,0,x,h=>by cases h;rfl
 | s::r,k,i+1,x,h=>by
  have:=tD (r:=r) (k:=k+1) (i:=i) (x:=x) h;rw[show k+1+i=k+(i+1) by omega] at this;exact this
theorem wJ {p s:Nat} (h:S[p]? = some s):(bK net S).vs.getD p dQ=qP (cF 0 S) (cF 0 (oU net S net.sps.length)) (net.vs.getD s dQ):=by
 show (((cF 0 S).map λ p=>qP (cF 0 S) (cF 0 (oU net S net.sps.length)) (net.vs.getD p.1.toNat dQ)).getD p dQ)=_;rw[aai,aaj,tD h];rfl
theorem HV {q k:Nat} (h:(oU net S net.sps.length)[q]? = some k):(bK net S).sps.getD q sI=qQ (cF 0 S) (net.sps.getD k sI):=by
 show (((cF 0 (oU net S net.sps.length)).map λ p=>qQ (cF 0 S) (net.sps.getD p.1.toNat (0,0,false))).getD q sI)=_;rw[aai,aaj,tD h];rfl
theorem oG (nd:S.Nodup) {p s:Nat} (h:S[p]? = some s) (z:Int):iI (cF 0 S) z=some (p:Int)↔z=(s:Int):=by
 constructor
 ·intro e;obtain⟨i,s',h1,h2,h3⟩:=lF nd e;have:i=p:=by omega
  subst this;rw[h] at h1;injection h1 with h1;rw[h2,h1]
 ·rintro rfl;rw[tE nd h,Nat.zero_add]
theorem AK (nd:S.Nodup) {p s:Nat} (h:S[p]? = some s) (t:Option Int):t.bind (iI (cF 0 S))=some (p:Int)↔t=some (s:Int):=by
 cases t with
 | none=>simp
 | some z=>show iI (cF 0 S) z=some (p:Int)↔_;rw[oG nd h];simp
theorem pA (nv:iR) (outs:List (Option Int×Int)):whole (outs.map (uH nv))=whole outs:=by unfold whole;rw[aca];rfl
theorem DJ (nd:S.Nodup) {p s:Nat} (h:S[p]? = some s):∀ gs:List (Option Int×Int),bS (some (p:Int)) (gs.map λ g=>(g.1.bind (iI (cF 0 S)),g.2))=bS (some (s:Int)) gs
 | []=>rfl
 | g::gs=>by
  show (if g.1.bind (iI (cF 0 S))=some (p:Int) then g.2 else 0)+bS (some (p:Int)) (gs.map λ g=>(g.1.bind (iI (cF 0 S)),g.2))=(if g.1=some (s:Int) then g.2 else 0)+bS (some (s:Int)) gs;rw[DJ nd h gs];congr 1
  by_cases c:g.1=some (s:Int)
  ·rw[if_pos c,if_pos ((AK nd h _).2 c)]
  ·rw[if_neg c,if_neg λ z=>c ((AK nd h _).1 z)]
theorem IQ (nv ms:iR) (v:Vs) (a:Int):eU (qP nv ms v) a=(eU v a).map λ g=>(g.1.bind (iI nv),g.2):=by
 unfold eU;have e1:jO (qP nv ms v) (cL v a)=(jO v (cL v a)).map λ g=>(g.1.bind (iI nv),g.2):=by
  unfold jO;show (v.outs.map (uH nv)).map (λ o=>(o.1,cL v a / whole (v.outs.map (uH nv)) * o.2))=_;rw[pA,aca,aca];rfl
 show (v.spill.bind (iI nv),a - cL v a)::(if eT v a=true then jO (qP nv ms v) (cL v a)++(if v.holds=true then [] else [(none,cL v a % whole (v.outs.map (uH nv)))]) else [])=_;rw[e1,pA,aba];congr 1
 split
 ·rw[aam];congr 1
  split <;> rfl
 ·rfl
theorem IP (nv ms:iR) (v:Vs) (a:Int):hV (qP nv ms v) a=hV v a:=by
 unfold hV;show (if eT v a=true then (if v.holds=true then cL v a % whole (v.outs.map (uH nv)) else 0) else cL v a)=_;rw[pA]
theorem GE {v:Vs}{t:Option Int} (h1:t∉v.outs.map (·.1)) (h2:t≠v.spill) (h3:t≠none) (a:Int):bS t (eU v a)=0:=by
 have z:∀ (q:Int) (l:List (Option Int×Int)),t∉l.map (·.1)->bS t (l.map λ o=>(o.1,q * o.2))=0:=by
  intro q l
  induction l with
  | nil=>intro _;rfl
  | cons o l ih=>
   intro h;rw[aba,aao] at h;show (if o.1=t then q * o.2 else 0)+bS t (l.map λ o=>(o.1,q * o.2))=0;rw[if_neg λ e=>h (.inl e.symm),ih λ e=>h (.inr e)];rfl
 unfold eU;show (if v.spill=t then a - cL v a else 0)+bS t _=0;rw[if_neg (Ne.symm h2)]
 split
 ·rw[gG];unfold jO;rw[z _ _ h1]
  split
  ·rfl
  ·show 0+(0+((if none=t then _ else 0)+0))=(0:Int);rw[if_neg (Ne.symm h3)];rfl
 ·rfl
theorem nC {i:Nat}{t:Int} (h:some t∉eQ net (net.vs.getD i dQ)) (a:Int):bS (some t) (eU (net.vs.getD i dQ) a)=0:=by
 unfold eQ at h;rw[abk,abk,aan] at h;exact GE (λ z=>h (.inl (.inl z))) (λ z=>h (.inl (.inr z))) (λ z=>nomatch z) a
theorem tI {i k:Nat} (hk:∀ a∈(net.vs.getD i dQ).acts,0<=a.2) (h:some (qM net (k:Int))∉eQ net (net.vs.getD i dQ)):∀ a∈(net.vs.getD i dQ).acts,a.2.toNat≠k:=λ a ha e=>by
 refine h ?_;unfold eQ;refine abj _ (aaz.2 ⟨a,ha,?_⟩);rw[show a.2=(k:Int) by have:=hk a ha;omega]
theorem lP {k:Nat}:∀ {as:List (Str×Int)} (b:Bool),(∀ a∈as,a.2.toNat≠k)->fY k as b=b
 | [],_,_=>rfl
 | a::as,b,h=>by
  show fY k as (if a.2.toNat=k then LF a.1 b else b)=b;rw[if_neg (h a aat)];exact lP b λ a ha=>h a (aap _ ha)
theorem uD {ms:List Nat} (nd:ms.Nodup) {q k:Nat} (h:ms[q]? = some k):∀ (as:List (Str×Int)) (b:Bool),(∀ a∈as,0<=a.2)->fY q (as.filterMap (iL (cF 0 ms))) b=fY k as b
 | [],_,_=>rfl
 | a::as,b,h0=>by
  have ih:=λ b=>uD nd h as b λ a ha=>h0 a (aap _ ha);have a0:=h0 a aat;show _=fY k as (if a.2.toNat=k then LF a.1 b else b);cases e:iI (cF 0 ms) a.2 with
  | none=>
   rw[List.filterMap_cons_none (by unfold iL;rw[e];rfl),ih,if_neg];intro z;have:=(oG nd h a.2).2 (by omega);rw[e] at this;cases this
  | some y=>
   rw[List.filterMap_cons_some (b:=(a.1,y)) (by unfold iL;rw[e];rfl)];show fY q (as.filterMap (iL (cF 0 ms))) (if y.toNat=q then LF a.1 b else b)=_;rw[ih];congr 1;obtain⟨i,s',h1,h2,h3⟩:=lF nd e
   by_cases c:a.2.toNat=k
   ·have:=(oG nd h a.2).2 (by omega);rw[e] at this;injection this with this;rw[if_pos c,if_pos (by omega)]
   ·rw[if_neg c,if_neg];intro z;have:i=q:=by omega
    subst this;rw[h] at h1;injection h1 with h1;omega
end
section
variable {A:Net}{w:Nat}{S:List Nat}
structure TrSt (A:Net) (w:Nat) (S:List Nat) (h c p:List Int) (d:List Bool) (h' c' p':List Int) (d':List Bool):Prop where
 held:∀ (i s:Nat),S[i]? = some s->s∈eW A w->h'.getD i 0=h.getD s 0
 coming:∀ (i s:Nat),S[i]? = some s->s∈eW A w->c'.getD i 0=c.getD s 0
 poured:∀ (i s:Nat),S[i]? = some s->s∈eW A w->p'.getD i 0=p.getD s 0
 doors:∀ (q k s:Nat),(oU A S A.sps.length)[q]? = some k->qM A (k:Int)=(s:Int)->s∈eW A w->d'.getD q false=d.getD k false
theorem OX:(oU A S A.sps.length).Nodup:=List.Pairwise.filter _ List.nodup_range
theorem IF {k:Nat} (h:k∈oU A S A.sps.length):k < A.sps.length:=abz.1 (acu.1 h).1
theorem pL {l:List Nat}{i:Nat} (h:i < l.length):l[i]? = some (l.getD i 0):=by rw[aai,aag h];rfl
theorem HW (ok:NetOk A) (m:MatS A w S) (hw:w < A.vs.length) {h c p h' c' p':List Int}{d d':List Bool} (st:StOk A h c d) (pl:p.length=A.vs.length) (st':StOk (bK A S) h' c' d') (pl':p'.length=(bK A S).vs.length) (t:TrSt A w S h c p d h' c' p' d') {i s:Nat} (hi:S[i]? = some s) (hs:s∈eW A w) :
  (bJ (bK A S) h' c' p' d').getD i 0=(bJ A h c p d).getD s 0:=by
 rw[KH ok st pl,KH (kP ok m hw) st' pl',t.held i s hi hs,t.coming i s hi hs,t.poured i s hi hs];congr 1;have e1:eK A.sps.length (lM A.sps d s)=((oU A S A.sps.length).map (lM A.sps d s)).sum:=by
  unfold oU;rw[mU]
  ·rfl
  ·intro k _ hk;unfold lM;rw[if_neg];intro z;have:¬ ∃ s∈S,qM A (k:Int)=(s:Int):=of_decide_eq_false hk;exact this ⟨s,aah hi,z.2⟩
 rw[e1,pZ,uW];refine nS λ q hq=>?_;have hk:=pL hq;generalize (oU A S A.sps.length).getD q 0=k at hk;unfold lM;rw[HV hk];have ha:=oG m.nd hi (A.sps.getD k sI).1
 by_cases c:(A.sps.getD k sI).1=(s:Int)
 ·have ed:=t.doors q k s hk c hs;have e2:(qQ (cF 0 S) (A.sps.getD k sI)).1=(i:Int):=by unfold qQ;rw[ha.2 c];rfl
  rw[ed]
  by_cases dk:d.getD k false=true
  ·rw[if_pos ⟨dk,e2⟩,if_pos ⟨dk,c⟩];rfl
  ·rw[if_neg λ z=>dk z.1,if_neg λ z=>dk z.1]
 ·
  obtain⟨y,hy,e⟩:=abx (acu.1 (aah hk)).2;have e:(A.sps.getD k sI).1=(y:Int):=e;obtain⟨j,hj⟩:=abh.1 hy;have e3:(qQ (cF 0 S) (A.sps.getD k sI)).1=(j:Int):=by
   unfold qQ;rw[(oG m.nd hj _).2 e];rfl
  rw[if_neg (λ z=>?_),if_neg λ z=>c z.2];have:j=i:=by have:=z.2;omega
  subst this;rw[hi] at hj;injection hj with hj;exact c (by rw[hj];exact e)
theorem AR (ok:NetOk A) (m:MatS A w S) (hw:w < A.vs.length):S=(List.range A.vs.length).filter λ k=>decide (k∈S):=FC _ _ m.up (m.lt ok.hi hw)
theorem LE (ok:NetOk A) {i:Nat}:∀ a∈(A.vs.getD i dQ).acts,0<=a.2:=λ a ha=>by
 rcases Nat.lt_or_ge i A.vs.length with z | z
 ·rw[aai,aag z] at ha;exact ((ok.vs _ (ada z)).acts a ha).lo
 ·rw[aai,acg z] at ha;exact nomatch ha
theorem GI {ap:Type} (l:List Nat) (f:ap->Nat->ap):∀ b,l.foldl f b=(List.range l.length).foldl (λ b q=>f b (l.getD q 0)) b:=by
 induction l with
 | nil=>intro b;rfl
 | cons a l ih=>
  intro b;rw[ack,ih,abb,List.range_succ_eq_map,ack,List.foldl_map];rfl
theorem CV {ap:Type}{l:List Nat}{f g:ap->Nat->ap}:∀ b,(∀ i∈l,∀ b,f b i=g b i)->l.foldl f b=l.foldl g b:=by
 induction l with
 | nil=>intro b _;rfl
 | cons a l ih=>
  intro b h;rw[ack,ack,h a aat];exact ih _ λ i hi=>h i (aap _ hi)
theorem LQ (ok:NetOk A) (m:MatS A w S) (hw:w < A.vs.length) {h c p h' c' p':List Int}{d d':List Bool} (st:StOk A h c d) (pl:p.length=A.vs.length) (st':StOk (bK A S) h' c' d') (pl':p'.length=(bK A S).vs.length) (t:TrSt A w S h c p d h' c' p' d') :
  TrSt A w S (fN A h c p d).held (fN A h c p d).coming (cU A.vs.length) (fN A h c p d).doors (fN (bK A S) h' c' p' d').held (fN (bK A S) h' c' p' d').coming (cU (bK A S).vs.length) (fN (bK A S) h' c' p' d').doors:=by
 have hh:∀ (i s:Nat),S[i]? = some s->s∈eW A w->(bJ (bK A S) h' c' p' d').getD i 0=(bJ A h c p d).getD s 0:=λ i s hi hs=>HW ok m hw st pl st' pl' t hi hs;have zz:∀ n i:Nat,(cU n).getD i 0=0:=λ n i=>by
  unfold cU;rw[aai];rcases Nat.lt_or_ge i n with z | z
  ·rw[List.getElem?_replicate,if_pos z];rfl
  ·rw[List.getElem?_replicate,if_neg (by omega)];rfl
 have cl:∀ {x y:Nat},x∈eW A w->y < A.vs.length->some (x:Int)∈eQ A (A.vs.getD y dQ)->y∈eW A w:=λ hx hy hl=>CK ok.hi hw hx hy hl;refine⟨λ i s hi hs=>?_,λ i s hi hs=>?_,λ i s _ _=>by rw[zz,zz],λ q k s hq hk hs=>?_⟩
 ·have hsl:=m.lt ok.hi hw s (aah hi);have hil:=(aae.mp hi).1;rw[uY st pl hsl,uY st' pl' (by rw[iU];exact hil),wJ hi,IP,hh i s hi hs]
 ·have hsl:=m.lt ok.hi hw s (aah hi);have hil:=(aae.mp hi).1;rw[pX st pl hsl,pX st' pl' (by rw[iU];exact hil),iU];have e1:eK A.vs.length (λ j=>bS (some (s:Int)) (eU (A.vs.getD j dQ) ((bJ A h c p d).getD j 0)))=(S.map λ j=>bS (some (s:Int)) (eU (A.vs.getD j dQ) ((bJ A h c p d).getD j 0))).sum:=by
   conv=>rhs;rw[AR ok m hw]
   rw[mU]
   ·rfl
   ·intro k hk hn;refine nC (λ z=>?_) _;have:=cl hs (abz.1 hk) z;exact (of_decide_eq_false hn) ((m.mem k).2 (.inl this))
  rw[e1,pZ];refine nS λ j hj=>?_;have hy:=pL hj;generalize S.getD j 0=y at hy;rw[wJ hy,IQ,DJ m.nd hi]
  by_cases ym:y∈eW A w
  ·rw[hh j y hy ym]
  ·have nl:some (s:Int)∉eQ A (A.vs.getD y dQ):=λ z=>ym (cl hs (m.lt ok.hi hw y (aah hy)) z);rw[nC nl,nC nl]
 ·have hkl:=IF (aah hq);have hql:=(aae.mp hq).1;rw[rR st pl hkl,rR st' pl' (by rw[uW];exact hql),iU,t.doors q k s hq hk hs];have e1:(List.range A.vs.length).foldl (λ b i=>if eT (A.vs.getD i dQ) ((bJ A h c p d).getD i 0)=true then fY k (A.vs.getD i dQ).acts b else b) (d.getD k false)=S.foldl (λ b i=>if eT (A.vs.getD i dQ) ((bJ A h c p d).getD i 0)=true then fY k (A.vs.getD i dQ).acts b else b) (d.getD k false):=by
   conv=>rhs;rw[AR ok m hw]
   rw[qJ];intro y hy hn b
   split
   ·refine lP b (tI (LE ok) λ z=>?_);rw[hk] at z;have:=cl hs (abz.1 hy) z;exact (of_decide_eq_false hn) ((m.mem y).2 (.inl this))
   ·rfl
  rw[e1,GI S];refine CV _ λ j hj b=>?_;have hy:=pL (abz.1 hj);generalize S.getD j 0=y at hy;rw[wJ hy];show (if eT (A.vs.getD y dQ) _=true then fY q ((A.vs.getD y dQ).acts.filterMap (iL (cF 0 (oU A S A.sps.length)))) b else b)=_;rw[uD OX hq _ _ (LE ok)]
  by_cases ym:y∈eW A w
  ·rw[hh j y hy ym]
  ·have na:fY k (A.vs.getD y dQ).acts b=b:=by
    refine lP b (tI (LE ok) λ z=>?_);rw[hk] at z;exact ym (cl hs (m.lt ok.hi hw y (aah hy)) z)
   rw[na]
   split <;> split <;> rfl
structure TrS (A:Net) (w:Nat) (S:List Nat) (S0 S1:RunS):Prop where
 n0:S0.net=A
 n1:S1.net=bK A S
 ok0:RunOk S0
 ok1:RunOk S1
 st:TrSt A w S S0.cur.held S0.cur.coming S0.cur.poured S0.cur.doors S1.cur.held S1.cur.coming S1.cur.poured S1.cur.doors
 tk:S0.cur.tick=S1.cur.tick
 tips:∀ (i s:Nat),S[i]? = some s->s∈eW A w->S1.tips.getD i []=S0.tips.getD s []
theorem tr0 (ok:NetOk A) (m:MatS A w S) (hw:w < A.vs.length):TrS A w S (M4 A) (M4 (bK A S)) where
 n0:=rfl
 n1:=rfl
 ok0:=DM ok
 ok1:=DM (kP ok m hw)
 st:=by
  have zz:∀ n i:Nat,(cU n).getD i 0=0:=λ n i=>by
   unfold cU;rw[aai,List.getElem?_replicate]
   split <;> rfl
  refine⟨λ i s _ _=>?_,λ i s _ _=>?_,λ i s _ _=>?_,λ q k s hq _ _=>?_⟩
  ·exact (zz _ _).trans (zz _ _).symm
  ·exact (zz _ _).trans (zz _ _).symm
  ·exact (zz _ _).trans (zz _ _).symm
  ·have hkl:=IF (aah hq);have hql:=(aae.mp hq).1;have e:=HV hq;show ((bK A S).sps.map (·.2.2)).getD q false=(A.sps.map (·.2.2)).getD k false;have g:∀ (l:List wE) (i:Nat),(l.map (·.2.2)).getD i false=(l.getD i sI).2.2:=λ l i=>by
    rw[aai,aaj,aai];cases l[i]? <;> rfl
   rw[g,g,e];rfl
 tk:=rfl
 tips:=λ i s _ _=>by
  have zz:∀ n i:Nat,(List.replicate n ([]:List Int)).getD i []=[]:=λ n i=>by
   rw[aai,List.getElem?_replicate]
   split <;> rfl
  exact (zz _ _).trans (zz _ _).symm
theorem MatS.zero {A:Net}{w:Nat}{S:List Nat} (m:MatS A w S):S[0]? = some 0:=by
 have h0:0∈S:=(m.mem 0).2 (.inr rfl);cases S with
 | nil=>exact nomatch h0
 | cons x S=>
  have hp:=m.up;rw[List.pairwise_cons] at hp;rcases aao.1 h0 with z | z
  ·subst z;rfl
  ·have:=hp.1 0 z;omega
end
def qV:List Int->List Int->Prop
 | a::as,b::bs=>a < b\/(a=b/\qV as bs)
 | _,_=>False
theorem zY:∀ u:List Int,¬ qV u u
 | [],h=>h
 | a::u,h=>by
  rcases h with h | ⟨_,h⟩
  ·omega
  ·exact zY u h
theorem tG:∀ {u v x:List Int},qV u v->qV v x->qV u x
 | [],_,_,h,_=>h.elim
 | _::_,[],_,h,_=>h.elim
 | _::_,_::_,[],_,h=>h.elim
 | a::u,b::v,c::x,h1,h2=>by
  rcases h1 with h1 | ⟨rfl,h1⟩
  ·rcases h2 with h2 | ⟨rfl,h2⟩
   ·exact .inl (by omega)
   ·exact .inl h1
  ·rcases h2 with h2 | ⟨rfl,h2⟩
   ·exact .inl h2
   ·exact .inr ⟨rfl,tG h1 h2⟩
theorem zW:∀ {u v:List Int},u.length=v.length->qV u v\/u=v\/qV v u
 | [],[],_=>.inr (.inl rfl)
 | [],_::_,h=>by cases h
 | _::_,[],h=>by cases h
 | a::u,b::v,h=>by
  rcases (show a < b\/a=b\/b < a by omega) with c | rfl | c
  ·exact .inl (.inl c)
  ·rcases zW (u:=u) (v:=v) (by simpa using h) with d | rfl | d
   ·exact .inl (.inr ⟨rfl,d⟩)
   ·exact .inr (.inl rfl)
   ·exact .inr (.inr (.inr ⟨rfl,d⟩))
  ·exact .inr (.inr (.inl c))
theorem zZ:∀ {u v:List Int} (x y:List Int),qV u v->qV (u++x) (v++y)
 | [],_,_,_,h=>h.elim
 | _::_,[],_,_,h=>h.elim
 | a::u,b::v,x,y,h=>by
  rcases h with h | ⟨rfl,h⟩
  ·exact .inl h
  ·exact .inr ⟨rfl,zZ x y h⟩
theorem zX:∀ (u:List Int) {x y:List Int},qV x y->qV (u++x) (u++y)
 | [],_,_,h=>h
 | a::u,x,y,h=>.inr ⟨rfl,zX u h⟩
def vF (u v:List Int):Prop:=u.length < v.length\/(u.length=v.length/\qV u v)
theorem fQ (u:List Int):¬ vF u u:=λ h=>by
 rcases h with h | ⟨_,h⟩
 ·omega
 ·exact zY u h
theorem eB {u v x:List Int} (h1:vF u v) (h2:vF v x):vF u x:=by
 rcases h1 with h1 | ⟨e1,h1⟩
 ·rcases h2 with h2 | ⟨e2,_⟩
  ·exact .inl (by omega)
  ·exact .inl (by omega)
 ·rcases h2 with h2 | ⟨e2,h2⟩
  ·exact .inl (by omega)
  ·exact .inr ⟨by omega,tG h1 h2⟩
theorem DL (u v:List Int):vF u v\/u=v\/vF v u:=by
 rcases (show u.length < v.length\/u.length=v.length\/v.length < u.length by omega) with h | h | h
 ·exact .inl (.inl h)
 ·rcases zW h with c | c | c
  ·exact .inl (.inr ⟨h,c⟩)
  ·exact .inr (.inl c)
  ·exact .inr (.inr (.inr ⟨h.symm,c⟩))
 ·exact .inr (.inr (.inl h))
theorem sJ {u v:List Int} (a b:Int) (h:vF u v):vF (u++[a]) (v++[b]):=by
 rcases h with h | ⟨e,h⟩
 ·exact .inl (by simp;omega)
 ·exact .inr ⟨by simp [e],zZ _ _ h⟩
theorem o7 (u:List Int) {a b:Int} (h:a < b):vF (u++[a]) (u++[b]):=.inr ⟨by simp,zX u (.inl h)⟩
theorem yZ {u v:List Int}{a b:Int} (h:vF (u++[a]) (v++[b])):vF u v\/(u=v/\a < b):=by
 rcases DL u v with c | rfl | c
 ·exact .inl c
 ·refine .inr ⟨rfl,?_⟩;rcases (show a < b\/a=b\/b < a by omega) with d | rfl | d
  ·exact d
  ·exact absurd h (fQ _)
  ·exact absurd (eB h (o7 u d)) (fQ _)
 ·exact absurd (eB h (sJ b a c)) (fQ _)
theorem yY (u:List Int) (a:Int):vF u (u++[a]):=.inl (by simp)
def NP (u v:List Int):Prop:=u=v\/vF u v
theorem BO {u v x:List Int} (h1:NP u v) (h2:vF v x):vF u x:=by
 rcases h1 with rfl | h1
 ·exact h2
 ·exact eB h1 h2
theorem FP {u v x:List Int} (h1:NP u v) (h2:NP v x):NP u x:=by
 rcases h2 with rfl | h2
 ·exact h1
 ·exact .inr (BO h1 h2)
theorem sK {u v:List Int} (a:Int) (h:NP u v):NP (u++[a]) (v++[a]):=by
 rcases h with rfl | h
 ·exact .inl rfl
 ·exact .inr (sJ a a h)
section
variable {α:Type}(nxt:α->Int->α)(fin:α->Int->Bool)
def BP (s:α):List Int->α
 | []=>s
 | a::r=>BP (nxt s a) r
def oX (s:α) (b:Bool):List Int->Bool
 | []=>b
 | a::r=>oX (nxt s a) (fin s a) r
variable {nxt fin}
theorem p9:∀ (s:α) (r:List Int) (a:Int),BP nxt s (r++[a])=nxt (BP nxt s r) a
 | s,[],a=>rfl
 | s,b::r,a=>p9 (nxt s b) r a
theorem oW:∀ (s:α) (b:Bool) (r:List Int) (a:Int),oX nxt fin s b (r++[a])=fin (BP nxt s r) a
 | s,b,[],a=>rfl
 | s,b,c::r,a=>oW (nxt s c) (fin s c) r a
def iQ (most:Nat) (u:List Int):Prop:=∀ a∈u,0<=a/\a<=most
theorem iQ.init {most:Nat}{u:List Int}{a:Int} (h:iQ most (u++[a])):iQ most u/\0<=a/\a<=most:=⟨λ b hb=>h b (aby _ hb),h a (by simp)⟩
structure Seen (dD:α->L2.D) (nxt:α->Int->α) (fin:α->Int->Bool) (most:Nat) (first:α) (p:Nat) (r:List Int) (i:Nat) (fs:Fs α):Prop where
 zero:fs[0]? = some (first,[])
 sort:∀ (j k:Nat) (x y:α×List Int),j < k->fs[j]? = some x->fs[k]? = some y->vF x.2 y.2
 low:∀ x∈fs,vF x.2 (r++[(i:Int)])
 uniq:∀ (j k:Nat) (x y:α×List Int),fs[j]? = some x->fs[k]? = some y->dD x.1=dD y.1->j=k
 run:∀ x∈fs,BP nxt first x.2=x.1/\iQ most x.2
 done:∀ (q:Nat) (x:α×List Int) (a:Nat),fs[q]? = some x->a<=most->(q < p\/(q=p/\a < i))->fin x.1 a=false/\∃ y∈fs,dD y.1=dD (nxt x.1 a)/\NP y.2 (x.2++[(a:Int)])
theorem Seen.cover {dD:α->L2.D}{most:Nat}{first:α}{p i:Nat}{r:List Int}{fs:Fs α}{d:α} (inj:∀ x y,dD x=dD y->x=y) (S:Seen dD nxt fin most first p r i fs) (hp:fs[p]? = some (d,r)) :
  ∀ (n:Nat) (u:List Int),u.length=n->iQ most u->vF u (r++[(i:Int)])->∃ y∈fs,y.1=BP nxt first u/\NP y.2 u:=by
 intro n
 induction n with
 | zero=>
  intro u hu _ _;have:u=[]:=List.length_eq_zero_iff.mp hu;subst this;exact⟨_,aah S.zero,rfl,.inl rfl⟩
 | succ n ih=>
  intro u hu hw hl;obtain⟨u',a,rfl⟩:∃ u' a,u=u'++[a]:=⟨u.dropLast,u.getLast (by intro z;rw[z] at hu;cases hu),(List.dropLast_concat_getLast _).symm⟩;obtain⟨hw',ha0,ha1⟩:=hw.init;obtain⟨y,hy,e1,e2⟩:=ih u' (by simpa using hu) hw' (eB (yY u' a) hl);obtain⟨q,hq⟩:=abh.1 hy;have hya:=BO (sK a e2) hl;have hdone:q < p\/(q=p/\a.toNat < i):=by
   rcases yZ hya with c | ⟨c,c2⟩
   ·refine .inl ?_;rcases (show q < p\/q=p\/p < q by omega) with z | rfl | z
    ·exact z
    ·rw[hp] at hq;cases hq;exact absurd c (fQ _)
    ·exact absurd (eB c (S.sort p q _ _ z hp hq)) (fQ _)
   ·rcases (show q < p\/q=p\/p < q by omega) with z | rfl | z
    ·have:=S.sort q p _ _ z hq hp;rw[c] at this;exact absurd this (fQ _)
    ·exact .inr ⟨rfl,by omega⟩
    ·have:=S.sort p q _ _ z hp hq;rw[c] at this;exact absurd this (fQ _)
  have ea:((a.toNat:Nat):Int)=a:=by omega
  obtain⟨_,z,hz,ez,lz⟩:=S.done q y a.toNat hq (by omega) hdone;rw[ea] at ez lz;refine⟨z,hz,?_,FP lz (sK a e2)⟩;rw[p9,<- e1];exact inj _ _ ez
theorem Seen.none {dD:α->L2.D}{most:Nat}{first:α}{p i:Nat}{r:List Int}{fs:Fs α}{d:α} (inj:∀ x y,dD x=dD y->x=y) (S:Seen dD nxt fin most first p r i fs) (hp:fs[p]? = some (d,r)) {u:List Int} (hw:iQ most u) (hl:vF u (r++[(i:Int)])):oX nxt fin first false u=false:=by
 by_cases hu:u=[]
 ·subst hu;rfl
 obtain⟨u',a,rfl⟩:∃ u' a,u=u'++[a]:=⟨u.dropLast,u.getLast hu,(List.dropLast_concat_getLast _).symm⟩;obtain⟨hw',ha0,ha1⟩:=hw.init;obtain⟨y,hy,e1,e2⟩:=S.cover inj hp _ u' rfl hw' (eB (yY u' a) hl);obtain⟨q,hq⟩:=abh.1 hy;have hya:=BO (sK a e2) hl;have hdone:q < p\/(q=p/\a.toNat < i):=by
  rcases yZ hya with c | ⟨c,c2⟩
  ·refine .inl ?_;rcases (show q < p\/q=p\/p < q by omega) with z | rfl | z
   ·exact z
   ·rw[hp] at hq;cases hq;exact absurd c (fQ _)
   ·exact absurd (eB c (S.sort p q _ _ z hp hq)) (fQ _)
  ·rcases (show q < p\/q=p\/p < q by omega) with z | rfl | z
   ·have:=S.sort q p _ _ z hq hp;rw[c] at this;exact absurd this (fQ _)
   ·exact .inr ⟨rfl,by omega⟩
   ·have:=S.sort p q _ _ z hp hq;rw[c] at this;exact absurd this (fQ _)
 have ea:((a.toNat:Nat):Int)=a:=by omega
 obtain⟨hf,_⟩:=S.done q y a.toNat hq (by omega) hdone;rw[ea] at hf;rw[oW,<- e1];exact hf
theorem Seen.val {dD:α->L2.D}{most:Nat}{first:α}{p i q:Nat}{r r':List Int}{fs:Fs α}{d:α} (S:Seen dD nxt fin most first p r i fs) (hq:fs[q]? = some (d,r')):dI dD fs (dD d)=some r':=by
 unfold dI;cases e:fs.find? λ p=>decide (dD p.1=dD d) with
 | none=>
  rw[List.find?_eq_none] at e;exact absurd (abt rfl) (e _ (aah hq))
 | some x=>
  have h1:=List.mem_of_find?_eq_some e;have h2:dD x.1=dD d:=by have:=List.find?_some e;exact abx this
  obtain⟨j,hj⟩:=abh.1 h1;have:=S.uniq j q _ _ hj hq h2;subst this;rw[hq] at hj;cases hj;rfl
def AS (nxt:α->Int->α) (fin:α->Int->Bool) (most:Nat) (first:α) (row:List Int):Prop:=oX nxt fin first false row=true/\iQ most row/\∀ u,iQ most u->vF u row->oX nxt fin first false u=false
variable {dD:α->L2.D}{most lim:Nat}{first:α}
theorem Seen.old {p i:Nat}{r:List Int}{fs:Fs α}{d:α} (S:Seen dD nxt fin most first p r i fs) (hp:fs[p]? = some (d,r)) (hf:fin d i=false) (hv:(dI dD fs (dD (nxt d i))).isSome=true):Seen dD nxt fin most first p r (i+1) fs:=by
 refine⟨S.zero,S.sort,λ x hx=>eB (S.low x hx) (o7 r (by omega)),S.uniq,S.run,λ q x a hq ha h=>?_⟩;rcases h with h | ⟨rfl,h⟩
 ·exact S.done q x a hq ha (.inl h)
 ·rcases (show a < i\/a=i by omega) with h2 | rfl
  ·exact S.done q x a hq ha (.inr ⟨rfl,h2⟩)
  ·rw[hp] at hq;cases hq;obtain⟨y,hy,e⟩:=gW hv;exact⟨hf,y,hy,e,.inr (S.low y hy)⟩
theorem Seen.new {p i:Nat}{r:List Int}{fs:Fs α}{d:α} (S:Seen dD nxt fin most first p r i fs) (hi:i<=most) (hp:fs[p]? = some (d,r)) (hf:fin d i=false) (hv:(dI dD fs (dD (nxt d i))).isSome=false):Seen dD nxt fin most first p r (i+1) (fs++[(nxt d i,r++[(i:Int)])]):=by
 have hlen:0 < fs.length:=(aae.mp S.zero).1;have hpl:=(aae.mp hp).1;have at_:∀ {j:Nat}{x:α×List Int},(fs++[(nxt d i,r++[(i:Int)])])[j]? = some x->(j < fs.length/\fs[j]? = some x)\/(j=fs.length/\x=(nxt d i,r++[(i:Int)])):=λ {j x} h=>by
  rcases Nat.lt_or_ge j fs.length with c | c
  ·rw[abg c] at h;exact .inl ⟨c,h⟩
  ·have hl:=(aae.mp h).1;rw[aau,ach] at hl;have:j=fs.length:=by omega
   subst this;rw[acm (aal _),Nat.sub_self] at h;cases h;exact .inr ⟨rfl,rfl⟩
 have nov:∀ x∈fs,dD x.1≠dD (nxt d i):=λ x hx e=>by
  have:=hU (dD:=dD) (d:=x.1) (r:=x.2) hx;rw[e,hv] at this;cases this
 obtain⟨hrun,hwok⟩:=S.run _ (aah hp);refine⟨by rw[abg hlen];exact S.zero,λ j k x y hjk hx hy=>?_,λ x hx=>?_,λ j k x y hx hy e=>?_,λ x hx=>?_,λ q x a hq ha h=>?_⟩
 ·rcases at_ hx with ⟨h1,h2⟩ | ⟨h1,rfl⟩
  ·rcases at_ hy with ⟨h3,h4⟩ | ⟨h3,rfl⟩
   ·exact S.sort j k x y hjk h2 h4
   ·exact S.low x (aah h2)
  ·rcases at_ hy with ⟨h3,h4⟩ | ⟨h3,_⟩
   ·omega
   ·omega
 ·rcases abk.1 hx with h | h
  ·exact eB (S.low x h) (o7 r (by omega))
  ·rw[aan] at h;subst h;exact o7 r (by omega)
 ·rcases at_ hx with ⟨h1,h2⟩ | ⟨h1,rfl⟩
  ·rcases at_ hy with ⟨h3,h4⟩ | ⟨h3,rfl⟩
   ·exact S.uniq j k x y h2 h4 e
   ·exact absurd e (nov x (aah h2))
  ·rcases at_ hy with ⟨h3,h4⟩ | ⟨h3,rfl⟩
   ·exact absurd e.symm (nov y (aah h4))
   ·omega
 ·rcases abk.1 hx with h | h
  ·exact S.run x h
  ·rw[aan] at h;subst h;refine⟨by show BP nxt first (r++[(i:Int)])=nxt d i;rw[p9,hrun],λ a ha=>?_⟩;rcases abk.1 ha with ha | ha
   ·exact hwok a ha
   ·rw[aan] at ha;subst ha;omega
 ·have hql:q < fs.length:=by omega
  rw[abg hql] at hq;rcases h with h | ⟨rfl,h⟩
  ·obtain⟨h1,y,hy,h2⟩:=S.done q x a hq ha (.inl h);exact⟨h1,y,aby _ hy,h2⟩
  ·rcases (show a < i\/a=i by omega) with h2 | rfl
   ·obtain⟨h1,y,hy,h3⟩:=S.done q x a hq ha (.inr ⟨rfl,h2⟩);exact⟨h1,y,aby _ hy,h3⟩
   ·rw[hp] at hq;cases hq;exact⟨hf,_,abj _ (List.mem_singleton_self _),rfl,.inl rfl⟩
theorem HJ (inj:∀ x y,dD x=dD y->x=y) {p:Nat}{d:α}{r:List Int}:∀ (l i:Nat) (fs:Fs α),i+l=most+1->Seen dD nxt fin most first p r i fs->fs[p]? = some (d,r)->
  (∀ row fs',pR dD nxt fin lim d r l (i:Int) fs=.ends row fs'->AS nxt fin most first row)/\(∀ fs',pR dD nxt fin lim d r l (i:Int) fs=.on fs'->Seen dD nxt fin most first p r (most+1) fs'/\fs'[p]? = some (d,r)):=by
 intro l
 induction l with
 | zero=>
  intro i fs h S hp;have:i=most+1:=by omega
  subst this;exact⟨(λ row fs' e=>by cases e),(λ fs' e=>by cases e;exact⟨S,hp⟩)⟩
 | succ l ih=>
  intro i fs h S hp;cases hf:fin d i with
  | true=>
   rw[oR hf];refine⟨λ row fs' e=>?_,(λ fs' e=>by cases e)⟩;cases e;obtain⟨hrun,hwok⟩:=S.run _ (aah hp);refine⟨by rw[oW,hrun];exact hf,λ a ha=>?_,λ u hu hl=>S.none inj hp hu hl⟩;rcases abk.1 ha with ha | ha
   ·exact hwok a ha
   ·rw[aan] at ha;subst ha;omega
  | false=>
   cases hv:(dI dD fs (dD (nxt d i))).isSome with
   | true=>
    rw[mC hf hv];exact ih (i+1) fs (by omega) (S.old hp hf hv) hp
   | false=>
    by_cases hl:lim<=fs.length
    ·rw[jH hf hv hl];exact⟨(λ row fs' e=>by cases e),(λ fs' e=>by cases e)⟩
    ·rw[mD hf hv (by omega)];exact ih (i+1) _ (by omega) (S.new (by omega) hp hf hv) (by rw[abg (aae.mp hp).1];exact hp)
theorem DA (inj:∀ x y,dD x=dD y->x=y):∀ (n p:Nat) (fs:Fs α),(∀ d r,fs[p]? = some (d,r)->Seen dD nxt fin most first p r 0 fs)->∀ row fs',iP dD nxt fin most lim n p fs=.ends row fs'->AS nxt fin most first row:=by
 intro n
 induction n with
 | zero=>intro p fs _ row fs' h;cases h
 | succ n ih=>
  intro p fs hS row fs' h;rw[iP] at h;cases hd:fs[p]? with
  | none=>rw[hd] at h;cases h
  | some x=>
   obtain⟨d,r⟩:=x;rw[hd] at h;dsimp only at h;have S:=hS d r hd;rw[S.val hd] at h;obtain⟨b1,b2⟩:=HJ (lim:=lim) inj (most+1) 0 fs (by omega) S hd;cases hb:pR dD nxt fin lim d ((some r).getD []) (most+1) 0 fs with
   | many=>rw[hb] at h;cases h
   | ends row' f=>rw[hb] at h;cases h;exact b1 _ _ hb
   | on fs1=>
    rw[hb] at h;obtain⟨S1,hp1⟩:=b2 fs1 hb;refine ih (p+1) fs1 (λ d' r' h'=>?_) row fs' h;have hlt:=S1.sort p (p+1) _ _ (by omega) hp1 h';refine⟨S1.zero,S1.sort,λ x hx=>eB (S1.low x hx) (sJ _ _ hlt),S1.uniq,S1.run,λ q x a hq ha hh=>?_⟩;rcases hh with hh | ⟨_,hh⟩
    ·rcases (show q < p\/q=p by omega) with z | rfl
     ·exact S1.done q x a hq ha (.inl z)
     ·exact S1.done q x a hq ha (.inr ⟨rfl,by omega⟩)
    ·omega
theorem jG (inj:∀ x y,dD x=dD y->x=y) {row:List Int}{fs:Fs α} (h:HG dD nxt fin most lim first=.ends row fs):AS nxt fin most first row:=by
 refine DA inj (lim+1) 0 [(first,[])] (λ d r e=>?_) row fs h;cases e;refine⟨rfl,λ j k x y hjk hx hy=>?_,λ x hx=>?_,λ j k x y hx hy _=>?_,λ x hx=>?_,λ q x a hq ha hh=>by omega⟩
 ·have:=(aae.mp hy).1;simp at this;omega
 ·rw[aan] at hx;subst hx;exact .inl (by simp)
 ·have h1:=(aae.mp hx).1;have h2:=(aae.mp hy).1;simp at h1 h2;omega
 ·rw[aan] at hx;subst hx;exact⟨rfl,λ a ha=>by cases ha⟩
theorem vC (inj:∀ x y,dD x=dD y->x=y) {fs:Fs α} (h:S6 (dD:=dD) (nxt:=nxt) (fin:=fin) (most:=most) first fs):∀ u,iQ most u->oX nxt fin first false u=false:=by
 have key:∀ (u:List Int) (s:α) (b:Bool),(∃ q∈fs,q.1=s)->b=false->iQ most u->oX nxt fin s b u=false:=by
  intro u
  induction u with
  | nil=>intro s b _ hb _;exact hb
  | cons a u ih=>
   rintro s b ⟨q,hq,rfl⟩ hb hw;obtain⟨h0,h1⟩:=hw a aat;have ea:((a.toNat:Nat):Int)=a:=by omega
   obtain⟨hf,hv⟩:=h.2 q hq a.toNat (by omega);rw[ea] at hf hv;obtain⟨y,hy,e⟩:=gW hv;exact ih (nxt q.1 a) (fin q.1 a) ⟨y,hy,inj _ _ e⟩ hf λ c hc=>hw c (aap _ hc)
 intro u hu;obtain⟨q,hq,e⟩:=h.1;exact key u first false ⟨q,hq,inj _ _ e⟩ rfl hu
end
end Tw
namespace L2
open PySem PySem.Spec PyProof.Rows TwZ
open PySem.W (envX CodeHd tabObj)
section
variable {k nl:Nat}{f c:Addr}{name qual:Str}{params:Arguments}{body:List Stmt}{scope:Scope}{cl:List (Str×Addr)}{pm ctv doc:Value}{oc:Obj}{sp:Sp}{s:Shared}{N ps:List Str}{fv:List V}
theorem L1 (S:LamScope N ps scope cl) (len:∀ vs H Q,sp vs H Q E0->vs.length=ps.length) (hl:N.length=ps.length+nl+fv.length)
  (hoc:∃ vs t,oc.data=.fields vs/\vs[1]? = some (.str qual t)) (hbind:∀ us:List Value,us.length=ps.length->bindArgs (PySem.W.fnX name qual params body scope cl .none .none doc pm none (.ref c) ctv) ⟨us,[]⟩=pure (ps.zip us))
  (hcells:∀ y c,cl.lookup y=some c->∃ v,s.heap.IsCell c v) (hfv:∀ (i:Nat) (y:Str) (v:V),N[ps.length+nl+i]? = some y->fv[i]? = some v->scope.names.lookup y=some .free/\∃ c u,cl.lookup y=some c/\s.heap.IsCell c (some u)/\aX v u)
  (hbody:∀ (A:Around) (outer:List Env) (s':Shared) (H':Hp) (vs:List V) (Q:VK),Room k (A.deeper (envX qual scope s'.heap.objs.size f (.ref c) cl))->sp vs H' Q E0->
   ∃ t,wG (vW P w K mg base N qual scope f (.ref c) cl A outer s' H') body t/\t { nx:=λ _ H''=>Q .non H'',rt:=Q } (vs.map some++(List.replicate nl none++fv.map some)) H') :
  EN P w K mg base (k+1) f c (PySem.W.fnMade name qual params body scope cl doc pm c ctv) oc cl sp s:=by
 intro A outer s' H' us vs Q hr e0 hf ck r hsp;have hlen:=len _ _ _ hsp;have hul:us.length=ps.length:=by rw[<- r.length];exact hlen
 obtain⟨ef,_⟩:=(show bQ P w H' s'.heap f (.frz _ (.own f)) from e0.hok f _ hf.fn);obtain⟨ec,_⟩:=(show bQ P w H' s'.heap c (.frz _ (.own c)) from e0.hok c _ hf.cd);have lim:s'.heap.NoLimit:=e0.mod.nolimit.keeps λ b o e=>(e0.bs b o e).1;have cellK:∀ {y:Str}{a:Addr}{v:Option Value},cl.lookup y=some a->s.heap.IsCell a v->s'.heap.IsCell a v:=λ {y a v} h1 h2=>by
  have hm:a∈cl.map (·.2):=aaz.2 ⟨(y,a),abe h1,rfl⟩;obtain⟨o,e1,e2⟩:=h2;exact⟨o,ck.keep a hm o e1,e2⟩
 obtain⟨vs0,t0,hd0,hv0⟩:=hoc;refine codeAny_call_function hr.depth ef rfl S.co S.gen rfl ⟨c,oc,vs0,t0,rfl,ec,hd0,hv0⟩ ?_;rw[hbind us hul];have ndP:ps.Nodup:=by rw[<- S.pre];exact S.nd.sublist (List.take_sublist _ _)
 refine aaf (wpAny_newFunctionEnv S.nocell (λ y hy=>S.par _ (List.of_mem_zip hy).1) (λ h₁ hns hsb=>⟨lim.fresh _ hsb,?_⟩) S.kind);show codeAny _ _ (.func body (envX qual scope s'.heap.objs.size f (.ref c) cl)) _ _;refine codeAny_func ?_;have bw:∀ b o,s'.heap.get? b=some o->h₁.get? b=some o:=λ b o e=>hsb.extBut b o (abc (aaq e)) (aac _ e);obtain⟨te,hte,hq⟩:=hbody A outer s' H' vs Q (hr.deeper _) hsp;have I:Inv (vW P w K mg base N qual scope f (.ref c) cl A outer s' H') [] (vs.map some++(List.replicate nl none++fv.map some)) H' { s' with heap:=h₁,toks:=s'.toks+(ps.zip us).length }:=by
  have noA:∀ b:Addr,b∉(vW P w K mg base N qual scope f (.ref c) cl A outer s' H').ex:=λ b z=>absurd (show b∈([]:List Addr) from z) (by simp);refine⟨⟨e0.mod,S.kind,rfl,rfl,aal _,λ y z a h1 h2=>?_,λ y hy=>?_,λ y a h _=>absurd (show (false:Bool)=true from h) aar,λ _=>hr.hd,Around.frames_deeper e0.frames,.inr ⟨rfl,rfl⟩,λ b z=>absurd z (noA b),e0.bs,e0.bsz,λ b _ _=>noA b,λ b z=>absurd z (noA b),e0.funs,e0.frf⟩,
   rfl,e0.bare,Un.kept bw,⟨_,hns,λ i y v h1 h2 h3=>?_⟩,λ y a h=>?_,e0.hok.fresh (aal _),λ y a h=>?_,λ p hp=>absurd (show p∈([]:List (Addr×Obj)) from hp) (by simp),e0.hok.kept bw,?_⟩
  ·exact name_of_addr S.apart (abe h1) (abe h2)
  ·have hy:scope.names.lookup y=some .cell\/scope.names.lookup y=some .free:=hy;rcases hy with hy | hy
   ·exact absurd rfl (S.nocell _ (abe hy))
   ·exact S.frees y hy
  ·by_cases hi:i < vs.length
   ·rw[abg (by simpa using hi),aaj] at h2;obtain⟨a,ha,e⟩:=aas.mp h2;cases e;obtain⟨u,hu,rv⟩:=r.get ha;have hp:ps[i]? = some y:=by
     rw[<- S.pre,List.getElem?_take_of_lt (by omega)];exact h1
    exact⟨u,rv,.inl ⟨S.par y (aah hp),lE ndP hp hu⟩⟩
   ·rw[acm (by simpa using hi),aad] at h2;have hge:nl<=i - vs.length:=by
     rcases Nat.lt_or_ge (i - vs.length) nl with c | c
     ·rw[abg (by rw[adg];exact c),List.getElem?_replicate,if_pos c] at h2;cases h2
     ·exact c
    rw[acm (by rw[adg];exact hge),adg,aaj] at h2;obtain⟨a,ha,e⟩:=aas.mp h2;cases e;obtain⟨hk,a,u,h4,h5,rv⟩:=hfv (i - vs.length - nl) y v (by rw[show ps.length+nl+(i - vs.length - nl)=i by omega];exact h1) ha;obtain⟨o,e1,e2⟩:=cellK h4 h5;exact⟨u,rv,.inr ⟨.inr hk,a,h4,o,bw _ _ e1,e2⟩⟩
  ·obtain⟨v,hv⟩:=hcells y a h;obtain⟨o,e1,e2⟩:=cellK h hv;exact⟨v,o,bw _ _ e1,e2⟩
  ·exact ck.free a (aaz.2 ⟨(y,a),abe h,rfl⟩)
  ·show _=N.length;rw[aau,aau,adg,aad,aad];omega
 refine abl (hte [] _ _ H' _ I hq) (λ fl s'' hs=>?_) λ e s'' z=>z.elim;cases fl with
 | ret u=>
  obtain⟨v,Z,H'',J,rv,q⟩:=hs;exact⟨v,H'',J.os,J.bare,J.base,J.hok,rv,q⟩
 | next=>
  obtain⟨Z,H'',J,q⟩:=hs;exact⟨V.non,H'',J.os,J.bare,J.base,J.hok,rfl,q⟩
 | brk=>
  obtain⟨_,_,_,q⟩:=hs;exact False.elim q
 | cont=>
  obtain⟨_,_,_,q⟩:=hs;exact False.elim q
end
def tDef (i:Nat) (Pt:Addr) (pos:Pos) (q:Str) (mk:Addr->Value->Value->Obj):TS:=λ D σ H=>dM H Pt pos q/\∀ (f c:Addr) (oc:Obj) (ctv doc:Value) (H':Hp),H f=none->QL Pt H H'->dM H' Pt pos q->FnH H' f c (mk c ctv doc) oc->(∃ vs t,oc.data=.fields vs/\vs[1]? = some (.str q t))->D.nx (σ.set i (some (.ref f))) H'
section
variable {X:Cx}
theorem PF {name:Str}{params:Arguments}{body:List Stmt}{scope:Scope}{pos:Pos}{c Pt:Addr}{clos:List (Str×Addr)}{i:Nat} (hN:X.N.Nodup) (hi:X.N[i]? = some name) (hloc:X.env.scope.names.lookup name=some .local) (hd1:params.defaults=[]) (hd2:params.kw_defaults=[]) (hd3:annTrees params none X.env=[]) (hcl:closureFor scope X.env=pure clos) (hcode:X.env.code=.ref c) (NB:NestB X.mg X.base c Pt) :
  PS X (.FunctionDef name params body [] none [] scope none name pos) (tDef i Pt pos (qualnameIn X.env name name) λ c' ctv doc=>PySem.W.fnMade name (qualnameIn X.env name name) params body scope clos doc ((X.mg "__name__").getD .none) c' ctv):=by
 intro pins s σ H D I h;obtain⟨tab,h⟩:=h;refine PySem.W.nestDef_K hd1 hd2 hd3 ?_;have tf:∃ ps,H Pt=some (.tbl ps):=tab.some;have neB:∀ b o,X.base.get? b=some o->b≠Pt:=λ b o e z=>by
  obtain⟨ps,hp⟩:=tf;have:=(I.bs b o e).2;rw[z,hp] at this;cases this
 have hgs:=I.mod.glob.keeps I.bk;have hgP:mainGlobals≠Pt:=by
  obtain⟨o,es,ep,e,_⟩:=I.mod.glob;exact neB _ _ e
 obtain⟨bm,ob,b1,b2,b3,b4,b5,b6,b7⟩:=NB.bm;have hb:s.heap.BuiltinsAt X.mg Pt:=⟨bm,ob,b1,b2,b3,neB _ _ b4,I.bk _ _ b4,b5,b6,b7⟩;rcases tab with e | ⟨c',oc,vs,t,e,ec,d1,d2⟩
 ·have hP:s.heap.get? Pt=some (tabObj #[]):=(show bQ X.prog X.w H s.heap Pt (.tbl #[]) from I.hok Pt _ e);refine PySem.W.makeFunction_K (mg:=X.mg) hcl I.ok.glob hgs hcode (NB.hd.keeps I.bk) hP trivial rfl hgP hb λ c' ctv doc h' tk hx hge hlt hrec htb=>?_;obtain⟨c2,oc,vs,t,e2,hoc,d1,d2⟩:=hrec;cases e2;have hcn:H c'=none:=I.hok.fresh hge;have hPc:Pt≠c':=λ z=>by rw[<- z,e] at hcn;cases hcn
  have htb':h'.get? Pt=some (tabObj #[rawInt pos.line,rawInt pos.col,.ref c']):=by simpa using htb
  have J:Inv X pins σ (upd (upd H Pt (.tbl #[rawInt pos.line,rawInt pos.col,.ref c'])) c' (.frz oc (.own c'))) { s with heap:=h',toks:=tk }:=by
   have oth:∀ {b:Addr}{o:HO},H b=some o->b≠Pt->upd (upd H Pt (.tbl #[rawInt pos.line,rawInt pos.col,.ref c'])) c' (.frz oc (.own c')) b=some o:=λ {b o} q hb=>by
    rw[aI (aK q hcn),aI hb];exact q
   refine I.call (h':=h') (g':=s.gens) (d':=s.drawn) (t':=tk) (ch:=[]) ?_ ?_ I.bare (λ b z=>absurd z (by simp))
   ·refine⟨λ b o q n _ _=>hx b o (λ z=>by rw[z,e] at n;cases n) q,λ b o q n _ _=>⟨o.slots,hx b o (λ z=>by rw[z,e] at n;cases n) q⟩,λ b o q n _=>?_,λ b o q _=>?_,λ b xs q=>oth q (λ z=>by rw[z,e] at q;cases q),λ b o u q=>oth q (λ z=>by rw[z,e] at q;cases q),λ b ps q=>?_⟩
    ·rw[aI (abc (aax (aaq q) hge)),aI (λ z=>by rw[z,e] at n;cases n)];exact n
    ·by_cases hb':b=Pt
     ·subst hb';exact⟨_,htb'⟩
     ·exact⟨o,hx b o hb' q⟩
    ·by_cases hb':b=Pt
     ·subst hb';rw[e] at q;cases q;exact⟨#[rawInt pos.line,rawInt pos.col,.ref c'],by rw[aI hPc,aB];simp⟩
     ·exact⟨#[],by rw[oth q hb'];simp⟩
   ·intro b u q
    by_cases hbc:b=c'
    ·subst hbc;rw[aB] at q;cases q;exact⟨hoc,oc,hoc⟩
    ·rw[aI hbc] at q
     by_cases hb':b=Pt
     ·subst hb';rw[aB] at q;cases q;exact htb'
     ·rw[aI hb'] at q;refine (I.hok b u q).stay (λ d o hd r=>hx d o (λ z=>?_) r) (λ d r=>oth r (λ z=>by rw[z,e] at r;cases r)) λ d xs r=>oth r (λ z=>by rw[z,e] at r;cases r);rcases hd with rfl | hd
      ·exact hb' z
      ·rw[z,e] at hd;cases hd
  have J2:=Inv.frzNew (tk:=tk) (ob:=PySem.W.fnMade name (qualnameIn X.env name name) params body scope clos doc ((X.mg "__name__").getD .none) c' ctv) J (h':=h') (λ b o q=>q) (aal _);have hfc:c'≠h'.objs.size:=abc hlt;have hfP:Pt≠h'.objs.size:=abc (aaq htb');have hfn:H h'.objs.size=none:=I.hok.fresh (acd hge (ade hlt));refine eX J2 hN hi (.inl hloc) (v:=.ref h'.objs.size) rfl (λ s3 J3=>⟨_,_,J3,h h'.objs.size c' oc ctv doc _ hfn (λ b o hb' q=>?_) (.inr ⟨c',oc,vs,t,?_,?_,d1,d2⟩) ⟨aB,?_⟩ ⟨vs,t,d1,d2⟩⟩) (.inr hloc)
  ·rw[aI (aK q hfn),aI (aK q hcn),aI hb'];exact q
  ·rw[aI hfP,aI hPc,aB]
  ·rw[aI hfc,aB]
  ·rw[aI hfc,aB]
 ·have hP:s.heap.get? Pt=some (tabObj #[rawInt pos.line,rawInt pos.col,.ref c']):=(show bQ X.prog X.w H s.heap Pt (.tbl #[rawInt pos.line,rawInt pos.col,.ref c']) from I.hok Pt _ e);refine PySem.W.makeFunction_hit (mg:=X.mg) hcl I.ok.glob hgs hcode (NB.hd.keeps I.bk) hP (show TriplesOk [rawInt pos.line,rawInt pos.col,.ref c'] from trivial) (show codeAmong pos [rawInt pos.line,rawInt pos.col,.ref c']=some (.ref c') by simp [codeAmong,rawInt]) hb λ ctv doc h' tk hk hsz=>?_;have J2:=Inv.frzNew (tk:=tk) (ob:=PySem.W.fnMade name (qualnameIn X.env name name) params body scope clos doc ((X.mg "__name__").getD .none) c' ctv) I (h':=h') hk hsz;have hfn:H h'.objs.size=none:=I.hok.fresh hsz;have s1:=aG.new (o:=HO.frz (PySem.W.fnMade name (qualnameIn X.env name name) params body scope clos doc ((X.mg "__name__").getD .none) c' ctv) (.own h'.objs.size)) hfn;exact eX J2 hN hi (.inl hloc) (v:=.ref h'.objs.size) rfl (λ s3 J3=>⟨_,_,J3,h h'.objs.size c' oc ctv doc _ hfn (λ b o _ q=>s1 _ _ q) (.inr ⟨c',oc,vs,t,s1 _ _ e,s1 _ _ ec,d1,d2⟩) ⟨aB,s1 _ _ ec⟩ ⟨vs,t,d1,d2⟩⟩) (.inr hloc)
end
end L2
namespace Tw
open PySem L2
abbrev uE:=Sta×Sta
def uG (q:uE):L2.D:=.tup [cR q.1,cR q.2]
def nx2 (A B:Net) (q:uE) (a:Int):uE:=(q.1.nxA A a,q.2.nxA B a)
def N8 (A B:Net) (i j:Int) (q:uE) (a:Int):Bool:=!decide (V.bl (iC A i q.1 a)=V.bl (iC B j q.2 a))
def Ok2 (A B:Net) (q:uE):Prop:=kF A q.1/\kF B q.2
def sh2 (A B:Net):L2.D:=.tup [IH A,IH B]
theorem MY {K:aab}{H:Hp}{A B:Net}{q:uE}{v:V} (ok:Ok2 A B q) (h:Is K H (uG q) v):KeyD K H (sh2 A B) (uG q) v:=by
 refine⟨?_,?_,?_,h,?_⟩
 ·show sh (.tup [cR q.1,cR q.2])=_;rw[sh,kK,kK,kK,BN ok.1,BN ok.2];rfl
 ·show (L2.D.tup [.tup [.tup (q.1.held.map L2.D.int),.tup (q.1.coming.map L2.D.int),.tup (q.1.doors.map L2.D.bl)],.tup [.tup (q.2.held.map L2.D.int),.tup (q.2.coming.map L2.D.int),.tup (q.2.doors.map L2.D.bl)]]).depth<=7;rw[L2.D.depth,bM,bM,bM,L2.D.depth,L2.D.depth,tW,tW];decide
 ·show dF (.tup [cR q.1,cR q.2]);rw[dF,cP,cP,cP];exact⟨pD _,pD _,trivial⟩
 ·obtain⟨a,xs,rfl,_⟩:=(show Is K H (.tup [cR q.1,cR q.2]) v from h).un;exact⟨a,rfl⟩
theorem OV {K:aab}{H:Hp}{q:uE}{v:V} (h:Is K H (uG q) v):∃ (a:Addr) (x y:V),v=.ref a/\bC K H a [x,y]/\Is K H (cR q.1) x/\Is K H (cR q.2) y:=by
 obtain⟨a,xs,rfl,hq,l⟩:=(show Is K H (.tup [cR q.1,cR q.2]) v from h).un;rw[L2.IsL] at l;obtain⟨x,r,rfl,h1,l⟩:=l;rw[L2.IsL] at l;obtain⟨y,r,rfl,h2,l⟩:=l;rw[L2.IsL] at l;subst l;exact⟨a,x,y,rfl,hq,h1,h2⟩
abbrev uB (A B:Net) (i j:Int) (most:Nat):BRes uE:=HG uG (nx2 A B) (N8 A B i j) most 300 (kH A,kH B)
structure NdP (N:List Str):Prop where
 nd:N.Nodup
structure TxtP (mg:Str->Option Value):Prop where
 g_MOST_PAIRS:∃ u,mg "MOST_PAIRS" = some u/\aX (.int 300) u
def S2 (i:Nat) (st:Stmt):Pos:=match (fB st)[i]? with
 | some (.FunctionDef _ _ _ _ _ _ _ _ _ p)=>p
 | _=>⟨0,0,0,0⟩
def BT:Pos:=S2 0 (bO 29)
def P8:Str:=(("alike" : Str)++(".<locals>." : Str))++("step" : Str)
def wU (K:aab) (Pt:Addr) (cM:Addr):Sp:=λ vs H Q E=>∃ (x y:V) (A B:Net) (i j:Int) (most:Nat),vs=[x,y,.int i,.int j,.int most]/\Is K H (gB A) x/\Is K H (gB B) y/\NetOk A/\NetOk B/\most<=1000/\dM H Pt BT P8/\
  (∀ row fs,uB A B i j most=.ends row fs->∀ p rl H',SmT Pt BT P8 H H'->bC K H' p [.str "parted",.ref rl]->H' rl=some (.lst (row.map V.int))->H rl=none->row.length<=2000->Q (.ref p) H')/\
  (uB A B i j most=.many->∀ H',SmT Pt BT P8 H H'->E (.ref cM) none H')/\
  (∀ fs,uB A B i j most=.on fs->∀ p fl us H',SmT Pt BT P8 H H'->bC K H' p [.str "alike",.ref fl]->H' fl=some (.lst us)->H fl=none->Paired (λ (p:uE×List Int) v=>KeyD K H' (sh2 A B) (uG p.1) v) fs us->(∀ q∈fs,Ok2 A B q.1)->fs.length<=300->Q (.ref p) H')
theorem yX:FnScope ["net","other","one","two","most","step","row","pairs"] ["net","other","one","two","most"] (aM (bO 29)):={}
theorem JQ {f f2 f3 f4 c Pt:Addr}{fd fd2 fd3 fd4:FuncData} (F:Fun K "alike" "alike" (bO 29) f fd) (T:Txt mg) (hcode:fd.code=.ref c) (NB_alike:NestB mg base c Pt) (U:TxtP mg)
  (G_first_state:Callee P w K mg base "first_state" ["net"] 1 (nW K) f2 fd2)
  (G_watch:Callee P w K mg base "watch" ["net","state","vessel","amount"] 5 (nU K) f3 fd3) (G_go_through:CalleeS P w K mg base "go_through" ["first","step","most","limit"] 7 (vB P w K mg base c_TooMany uG) f4 fd4) :
  FnOk P w K mg base (nO P w) 8 f fd ["net","other","one","two","most"] (wU K Pt c_TooMany):=by
 refine Fun.okRC F hcode yX (λ vs H Q E h=>?_) (λ A outer s H vs Q E hr h L=>?_)
 ·obtain⟨x,y,N1,N2,i,j,most,rfl,_⟩:=h;rfl
 ·obtain⟨x,y,N1,N2,i,j,most,rfl,hx,hy,nok,mok,hm,tab,kE,kM,kO⟩:=h;have sc:=yX;refine⟨_,(aD (PF (i:=5) sc.nd rfl rfl rfl rfl rfl rfl rfl NB_alike)
   (aD (cI (sU G_go_through.ok (hr.mono (by decide)) rfl G_go_through.mg G_go_through.kp G_go_through.bd (jW L) rfl rfl (λ _=>rfl) (aA (bF (aA (eG G_first_state hr (aA (pv 0) aC)) (aA (eG G_first_state hr (aA (pv 1) aC)) aC))) (aA (pv 5) (aA (pv 4) (aA (sR rfl U.g_MOST_PAIRS) aC))))) (aU (K:=K) (n:=2) rfl rfl (aE (aF (i:=6) sc.nd rfl (Or.inl rfl)) (aE (aF (i:=7) sc.nd rfl (Or.inl rfl)) aS))))
   (aD (eF (bE JK (pv 6) fT (bP _)) (aJ (bH (bF (aA g9 (aA (pv 7) aC))))) cA)
   (aJ (bH (bF (aA g9 (aA (pv 6) aC)))))))),?_⟩
  refine⟨tab,λ fa ca oc ctv doc H2 hfa bt tab2 fnh hoc=>?_⟩;have sT:SmT Pt BT P8 H H2:=⟨bt,tab,tab2⟩;have hx2:=Is.mono sT.ts _ _ hx;have hy2:=Is.mono sT.ts _ _ hy;refine⟨_,rfl,x,N1,rfl,hx2,nok,λ s1 H3 m3 h3=>⟨_,rfl,y,N2,rfl,Is.mono m3.ts _ _ hy2,mok,λ s2 H4 m4 h4=>⟨(show 2<=sizeLine by decide),λ pp hpp=>⟨_,rfl,_,rfl,λ s1' cf=>?_⟩⟩⟩⟩;have s24:=m3.trans (m4.trans (aG.new (o:=HO.tup [s1,s2]) hpp));have sT5:=sT.step s24;have ipp:Is K (upd H4 pp (.tup [s1,s2])) (uG (kH N1,kH N2)) (.ref pp):=Is.tupOf (ds:=[cR (kH N1),cR (kH N2)]) (bC.of aB) (.cons (Is.mono (m4.trans (aG.new hpp)).ts _ _ h3) (.cons (Is.mono (aG.new hpp).ts _ _ h4) .nil));generalize upd H4 pp (.tup [s1,s2])=H5 at s24 sT5 ipp cf ⊢;have fnh5:=fnh.same s24;obtain⟨X,hX⟩:∃ X,X=jD (nO P w) P w K mg base ["net","other","one","two","most","step","row","pairs"] "alike" (aM (bO 29)) f (.ref c) A outer s H E:=⟨_,rfl⟩;rw[<- hX] at cf;have c1:X.env.cells.lookup ("net" : Str)=some (s.heap.objs.size+1):=by rw[hX];rfl
  have c2:X.env.cells.lookup ("other" : Str)=some (s.heap.objs.size+1+1):=by rw[hX];rfl
  have c3:X.env.cells.lookup ("one" : Str)=some (s.heap.objs.size+1+1+1):=by rw[hX];rfl
  have c4:X.env.cells.lookup ("two" : Str)=some (s.heap.objs.size+1+1+1+1):=by rw[hX];rfl
  have val:∀ (n:Nat) (z:Str) (u:V) (a:Addr),X.N[n]? = some z->(L2.start ["net","other","one","two","most","step","row","pairs"] [x,y,.int i,.int j,.int most] |>.set 5 (some (.ref fa)))[n]? = some (some u)->X.env.scope.names.lookup z=some .cell->X.env.cells.lookup z=some a->∃ w',s1'.heap.IsCell a (some w')/\aX u w':=λ n z u a h1 h2 h3 h4=>by
   obtain⟨c',w',h5,h6,h7⟩:=cf.val n z u h1 h2 h3;rw[h4] at h5;cases h5;exact⟨w',h6,h7⟩
  refine⟨nx2 N1 N2,N8 N1 N2 i j,Ok2 N1 N2,λ H=>Is K H (gB N1) x/\Is K H (gB N2) y,sh2 N1 N2,.ref pp,fa,ca,_,oc,[("two",s.heap.objs.size+1+1+1+1),("other",s.heap.objs.size+1+1),("one",s.heap.objs.size+1+1+1),("net",s.heap.objs.size+1)],most,300,(kH N1,kH N2),rfl,by decide,by decide,hm,ipp,⟨lU N1,lU N2⟩,⟨λ d a h _=>⟨n8 nok h.1 a,n8 mok h.2 a⟩,λ d h H v e=>MY h e,λ H H' t h=>⟨Is.mono t _ _ h.1,Is.mono t _ _ h.2⟩⟩,⟨Is.mono s24.ts _ _ hx2,Is.mono s24.ts _ _ hy2⟩,fnh5,⟨_,_,_,_,rfl⟩,?_,?_,?_,?_,?_⟩
  ·have four:∀ (z:Str) (c':Addr),List.lookup z [(("two" : Str),s.heap.objs.size+1+1+1+1),(("other" : Str),s.heap.objs.size+1+1),(("one" : Str),s.heap.objs.size+1+1+1),(("net" : Str),s.heap.objs.size+1)]=some c'->X.env.cells.lookup z=some c':=λ z c' h=>by
    have:=abe h;rcases aao.1 this with q | this
    ·injection q with q1 q2;subst q1 q2;exact c4
    rcases aao.1 this with q | this
    ·injection q with q1 q2;subst q1 q2;exact c2
    rcases aao.1 this with q | this
    ·injection q with q1 q2;subst q1 q2;exact c3
    ·rw[aan] at this;injection this with q1 q2;subst q1 q2;exact c1
   refine L1 (nl:=4) (N:=["pair","amount","state","tips","other_state","other_tips","net","one","other","two"]) (ps:=["pair","amount"]) (fv:=[x,.int i,y,.int j]) ⟨rfl,rfl,rfl,by decide +kernel,rfl,by decide +kernel,by decide +kernel,?_,?_⟩ ?_ rfl hoc ?_ ?_ ?_ ?_
   ·intro z hz;have:=abe hz;simp only [aao,Prod.mk.injEq,reduceCtorEq,and_false,and_true,false_or,or_false,acj] at this;rcases this with rfl | rfl | rfl | rfl <;> exact⟨_,rfl⟩
   ·refine List.Pairwise.cons (λ z hz=>?_) (List.Pairwise.cons (λ z hz=>?_) (List.Pairwise.cons (λ z hz=>?_) (List.pairwise_singleton _ _)))
    ·show s.heap.objs.size+1+1+1+1≠z.2;simp only [aao,acj,or_false] at hz;rcases hz with rfl | rfl | rfl <;> (dsimp only;omega)
    ·show s.heap.objs.size+1+1≠z.2;simp only [aao,acj,or_false] at hz;rcases hz with rfl | rfl <;> (dsimp only;omega)
    ·show s.heap.objs.size+1+1+1≠z.2;simp only [aao,acj,or_false] at hz;subst hz;dsimp only;omega
   ·rintro vs H' Q' ⟨x',d,a,rfl,_⟩;rfl
   ·intro us hus;obtain⟨u1,u2,rfl⟩:∃ u1 u2,us=[u1,u2]:=by
     match us,hus with
     | [u1,u2],_=>exact⟨u1,u2,rfl⟩
    rfl
   ·intro z c' h;exact cf.cell _ _ (four z c' h)
   ·intro n z u h1 h2
    match n,h1,h2 with
    | 0,h1,h2=>
     cases h1;cases h2;obtain⟨w',h4,h5⟩:=val 0 "net" x _ (by rw[hX];rfl) rfl (by rw[hX];rfl) c1;exact⟨rfl,_,w',rfl,h4,h5⟩
    | 1,h1,h2=>
     cases h1;cases h2;obtain⟨w',h4,h5⟩:=val 2 "one" (.int i) _ (by rw[hX];rfl) rfl (by rw[hX];rfl) c3;exact⟨rfl,_,w',rfl,h4,h5⟩
    | 2,h1,h2=>
     cases h1;cases h2;obtain⟨w',h4,h5⟩:=val 1 "other" y _ (by rw[hX];rfl) rfl (by rw[hX];rfl) c2;exact⟨rfl,_,w',rfl,h4,h5⟩
    | 3,h1,h2=>
     cases h1;cases h2;obtain⟨w',h4,h5⟩:=val 3 "two" (.int j) _ (by rw[hX];rfl) rfl (by rw[hX];rfl) c4;exact⟨rfl,_,w',rfl,h4,h5⟩
    | n+4,h1,h2=>simp at h2
   ·rintro A' outer' s' H' vs Q' hr ⟨v,d,a,rfl,hv,okd,ha,⟨g1,g2⟩,kk⟩;have sc:NdP ["pair","amount","state","tips","other_state","other_tips","net","one","other","two"]:=⟨by decide +kernel⟩;refine⟨_,(aD (cI (eG G_watch hr (aA (pv 6) (aA (bA (aO (K:=K) rfl) (pv 0) aH (λ _ _=>rfl)) (aA (pv 7) (aA (pv 1) aC))))) (aU (K:=K) (n:=2) rfl rfl (aE (aF (i:=2) sc.nd rfl (Or.inl rfl)) (aE (aF (i:=3) sc.nd rfl (Or.inl rfl)) aS))))
   (aD (cI (eG G_watch hr (aA (pv 8) (aA (bA (aO (K:=K) rfl) (pv 0) aH (λ _ _=>rfl)) (aA (pv 9) (aA (pv 1) aC))))) (aU (K:=K) (n:=2) rfl rfl (aE (aF (i:=4) sc.nd rfl (Or.inl rfl)) (aE (aF (i:=5) sc.nd rfl (Or.inl rfl)) aS))))
   (aJ (bH (bF (aA (bF (aA (pv 2) (aA (pv 4) aC))) (aA (jV JJ (pv 3) (pv 5) (bP _)) aC))))))),?_⟩
    obtain⟨pa,x1,x2,rfl,qpa,i1,i2⟩:=OV hv;refine⟨_,rfl,_,rfl,.inr (.inl ⟨pa,_,0,_,rfl,rfl,qpa,rfl,_,rfl,_,rfl,x,x1,N1,d.1,i,a,rfl,g1,i1,nok,okd.1,λ p b H7 s7 q7 j7=>?_⟩)⟩;refine⟨p,_,rfl,q7,rfl,_,_,rfl,_,_,rfl,rfl,?_⟩;refine⟨_,rfl,_,rfl,.inr (.inl ⟨pa,_,1,_,rfl,rfl,s7.tup qpa,rfl,_,rfl,_,rfl,y,x2,N2,d.2,j,a,rfl,Is.mono s7.ts _ _ g2,Is.mono s7.ts _ _ i2,mok,okd.2,λ p' b' H8 s8 q8 j8=>?_⟩)⟩;refine⟨p',_,rfl,q8,rfl,_,_,rfl,_,_,rfl,rfl,?_⟩;refine⟨_,rfl,_,rfl,(show 2<=sizeLine by decide),λ p3 hp3=>⟨_,rfl,_,rfl,rfl,(show 2<=sizeLine by decide),λ p4 hp4=>?_⟩⟩;have s9:=aG.new (o:=HO.tup [b,b']) hp3;have s10:=aG.new (o:=HO.tup [.ref p3,.bl (N8 N1 N2 i j d a)]) hp4;refine kk p4 (.ref p3) _ (((s7.trans s8).trans s9).trans s10) (bC.of aB) ?_;exact Is.tupOf (ds:=[cR (d.1.nxA N1 a),cR (d.2.nxA N2 a)]) (s10.tup (bC.of aB)) (.cons (Is.mono ((s8.trans s9).trans s10).ts _ _ j7) (.cons (Is.mono (s9.trans s10).ts _ _ j8) .nil))
  ·intro c' hc';have hc2:X.env.cells.lookup ("two" : Str)=some c'\/X.env.cells.lookup ("other" : Str)=some c'\/X.env.cells.lookup ("one" : Str)=some c'\/X.env.cells.lookup ("net" : Str)=some c':=by
    have:c'=s.heap.objs.size+1+1+1+1\/c'=s.heap.objs.size+1+1\/c'=s.heap.objs.size+1+1+1\/c'=s.heap.objs.size+1:=by simpa using hc'
    rcases this with rfl | rfl | rfl | rfl
    ·exact .inl c4
    ·exact .inr (.inl c2)
    ·exact .inr (.inr (.inl c3))
    ·exact .inr (.inr (.inr c1))
   have fin:∀ z:Str,X.env.cells.lookup z=some c'->H5 c'=none/\c'∉jL X.stack/\c' < s1'.heap.objs.size/\∃ o,s1'.heap.get? c'=some o:=λ z hz=>by
    obtain⟨h1,h2,h3⟩:=cf.out _ _ hz;obtain⟨u,o,h4,_⟩:=cf.cell _ _ hz;exact⟨h1,h2,h3,o,h4⟩
   rw[hX] at fin;rw[hX] at hc2;rcases hc2 with h | h | h | h <;> exact fin _ h
  ·intro row fs e p rl fl H6 s6 qp hrl frl hlen;refine⟨p,_,rfl,qp,rfl,_,_,rfl,_,_,rfl,rfl,?_⟩;refine⟨_,rfl,rfl,_,rfl,eE ?_⟩;refine⟨_,rfl,(show 2<=sizeLine by decide),λ tp htp=>?_⟩;have s7:=aG.new (o:=HO.tup [.str "parted",.ref rl]) htp;exact kE row fs e tp rl _ (sT5.step (s6.trans s7)) (bC.of aB) (s7 _ _ hrl) (sT5.free frl) hlen
  ·intro e H6 s6;exact kM e H6 (sT5.step s6)
  ·intro fs e p fl us H6 s6 qp hfl ffl pr oks hlen;refine⟨p,_,rfl,qp,rfl,_,_,rfl,_,_,rfl,rfl,?_⟩;refine⟨_,rfl,rfl,_,rfl,fH ?_⟩;refine⟨_,rfl,(show 2<=sizeLine by decide),λ tp htp=>?_⟩;have s7:=aG.new (o:=HO.tup [.str "alike",.ref fl]) htp;exact kO fs e tp fl us _ (sT5.step (s6.trans s7)) (bC.of aB) (s7 _ _ hfl) (sT5.free ffl) (L2.Paired.mapP pr λ _ _ h=>h.mono s7.ts) oks hlen
structure TxtM (mg:Str->Option Value):Prop where
 g_MOST_STATES:∃ u,mg "MOST_STATES_soonest" = some u/\aX (.int 300) u
theorem sD:FnScope ["net","vessel","most","row","states"] ["net","vessel","most"] (aM (bO 38)):={}
def BS:Pos:=O4 1 (bO 38)
def P7:Str:=(("soonest" : Str)++(".<locals>." : Str))++("<lambda>" : Str)
abbrev iV (net:Net) (v:Int) (most:Nat):BRes Sta:=HG cR (λ s a=>s.nxA net a) (iC net v) most 300 (kH net)
def BF (K:aab) (Pt:Addr) (cV cM:Addr):Sp:=λ vs H Q E=>∃ (x:V) (net:Net) (v:Int) (most:Nat),vs=[x,.int v,.int most]/\Is K H (gB net) x/\NetOk net/\most<=1000/\dM H Pt BS P7/\
 ((0<=v/\v < net.vs.length/\
  (∀ row fs,iV net v most=.ends row fs->∀ p rl H',SmT Pt BS P7 H H'->bC K H' p [.str "tips",.ref rl]->H' rl=some (.lst (row.map V.int))->H rl=none->row.length<=2000->Q (.ref p) H')/\
  (iV net v most=.many->∀ H',SmT Pt BS P7 H H'->E (.ref cM) none H')/\
  (∀ fs,iV net v most=.on fs->∀ p fl us H',SmT Pt BS P7 H H'->bC K H' p [.str "never",.ref fl]->H' fl=some (.lst us)->H fl=none->Paired (λ (p:Sta×List Int) v=>KeyD K H' (IH net) (cR p.1) v) fs us->(∀ q∈fs,kF net q.1)->fs.length<=300->Q (.ref p) H'))\/
  (¬ (0<=v/\v < net.vs.length)/\E (.ref cV) none H))
theorem CC {f f1 f2 f3 f4 c Pt:Addr}{fd fd1 fd2 fd3 fd4:FuncData} (F:Fun K "soonest" "soonest" (bO 38) f fd) (T:Txt mg) (hcode:fd.code=.ref c) (NB_soonest:NestB mg base c Pt) (U:TxtM mg)
  (G_need_vessel:CalleeR P w K mg base "need_vessel" ["net","number"] 2 (qZ K c_NoVessel) f1 fd1) (G_first_state:Callee P w K mg base "first_state" ["net"] 1 (nW K) f2 fd2)
  (G_watch:Callee P w K mg base "watch" ["net","state","vessel","amount"] 5 (nU K) f3 fd3) (G_go_through:CalleeS P w K mg base "go_through" ["first","step","most","limit"] 7 (vB P w K mg base c_TooMany cR) f4 fd4) :
  FnOk P w K mg base (nO P w) 8 f fd ["net","vessel","most"] (BF K Pt c_NoVessel c_TooMany):=by
 refine Fun.okRC F hcode sD (λ vs H Q E h=>?_) (λ A outer s H vs Q E hr h L=>?_)
 ·obtain⟨x,net,v,most,rfl,_⟩:=h;rfl
 ·obtain⟨x,net,v,most,rfl,hx,nok,hm,tab,k⟩:=h;have sc:=sD;refine⟨_,(aD (dA (gQ G_need_vessel.ok (hr.mono (by decide)) rfl G_need_vessel.mg G_need_vessel.kp G_need_vessel.bd .nil (jW L) (aA (pv 0) (aA (pv 1) aC))))
   (aD (cI (sU G_go_through.ok (hr.mono (by decide)) rfl G_go_through.mg G_go_through.kp G_go_through.bd (jW L) rfl rfl (λ _=>rfl) (aA (eG G_first_state hr (aA (pv 0) aC)) (aA (JA rfl rfl rfl NB_soonest) (aA (pv 2) (aA (sR rfl U.g_MOST_STATES) aC))))) (aU (K:=K) (n:=2) rfl rfl (aE (aF (i:=3) sc.nd rfl (Or.inl rfl)) (aE (aF (i:=4) sc.nd rfl (Or.inl rfl)) aS))))
   (aD (eF (bE JK (pv 3) fT (bP _)) (aJ (bH (bF (aA g9 (aA (pv 4) aC))))) cA)
   (aJ (bH (bF (aA g9 (aA (pv 3) aC)))))))),?_⟩
  refine⟨_,rfl,_,rfl,x,net,v,rfl,hx,?_⟩;rcases k with ⟨v0,v1,kE,kM,kO⟩ | ⟨hn,kV⟩
  ·refine .inl ⟨v0,v1,?_⟩;refine⟨_,rfl,x,net,rfl,hx,nok,λ st H1 s1 hst=>⟨tab.same s1,λ fa ca oc ctv H2 hfa bt tab2 fnh hoc=>⟨_,rfl,λ s1' cf=>?_⟩⟩⟩;have sT:SmT Pt BS P7 H H2:=(dM.of tab s1).trans ⟨bt,tab.same s1,tab2⟩;have cN:(jD (nO P w) P w K mg base ["net","vessel","most","row","states"] "soonest" (aM (bO 38)) f (.ref c) A outer s H E).env.cells.lookup ("net" : Str)=some (s.heap.objs.size+1):=rfl;have cW:(jD (nO P w) P w K mg base ["net","vessel","most","row","states"] "soonest" (aM (bO 38)) f (.ref c) A outer s H E).env.cells.lookup ("vessel" : Str)=some (s.heap.objs.size+1+1):=rfl;refine⟨λ s a=>s.nxA net a,iC net v,kF net,λ H=>Is K H (gB net) x,IH net,st,fa,ca,_,oc,[("vessel",s.heap.objs.size+1+1),("net",s.heap.objs.size+1)],most,300,kH net,rfl,by decide,by decide,hm,?_,lU net,⟨λ d a h _=>n8 nok h a,λ d h H v e=>xR h e,λ H H' t h=>Is.mono t _ _ h⟩,Is.mono sT.ts _ _ hx,fnh,⟨_,_,_,_,rfl⟩,?_,?_,?_,?_,?_⟩
   ·exact Is.mono (SmT.ts ⟨bt,tab.same s1,tab2⟩) _ _ hst
   ·have two:∀ (y:Str) (c:Addr),List.lookup y [(("vessel" : Str),s.heap.objs.size+1+1),(("net" : Str),s.heap.objs.size+1)]=some c->(y = "vessel" /\ c=s.heap.objs.size+1+1)\/(y = "net" /\ c=s.heap.objs.size+1):=λ y c h=>by
     have:=abe h;rcases aao.1 this with z | z
     ·injection z with z1 z2;exact .inl ⟨z1,z2⟩
     ·rw[aan] at z;injection z with z1 z2;exact .inr ⟨z1,z2⟩
    refine A2 (N:=["state","amount","net","vessel"]) (ps:=["state","amount"]) (fv:=[x,.int v]) ⟨rfl,rfl,rfl,by decide +kernel,rfl,by decide +kernel,by decide +kernel,?_,?_⟩ ?_ rfl hoc ?_ ?_ ?_ ?_
    ·intro y hy;have:=abe hy;simp only [aao,Prod.mk.injEq,reduceCtorEq,and_false,and_true,false_or,or_false,acj] at this;rcases this with rfl | rfl
     ·exact⟨_,rfl⟩
     ·exact⟨_,rfl⟩
    ·refine List.Pairwise.cons (λ y hy=>?_) (List.pairwise_singleton _ _);rw[aan] at hy;subst hy;show s.heap.objs.size+1+1≠s.heap.objs.size+1;omega
    ·rintro vs H' Q' ⟨x',d,a,rfl,_⟩;rfl
    ·intro us hus;obtain⟨u1,u2,rfl⟩:∃ u1 u2,us=[u1,u2]:=by
      match us,hus with
      | [u1,u2],_=>exact⟨u1,u2,rfl⟩
     rfl
    ·intro y c' h;rcases two y c' h with ⟨rfl,rfl⟩ | ⟨rfl,rfl⟩
     ·exact cf.cell _ _ cW
     ·exact cf.cell _ _ cN
    ·intro i y u h1 h2
     match i,h1,h2 with
     | 0,h1,h2=>
      cases h1;cases h2;obtain⟨c',u,h3,h4,h5⟩:=cf.val 0 "net" x rfl rfl rfl;rw[cN] at h3;cases h3;exact⟨rfl,_,u,rfl,h4,h5⟩
     | 1,h1,h2=>
      cases h1;cases h2;obtain⟨c',u,h3,h4,h5⟩:=cf.val 1 "vessel" (.int v) rfl rfl rfl;rw[cW] at h3;cases h3;exact⟨rfl,_,u,rfl,h4,h5⟩
     | i+2,h1,h2=>simp at h2
    ·rintro A' outer' s' H' vs Q' hr' ⟨y,d,a,rfl,hy,okd,ha,hG,kk⟩;refine⟨_,eG G_watch hr' (aA (pv 2) (aA (pv 0) (aA (pv 3) (aA (pv 1) aC)))),?_⟩;refine⟨_,rfl,_,rfl,_,rfl,_,rfl,x,y,net,d,v,a,rfl,hG,hy,nok,okd,λ p b H'' s'' q1 q2=>kk p b H'' s'' q1 q2⟩
   ·intro c' hc';have hc2:c'=s.heap.objs.size+1+1\/c'=s.heap.objs.size+1:=by simpa using hc'
    rcases hc2 with rfl | rfl
    ·obtain⟨h1,h2,h3⟩:=cf.out _ _ cW;obtain⟨u,o,h4,_⟩:=cf.cell _ _ cW;exact⟨h1,h2,h3,o,h4⟩
    ·obtain⟨h1,h2,h3⟩:=cf.out _ _ cN;obtain⟨u,o,h4,_⟩:=cf.cell _ _ cN;exact⟨h1,h2,h3,o,h4⟩
   ·intro row fs e p rl fl H3 s3 qp hrl frl hlen;refine⟨p,_,rfl,qp,rfl,_,_,rfl,_,_,rfl,rfl,?_⟩;refine⟨_,rfl,rfl,_,rfl,eE ?_⟩;refine⟨_,rfl,(show 2<=sizeLine by decide),λ tp htp=>?_⟩;have s4:=aG.new (o:=HO.tup [.str "tips",.ref rl]) htp;exact kE row fs e tp rl _ (sT.step (s3.trans s4)) (bC.of aB) (s4 _ _ hrl) (sT.free frl) hlen
   ·intro e H3 s3;exact kM e H3 (sT.step s3)
   ·intro fs e p fl us H3 s3 qp hfl ffl pr oks hlen;refine⟨p,_,rfl,qp,rfl,_,_,rfl,_,_,rfl,rfl,?_⟩;refine⟨_,rfl,rfl,_,rfl,fH ?_⟩;refine⟨_,rfl,(show 2<=sizeLine by decide),λ tp htp=>?_⟩;have s4:=aG.new (o:=HO.tup [.str "never",.ref fl]) htp;exact kO fs e tp fl us _ (sT.step (s3.trans s4)) (bC.of aB) (s4 _ _ hfl) (sT.free ffl) (L2.Paired.mapP pr λ _ _ h=>h.mono s4.ts) oks hlen
  ·exact .inr ⟨hn,kV⟩
section
variable {α ap:Type}{nxt:α->Int->α}{out:α->Int->Bool}{nxt':ap->Int->ap}{out':ap->Int->Bool}{most:Nat}
theorem QC (R:α->ap->Prop) (ho:∀ s t,R s t->∀ a:Int,out s a=out' t a) (hn:∀ s t,R s t->∀ a:Int,R (nxt s a) (nxt' t a)) {s:α}{t:ap} (h0:R s t):bh nxt out most s=bh nxt' out' most t:=by
 funext w
 induction w generalizing s t with
 | nil=>rw[bh,bh]
 | cons a w ih=>
  rw[bh,bh]
  by_cases h:a<=most
  ·rw[if_pos h,if_pos h,ho s t h0 a,ih (hn s t h0 a)]
  ·rw[if_neg h,if_neg h]
theorem nQ (R:α->ap->Prop) (ho:∀ s t,R s t->∀ a:Int,out s a=out' t a) (hn:∀ s t,R s t->∀ a:Int,R (nxt s a) (nxt' t a)):∀ (u:List Int) (b:Bool) (s:α) (t:ap),R s t->oX nxt out s b u=oX nxt' out' t b u
 | [],b,s,t,_=>rfl
 | a::u,b,s,t,h=>by rw[oX,oX,ho s t h a];exact nQ R ho hn u _ _ _ (hn s t h a)
theorem DH (R:α->Prop) (ho:∀ s,R s->∀ a:Int,out s a=false) (hn:∀ s,R s->∀ a:Int,R (nxt s a)):∀ (u:List Int) (s:α),R s->oX nxt out s false u=false
 | [],s,_=>rfl
 | a::u,s,h=>by rw[oX,ho s h a];exact DH R ho hn u _ (hn s h a)
theorem KJ {first:α}{first':ap} (R:α->ap->Prop) (h0:R first first') (ho:∀ s t,R s t->∀ a:Int,out s a=out' t a) (hn:∀ s t,R s t->∀ a:Int,R (nxt s a) (nxt' t a)) {r r':List Int} (g:AS nxt out most first r) (g':AS nxt' out' most first' r'):r=r':=by
 have e:=λ u=>nQ R ho hn u false first first' h0
 rcases DL r r' with c | c | c
 ·have:=g'.2.2 r g.2.1 c;rw[<- e,g.1] at this;cases this
 ·exact c
 ·have:=g.2.2 r' g'.2.1 c;rw[e,g'.1] at this;cases this
end
structure TrQ (A:Net) (w:Nat) (S:List Nat) (s s':Sta):Prop where
 ok:kF A s
 ok':kF (bK A S) s'
 st:TrSt A w S s.held s.coming (cU A.vs.length) s.doors s'.held s'.coming (cU (bK A S).vs.length) s'.doors
section
variable {A:Net}{w:Nat}{S:List Nat}{s s':Sta}
theorem HU (ok:NetOk A) (m:MatS A w S) (hw:w < A.vs.length):TrQ A w S (kH A) (kH (bK A S)):=⟨lU A,lU _,(tr0 ok m hw).st⟩
theorem rG (n i:Nat):(cU n).getD i 0=0:=by
 unfold cU;rw[aai,List.getElem?_replicate]
 split <;> rfl
theorem TrQ.pour (t:TrQ A w S s s') (m:MatS A w S) (a:Int):TrSt A w S s.held s.coming (a::cU (A.vs.length - 1)) s.doors s'.held s'.coming (a::cU ((bK A S).vs.length - 1)) s'.doors:=by
 refine⟨t.st.held,t.st.coming,λ i x hi hx=>?_,t.st.doors⟩;have z0:=m.zero;cases i with
 | zero=>
  rw[z0] at hi;cases hi;rfl
 | succ i=>
  cases x with
  | zero=>
   have l2:=aae.mp hi;have l3:=aae.mp z0;have:=(List.getElem_inj (h₀:=l2.1) (h₁:=l3.1) m.nd).1 (by rw[l2.2,l3.2]);omega
  | succ x=>
   rw[List.getD_cons_succ,List.getD_cons_succ,rG,rG]
theorem TrQ.next (t:TrQ A w S s s') (ok:NetOk A) (m:MatS A w S) (hw:w < A.vs.length) (a:Int):TrQ A w S (s.nxA A a) (s'.nxA (bK A S) a):=by
 have ok2:=kP ok m hw;exact⟨n8 ok t.ok a,n8 ok2 t.ok' a,LQ ok m hw t.ok (hZ ok a) t.ok' (hZ ok2 a) (t.pour m a)⟩
theorem yM {net:Net} (nok:NetOk net) {s:Sta} (ok:kF net s) {v:Nat} (hv:v < net.vs.length) (a:Int):iC net (v:Int) s a=eT (net.vs.getD v dQ) ((bJ net s.held s.coming (a::cU (net.vs.length - 1)) s.doors).getD v 0):=by
 unfold iC;show E5 (.int (v:Int)) ((fN net s.held s.coming (a::cU (net.vs.length - 1)) s.doors).tip.map λ (j:Nat)=>V.int (j:Int))=_;rw[rQ ok (hZ nok a)];unfold E5;rw[List.any_map];cases h:eT (net.vs.getD v dQ) ((bJ net s.held s.coming (a::cU (net.vs.length - 1)) s.doors).getD v 0) with
 | true=>
  rw[List.any_eq_true];exact⟨v,acu.2 ⟨abz.2 hv,h⟩,by simp [vT]⟩
 | false=>
  rw[List.any_eq_false];intro x hx e;have hx2:=(acu.1 hx).2;have:(x:Int)=(v:Int):=by simpa [vT] using e
  obtain rfl:x=v:=by omega
  rw[h] at hx2;cases hx2
theorem TrQ.tip (t:TrQ A w S s s') (ok:NetOk A) (m:MatS A w S) (hw:w < A.vs.length) {n:Nat} (hn:S[n]? = some w) (a:Int):iC A (w:Int) s a=iC (bK A S) (n:Int) s' a:=by
 have ok2:=kP ok m hw;have hnl:n < (bK A S).vs.length:=by rw[iU];exact (aae.mp hn).1
 rw[yM ok t.ok hw,yM ok2 t.ok' hnl,HW ok m hw t.ok (hZ ok a) t.ok' (hZ ok2 a) (t.pour m a) hn (xP ok.hi hw).2.2,wJ hn];rfl
theorem B1 (ok:NetOk A) (m:MatS A w S) (hw:w < A.vs.length) {n:Nat} (hn:S[n]? = some w) {most:Nat}{fs fs':Fs Sta} (h:iE A most=.on fs) (h':iE (bK A S) most=.on fs') {k k':Nat}
  (hf:gE (aY A w most fs) (aL (aY A w most fs) k)=aL (aY A w most fs) k) (hf':gE (aY (bK A S) n most fs') (aL (aY (bK A S) n most fs') k')=aL (aY (bK A S) n most fs') k') :
  dP (aY A w most fs) (aL (aY A w most fs) k)=dP (aY (bK A S) n most fs') (aL (aY (bK A S) n most fs') k'):=by
 obtain⟨M,e1,q1⟩:=tH h hf;obtain⟨M',e2,q2⟩:=tH h' hf';have eb:QD A w most=QD (bK A S) n most:=QC (TrQ A w S) (λ s t r a=>r.tip ok m hw hn a) (λ s t r a=>r.next ok m hw a) (HU ok m hw);rw[<- eb] at q2;rw[e1,e2,FL q1 q2]
theorem FI (ok:NetOk A) (m:MatS A w S) (hw:w < A.vs.length) {n:Nat} (hn:S[n]? = some w) {most:Nat}{r r':List Int}{fs fs':Fs Sta} (h:iV A w most=.ends r fs) (h':iV (bK A S) n most=.ends r' fs'):r=r':=
 KJ (TrQ A w S) (HU ok m hw) (λ s t r a=>r.tip ok m hw hn a) (λ s t r a=>r.next ok m hw a) (jG eN h) (jG eN h')
theorem yK (ok:NetOk A) (m:MatS A w S) (hw:w < A.vs.length) {n:Nat} (hn:S[n]? = some w) {most:Nat}{r:List Int}{fs fs':Fs Sta} (h:iV A w most=.ends r fs) (h':iV (bK A S) n most=.on fs'):False:=by
 have g:AS _ _ _ _ _:=jG eN h;have:=vC eN (oQ (by decide) h') r g.2.1;rw[<- nQ (TrQ A w S) (λ s t r a=>r.tip ok m hw hn a) (λ s t r a=>r.next ok m hw a) r false _ _ (HU ok m hw),g.1] at this;cases this
theorem yJ (ok:NetOk A) (m:MatS A w S) (hw:w < A.vs.length) {n:Nat} (hn:S[n]? = some w) {most:Nat}{r:List Int}{fs fs':Fs Sta} (h:iV A w most=.on fs) (h':iV (bK A S) n most=.ends r fs'):False:=by
 have g:AS _ _ _ _ _:=jG eN h';have:=vC eN (oQ (by decide) h) r g.2.1;rw[nQ (TrQ A w S) (λ s t r a=>r.tip ok m hw hn a) (λ s t r a=>r.next ok m hw a) r false _ _ (HU ok m hw),g.1] at this;cases this
theorem BE (p q:uE) (h:uG p=uG q):p=q:=by
 have h':L2.D.tup [cR p.1,cR p.2]=.tup [cR q.1,cR q.2]:=h;injection h' with h';injection h' with h1 h';injection h' with h2 _;exact Prod.ext (eN _ _ h1) (eN _ _ h2)
theorem B2 (ok:NetOk A) (m:MatS A w S) (hw:w < A.vs.length) {n:Nat} (hn:S[n]? = some w) {most:Nat}{r:List Int}{fs:Fs uE} (h:uB A (bK A S) w n most=.ends r fs):False:=by
 have g:AS _ _ _ _ _:=jG BE h;have:=DH (nxt:=nx2 A (bK A S)) (out:=N8 A (bK A S) w n) (λ q=>TrQ A w S q.1 q.2) (λ q r a=>by
  show (!decide (V.bl (iC A (w:Int) q.1 a)=V.bl (iC (bK A S) (n:Int) q.2 a)))=false;rw[r.tip ok m hw hn a];simp) (λ q r a=>r.next ok m hw a) r (kH A,kH (bK A S)) (HU ok m hw)
 rw[g.1] at this;cases this
end
end Tw
namespace L2
open PySem PySem.Spec PyProof.Rows TwZ
section
variable {X:Cx}
def QU (K:aab) (E:XK) (CT:Addr) (k:Nat) (tb ts:TS):TS:=λ D σ H=>tb D σ H/\
 ∀ (cls:Value) (H':Hp) (ea:Addr) (Z:St),E cls none H'->Z.length=k->H' ea=none->PySem.W.exmOne K cls (.ref CT)=some true/\
  ts { nx:=D.nx,rt:=D.rt } Z (upd H' ea (Q5 ea cls))
theorem M8 {EX:XK}{CT:Addr}{x:Str}{body suite:List Stmt}{fu:Stmt}{np hpos pos:Pos}{tb ts:TS} (hstk:X.stack=X.env::X.outer) (hfr:X.env.frame=some X.env.locals)
  (hb:∀ (pn:List (Addr×Obj)) (xe:Value->Shared->Prop),lR (nO X.prog X.w) (X.within pn xe) EX->wG (X.within pn xe) body tb)
  (hg:Gl X x) (hm:X.mg x=some (.ref CT))
  (hs:∀ ea:Addr,wG (X.caughtIn ea) (fu::suite) ts) (hd:(x == ("__debug__" : Str))=false:=by decide) :
  PS X (.Try body [.ExceptHandler (some (.Name x np)) none (fu::suite) hpos] [] [] pos) (QU X.K EX CT X.N.length tb ts):=by
 intro pins s σ H D I h;obtain⟨h1,h2⟩:=h;refine wpAny_Try_except ?_;let XE:Value->Shared->Prop:=λ e s'=>∃ (σ:St) (H:Hp) (s:Shared) (ea:Addr) (cls a0:Value) (H':Hp) (B:Heap),e=.ref ea/\Inv X pins σ H s/\s'.os=s.os/\AllBare s'.gens/\Fly X.prog X.w X.stack H s.heap ea cls a0 H' s'.heap B/\EX cls none H';have hpass:lR (nO X.prog X.w) (X.within (X.pn++pins) XE) EX:=by
  intro p2 σ H s e s' J hx;obtain⟨ea,cls,a0,H',B,rfl,os,bare,F,hE⟩:=hx;exact⟨σ,H,s,ea,cls,a0,H',B,rfl,J.unwithin,os,bare,F,hE⟩
 refine abl (hb (X.pn++pins) XE hpass [] s σ H D I.within h1) (λ f af hf=>?_) λ e af hx=>?_
 ·cases f with
  | next=>
   obtain⟨Z,H',J,q⟩:=hf;exact cA pins af Z H' D J.unwithin q
  | brk=>obtain⟨Z,H',J,q⟩:=hf;exact⟨Z,H',J.unwithin,q⟩
  | cont=>obtain⟨Z,H',J,q⟩:=hf;exact⟨Z,H',J.unwithin,q⟩
  | ret u=>obtain⟨v,Z,H',J,r,q⟩:=hf;exact⟨v,Z,H',J.unwithin,r,q⟩
 ·obtain⟨Z,H0,s0,ea,cls,a0,H',B,rfl,J,os,bare,F,hE⟩:=hx;have fr:X.A.frames=some (X.env::X.outer):=by rw[<- hstk];exact I.ok.frames
  have again:∀ h',Heap.FlyingW B X.stack ea cls a0 h'->af.heap.UpToSlots h'->Fly X.prog X.w X.stack H0 s0.heap ea cls a0 H' h' B:=λ h' fl sm=>
   ⟨fl,F.keep,λ b o e n hb=>by
    obtain⟨sl,e1⟩:=F.slot b o e n hb;obtain⟨_,o',ho',hd⟩:=J.stack.mem hb;rw[e] at ho';cases ho';obtain⟨sl',e2⟩:=sm b _ e1 hd;exact⟨sl',e2⟩,F.free,F.there,F.tups,F.frzs,F.tbls,F.hok⟩
  refine wpAny_looks_onW fr hfr (by rw[<- hstk];exact F.fl) λ am fm fi=>?_;refine wpAny_landsW fm λ az et fj=>?_;have F5:=again az (by rw[hstk];exact et) (fi.trans fj);obtain⟨hea,J5⟩:=J.caught (s':={ af with heap:=az }) os bare F5;have hlen:Z.length=X.N.length:=J.len;obtain⟨hmat,hts⟩:=h2 cls H' ea Z hE hlen hea;refine wpAny_handleBy_cons (codeAny_handlers_test (oH (X:=X.caughtIn ea) J5.mark hg hm ?_ hd)) (by intro q;cases q);obtain⟨ob,hob,hobc⟩:=et.there;have LT0:PySem.W.Looks (model X.prog X.w) az (typeOf (.ref ea)) ob.cls:=(PySem.W.Looks.ld hob).andThen .now;have LT:PySem.W.Looks (model X.prog X.w) az (typeOf (.ref ea)) cls:=by rw[<- hobc];exact LT0
  refine (PySem.W.exm_one (M:=model X.prog X.w) J5.kIn LT hmat).here ?_;refine codeAny_handlers_suite (lands_againW et λ cb fl₆ sm₆=>?_);have F6:=again cb (by rw[hstk];exact fl₆) ((fi.trans fj).trans sm₆);obtain⟨_,J6⟩:=J.caught (s':={ af with heap:=cb }) os bare F6;refine abl (hs ea pins _ _ _ _ J6.mark hts) (λ f s8 hf=>?_) λ _ _ z=>False.elim z;cases f with
  | next=>
   obtain⟨bq,H8,J8,q⟩:=hf;exact⟨_,_,J8.unmark I.ok,q⟩
  | brk=>obtain⟨_,_,_,q⟩:=hf;exact False.elim q
  | cont=>obtain⟨_,_,_,q⟩:=hf;exact False.elim q
  | ret u=>obtain⟨v,bq,H8,J8,r,q⟩:=hf;exact⟨v,_,_,J8.unmark I.ok,r,q⟩
end
end L2
namespace Tw
open PySem L2
structure Tabs3 (H:Hp) (Pa Pl Ps:Addr):Prop where
 a:dM H Pa BT P8
 l:dM H Pl x9 M7
 s:dM H Ps BS P7
structure Ne3 (Pa Pl Ps:Addr):Prop where
 al:Pa≠Pl
 as:Pa≠Ps
 ls:Pl≠Ps
structure SmA (Pa Pl Ps:Addr) (H H':Hp):Prop where
 but:∀ b o,b≠Pa->b≠Pl->b≠Ps->H b=some o->H' b=some o
 t1:Tabs3 H Pa Pl Ps
 t2:Tabs3 H' Pa Pl Ps
theorem SmT.tab {H H':Hp}{Pt Pt':Addr}{pos pos':Pos}{q q':Str} (h:SmT Pt pos q H H') (n:Pt'≠Pt) (t:dM H Pt' pos' q'):dM H' Pt' pos' q':=by
 rcases t with t | ⟨c,oc,vs,tk,h1,h2,h3⟩
 ·exact .inl (h.but _ _ n t)
 ·exact .inr ⟨c,oc,vs,tk,h.but _ _ n h1,h.get h2 (λ ps z=>by cases z),h3⟩
section
variable {Pa Pl Ps:Addr}{H H' H'':Hp}
theorem Tabs3.same (t:Tabs3 H Pa Pl Ps) (s:aG H H'):Tabs3 H' Pa Pl Ps:=⟨t.a.same s,t.l.same s,t.s.same s⟩
theorem Tabs3.but (t:Tabs3 H Pa Pl Ps) {r:Addr} (b:cB r H H') (hm:lS (H r)):Tabs3 H' Pa Pl Ps:=⟨wK t.a b hm,wK t.l b hm,wK t.s b hm⟩
theorem Tabs3.of (t:Tabs3 H Pa Pl Ps) (s:aG H H'):SmA Pa Pl Ps H H':=⟨λ b o _ _ _ e=>s b o e,t,t.same s⟩
theorem SmA.trans (a:SmA Pa Pl Ps H H') (b:SmA Pa Pl Ps H' H''):SmA Pa Pl Ps H H'':=⟨λ c o n1 n2 n3 e=>b.but c o n1 n2 n3 (a.but c o n1 n2 n3 e),a.t1,b.t2⟩
theorem SmA.step (a:SmA Pa Pl Ps H H') (s:aG H' H''):SmA Pa Pl Ps H H'':=a.trans (a.t2.of s)
theorem SmA.get (a:SmA Pa Pl Ps H H') {b:Addr}{o:HO} (e:H b=some o) (hn:∀ ps,o≠.tbl ps):H' b=some o:=by
 have key:∀ {Pt:Addr}{pos:Pos}{q:Str},dM H Pt pos q->b≠Pt:=λ t z=>by
  obtain⟨ps,h⟩:=t.some;rw[z,h] at e;exact hn ps (abf e).symm
 exact a.but b o (key a.t1.a) (key a.t1.l) (key a.t1.s) e
theorem SmA.ts {K:aab} (a:SmA Pa Pl Ps H H'):bI K H H':=λ b xs h=>by
 rcases h with (h | ⟨o,h⟩) | h
 ·exact .inl (.inl (a.get h λ ps z=>by cases z))
 ·exact .inl (.inr ⟨o,a.get h λ ps z=>by cases z⟩)
 ·exact .inr h
theorem SmA.tape {t sl:Addr} (a:SmA Pa Pl Ps H H') (h:fA H t sl):fA H' t sl:=by
 obtain⟨ns,p,cell,e,f,g⟩:=h;exact⟨ns,p,cell,a.get e (λ ps z=>by cases z),a.get f (λ ps z=>by cases z),g⟩
theorem SmA.ofA (h:SmT Pa BT P8 H H') (t:Tabs3 H Pa Pl Ps) (n:Ne3 Pa Pl Ps):SmA Pa Pl Ps H H':=⟨λ b o n1 _ _ e=>h.but b o n1 e,t,h.t2,h.tab (Ne.symm n.al) t.l,h.tab (Ne.symm n.as) t.s⟩
theorem SmA.ofL (h:SmT Pl x9 M7 H H') (t:Tabs3 H Pa Pl Ps) (n:Ne3 Pa Pl Ps):SmA Pa Pl Ps H H':=⟨λ b o _ n1 _ e=>h.but b o n1 e,t,h.tab n.al t.a,h.t2,h.tab (Ne.symm n.ls) t.s⟩
theorem SmA.ofS (h:SmT Ps BS P7 H H') (t:Tabs3 H Pa Pl Ps) (n:Ne3 Pa Pl Ps):SmA Pa Pl Ps H H':=⟨λ b o _ _ n1 e=>h.but b o n1 e,t,h.tab n.as t.a,h.tab n.ls t.l,h.t2⟩
theorem gF.sma {K:aab}{ml:Addr}{m:gU} (h:gF K H ml m) (s:SmA Pa Pl Ps H H'):gF K H' ml m:=by
 obtain⟨us,h1,h2⟩:=h;refine⟨us,s.get h1 (λ ps z=>by cases z),Paired.mapP h2 λ row u ⟨a,vs,e,h3,h4⟩=>⟨a,vs,e,s.get h3 (λ ps z=>by cases z),Paired.mapP h4 λ p v ⟨q,e,z⟩=>⟨q,e,s.ts _ _ z⟩⟩⟩
end
def rT (K:aab) (Pa Pl Ps:Addr):Sp:=λ vs H Q _=>∃ (way:Int) (x y:V) (net:Net) (v v':Int) (most:Nat),vs=[.int way,x,.int v,.int most,y,.int v']/\Is K H (gB net) x/\NetOk net/\most<=1000/\Tabs3 H Pa Pl Ps/\(∀ H',SmA Pa Pl Ps H H'->Q .non H')/\
 ((way=0/\∀ fs,iE net most=.on fs->∀ n rl H',SmA Pa Pl Ps H H'->gE (aY net v most fs) (aL (aY net v most fs) n)=aL (aY net v most fs) n->gF K H' rl (dP (aY net v most fs) (aL (aY net v most fs) n))->fs.length<=200->Q (.ref rl) H')\/
  (way=1/\0<=v/\v < net.vs.length/\
   (∀ row fs,iV net v most=.ends row fs->∀ p rl H',SmA Pa Pl Ps H H'->bC K H' p [.str "tips",.ref rl]->H' rl=some (.lst (row.map V.int))->Q (.ref p) H')/\
   (∀ fs,iV net v most=.on fs->∀ p q H',SmA Pa Pl Ps H H'->bC K H' p [.str "never",.ref q]->Q (.ref p) H'))\/
  (way=2/\∃ net2,Is K H (gB net2) y/\NetOk net2/\(∀ row fs,uB net net2 v v' most≠.ends row fs)/\∀ p q H',SmA Pa Pl Ps H H'->bC K H' p [.str "alike",.ref q]->Q (.ref p) H'))
theorem kX:FnScope ["way","net","watched","most","other","number","found"] ["way","net","watched","most","other","number"] (aM (bO 46)):={}
theorem sY {f f1 f2 f3 Pa Pl Ps:Addr}{fd fd1 fd2 fd3:FuncData} (F:Fun K "_law_told" "_law_told" (bO 46) f fd) (T:Txt mg) (mE_TooMany:mg "TooMany" = some (.ref c_TooMany)) (hxM:PySem.W.exmOne K (.ref c_TooMany) (.ref c_TooMany)=some true) (N3:Ne3 Pa Pl Ps)
  (G_least:CalleeR P w K mg base "least" ["net","watched","most"] 9 (wQ K Pl c_TooMany) f1 fd1)
  (G_soonest:CalleeR P w K mg base "soonest" ["net","vessel","most"] 8 (BF K Ps c_NoVessel c_TooMany) f2 fd2)
  (G_alike:CalleeR P w K mg base "alike" ["net","other","one","two","most"] 8 (wU K Pa c_TooMany) f3 fd3):FnOk P w K mg base mG 10 f fd ["way","net","watched","most","other","number"] (rT K Pa Pl Ps):=by
 refine F.ok kX (λ vs H Q E h=>?_) (λ cdv A outer s H vs Q E hr h=>?_)
 ·obtain⟨way,x,y,net,v,v',most,rfl,_⟩:=h;rfl
 ·obtain⟨way,x,y,net,v,v',most,rfl,hx,nok,hm,tab,kN,k⟩:=h;have sc:=kX;let EX:XK:=λ cls _ H'=>SmA Pa Pl Ps H H'/\cls=.ref c_TooMany;refine⟨_,(aD (aQ (i:=6) sc.nd rfl (Or.inl rfl) fT)
   (aD (M8 (EX:=EX) rfl rfl (λ pn xe hx=>(aJ (eF (bE kZ (pv 0) aH (bP _)) (aJ (aQ (i:=6) sc.nd rfl (Or.inl rfl) (gQ G_least.ok (hr.mono (by decide)) rfl G_least.mg G_least.kp G_least.bd .nil hx (aA (pv 1) (aA (pv 2) (aA (pv 3) aC)))))) (aJ (eF (bE kZ (pv 0) aH (bP _)) (aJ (aQ (i:=6) sc.nd rfl (Or.inl rfl) (gQ G_soonest.ok (hr.mono (by decide)) rfl G_soonest.mg G_soonest.kp G_soonest.bd .nil hx (aA (pv 1) (aA (pv 2) (aA (pv 3) aC)))))) (aJ (aQ (i:=6) sc.nd rfl (Or.inl rfl) (gQ G_alike.ok (hr.mono (by decide)) rfl G_alike.mg G_alike.kp G_alike.bd .nil hx (aA (pv 1) (aA (pv 4) (aA (pv 2) (aA (pv 5) (aA (pv 3) aC))))))))))))) rfl mE_TooMany (λ ea=>(aJ (aQ (i:=6) sc.nd rfl (Or.inl rfl) fT))))
   (aJ (bH (pv 6))))),?_⟩
  dsimp only [kQ,nR,gP,tC];refine⟨?_,?_⟩
  ·rcases k with ⟨rfl,k⟩ | ⟨rfl,v0,v1,kE,kO⟩ | ⟨rfl,net2,hy,nok2,hne,k⟩
   ·refine⟨_,rfl,rfl,_,rfl,fH ?_⟩;refine⟨_,rfl,_,rfl,_,rfl,x,net,v,most,rfl,hx,nok,hm,tab.l,λ e H3 s3=>⟨SmA.ofL s3 tab N3,rfl⟩,λ fs e n rl H3 s3 hf hM _ hl=>?_⟩;exact⟨_,rfl,k fs e n rl H3 (SmA.ofL s3 tab N3) hf hM hl⟩
   ·refine⟨_,rfl,rfl,_,rfl,eE ?_⟩;refine⟨_,rfl,rfl,_,rfl,fH ?_⟩;refine⟨_,rfl,_,rfl,_,rfl,x,net,v,most,rfl,hx,nok,hm,tab.s,.inl ⟨v0,v1,λ row fs e p rl H3 s3 qp h1 _ h3=>?_,λ e H3 s3=>⟨SmA.ofS s3 tab N3,rfl⟩,λ fs e p fl us H3 s3 qp _ _ _ _ _=>?_⟩⟩
    ·exact⟨_,rfl,kE row fs e p rl H3 (SmA.ofS s3 tab N3) qp h1⟩
    ·exact⟨_,rfl,kO fs e p fl H3 (SmA.ofS s3 tab N3) qp⟩
   ·refine⟨_,rfl,rfl,_,rfl,eE ?_⟩;refine⟨_,rfl,rfl,_,rfl,eE ?_⟩;refine⟨_,rfl,_,rfl,_,rfl,_,rfl,_,rfl,x,y,net,net2,v,v',most,rfl,hx,hy,nok,nok2,hm,tab.a,λ row fs e=>absurd e (hne row fs),λ e H3 s3=>⟨SmA.ofA s3 tab N3,rfl⟩,λ fs e p fl us H3 s3 qp _ _ _ _ _=>?_⟩;exact⟨_,rfl,k p fl H3 (SmA.ofA s3 tab N3) qp⟩
  ·rintro cls H' ea Z ⟨sH,rfl⟩ hlen hea;obtain⟨u0,u1,u2,u3,u4,u5,u6,rfl⟩:∃ u0 u1 u2 u3 u4 u5 u6,Z=[u0,u1,u2,u3,u4,u5,u6]:=by
    match Z,hlen with
    | [u0,u1,u2,u3,u4,u5,u6],_=>exact⟨_,_,_,_,_,_,_,rfl⟩
   have s1:=aG.new (o:=Q5 ea (.ref c_TooMany)) hea;refine⟨hxM,?_⟩;exact⟨_,rfl,kN _ (sH.step s1)⟩
end Tw
namespace HT
open PySem PySem.Spec PyProof.Rows L2
section
variable {prog:Program}{A:Around}{E:Value->Shared->Prop}{s:Shared}
theorem getItem_tuple_whole {t sl:Addr}{items:Array Value}{vl vu:Value}{lo hi:Option Int}{Q:Value->Shared->Prop} (ht:IsTup s.heap t items) (hs:s.heap.IsSliceOf sl vl vu .none) (pl:IsPart vl lo) (pu:IsPart vu hi)
  (hw:sIx items.size 0 lo=0/\sIx items.size items.size hi=items.size) (h:Q (.ref t) s):wpAny (model prog w) A (getItem (.ref t) (.ref sl)) Q E s:=by
 obtain⟨os,hos,hcs,hds⟩:=id hs;have hTs:s.TypeIs (.ref sl) "slice" := ⟨os,hos,hcs⟩;unfold getItem
 try with_reducible refine abq ?_
 first | refine aaa (aaf ?_) | skip
 refine aaa (wpAny_sequenceKey ht.typeIs (by decide) ?_);refine aaa (wpAny_callSpecial?_slot (name:=Str.ofString "__getitem__") ht.typeIs PyProof.Rows.slot_tuple_getitem
  (wpAny_call_entry PyProof.Rows.slot_tuple_getitem ht.typeIs entry_tuple_getitem ?_ (args_tuple_getitem _ _)))
 show wpAny _ _ (Builtin.Tuple.tupleItemsOf (.ref t) >>= _) _ _ s;refine aaa (tupleItemsOf_ ht ?_);refine aaa (wpAny_typeOf hTs ?_);rw[if_pos (by decide)];refine aaa (iW hs pl pu ?_);have hyes:(((sIx items.size 0 lo:Nat):Int) == 0 && (1:Int) == 1 && (sIx items.size items.size hi - sIx items.size 0 lo) == items.size)=true:=by
  rw[hw.1,hw.2];simp
 show wpAny _ _ (if (((sIx items.size 0 lo:Nat):Int) == 0 && (1:Int) == 1 && (sIx items.size items.size hi - sIx items.size 0 lo) == items.size)=true then _ else _) _ _ s;rw[if_pos hyes];refine aaa ?_;refine aaa (m:=Builtin.Tuple.tupleIsExact (.ref t)) ?_;unfold Builtin.Tuple.tupleIsExact;refine aaa (wpAny_typeOf ht.typeIs (aaf ?_));refine aaf ?_;rw[if_pos (by decide)];refine aaa (acz ?_);refine aaf ?_;refine⟨_,rfl,aaf ?_⟩;exact h
end
end HT
namespace L2
open PySem
section
variable {X:Cx}
def NS (K:aab):V->Option Int->Option Int->Hp->VK->Prop:=λ x lo hi H Q=>∃ a xs,x=.ref a/\bC K H a xs/\
 ((HT.sIx xs.length 0 lo=0/\HT.sIx xs.length xs.length hi=xs.length)->Q (.ref a) H)/\
 (¬ (HT.sIx xs.length 0 lo=0/\HT.sIx xs.length xs.length hi=xs.length)->∀ p,H p=none->Q (.ref p) (upd H p (.tup (D0 xs lo hi))))
theorem wV (hK:X.K=K):SlR X (NS K):=by
 subst hK;intro pins s σ H x v vl vu lo hi sl Q I rx hs pl pu h;obtain⟨a,xs,rfl,hx,q1,q2⟩:=h
 by_cases hw:HT.sIx xs.length 0 lo=0/\HT.sIx xs.length xs.length hi=xs.length
 ·have q1:=q1 hw;cases rx;obtain⟨its,r,ht,hz⟩:=I.tuple hx;have hlen:its.toArray.size=xs.length:=by rw[aaw];exact r.length.symm
  refine⟨"tuple",_,PyProof.Rows.slot_tuple_getitem.lookup,ht.typeIs,?_⟩;exact HT.getItem_tuple_whole ht hs pl pu (by rw[hlen];exact hw) ⟨.ref a,H,I,rfl,q1⟩
 ·exact OY pins s σ H _ v vl vu lo hi sl Q I rx hs pl pu ⟨a,xs,rfl,hx,hw,q2 hw⟩
end
end L2
namespace Tw
open PySem L2
theorem Ext.sm {t sl:Addr}{H H1 H2:Hp} (e:Ext t sl H H1) (s:aG H1 H2):Ext t sl H H2:=⟨e.bt.trans s.but,e.tp.same s⟩
theorem oK {K:aab}{H:Hp}:∀ (n:Nat) {ds:List L2.D}{xs:List V},L2.IsL K H ds xs->L2.IsL K H (ds.take n) (xs.take n)
 | 0,_,_,_=>.nil
 | n+1,[],xs,h=>by
  have:=h.length;cases xs with
  | nil=>exact .nil
  | cons _ _=>simp at this
 | n+1,d::ds,xs,h=>by
  cases xs with
  | nil=>have:=h.length;simp at this
  | cons x xs=>
   rw[L2.IsL] at h;obtain⟨x1,r,e,h1,h2⟩:=h;cases e;exact .cons h1 (oK n h2)
theorem rZ {K:aab}{H:Hp}{a:Addr}{xs:List V}{n:Nat}{Q:VK} (q:bC K H a xs) (k:∀ b H',aG H H'->bC K H' b (xs.take n)->Q (.ref b) H'):NS K (.ref a) none (some (n:Int)) H Q:=by
 refine⟨a,xs,rfl,q,λ h=>?_,λ h p hp=>?_⟩
 ·have h2:=h.2;rw[HT.sIx_nat] at h2;have e:xs.take n=xs:=acq (by omega);exact k a H (aG.refl H) (by rw[e];exact q)
 ·have e:D0 xs none (some (n:Int))=xs.take n:=by
   unfold D0;rw[HT.sIx_none,HT.sIx_nat,List.drop_zero,Nat.sub_zero];rcases Nat.le_total n xs.length with h | h
   ·rw[Nat.min_eq_left h]
   ·rw[Nat.min_eq_right h,aay,acq h]
  rw[e];exact k p _ (aG.new hp) (bC.of aB)
def mE (s:wE):wE:=(s.1,s.2.1 % 2,s.2.2)
def p8 (m:Nat) (as:List (Str×Int)):List (Str×Int):=as.filter λ a=>decide (a.2 < m)
theorem FJ {m:Nat}{as:List (Str×Int)}{j:Nat}{t':Str×Int} (ht':as[j]? = some t'):p8 m (as.take (j+1))=p8 m (as.take j)++(if t'.2 < m then [t'] else []):=by
 unfold p8;rw[acx,ht',List.filter_append];show _++List.filter _ [t']=_
 by_cases c:t'.2 < m
 ·rw[if_pos c,add (by exact abt c)];rfl
 ·rw[if_neg c,adc (by simpa using c)];rfl
def R3 (m:Nat) (v:Vs):Vs:=⟨if 3 < v.size then 3 else v.size,(if 3 < v.size then 3 else v.size)+v.brim % 2,v.outs.take 2,v.holds,v.spill,(p8 m v.acts).take 1⟩
def IG (net:Net):Net:=⟨net.vs.map (R3 ((net.sps.take 2).map mE).length),(net.sps.take 2).map mE⟩
theorem LX {net:Net} (nok:NetOk net):NetOk (IG net):=by
 refine⟨by show 1<=(net.vs.map _).length;rw[aad];exact nok.lo,by show (net.vs.map _).length<=12;rw[aad];exact nok.hi,?_,λ v hv=>?_,λ s hs=>?_⟩
 ·show ((net.sps.take 2).map mE).length<=12;rw[aad,aav];omega
 ·obtain⟨u,hu,rfl⟩:=aaz.1 hv;have ok:=nok.vs u hu;have el:(IG net).vs.length=net.vs.length:=by show (net.vs.map _).length=_;rw[aad]
  rw[el];have ho3:=ok.o3;have ha3:=ok.a3;refine⟨?_,?_,?_,λ o ho=>ok.outs o (List.mem_of_mem_take ho),ok.spill,?_,λ a ha=>?_⟩
  ·show 1<=if 3 < u.size then 3 else u.size
   have:=ok.size
   split <;> omega
  ·show u.outs.take 2≠[];have:=ok.ne;cases hq:u.outs with
   | nil=>exact absurd hq this
   | cons x r=>simp
  ·show (u.outs.take 2).length<=3;rw[aav];omega
  ·show ((p8 _ u.acts).take 1).length<=3;rw[aav];omega
  ·have ha':a∈p8 ((net.sps.take 2).map mE).length u.acts:=List.mem_of_mem_take ha;unfold p8 at ha';rw[acu] at ha';have aok:=ok.acts a ha'.1;exact⟨aok.word,aok.lo,abx ha'.2⟩
 ·obtain⟨u,hu,rfl⟩:=aaz.1 hs;have:=nok.sps u (List.mem_of_mem_take hu);show 0<=u.1/\u.1 < ((net.vs.map _).length:Int);rw[aad];exact this
def rU (K:aab):Sp:=λ args H Q _=>∃ (t sl:Addr),args=[.ref t]/\fA H t sl/\∀ (net:Net) p H',Ext t sl H H'->NetOk net->net.vs.length<=2->net.sps.length<=2->Is K H' (gB net) p->Q p H'
theorem mL:FnScope ["tape","net","spouts","vessels","size","brim","outs","holds","spill","acts"] ["tape"] (aM (bO 44)):={}
theorem sZ {f f1:Addr}{fd fd1:FuncData} (F:Fun K "_law_small" "_law_small" (bO 44) f fd) (T:Txt mg) (G__law_net:Callee P w K mg base "_law_net" ["tape","most","small"] 4 (BJ K) f1 fd1) :
  FnOk P w K mg base mG 5 f fd ["tape"] (rU K):=by
 refine F.ok mL (λ vs H Q E h=>?_) (λ cdv A outer s H vs Q E hr h=>?_)
 ·obtain⟨t,sl,rfl,_⟩:=h;rfl
 ·obtain⟨t,sl,rfl,tp,k⟩:=h;have sc:=mL;refine⟨_,(aD (aQ (i:=1) sc.nd rfl (Or.inl rfl) (eG G__law_net hr (aA (pv 0) (aA aH (aA kY aC)))))
   (aD (aQ (i:=2) sc.nd rfl (Or.inr rfl) (aV (bN (K:=K) rfl) rfl T.b_tuple bV (aA (i5 (λ _ _ h=>h) rfl (LcOk.mk (N':=["target","flow","is_open"]) (fr:=[none,none,none]) rfl trivial rfl rfl rfl rfl rfl trivial) (fR (K:=K) rfl (sQ (wV (K:=K) rfl) (bA (aO (K:=K) rfl) (pv 1) aH (λ _ _=>rfl)) xB (xA aH))) (λ _ _ _=>(aU (K:=K) (n:=3) rfl rfl (aE (aF (i:=0) (show (["target","flow","is_open"]:List Str).Nodup by decide +kernel) rfl (Or.inl rfl) (Or.inr rfl)) (aE (aF (i:=1) (show (["target","flow","is_open"]:List Str).Nodup by decide +kernel) rfl (Or.inl rfl) (Or.inr rfl)) (aE (aF (i:=2) (show (["target","flow","is_open"]:List Str).Nodup by decide +kernel) rfl (Or.inl rfl) (Or.inr rfl)) aS))))) (λ _ _ _=>cG) (λ _ _ _=>(bF (aA (pv 0) (aA (bB n6 (pv 1) aH) (aA (pv 2) aC)))))) aC)))
   (aD (aQ (i:=3) sc.nd rfl (Or.inl rfl) (cJ aC))
   (aD (eD PassesOwn.never rfl (fR (K:=K) rfl (bA (aO (K:=K) rfl) (pv 1) aH (λ _ _=>rfl))) (aU (K:=K) (n:=6) rfl rfl (aE (aF (i:=4) sc.nd rfl (Or.inl rfl)) (aE (aF (i:=5) sc.nd rfl (Or.inl rfl)) (aE (aF (i:=6) sc.nd rfl (Or.inl rfl)) (aE (aF (i:=7) sc.nd rfl (Or.inl rfl)) (aE (aF (i:=8) sc.nd rfl (Or.inl rfl)) (aE (aF (i:=9) sc.nd rfl (Or.inl rfl)) aS))))))) (aD (aQ (i:=9) sc.nd rfl (Or.inl rfl) (aV (bN (K:=K) rfl) rfl T.b_tuple bV (aA (i5 (λ _ _ h=>h) rfl (LcOk.mk (N':=["act","spouts"]) (fr:=[none,some 2]) rfl ⟨rfl,trivial⟩ rfl rfl rfl rfl rfl ⟨⟨_,rfl,rfl,rfl,rfl⟩,trivial⟩) (fR (K:=K) rfl (pv 9)) (λ _ _ _=>(aF (i:=0) (show (["act","spouts"]:List Str).Nodup by decide +kernel) rfl (Or.inl rfl) (Or.inr rfl))) (λ _ _ _=>xC (bE sV (bA (aO (K:=K) rfl) (pv 0) aH (λ _ _=>rfl)) (bD (cD (K:=K) rfl) rfl T.b_len ace (aA (pv 1) aC)) (bP _))) (λ _ _ _=>(pv 0))) aC)))
   (aJ (dA (gA (K:=K) rfl abm abn abo cX (pv 3) (aA (bF (aA (bD (vZ rfl) rfl T.b_min PyProof.Rows.boot_min (aA (pv 4) (aA aH aC))) (aA (bB dB (bD (vZ rfl) rfl T.b_min PyProof.Rows.boot_min (aA (pv 4) (aA aH aC))) (bB n6 (pv 5) aH)) (aA (sQ (wV (K:=K) rfl) (pv 6) xB (xA aH)) (aA (pv 7) (aA (pv 8) (aA (sQ (wV (K:=K) rfl) (pv 9) xB (xA aH)) aC))))))) aC))))))
   (aJ (bH (bF (aA (aV (bN (K:=K) rfl) rfl T.b_tuple bV (aA (pv 3) aC)) (aA (pv 2) aC))))))))),?_⟩
  refine⟨_,rfl,t,sl,2,true,rfl,by decide,by decide,tp,λ net x H1 e1 nok nfu hml hx=>?_⟩;obtain⟨ax,av,as,xs,ys,rfl,qx,qv,lv,qs,ls⟩:=iM hx;have exl:xs.length=net.vs.length:=by rw[lv.length,aad]
  have eyl:ys.length=net.sps.length:=by rw[ls.length,aad]
  have n2:net.vs.length<=2:=by omega
  refine⟨_,rfl,.inr (.inl ⟨ax,_,1,_,rfl,rfl,qx,rfl,_,rfl,rZ (n:=2) qs λ b H2 s2 q2=>?_⟩)⟩;have l2:L2.IsL K H2 ((net.sps.take 2).map yT) (ys.take 2):=by
   rw[List.map_take];exact oK 2 (L2.IsL.mono s2.ts _ _ ls)
  refine⟨b,rfl,⟨_,q2⟩,lI (K:=K) (a:=b) (xs:=ys.take 2) (λ D i r Z H'=>H2 D=none/\aG H2 H'/\H' D=some (.lst r)/\L2.IsL K H' ((((net.sps.take 2).take i).map mE).map yT) r/\∃ u1 u2 u3,Z=[u1,u2,u3])
   (λ D i r Z H' p=>p.2.1.tup q2) (λ D hD=>⟨hD,aG.new hD,aB,.nil,none,none,none,rfl⟩) ?_ ?_⟩
  rotate_left
  ·rintro D i y r Z H3 hy ⟨hD,sm,hDl,lr,u1,u2,u3,rfl⟩;obtain⟨sp,hsp,sa,rfl,qsp⟩:=wL l2 hy;have hil:=(aae.mp hsp).1;refine⟨sa,_,rfl,sm.tup qsp,rfl,_,_,rfl,_,_,rfl,_,_,rfl,rfl,?_⟩;refine hJ ?_;refine⟨_,rfl,_,rfl,_,_,rfl,rfl,(show (0:Int) < 2 by decide),_,rfl,(show 3<=sizeLine by decide),λ e he=>?_⟩;have m1:=aG.new (o:=HO.tup [.int sp.1,.int (sp.2.1 % 2),.bl sp.2.2]) he;have i1:Is K (upd H3 e (.tup [.int sp.1,.int (sp.2.1 % 2),.bl sp.2.2])) (yT (mE sp)) (.ref e):=Is.tupOf (ds:=[.int sp.1,.int (sp.2.1 % 2),.bl sp.2.2]) (bC.of aB) (.cons (Is.i _) (.cons (Is.i _) (.cons (Is.b _) .nil)));generalize upd H3 e (.tup [.int sp.1,.int (sp.2.1 % 2),.bl sp.2.2])=H4 at m1 i1 ⊢;have hDl2:=m1 _ _ hDl;have muD:lS (H4 D):=by rw[hDl2];exact trivial
   have hrl:r.length<=12:=by rw[lr.length,aad,aad,aav,aav];omega
   refine⟨hDl2,aW (by omega),hD,(sm.trans m1).put hD,aB,?_,_,_,_,rfl⟩;rw[acx,hsp,aam,aam];exact L2.IsL.snoc (Is.mono (cB.ts cB.upd muD) _ _ i1) (L2.IsL.mono (m1.ts.trans (cB.ts cB.upd muD)) _ _ lr)
  rintro D1 r1 Z H3 ⟨hD1,sm1,hDl1,lr1,_⟩;rw[show (ys.take 2).length=(net.sps.take 2).length by rw[aav,aav,eyl],aay] at lr1;refine⟨D1,_,rfl,.inl ⟨bR.of hDl1,λ p1 hp1=>?_⟩⟩;have m3:=aG.new (o:=HO.tup r1) hp1;have t3:bC K (upd H3 p1 (.tup r1)) p1 r1:=bC.of aB;generalize upd H3 p1 (.tup r1)=H4 at m3 t3 ⊢;have s14:=(s2.trans sm1).trans m3;have lr4:=L2.IsL.mono m3.ts _ _ lr1;have er1:r1.length=((net.sps.take 2).map mE).length:=by rw[lr1.length,aad]
  refine⟨abw _,λ D hD=>?_⟩;have s5:=aG.new (o:=HO.lst []) hD;have g5:upd H4 D (.lst []) D=some (.lst []):=aB;have fD:H4 D=none:=hD;generalize upd H4 D (.lst [])=H5 at s5 g5 ⊢;have fD1:H1 D=none:=s14.free fD;refine⟨_,rfl,.inr (.inl ⟨ax,_,0,_,rfl,rfl,(s14.trans s5).tup qx,rfl,av,rfl,⟨_,(s14.trans s5).tup qv⟩,xX (K:=K) (a:=av) (xs:=xs) (λ i Z H'=>aG H4 H'/\(∃ rr,H' D=some (.lst rr)/\L2.IsL K H' (((net.vs.take i).map (R3 ((net.sps.take 2).map mE).length)).map rJ) rr)/\
   ∃ v4 v5 v6 v7 v8 v9,Z=[some (.ref t),some (.ref ax),some (.ref p1),some (.ref D),v4,v5,v6,v7,v8,v9]) ?_ ?_ ?_ ?_⟩)⟩
  ·exact⟨s5,⟨[],g5,.nil⟩,_,_,_,_,_,_,rfl⟩
  ·rintro i Z H' _ ⟨s6,_⟩;exact (s14.trans s6).tup qv
  ·rintro i y Z H6 hy ⟨s6,⟨rr,hDl,lrr⟩,v4,v5,v6,v7,v8,v9,rfl⟩;obtain⟨dv,hdv,hyd⟩:=lv.get' hy;rw[aaj] at hdv;obtain⟨v,hv,rfl⟩:=aas.mp hdv;have vok:=nok.vs v (aah hv);have hil:=(aae.mp hv).1;have s16:=s14.trans s6;obtain⟨a,o,c,rfl,q,io,ic⟩:=yH (Is.mono s16.ts _ _ hyd);obtain⟨oa,os,rfl,qo,lo⟩:=io.un;obtain⟨ca,cs,rfl,qc,lc⟩:=ic.un;have ecl:cs.length=v.acts.length:=by rw[lc.length,aad]
   have ha3:=vok.a3;refine⟨a,_,rfl,q,rfl,_,_,rfl,_,_,rfl,_,_,rfl,_,_,rfl,_,_,rfl,_,_,rfl,rfl,?_⟩;dsimp only [kQ];refine⟨_,rfl,ca,rfl,⟨_,qc⟩,lI (K:=K) (a:=ca) (xs:=cs) (λ E i r Z H'=>H6 E=none/\aG H6 H'/\H' E=some (.lst r)/\L2.IsL K H' ((p8 ((net.sps.take 2).map mE).length (v.acts.take i)).map pT) r/\∃ u1,Z=[u1,some (.ref p1)])
    (λ E i r Z H' p=>p.2.1.tup qc) (λ E hE=>⟨hE,aG.new hE,aB,.nil,none,rfl⟩) ?_ ?_⟩
   rotate_left
   ·rintro E j z r Z H7 hz ⟨hE,sm,hEl,lr,u1,rfl⟩;obtain⟨t',ht',ta,rfl,qt⟩:=rF lc hz;have hjl:=(aae.mp ht').1;have hsn:p8 ((net.sps.take 2).map mE).length (v.acts.take (j+1))=p8 ((net.sps.take 2).map mE).length (v.acts.take j)++(if t'.2 < ((net.sps.take 2).map mE).length then [t'] else []):=FJ ht';have hrl:r.length<=12:=by
     rw[lr.length,aad];have:=List.length_filter_le (λ a:Str×Int=>decide (a.2 < ((net.sps.take 2).map mE).length)) (v.acts.take j);unfold p8;rw[aav] at this;omega
    refine⟨_,rfl,.inr (.inl ⟨ta,_,1,_,rfl,rfl,sm.tup qt,rfl,_,rfl,p1,r1,rfl,.inr ((s6.trans sm).tup t3),_,_,rfl,rfl,_,rfl,kI (λ hT=>?_) λ hN=>?_⟩)⟩
    ·have hT:t'.2 < (r1.length:Int):=by simpa using hT
     rw[er1] at hT;refine⟨_,rfl,hEl,aW (by omega),hE,sm.put hE,aB,?_,_,rfl⟩;have muE:lS (H7 E):=by rw[hEl];exact trivial
     rw[hsn,if_pos hT,aam];refine L2.IsL.snoc (Is.mono (cB.ts cB.upd muE) _ _ ?_) (L2.IsL.mono (cB.ts cB.upd muE) _ _ lr);exact Is.tupOf (ds:=[.str t'.1,.int t'.2]) (sm.tup qt) (.cons (Is.s _) (.cons (Is.i _) .nil))
    ·have hN:¬ t'.2 < (r1.length:Int):=by simpa using hN
     rw[er1] at hN;refine⟨hE,sm,hEl,?_,_,rfl⟩;rw[hsn,if_neg hN,acy];exact lr
   rintro E1 r2 Z H7 ⟨hE1,sm7,hEl1,lr2,_⟩;rw[ecl,aay] at lr2;refine⟨E1,_,rfl,.inl ⟨bR.of hEl1,λ p2 hp2=>?_⟩⟩;have m8:=aG.new (o:=HO.tup r2) hp2;have t8:bC K (upd H7 p2 (.tup r2)) p2 r2:=bC.of aB;generalize upd H7 p2 (.tup r2)=H8 at m8 t8 ⊢;have s68:=sm7.trans m8;have hDl8:=s68 _ _ hDl;refine⟨_,rfl,.inl ⟨rfl,_,bR.of hDl8⟩,?_⟩;refine⟨_,rfl,_,_,rfl,_,rfl,_,_,rfl,_,rfl,_,_,rfl,rfl,(show (0:Int) < 2 by decide),_,_,rfl,rfl,_,rfl,_,rfl,rZ (n:=2) (s68.tup qo) λ b9 H9 s9 q9=>?_⟩;refine⟨_,rfl,_,rfl,_,rfl,_,rfl,rZ (n:=1) (s9.tup t8) λ b10 H10 s10 q10=>⟨(show 6<=sizeLine by decide),λ p hp=>?_⟩⟩;have m11:=aG.new (o:=HO.tup [.int (if 3 < v.size then 3 else v.size),.int ((if 3 < v.size then 3 else v.size)+v.brim % 2),.ref b9,.bl v.holds,iB v.spill,.ref b10]) hp;have t11:bC K (upd H10 p (.tup [.int (if 3 < v.size then 3 else v.size),.int ((if 3 < v.size then 3 else v.size)+v.brim % 2),.ref b9,.bl v.holds,iB v.spill,.ref b10])) p _:=bC.of aB;generalize upd H10 p (.tup [.int (if 3 < v.size then 3 else v.size),.int ((if 3 < v.size then 3 else v.size)+v.brim % 2),.ref b9,.bl v.holds,iB v.spill,.ref b10])=H11 at m11 t11 ⊢;have s811:=(s9.trans s10).trans m11;have hDl11:=s811 _ _ hDl8;have hrl:rr.length<=12:=by
    rw[lrr.length,aad,aad,aav];have:=nok.hi;omega
   refine⟨D,rr,_,rfl,rfl,hDl11,aW (by omega),?_⟩;have muD:lS (H11 D):=by rw[hDl11];exact trivial
   refine⟨((s6.trans s68).trans s811).put fD,⟨_,aB,?_⟩,_,_,_,_,_,_,rfl⟩;rw[show net.vs.take (i+1)=net.vs.take i++[v] by rw[acx,hv];rfl,aam,aam];refine L2.IsL.snoc (Is.mono (cB.ts cB.upd muD) _ _ ?_) (L2.IsL.mono ((s68.trans s811).ts.trans (cB.ts cB.upd muD)) _ _ lrr);have lo9:L2.IsL K H11 ((v.outs.take 2).map qR) (os.take 2):=by
    rw[List.map_take];exact oK 2 (L2.IsL.mono (s68.trans s811).ts _ _ lo)
   have lc9:L2.IsL K H11 (((p8 ((net.sps.take 2).map mE).length v.acts).take 1).map pT) (r2.take 1):=by
    rw[List.map_take];exact oK 1 (L2.IsL.mono (m8.trans s811).ts _ _ lr2)
   exact Is.tupOf (ds:=[.int (if 3 < v.size then 3 else v.size),.int ((if 3 < v.size then 3 else v.size)+v.brim % 2),.tup ((v.outs.take 2).map qR),.bl v.holds,LO v.spill,.tup (((p8 ((net.sps.take 2).map mE).length v.acts).take 1).map pT)]) t11
    (.cons (Is.i _) (.cons (Is.i _) (.cons (Is.tupOf ((s10.trans m11).tup q9) lo9) (.cons (Is.b _) (.cons (Is.tgOf _) (.cons (Is.tupOf (m11.tup q10) lc9) .nil))))))
  ·rintro Z H6 ⟨s6,⟨rr,hDl,lrr⟩,v4,v5,v6,v7,v8,v9,rfl⟩;rw[exl,aay] at lrr;refine⟨_,rfl,D,_,rfl,.inl ⟨bR.of hDl,λ p2 hp2=>⟨_,rfl,(show 2<=sizeLine by decide),λ p hp=>?_⟩⟩⟩;have m7:=aG.new (o:=HO.tup rr) hp2;have t7:bC K (upd H6 p2 (.tup rr)) p2 rr:=bC.of aB;generalize upd H6 p2 (.tup rr)=H7 at m7 t7 hp ⊢;have m8:=aG.new (o:=HO.tup [.ref p2,.ref p1]) hp;refine k (IG net) _ _ (e1.sm (((s14.trans s6).trans m7).trans m8)) (LX nok) (by show (net.vs.map _).length<=2;rw[aad];exact n2) (by show ((net.sps.take 2).map mE).length<=2;rw[aad,aav];omega) ?_;exact Is.tupOf (ds:=[.tup ((IG net).vs.map rJ),.tup ((IG net).sps.map yT)]) (bC.of aB) (.cons (Is.tupOf (m8.tup t7) (L2.IsL.mono (m7.trans m8).ts _ _ lrr)) (.cons (Is.tupOf (((s6.trans m7).trans m8).tup t3) (L2.IsL.mono ((s6.trans m7).trans m8).ts _ _ lr4)) .nil))
theorem VOk.up39 {n m n' m':Nat}{v:Vs} (h:VOk n m v) (hn:n<=n') (hm:m<=m'):VOk n' m' v:=
 ⟨h.size,h.ne,h.o3,λ o ho=>⟨λ t e=>by have:=(h.outs o ho).tg t e;omega,(h.outs o ho).lo,(h.outs o ho).hi⟩,λ t e=>by have:=h.spill t e;omega,h.a3,λ a ha=>⟨(h.acts a ha).word,(h.acts a ha).lo,by have:=(h.acts a ha).hi;omega⟩⟩
def wS (K:aab):Sp:=λ args H Q _=>∃ (t sl:Addr) (x:V) (net:Net),args=[.ref t,x]/\fA H t sl/\Is K H (gB net) x/\NetOk net/\net.vs.length<=2/\net.sps.length<=2/\
 ∀ (net':Net) p H',Ext t sl H H'->NetOk net'->Is K H' (gB net') p->Q p H'
theorem mM:FnScope ["tape","net","many","spouts","vessels","k","flows"] ["tape","net"] (aM (bO 45)):={}
theorem uJ {f f1 f2:Addr}{fd fd1 fd2:FuncData} (F:Fun K "_law_grown" "_law_grown" (bO 45) f fd) (T:Txt mg) (G__law_draw:Callee P w K mg base "_law_draw" ["tape","many"] 1 hW f1 fd1)
  (G__law_vessel:Callee P w K mg base "_law_vessel" ["tape","number","many","spouts","small"] 3 (nV K) f2 fd2):FnOk P w K mg base mG 4 f fd ["tape","net"] (wS K):=by
 refine F.ok mM (λ vs H Q E h=>?_) (λ cdv A outer s H vs Q E hr h=>?_)
 ·obtain⟨t,sl,x,net,rfl,_⟩:=h;rfl
 ·obtain⟨t,sl,x,net,rfl,tp,hx,nok,n2,s2,k⟩:=h;have sc:=mM;refine⟨_,(aD (aQ (i:=2) sc.nd rfl (Or.inl rfl) (bB dB (bB dB (bD (cD (K:=K) rfl) rfl T.b_len ace (aA (bA (aO (K:=K) rfl) (pv 1) aH (λ _ _=>rfl)) aC)) aH) (eG G__law_draw hr (aA (pv 0) (aA aH aC)))))
   (aD (aQ (i:=3) sc.nd rfl (Or.inl rfl) (bB dB (bD (cD (K:=K) rfl) rfl T.b_len ace (aA (bA (aO (K:=K) rfl) (pv 1) aH (λ _ _=>rfl)) aC)) (eG G__law_draw hr (aA (pv 0) (aA aH aC)))))
   (aD (aQ (i:=4) sc.nd rfl (Or.inl rfl) (aV (mB (K:=K) rfl) rfl T.b_list rD (aA (bA (aO (K:=K) rfl) (pv 1) aH (λ _ _=>rfl)) aC)))
   (aD (eD PassesOwn.never rfl (vG rfl T.b_range (aA (bD (cD (K:=K) rfl) rfl T.b_len ace (aA (bA (aO (K:=K) rfl) (pv 1) aH (λ _ _=>rfl)) aC)) (aA (pv 2) aC))) (aF (i:=5) sc.nd rfl (Or.inl rfl)) (aJ (dA (gA (K:=K) rfl abm abn abo cX (pv 4) (aA (eG G__law_vessel hr (aA (pv 0) (aA (pv 5) (aA (pv 2) (aA (pv 3) (aA kY aC)))))) aC)))))
   (aD (aQ (i:=6) sc.nd rfl (Or.inl rfl) (aV (mB (K:=K) rfl) rfl T.b_list rD (aA (bA (aO (K:=K) rfl) (pv 1) aH (λ _ _=>rfl)) aC)))
   (aD (eD PassesOwn.never rfl (vG rfl T.b_range (aA (bD (cD (K:=K) rfl) rfl T.b_len ace (aA (bA (aO (K:=K) rfl) (pv 1) aH (λ _ _=>rfl)) aC)) (aA (pv 3) aC))) (aF (i:=5) sc.nd rfl (Or.inl rfl)) (aJ (dA (gA (K:=K) rfl abm abn abo cX (pv 6) (aA (bF (aA (eG G__law_draw hr (aA (pv 0) (aA (pv 2) aC))) (aA (eG G__law_draw hr (aA (pv 0) (aA aH aC))) (aA (jV kZ (eG G__law_draw hr (aA (pv 0) (aA aH aC))) aH (bP _)) aC)))) aC)))))
   (aJ (bH (bF (aA (aV (bN (K:=K) rfl) rfl T.b_tuple bV (aA (pv 4) aC)) (aA (aV (bN (K:=K) rfl) rfl T.b_tuple bV (aA (pv 6) aC)) aC))))))))))),?_⟩
  obtain⟨ax,av,as,xs,ys,rfl,qx,qv,lv,qs,ls⟩:=iM hx;have exl:xs.length=net.vs.length:=by rw[lv.length,aad]
  have eyl:ys.length=net.sps.length:=by rw[ls.length,aad]
  have lo:=nok.lo;refine⟨_,rfl,.inr (.inl ⟨ax,_,0,_,rfl,rfl,qx,rfl,av,xs,rfl,.inr qv,_,_,rfl,rfl,_,rfl,t,sl,4,rfl,tp,by decide,by decide,λ r1 H1 b1 t1 r10 r11=>⟨_,_,rfl,rfl,?_⟩⟩)⟩;have ts1:=b1.ts (K:=K) tp.mut;obtain⟨n,hn⟩:∃ n:Nat,(xs.length:Int)+1+r1=(n:Int):=⟨(xs.length+1+r1.toNat:Nat),by omega⟩;dsimp only;rw[hn];refine⟨_,rfl,.inr (.inl ⟨ax,_,1,_,rfl,rfl,ts1 _ _ qx,rfl,as,ys,rfl,.inr (ts1 _ _ qs),_,rfl,t,sl,3,rfl,t1,by decide,by decide,λ r2 H2 b2 t2 r20 r21=>⟨_,_,rfl,rfl,?_⟩⟩)⟩;have ts2:=ts1.trans (b2.ts (K:=K) t1.mut);obtain⟨m,hm⟩:∃ m:Nat,(ys.length:Int)+r2=(m:Int):=⟨(ys.length+r2.toNat:Nat),by omega⟩;dsimp only;rw[hm];have e2:Ext t sl H H2:=⟨b1.trans b2,t2⟩;refine⟨_,rfl,.inr (.inl ⟨ax,_,0,_,rfl,rfl,ts2 _ _ qx,rfl,av,xs,rfl,.inr (ts2 _ _ qv),λ D hD=>?_⟩)⟩;have nD:D≠t:=e2.ne hD;have fD:H D=none:=e2.bt.free nD hD;have e3:=e2.new (o:=HO.lst xs) hD;have g3:upd H2 D (.lst xs) D=some (.lst xs):=aB;have ts3:bI K H (upd H2 D (.lst xs)):=ts2.trans (aG.new hD).ts;generalize upd H2 D (.lst xs)=H3 at e3 g3 ts3 ⊢;refine⟨_,rfl,.inr (.inl ⟨ax,_,0,_,rfl,rfl,ts3 _ _ qx,rfl,av,xs,rfl,.inr (ts3 _ _ qv),_,rfl,_,_,rfl,⟨by omega,by omega,by omega,by omega⟩,?_⟩)⟩;rw[show ((n:Int) - (xs.length:Int)).toNat=n - xs.length by omega];refine fK (lo:=(xs.length:Int)) (n:=n - xs.length) (λ j Z H'=>Ext t sl H H'/\bI K H H'/\(∃ (vs:List Vs) (r:List V),H' D=some (.lst r)/\L2.IsL K H' (vs.map rJ) r/\vs.length=xs.length+j/\(∀ v∈vs,VOk n m v))/\
   ∃ v5 v6,Z=[some (.ref t),some (.ref ax),some (.int (n:Int)),some (.int (m:Int)),some (.ref D),v5,v6]) ?_ ?_ ?_
  ·exact⟨e3,ts3,⟨net.vs,xs,g3,L2.IsL.mono ts3 _ _ lv,by omega,λ v hv=>(nok.vs v hv).up39 (by omega) (by omega)⟩,none,none,rfl⟩
  ·rintro j Z H4 hj ⟨e4,ts4,⟨vs,r,hl4,hv4,hlen,hok⟩,v5,v6,rfl⟩;refine⟨_,rfl,.inl ⟨rfl,_,bR.of hl4⟩,?_⟩;refine⟨_,rfl,_,rfl,_,rfl,_,rfl,t,sl,xs.length+j,n,m,true,by rw[Int.natCast_add];rfl,e4.tp,by omega,by omega,by omega,λ v p H5 e5 vok _ hp=>?_⟩;have hl5:H5 D=some (.lst r):=e5.bt D _ nD hl4;have mt:lS (H5 D):=by rw[hl5];exact trivial
   have hrl:r.length=vs.length:=by rw[hv4.length,aad]
   have ts5:=e5.bt.ts (K:=K) e4.tp.mut;refine⟨D,r,_,rfl,rfl,hl5,aW (by omega),(e4.trans e5).put tp fD,bI.put (ts4.trans ts5) (.inr mt),⟨vs++[v],_,aB,?_,by simp [hlen];omega,?_⟩,_,_,rfl⟩
   ·rw[aam];exact L2.IsL.snoc (Is.mono (bI.put (bI.refl _) (.inr mt)) _ _ hp) (L2.IsL.mono (bI.put ts5 (.inr mt)) _ _ hv4)
   ·intro u hu;rcases abk.mp hu with hu | hu
    ·exact hok u hu
    ·rw[aan.mp hu];exact vok
  rintro Z H4 ⟨e4,ts4,⟨vs,r,hl4,hv4,hlen,hok⟩,v5,v6,rfl⟩;refine⟨_,rfl,.inr (.inl ⟨ax,_,1,_,rfl,rfl,ts4 _ _ qx,rfl,as,ys,rfl,.inr (ts4 _ _ qs),λ fl hfl=>?_⟩)⟩;have nf:fl≠t:=e4.ne hfl;have ff:H fl=none:=e4.bt.free nf hfl;have nDf:D≠fl:=aK hl4 hfl;have e5:=e4.new (o:=HO.lst ys) hfl;have g5:upd H4 fl (.lst ys) fl=some (.lst ys):=aB;have hl5:upd H4 fl (.lst ys) D=some (.lst r):=by rw[aI nDf];exact hl4
  have ts45:bI K H4 (upd H4 fl (.lst ys)):=(aG.new hfl).ts;have ts5:=ts4.trans ts45;have hv5:=L2.IsL.mono ts45 _ _ hv4;generalize upd H4 fl (.lst ys)=H5 at e5 g5 hl5 ts45 ts5 hv5 ⊢;refine⟨_,rfl,.inr (.inl ⟨ax,_,1,_,rfl,rfl,ts5 _ _ qx,rfl,as,ys,rfl,.inr (ts5 _ _ qs),_,rfl,_,_,rfl,⟨by omega,by omega,by omega,by omega⟩,?_⟩)⟩;rw[show ((m:Int) - (ys.length:Int)).toNat=m - ys.length by omega];refine fK (lo:=(ys.length:Int)) (n:=m - ys.length) (λ j Z H'=>Ext t sl H H'/\H' D=some (.lst r)/\L2.IsL K H' (vs.map rJ) r/\(∃ (sps:List wE) (zs:List V),H' fl=some (.lst zs)/\L2.IsL K H' (sps.map yT) zs/\sps.length=ys.length+j/\(∀ s∈sps,0<=s.1/\s.1 < n))/\
   ∃ v5,Z=[some (.ref t),some (.ref ax),some (.int (n:Int)),some (.int (m:Int)),some (.ref D),v5,some (.ref fl)]) ?_ ?_ ?_
  ·exact⟨e5,hl5,hv5,⟨net.sps,ys,g5,L2.IsL.mono ts5 _ _ ls,by omega,λ s hs=>by have:=nok.sps s hs;omega⟩,_,rfl⟩
  ·rintro j Z H6 hj ⟨e6,hl6,hv6,⟨sps,zs,hf6,hs6,hslen,hsok⟩,v5,rfl⟩;refine⟨_,rfl,.inl ⟨rfl,_,bR.of hf6⟩,?_⟩;refine⟨_,rfl,_,rfl,t,sl,(n:Int),rfl,e6.tp,by omega,by omega,λ tg H7 b7 t7 tg0 tg1=>?_⟩;refine⟨_,rfl,t,sl,3,rfl,t7,by decide,by decide,λ flow H8 b8 t8 fl0 fl1=>?_⟩;refine⟨_,rfl,t,sl,2,rfl,t8,by decide,by decide,λ dr H9 b9 t9 d0 d1=>⟨rfl,(show 3<=sizeLine by decide),λ q hq=>?_⟩⟩;have b69:=b7.trans (b8.trans b9);have e9:Ext t sl H H9:=⟨e6.bt.trans b69,t9⟩;have hf9:H9 fl=some (.lst zs):=b69 fl _ nf hf6;have hl9:H9 D=some (.lst r):=b69 D _ nD hl6;have nq:fl≠q:=aK hf9 hq;have nDq:D≠q:=aK hl9 hq;have hxl:zs.length=sps.length:=by rw[hs6.length,aad]
   have e10:=e9.new (o:=HO.tup [.int tg,.int flow,.bl (decide (V.int dr=V.int 0))]) hq;have hf10:upd H9 q (.tup [.int tg,.int flow,.bl (decide (V.int dr=V.int 0))]) fl=some (.lst zs):=by rw[aI nq];exact hf9
   have hl10:upd H9 q (.tup [.int tg,.int flow,.bl (decide (V.int dr=V.int 0))]) D=some (.lst r):=by rw[aI nDq];exact hl9
   have q10:bC K (upd H9 q (.tup [.int tg,.int flow,.bl (decide (V.int dr=V.int 0))])) q [.int tg,.int flow,.bl (decide (V.int dr=V.int 0))]:=bC.of aB;have ts10:bI K H6 (upd H9 q (.tup [.int tg,.int flow,.bl (decide (V.int dr=V.int 0))])):=(b69.ts e6.tp.mut).trans (aG.new hq).ts;generalize upd H9 q (.tup [.int tg,.int flow,.bl (decide (V.int dr=V.int 0))])=H10 at e10 hf10 hl10 q10 ts10 ⊢;refine⟨fl,zs,_,rfl,rfl,hf10,aW (by omega),?_⟩;have mt:lS (H10 fl):=by rw[hf10];exact trivial
   have ts11:=bI.put (o:=HO.lst (zs++[.ref q])) (bI.refl (K:=K) H10) (.inr mt);refine⟨e10.put tp ff,by rw[aI nDf];exact hl10,L2.IsL.mono (ts10.trans ts11) _ _ hv6,⟨sps++[(tg,flow,decide (V.int dr=V.int 0))],zs++[.ref q],aB,?_,by simp [hslen];omega,?_⟩,_,rfl⟩
   ·rw[aam];exact L2.IsL.snoc (Is.tupOf (ds:=[.int tg,.int flow,.bl (decide (V.int dr=V.int 0))]) (ts11 _ _ q10) (.cons (Is.i _) (.cons (Is.i _) (.cons (Is.b _) .nil)))) (L2.IsL.mono (ts10.trans ts11) _ _ hs6)
   ·intro s hs;rcases abk.mp hs with hs | hs
    ·exact hsok s hs
    ·rw[aan.mp hs];exact⟨tg0,tg1⟩
  ·rintro Z H6 ⟨e6,hl6,hv6,⟨sps,zs,hf6,hs6,hslen,hsok⟩,v5,rfl⟩;refine⟨_,rfl,D,_,rfl,.inl ⟨bR.of hl6,λ q1 hq1=>⟨_,rfl,fl,_,rfl,.inl ⟨bR.of (aG.new hq1 _ _ hf6),λ q2 hq2=>⟨(show 2<=sizeLine by decide),λ q3 hq3=>?_⟩⟩⟩⟩⟩;have m1:aG H6 (upd H6 q1 (.tup r)):=aG.new hq1;have m2:aG (upd H6 q1 (.tup r)) (upd (upd H6 q1 (.tup r)) q2 (.tup zs)):=aG.new hq2;have m3:aG (upd (upd H6 q1 (.tup r)) q2 (.tup zs)) (upd (upd (upd H6 q1 (.tup r)) q2 (.tup zs)) q3 (.tup [.ref q1,.ref q2])):=aG.new hq3;have hvl:vs.length=n:=by omega
   have hsl:sps.length=m:=by omega
   refine k ⟨vs,sps⟩ _ _ (((e6.new hq1).new hq2).new hq3) ⟨by show 1<=vs.length;omega,by show vs.length<=12;omega,by show sps.length<=12;omega,λ v hv=>by rw[hvl,hsl];exact hok v hv,λ s hs=>by rw[hvl];exact hsok s hs⟩ ?_;refine Is.tupOf (bC.of aB) (.cons (Is.tupOf (m3.tup (m2.tup (bC.of aB))) ?_) (.cons (Is.tupOf (m3.tup (bC.of aB)) ?_) .nil))
   ·exact L2.IsL.mono m3.ts _ _ (L2.IsL.mono m2.ts _ _ (L2.IsL.mono m1.ts _ _ hv6))
   ·exact L2.IsL.mono m3.ts _ _ (L2.IsL.mono m2.ts _ _ (L2.IsL.mono m1.ts _ _ hs6))
theorem xS {K:aab}{H:Hp}:∀ {row:List (Nat×Bool)}{vs:List V},Paired (λ (p:Nat×Bool) v=>∃ q,v=.ref q/\bC K H q [kL p.1,.bl p.2]) row vs->L2.IsL K H (row.map λ p=>.tup [.int (p.1:Int),.bl p.2]) vs
 | [],_,.nil=>.nil
 | p::row,_,.cons ⟨q,e,h⟩ t=>.cons (by rw[e];exact Is.tupOf (ds:=[.int (p.1:Int),.bl p.2]) h (.cons (Is.i _) (.cons (Is.b _) .nil))) (xS t)
theorem GO (row:List (Nat×Bool)):bM (row.map λ p=>L2.D.tup [.int (p.1:Int),.bl p.2])<=20:=by
 have:∀ row:List (Nat×Bool),bM (row.map λ p=>L2.D.tup [.int (p.1:Int),.bl p.2])<=1:=by
  intro row
  induction row with
  | nil=>rw[acl,bM];decide
  | cons p row ih=>
   rw[aba,bM,L2.D.depth,bM,bM,bM,jC,tX];omega
 have:=this row;omega
theorem FO {K:aab}{H:Hp}{a b:Addr}{m:gU} (h:gF K H a m) (h':gF K H b m):LJ K H (.ref a) (.ref b):=by
 obtain⟨us,h1,h2⟩:=h;obtain⟨vs,h3,h4⟩:=h';refine⟨a,b,us,vs,rfl,rfl,bR.of h1,bR.of h3,by rw[<- Paired.length h2,<- Paired.length h4],λ i u v hu hv=>?_⟩;obtain⟨row,hr,c,cs,rfl,h5,h6⟩:=Paired.getR h2 hu;obtain⟨row',hr',d,ds,rfl,h7,h8⟩:=Paired.getR h4 hv;rw[hr] at hr';cases hr';exact .inr ⟨c,d,cs,ds,_,rfl,rfl,bR.of h5,bR.of h7,xS h6,xS h8,GO row⟩
theorem FN {K:aab}{H:Hp}{p p' rl rl':Addr}{row:List Int} (h:bC K H p [.str "tips",.ref rl]) (h':bC K H p' [.str "tips",.ref rl']) (h2:H rl=some (.lst (row.map V.int))) (h2':H rl'=some (.lst (row.map V.int))):LI K H (.ref p) (.ref p'):=by
 refine⟨p,p',_,_,rfl,rfl,h,h',rfl,λ i u v hu hv=>?_⟩
 match i,hu,hv with
 | 0,hu,hv=>cases hu;cases hv;exact .inl ⟨.str "tips",by rw[GM];decide,Is.s _,Is.s _⟩
 | 1,hu,hv=>
  cases hu;cases hv;exact .inr ⟨rl,rl',_,_,row.map L2.D.int,rfl,rfl,bR.of h2,bR.of h2',oM row,oM row,by rw[gZ _ jC];decide⟩
 | i+2,hu,hv=>simp at hu
def W0 (K:aab) (H:Hp) (net:Net) (v:Int) (most:Nat) (u:V):Prop:=u=.non\/∃ rl fs n,u=.ref rl/\iE net most=.on fs/\gE (aY net v most fs) (aL (aY net v most fs) n)=aL (aY net v most fs) n/\gF K H rl (dP (aY net v most fs) (aL (aY net v most fs) n))
def W1 (K:aab) (H:Hp) (net:Net) (v:Int) (most:Nat) (u:V):Prop:=u=.non\/(∃ row fs p rl,u=.ref p/\iV net v most=.ends row fs/\bC K H p [.str "tips",.ref rl]/\H rl=some (.lst (row.map V.int)))\/∃ fs p q,u=.ref p/\iV net v most=.on fs/\bC K H p [.str "never",.ref q]
theorem W0.sma {K:aab}{H H':Hp}{net:Net}{v:Int}{most:Nat}{u:V}{Pa Pl Ps:Addr} (h:W0 K H net v most u) (s:SmA Pa Pl Ps H H'):W0 K H' net v most u:=by
 rcases h with h | ⟨rl,fs,n,h1,h2,h3,h4⟩
 ·exact .inl h
 ·exact .inr ⟨rl,fs,n,h1,h2,h3,h4.sma s⟩
theorem W1.sma {K:aab}{H H':Hp}{net:Net}{v:Int}{most:Nat}{u:V}{Pa Pl Ps:Addr} (h:W1 K H net v most u) (s:SmA Pa Pl Ps H H'):W1 K H' net v most u:=by
 rcases h with h | ⟨row,fs,p,rl,h1,h2,h3,h4⟩ | ⟨fs,p,q,h1,h2,h3⟩
 ·exact .inl h
 ·exact .inr (.inl ⟨row,fs,p,rl,h1,h2,s.ts _ _ h3,s.get h4 λ ps z=>by cases z⟩)
 ·exact .inr (.inr ⟨fs,p,q,h1,h2,s.ts _ _ h3⟩)
def ID (K:aab) (Pa Pl Ps:Addr):Sp:=λ vs H Q _=>∃ (a:Addr) (ns:List Int),vs=[.ref a]/\bR K H a (ns.map V.int)/\ns.length<=63/\Tabs3 H Pa Pl Ps/\∀ H',Q (.bl true) H'
def spT (K:aab):List (Addr×Addr)->Sp
 | [q1,q2,q3]=>ID K q1.2 q2.2 q3.2
 | _=>λ vs _ _ _=>vs.length=1
theorem IB (K:aab):∀ (tabs:List (Addr×Addr)) (H:Hp) (a:Addr) (ns:List Int),ns.length<=63->EQ tabs H->bR K H a (ns.map V.int)->(∀ q∈tabs,H q.2=some (.tbl #[]))->spT K tabs [.ref a] H (λ v _=>v=.bl true) λ _ _ _=>False
 | [],_,_,_,_,_,_,_=>rfl
 | [_],_,_,_,_,_,_,_=>rfl
 | [_,_],_,_,_,_,_,_,_=>rfl
 | [q1,q2,q3],H,a,ns,hl,_,hS,hT=>⟨a,ns,rfl,hS,hl,⟨.inl (hT q1 (by simp)),.inl (hT q2 (by simp)),.inl (hT q3 (by simp))⟩,λ _=>rfl⟩
 | _::_::_::_::_,_,_,_,_,_,_,_=>rfl
theorem IM:FnScope ["script","tape","turn","net","watched","most","less","number","way","whole","part","both"] ["script"] (aM (bO 47)):={}
theorem PN {f f1 f2 f3 f4 f5 Pa Pl Ps:Addr}{fd fd1 fd2 fd3 fd4 fd5:FuncData} (F:Fun K "law" "law" (bO 47) f fd) (T:Txt mg)
  (G__law_draw:Callee P w K mg base "_law_draw" ["tape","many"] 1 hW f1 fd1)
  (G__law_small:Callee P w K mg base "_law_small" ["tape"] 5 (rU K) f2 fd2)
  (G__law_grown:Callee P w K mg base "_law_grown" ["tape","net"] 4 (wS K) f3 fd3)
  (G_trimmed:CalleeR P w K mg base "trimmed" ["net","watched"] 4 (oY K c_NoVessel) f4 fd4)
  (G__law_told:Callee P w K mg base "_law_told" ["way","net","watched","most","other","number"] 10 (rT K Pa Pl Ps) f5 fd5):FnOk P w K mg base mG 11 f fd ["script"] (ID K Pa Pl Ps):=by
 refine F.ok IM (λ vs H Q E h=>?_) (λ cdv A outer s H vs Q E hr h=>?_)
 ·obtain⟨a,ns,rfl,_⟩:=h;rfl
 ·obtain⟨a,ns,rfl,hS,hl63,tab,k⟩:=h;have sc:=IM;refine⟨_,(aD (aQ (i:=1) sc.nd rfl (Or.inl rfl) (cJ (aA (aV (mB (K:=K) rfl) rfl T.b_list rD (aA (pv 0) aC)) (aA aH (aA aH aC)))))
   (aD (eD PassesOwn.never rfl (eC rfl T.b_range (aA aH aC)) (aF (i:=2) sc.nd rfl (Or.inl rfl)) (aD (aQ (i:=3) sc.nd rfl (Or.inl rfl) (eG G__law_grown hr (aA (pv 1) (aA (eG G__law_small hr (aA (pv 1) aC)) aC))))
   (aD (aQ (i:=4) sc.nd rfl (Or.inl rfl) (eG G__law_draw hr (aA (pv 1) (aA (bD (cD (K:=K) rfl) rfl T.b_len ace (aA (bA (aO (K:=K) rfl) (pv 3) aH (λ _ _=>rfl)) aC)) aC))))
   (aD (aQ (i:=5) sc.nd rfl (Or.inl rfl) (eG G__law_draw hr (aA (pv 1) (aA aH aC))))
   (aD (cI (gQ G_trimmed.ok (hr.mono (by decide)) rfl G_trimmed.mg G_trimmed.kp G_trimmed.bd .nil PL (aA (pv 3) (aA (pv 4) aC))) (aU (K:=K) (n:=2) rfl rfl (aE (aF (i:=6) sc.nd rfl (Or.inl rfl)) (aE (aF (i:=7) sc.nd rfl (Or.inl rfl)) aS))))
   (aD (eD PassesOwn.never rfl (eC rfl T.b_range (aA aH aC)) (aF (i:=8) sc.nd rfl (Or.inl rfl)) (aD (aQ (i:=9) sc.nd rfl (Or.inl rfl) (eG G__law_told hr (aA (pv 8) (aA (pv 3) (aA (pv 4) (aA (pv 5) (aA fT (aA aH aC))))))))
   (aD (aQ (i:=10) sc.nd rfl (Or.inl rfl) (eG G__law_told hr (aA (pv 8) (aA (pv 6) (aA (pv 7) (aA (pv 5) (aA fT (aA aH aC))))))))
   (aJ (eF (PW.pt (mX (bE xF (pv 9) fT (bP _)) (jU (bE xF (pv 10) fT (bP _))))) (aD (eF (PW.pt (mX (bE kZ (pv 8) aH (bP _)) (jU (bE (h9.or (qI (K:=K) rfl hr.units) (qH (K:=K) rfl hr.units)) (pv 9) (pv 10) (bP _))))) (aJ (bH kY)) cA)
   (aJ (eF (PW.pt (mX (bE kZ (pv 8) aH (bP _)) (jU (PW.pt (O0 (bE JJ (bA (aO (K:=K) rfl) (pv 9) aH (λ _ _=>rfl)) (bA (aO (K:=K) rfl) (pv 10) aH (λ _ _=>rfl)) (bP _)) (IW (PW.pt (mX (bE kZ (bA (aO (K:=K) rfl) (pv 9) aH (λ _ _=>rfl)) g9 (bP _)) (jU (bE (h9.or (qI (K:=K) rfl hr.units) (qH (K:=K) rfl hr.units)) (pv 9) (pv 10) (bP _))))))))))) (aJ (bH kY)) cA))) cA)))))
   (aD (aQ (i:=11) sc.nd rfl (Or.inl rfl) (eG G__law_told hr (aA aH (aA (pv 3) (aA (pv 4) (aA (pv 5) (aA (pv 6) (aA (pv 7) aC))))))))
   (aJ (eF (PW.pt (mX (bE xF (pv 11) fT (bP _)) (jU (bE JJ (bA (aO (K:=K) rfl) (pv 11) aH (λ _ _=>rfl)) g9 (bP _))))) (aJ (bH kY)) cA)))))))))
   (aJ (bH kY)))),?_⟩
  refine⟨_,rfl,a,_,rfl,.inl hS,λ sl hsl=>⟨(show 3<=sizeLine by decide),λ t ht=>?_⟩⟩;have nst:sl≠t:=aK (show upd H sl (.lst (ns.map V.int)) sl=_ from aB) ht;have tp0:fA (upd (upd H sl (.lst (ns.map V.int))) t (.lst [.ref sl,.int 0,.int 0])) t sl:=⟨ns,0,0,aB,by rw[aI nst];exact aB,by omega⟩;have tab0:=(tab.same (aG.new hsl)).same (aG.new (o:=HO.lst [.ref sl,.int 0,.int 0]) ht);generalize upd (upd H sl (.lst (ns.map V.int))) t (.lst [.ref sl,.int 0,.int 0])=H0 at tp0 tab0 ⊢;refine⟨_,rfl,by decide,by decide,?_⟩;refine fK (lo:=0) (n:=2) (λ _ Z H'=>fA H' t sl/\Tabs3 H' Pa Pl Ps/\∃ v2 v3 v4 v5 v6 v7 v8 v9 v10 v11,Z=[some (.ref a),some (.ref t),v2,v3,v4,v5,v6,v7,v8,v9,v10,v11]) ⟨tp0,tab0,_,_,_,_,_,_,_,_,_,_,rfl⟩ ?_ ?_;rotate_left
  ·rintro Z H' _;exact k _
  rintro turn Z H1 _ ⟨tp1,tab1,v2,v3,v4,v5,v6,v7,v8,v9,v10,v11,rfl⟩;dsimp only [gP,yN];refine⟨_,rfl,_,rfl,t,sl,rfl,tp1,λ A0 x0 H2 e2 okA lA sA iA=>?_⟩;refine⟨t,sl,x0,A0,rfl,e2.tp,iA,okA,lA,sA,λ A x H3 e3 nok hx=>?_⟩;have tab3:=(tab1.but e2.bt tp1.mut).but e3.bt e2.tp.mut;obtain⟨na,nb,nc,xs,ys,rfl,q,q1,l1,q2,l2⟩:=iM hx;have exl:xs.length=A.vs.length:=by rw[l1.length,aad]
  have nlo:=nok.lo;have nhi:=nok.hi;refine⟨_,rfl,_,rfl,.inr (.inl ⟨na,_,0,_,rfl,rfl,q,rfl,nb,xs,rfl,.inr q1,t,sl,_,rfl,e3.tp,by omega,by omega,λ v H4 b4 t4 v0 v1=>?_⟩)⟩;have hx4:=Is.mono (b4.ts (K:=K) e3.tp.mut) _ _ hx;have tab4:=tab3.but b4 e3.tp.mut;refine⟨_,rfl,t,sl,4,rfl,t4,by decide,by decide,λ mst H5 b5 t5 m0 m1=>?_⟩;have hx5:=Is.mono (b5.ts (K:=K) t4.mut) _ _ hx4;have tab5:=tab4.but b5 t4.mut;obtain⟨most,rfl⟩:=Int.eq_ofNat_of_zero_le m0;obtain⟨j,rfl⟩:=Int.eq_ofNat_of_zero_le v0;have hj:j < A.vs.length:=by omega
  clear hx hx4 q q1 q2 l1 l2 tab3 tab4 b4 b5 t4 e3 e2 tp1 tab1 iA;refine⟨_,rfl,_,rfl,.ref na,A,(j:Int),rfl,hx5,nok,.inr ⟨j,rfl,hj,λ p S i H6 s6 mS hS hp=>?_⟩⟩;obtain⟨pa,zs,rfl,qp,lp⟩:=hp.un;obtain⟨y,r1,rfl,hy,lp⟩:=lp.un;obtain⟨z,r2,rfl,hz,lp⟩:=lp.un;have:=lp.un0;subst this;obtain rfl:=hz.ui;refine⟨pa,_,rfl,qp,rfl,_,_,rfl,_,_,rfl,rfl,?_⟩;have hx6:=Is.mono s6.ts _ _ hx5;have tp6:=t5.same s6;have tab6:=tab5.same s6;have nok2:=kP nok mS hj;have hil:i < (bK A S).vs.length:=by rw[iU];exact (aae.mp hS).1
  clear hx5 tab5 t5 hp qp;have hm3:most<=3:=by omega
  refine⟨_,rfl,by decide,by decide,?_⟩;refine fK (lo:=0) (n:=2) (λ _ Z H'=>SmA Pa Pl Ps H6 H'/\∃ v8 v9 v10,Z=[some (.ref a),some (.ref t),some (.int (0+(turn:Int))),some (.ref na),some (.int (j:Int)),some (.int (most:Int)),some y,some (.int (i:Int)),v8,v9,v10,v11]) ⟨tab6.of (aG.refl _),_,_,_,rfl⟩ ?_ ?_
  ·rintro way Z H7 hway ⟨s7,v8,v9,v10,rfl⟩;dsimp only [gP,yN];rcases (show way=0\/way=1 by omega) with rfl | rfl
   ·
    refine wY (λ Z H'=>SmA Pa Pl Ps H6 H'/\∃ u,W0 K H' A (j:Int) most u/\Z=[some (.ref a),some (.ref t),some (.int (0+(turn:Int))),some (.ref na),some (.int (j:Int)),some (.int (most:Int)),some y,some (.int (i:Int)),some (.int 0),some u,v10,v11]) (λ D' hD=>?_) ?_
    ·refine⟨_,rfl,_,rfl,_,rfl,_,rfl,0,.ref na,.non,A,(j:Int),0,most,rfl,Is.mono s7.ts _ _ hx6,nok,by omega,s7.t2,λ H8 s8=>hD _ _ ⟨s7.trans s8,_,.inl rfl,rfl⟩,.inl ⟨rfl,λ fs e n rl H8 s8 hf hM _=>hD _ _ ⟨s7.trans s8,_,.inr ⟨rl,fs,n,rfl,e,hf,hM⟩,rfl⟩⟩⟩
    rintro Z H8 ⟨s8,u,hu,rfl⟩;refine wY (λ Z H'=>SmA Pa Pl Ps H6 H'/\W0 K H' A (j:Int) most u/\∃ u',W0 K H' (bK A S) (i:Int) most u'/\Z=[some (.ref a),some (.ref t),some (.int (0+(turn:Int))),some (.ref na),some (.int (j:Int)),some (.int (most:Int)),some y,some (.int (i:Int)),some (.int 0),some u,some u',v11]) (λ D' hD=>?_) ?_
    ·refine⟨_,rfl,_,rfl,_,rfl,_,rfl,0,y,.non,bK A S,(i:Int),0,most,rfl,Is.mono s8.ts _ _ hy,nok2,by omega,s8.t2,λ H9 s9=>hD _ _ ⟨s8.trans s9,hu.sma s9,_,.inl rfl,rfl⟩,.inl ⟨rfl,λ fs e n rl H9 s9 hf hM _=>hD _ _ ⟨s8.trans s9,hu.sma s9,_,.inr ⟨rl,fs,n,rfl,e,hf,hM⟩,rfl⟩⟩⟩
    rintro Z H9 ⟨s9,hu9,u',hu',rfl⟩;have fin:SmA Pa Pl Ps H6 H9/\∃ v8 v9 v10,[some (V.ref a),some (.ref t),some (.int (0+(turn:Int))),some (.ref na),some (.int (j:Int)),some (.int (most:Int)),some y,some (.int (i:Int)),some (.int 0),some u,some u',v11]=[some (.ref a),some (.ref t),some (.int (0+(turn:Int))),some (.ref na),some (.int (j:Int)),some (.int (most:Int)),some y,some (.int (i:Int)),v8,v9,v10,v11]:=⟨s9,_,_,_,rfl⟩;rcases hu9 with rfl | ⟨rl,fs,n,rfl,e,hf,hM⟩
    ·exact⟨_,rfl,rfl,_,rfl,eE (eE fin)⟩
    rcases hu' with rfl | ⟨rl',fs',n',rfl,e',hf',hM'⟩
    ·exact⟨_,rfl,rfl,_,rfl,fH ⟨_,rfl,rfl,_,rfl,eE fin⟩⟩
    refine⟨_,rfl,rfl,_,rfl,fH ⟨_,rfl,rfl,_,rfl,fH ?_⟩⟩;refine⟨_,rfl,rfl,_,rfl,fH ?_⟩;rw[<- B1 nok mS hj hS e e' hf hf'] at hM';refine⟨_,rfl,_,rfl,.inl ⟨FO hM hM',_,rfl,eE ?_⟩⟩;exact⟨_,rfl,rfl,_,rfl,eE (eE fin)⟩
   ·
    refine wY (λ Z H'=>SmA Pa Pl Ps H6 H'/\∃ u,W1 K H' A (j:Int) most u/\Z=[some (.ref a),some (.ref t),some (.int (0+(turn:Int))),some (.ref na),some (.int (j:Int)),some (.int (most:Int)),some y,some (.int (i:Int)),some (.int 1),some u,v10,v11]) (λ D' hD=>?_) ?_
    ·refine⟨_,rfl,_,rfl,_,rfl,_,rfl,1,.ref na,.non,A,(j:Int),0,most,rfl,Is.mono s7.ts _ _ hx6,nok,by omega,s7.t2,λ H8 s8=>hD _ _ ⟨s7.trans s8,_,.inl rfl,rfl⟩,.inr (.inl ⟨rfl,by omega,by omega,λ row fs e p rl H8 s8 qp hrl=>hD _ _ ⟨s7.trans s8,_,.inr (.inl ⟨row,fs,p,rl,rfl,e,qp,hrl⟩),rfl⟩,λ fs e p q H8 s8 qp=>hD _ _ ⟨s7.trans s8,_,.inr (.inr ⟨fs,p,q,rfl,e,qp⟩),rfl⟩⟩)⟩
    rintro Z H8 ⟨s8,u,hu,rfl⟩;refine wY (λ Z H'=>SmA Pa Pl Ps H6 H'/\W1 K H' A (j:Int) most u/\∃ u',W1 K H' (bK A S) (i:Int) most u'/\Z=[some (.ref a),some (.ref t),some (.int (0+(turn:Int))),some (.ref na),some (.int (j:Int)),some (.int (most:Int)),some y,some (.int (i:Int)),some (.int 1),some u,some u',v11]) (λ D' hD=>?_) ?_
    ·refine⟨_,rfl,_,rfl,_,rfl,_,rfl,1,y,.non,bK A S,(i:Int),0,most,rfl,Is.mono s8.ts _ _ hy,nok2,by omega,s8.t2,λ H9 s9=>hD _ _ ⟨s8.trans s9,hu.sma s9,_,.inl rfl,rfl⟩,.inr (.inl ⟨rfl,by omega,by omega,λ row fs e p rl H9 s9 qp hrl=>hD _ _ ⟨s8.trans s9,hu.sma s9,_,.inr (.inl ⟨row,fs,p,rl,rfl,e,qp,hrl⟩),rfl⟩,λ fs e p q H9 s9 qp=>hD _ _ ⟨s8.trans s9,hu.sma s9,_,.inr (.inr ⟨fs,p,q,rfl,e,qp⟩),rfl⟩⟩)⟩
    rintro Z H9 ⟨s9,hu9,u',hu',rfl⟩;have fin:SmA Pa Pl Ps H6 H9/\∃ v8 v9 v10,[some (V.ref a),some (.ref t),some (.int (0+(turn:Int))),some (.ref na),some (.int (j:Int)),some (.int (most:Int)),some y,some (.int (i:Int)),some (.int 1),some u,some u',v11]=[some (.ref a),some (.ref t),some (.int (0+(turn:Int))),some (.ref na),some (.int (j:Int)),some (.int (most:Int)),some y,some (.int (i:Int)),v8,v9,v10,v11]:=⟨s9,_,_,_,rfl⟩;rcases hu9 with rfl | ⟨row,fs,p,rl,rfl,e,qp,hrl⟩ | ⟨fs,p,q,rfl,e,qp⟩
    ·exact⟨_,rfl,rfl,_,rfl,eE (eE fin)⟩
    ·rcases hu' with rfl | ⟨row',fs',p',rl',rfl,e',qp',hrl'⟩ | ⟨fs',p',q',rfl,e',qp'⟩
     ·exact⟨_,rfl,rfl,_,rfl,fH ⟨_,rfl,rfl,_,rfl,eE fin⟩⟩
     ·refine⟨_,rfl,rfl,_,rfl,fH ⟨_,rfl,rfl,_,rfl,fH ?_⟩⟩;refine⟨_,rfl,rfl,_,rfl,eE (eE ?_)⟩;refine⟨_,rfl,rfl,_,rfl,fH ?_⟩;refine⟨_,rfl,.inr (.inl ⟨p,_,0,_,rfl,rfl,qp,rfl,_,rfl,.inr (.inl ⟨p',_,0,_,rfl,rfl,qp',rfl,rfl,_,rfl,eE ?_⟩)⟩)⟩;refine⟨_,rfl,.inr (.inl ⟨p,_,0,_,rfl,rfl,qp,rfl,rfl,_,rfl,fH ?_⟩)⟩;rw[<- FI nok mS hj hS e e'] at hrl';exact⟨_,rfl,_,rfl,.inr ⟨FN qp qp' hrl hrl',_,rfl,eE fin⟩⟩
     ·exact (yK nok mS hj hS e e').elim
    ·rcases hu' with rfl | ⟨row',fs',p',rl',rfl,e',qp',hrl'⟩ | ⟨fs',p',q',rfl,e',qp'⟩
     ·exact⟨_,rfl,rfl,_,rfl,fH ⟨_,rfl,rfl,_,rfl,eE fin⟩⟩
     ·exact (yJ nok mS hj hS e e').elim
     ·refine⟨_,rfl,rfl,_,rfl,fH ⟨_,rfl,rfl,_,rfl,fH ?_⟩⟩;refine⟨_,rfl,rfl,_,rfl,eE (eE ?_)⟩;refine⟨_,rfl,rfl,_,rfl,fH ?_⟩;refine⟨_,rfl,.inr (.inl ⟨p,_,0,_,rfl,rfl,qp,rfl,_,rfl,.inr (.inl ⟨p',_,0,_,rfl,rfl,qp',rfl,rfl,_,rfl,eE ?_⟩)⟩)⟩;exact⟨_,rfl,.inr (.inl ⟨p,_,0,_,rfl,rfl,qp,rfl,rfl,_,rfl,eE (eE fin)⟩)⟩
  ·rintro Z H7 ⟨s7,v8,v9,v10,rfl⟩;have done:∀ H8,SmA Pa Pl Ps H6 H8->∀ u,fA H8 t sl/\Tabs3 H8 Pa Pl Ps/\∃ v2 v3 v4 v5 v6 v7 v8' v9' v10' v11,[some (V.ref a),some (.ref t),some (.int (0+(turn:Int))),some (.ref na),some (.int (j:Int)),some (.int (most:Int)),some y,some (.int (i:Int)),v8,v9,v10,u]=[some (.ref a),some (.ref t),v2,v3,v4,v5,v6,v7,v8',v9',v10',v11]:=λ H8 s8 u=>⟨s8.tape tp6,s8.t2,_,_,_,_,_,_,_,_,_,_,rfl⟩;refine⟨_,rfl,_,rfl,_,rfl,_,rfl,_,rfl,2,.ref na,y,A,(j:Int),(i:Int),most,rfl,Is.mono s7.ts _ _ hx6,nok,by omega,s7.t2,λ H8 s8=>?_,.inr (.inr ⟨rfl,bK A S,Is.mono s7.ts _ _ hy,nok2,λ row fs e=>B2 nok mS hj hS e,λ p q H8 s8 qp=>?_⟩)⟩
   ·exact⟨_,rfl,rfl,_,rfl,eE (eE (done H8 (s7.trans s8) _))⟩
   ·refine⟨_,rfl,rfl,_,rfl,fH ?_⟩;exact⟨_,rfl,.inr (.inl ⟨p,_,0,_,rfl,rfl,qp,rfl,rfl,_,rfl,eE (done H8 (s7.trans s8) _)⟩)⟩
theorem oP {α:Type}{p:List α->Prop} (h:∀ a0,p [a0]):∀ us:List α,us.length=1->p us
 | [a0],_=>h a0
theorem kA {α:Type}{p:List α->Prop} (h:∀ a0 a1,p [a0,a1]):∀ us:List α,us.length=2->p us
 | [a0,a1],_=>h a0 a1
theorem eJ {α:Type}{p:List α->Prop} (h:∀ a0 a1 a2,p [a0,a1,a2]):∀ us:List α,us.length=3->p us
 | [a0,a1,a2],_=>h a0 a1 a2
theorem y9 {α:Type}{p:List α->Prop} (h:∀ a0 a1 a2 a3,p [a0,a1,a2,a3]):∀ us:List α,us.length=4->p us
 | [a0,a1,a2,a3],_=>h a0 a1 a2 a3
theorem EK {α:Type}{p:List α->Prop} (h:∀ a0 a1 a2 a3 a4,p [a0,a1,a2,a3,a4]):∀ us:List α,us.length=5->p us
 | [a0,a1,a2,a3,a4],_=>h a0 a1 a2 a3 a4
theorem ND {α:Type}{p:List α->Prop} (h:∀ a0 a1 a2 a3 a4 a5,p [a0,a1,a2,a3,a4,a5]):∀ us:List α,us.length=6->p us
 | [a0,a1,a2,a3,a4,a5],_=>h a0 a1 a2 a3 a4 a5
abbrev Na (K:aab) (x:Str) (f:Addr):Prop:=PySem.W.nsIn K mainGlobals x=some (some (.ref f))
abbrev Nn (K:aab) (x:Str):Prop:=PySem.W.nsIn K mainGlobals x=some none
abbrev Kp (K:aab) (f:Addr):Prop:=PySem.W.keepIn K (.ref f)=true
abbrev Cd (K:aab) (c:Value) (q:Str):Prop:=PySem.W.codeIn K c q=true
abbrev Lk (K:aab) (f:Addr) (m q:Str) (s:Stmt) (oc:Value) (od:Option Addr) (kV dc pm:Value) (an:Option Addr) (cd ct:Value) (sl:Array (Option Value)):Prop:=K.lookup f=some ⟨oc,od,.func (PySem.W.fnOf m q (m9 s) (fB s) (aM s) .none kV dc pm an cd ct),sl⟩
theorem all_mk {l:PySem.W.OpenLaw}{w:World}{K:aab}{h:Heap}{mg:Str->Option Value}{fa f0 f1 f2 f3 f4 f5 f6 f7 f8 f9 f10 f11 f12 f13 f14 f15 f16 f17 f18 f19 f20 f21 f22 f23 f24 f25 f26 f27 f28 f29 f30 f31 c_TipError c_NoVessel c_TooMany:Addr} (X:K.In h) (G:h.Ns mainGlobals mg) (hfa:mg "law" = some (.ref fa))
  {od0 an0 od1 an1 od2 an2 od3 an3 od4 an4 od5 an5 od6 an6 od7 an7 od8 an8 od9 an9 od10 an10 od11 an11 od12 an12 od13 an13 od14 an14 od15 an15 od16 an16 od17 an17 od18 an18 od19 an19 od20 an20 od21 an21 od22 an22 od23 an23 od24 an24 od25 an25 od26 an26 od27 an27 od28 an28 od29 an29 od30 an30 od31 an31:Option Addr}{sl0 sl1 sl2 sl3 sl4 sl5 sl6 sl7 sl8 sl9 sl10 sl11 sl12 sl13 sl14 sl15 sl16 sl17 sl18 sl19 sl20 sl21 sl22 sl23 sl24 sl25 sl26 sl27 sl28 sl29 sl30 sl31:Array (Option Value)}{oc0 kV0 dc0 pm0 ct0 cd0 oc1 kV1 dc1 pm1 ct1 cd1 oc2 kV2 dc2 pm2 ct2 cd2 oc3 kV3 dc3 pm3 ct3 cd3 oc4 kV4 dc4 pm4 ct4 cd4 oc5 kV5 dc5 pm5 ct5 cd5 oc6 kV6 dc6 pm6 ct6 cd6 oc7 kV7 dc7 pm7 ct7 cd7 oc8 kV8 dc8 pm8 ct8 cd8 oc9 kV9 dc9 pm9 ct9 cd9 oc10 kV10 dc10 pm10 ct10 cd10 oc11 kV11 dc11 pm11 ct11 cd11 oc12 kV12 dc12 pm12 ct12 cd12 oc13 kV13 dc13 pm13 ct13 cd13 oc14 kV14 dc14 pm14 ct14 cd14 oc15 kV15 dc15 pm15 ct15 cd15 oc16 kV16 dc16 pm16 ct16 cd16 oc17 kV17 dc17 pm17 ct17 cd17 oc18 kV18 dc18 pm18 ct18 cd18 oc19 kV19 dc19 pm19 ct19 cd19 oc20 kV20 dc20 pm20 ct20 cd20 oc21 kV21 dc21 pm21 ct21 cd21 oc22 kV22 dc22 pm22 ct22 cd22 oc23 kV23 dc23 pm23 ct23 cd23 oc24 kV24 dc24 pm24 ct24 oc25 kV25 dc25 pm25 ct25 cd25 oc26 kV26 dc26 pm26 ct26 cd26 oc27 kV27 dc27 pm27 ct27 cd27 oc28 kV28 dc28 pm28 ct28 oc29 kV29 dc29 pm29 ct29 oc30 kV30 dc30 pm30 ct30 cd30 oc31 kV31 dc31 pm31 ct31 cd31:Value}
  {tkM:Tok}
  {tkL:Tok}
  {tkP:Tok}
  {ts:List Addr}
  {q29 p29:Addr}{yd29:Option Addr}{yv29:Array Value}{ys29:Array (Option Value)}
  {q24 p24:Addr}{yd24:Option Addr}{yv24:Array Value}{ys24:Array (Option Value)}
  {q28 p28:Addr}{yd28:Option Addr}{yv28:Array Value}{ys28:Array (Option Value)}
  (a0:Na K "_law_draw" f0)
  (l0:Lk K f0 "_law_draw" "_law_draw" (bO 40) oc0 od0 kV0 dc0 pm0 an0 cd0 ct0 sl0)
  (c0:Cd K cd0 "_law_draw")
  (k0:Kp K f0)
  (a1:Na K "_law_outs" f1)
  (l1:Lk K f1 "_law_outs" "_law_outs" (bO 41) oc1 od1 kV1 dc1 pm1 an1 cd1 ct1 sl1)
  (c1:Cd K cd1 "_law_outs")
  (k1:Kp K f1)
  (a2:Na K "_law_vessel" f2)
  (l2:Lk K f2 "_law_vessel" "_law_vessel" (bO 42) oc2 od2 kV2 dc2 pm2 an2 cd2 ct2 sl2)
  (c2:Cd K cd2 "_law_vessel")
  (k2:Kp K f2)
  (a3:Na K "_law_net" f3)
  (l3:Lk K f3 "_law_net" "_law_net" (bO 43) oc3 od3 kV3 dc3 pm3 an3 cd3 ct3 sl3)
  (c3:Cd K cd3 "_law_net")
  (k3:Kp K f3)
  (a4:Na K "_law_small" f4)
  (l4:Lk K f4 "_law_small" "_law_small" (bO 44) oc4 od4 kV4 dc4 pm4 an4 cd4 ct4 sl4)
  (c4:Cd K cd4 "_law_small")
  (k4:Kp K f4)
  (a5:Na K "_law_grown" f5)
  (l5:Lk K f5 "_law_grown" "_law_grown" (bO 45) oc5 od5 kV5 dc5 pm5 an5 cd5 ct5 sl5)
  (c5:Cd K cd5 "_law_grown")
  (k5:Kp K f5)
  (a6:Na K "is_whole" f6)
  (l6:Lk K f6 "is_whole" "is_whole" (bO 6) oc6 od6 kV6 dc6 pm6 an6 cd6 ct6 sl6)
  (c6:Cd K cd6 "is_whole")
  (k6:Kp K f6)
  (a7:Na K "need_vessel" f7)
  (l7:Lk K f7 "need_vessel" "need_vessel" (bO 5) oc7 od7 kV7 dc7 pm7 an7 cd7 ct7 sl7)
  (c7:Cd K cd7 "need_vessel")
  (k7:Kp K f7)
  (a8:Na K "leads_to" f8)
  (l8:Lk K f8 "leads_to" "leads_to" (bO 12) oc8 od8 kV8 dc8 pm8 an8 cd8 ct8 sl8)
  (c8:Cd K cd8 "leads_to")
  (k8:Kp K f8)
  (a9:Na K "matters" f9)
  (l9:Lk K f9 "matters" "matters" (bO 11) oc9 od9 kV9 dc9 pm9 an9 cd9 ct9 sl9)
  (c9:Cd K cd9 "matters")
  (k9:Kp K f9)
  (a10:Na K "counted" f10)
  (l10:Lk K f10 "counted" "counted" (bO 14) oc10 od10 kV10 dc10 pm10 an10 cd10 ct10 sl10)
  (c10:Cd K cd10 "counted")
  (k10:Kp K f10)
  (a11:Na K "renumbered_vessel" f11)
  (l11:Lk K f11 "renumbered_vessel" "renumbered_vessel" (bO 9) oc11 od11 kV11 dc11 pm11 an11 cd11 ct11 sl11)
  (c11:Cd K cd11 "renumbered_vessel")
  (k11:Kp K f11)
  (a12:Na K "renumbered" f12)
  (l12:Lk K f12 "renumbered" "renumbered" (bO 8) oc12 od12 kV12 dc12 pm12 an12 cd12 ct12 sl12)
  (c12:Cd K cd12 "renumbered")
  (k12:Kp K f12)
  (a13:Na K "trimmed" f13)
  (l13:Lk K f13 "trimmed" "trimmed" (bO 13) oc13 od13 kV13 dc13 pm13 an13 cd13 ct13 sl13)
  (c13:Cd K cd13 "trimmed")
  (k13:Kp K f13)
  (a14:Na K "first_state" f14)
  (l14:Lk K f14 "first_state" "first_state" (bO 16) oc14 od14 kV14 dc14 pm14 an14 cd14 ct14 sl14)
  (c14:Cd K cd14 "first_state")
  (k14:Kp K f14)
  (a15:Na K "pouring" f15)
  (l15:Lk K f15 "pouring" "pouring" (bO 17) oc15 od15 kV15 dc15 pm15 an15 cd15 ct15 sl15)
  (c15:Cd K cd15 "pouring")
  (k15:Kp K f15)
  (a16:Na K "filled" f16)
  (l16:Lk K f16 "filled" "filled" (bO 19) oc16 od16 kV16 dc16 pm16 an16 cd16 ct16 sl16)
  (c16:Cd K cd16 "filled")
  (k16:Kp K f16)
  (a17:Na K "send" f17)
  (l17:Lk K f17 "send" "send" (bO 22) oc17 od17 kV17 dc17 pm17 an17 cd17 ct17 sl17)
  (c17:Cd K cd17 "send")
  (k17:Kp K f17)
  (a18:Na K "share_out" f18)
  (l18:Lk K f18 "share_out" "share_out" (bO 21) oc18 od18 kV18 dc18 pm18 an18 cd18 ct18 sl18)
  (c18:Cd K cd18 "share_out")
  (k18:Kp K f18)
  (a19:Na K "settle" f19)
  (l19:Lk K f19 "settle" "settle" (bO 20) oc19 od19 kV19 dc19 pm19 an19 cd19 ct19 sl19)
  (c19:Cd K cd19 "settle")
  (k19:Kp K f19)
  (a20:Na K "doors_behind" f20)
  (l20:Lk K f20 "doors_behind" "doors_behind" (bO 23) oc20 od20 kV20 dc20 pm20 an20 cd20 ct20 sl20)
  (c20:Cd K cd20 "doors_behind")
  (k20:Kp K f20)
  (a21:Na K "tick_behind" f21)
  (l21:Lk K f21 "tick_behind" "tick_behind" (bO 18) oc21 od21 kV21 dc21 pm21 an21 cd21 ct21 sl21)
  (c21:Cd K cd21 "tick_behind")
  (k21:Kp K f21)
  (a22:Na K "watch" f22)
  (l22:Lk K f22 "watch" "watch" (bO 25) oc22 od22 kV22 dc22 pm22 an22 cd22 ct22 sl22)
  (c22:Cd K cd22 "watch")
  (k22:Kp K f22)
  (a23:Na K "go_through" f23)
  (l23:Lk K f23 "go_through" "go_through" (bO 26) oc23 od23 kV23 dc23 pm23 an23 cd23 ct23 sl23)
  (c23:Cd K cd23 "go_through")
  (k23:Kp K f23)
  (a24:Na K "whole_machine" f24)
  (l24:Lk K f24 "whole_machine" "whole_machine" (bO 33) oc24 od24 kV24 dc24 pm24 an24 (.ref q24) ct24 sl24)
  (c24:Cd K (.ref q24) "whole_machine")
  (k24:Kp K f24)
  (a25:Na K "numbered" f25)
  (l25:Lk K f25 "numbered" "numbered" (bO 35) oc25 od25 kV25 dc25 pm25 an25 cd25 ct25 sl25)
  (c25:Cd K cd25 "numbered")
  (k25:Kp K f25)
  (a26:Na K "rooms_of" f26)
  (l26:Lk K f26 "rooms_of" "rooms_of" (bO 34) oc26 od26 kV26 dc26 pm26 an26 cd26 ct26 sl26)
  (c26:Cd K cd26 "rooms_of")
  (k26:Kp K f26)
  (a27:Na K "least" f27)
  (l27:Lk K f27 "least" "least" (bO 32) oc27 od27 kV27 dc27 pm27 an27 cd27 ct27 sl27)
  (c27:Cd K cd27 "least")
  (k27:Kp K f27)
  (a28:Na K "soonest" f28)
  (l28:Lk K f28 "soonest" "soonest" (bO 38) oc28 od28 kV28 dc28 pm28 an28 (.ref q28) ct28 sl28)
  (c28:Cd K (.ref q28) "soonest")
  (k28:Kp K f28)
  (a29:Na K "alike" f29)
  (l29:Lk K f29 "alike" "alike" (bO 29) oc29 od29 kV29 dc29 pm29 an29 (.ref q29) ct29 sl29)
  (c29:Cd K (.ref q29) "alike")
  (k29:Kp K f29)
  (a30:Na K "_law_told" f30)
  (l30:Lk K f30 "_law_told" "_law_told" (bO 46) oc30 od30 kV30 dc30 pm30 an30 cd30 ct30 sl30)
  (c30:Cd K cd30 "_law_told")
  (k30:Kp K f30)
  (a31:Na K "law" f31)
  (l31:Lk K f31 "law" "law" (bO 47) oc31 od31 kV31 dc31 pm31 an31 cd31 ct31 sl31)
  (c31:Cd K cd31 "law")
  (k31:Kp K f31)
  (mcM:PySem.W.nsIn K mainGlobals "MOST_STATES_soonest" = some (some (.int 300 tkM)))
  (mcL:PySem.W.nsIn K mainGlobals "MOST_STATES_least" = some (some (.int 200 tkL)))
  (mcP:PySem.W.nsIn K mainGlobals "MOST_PAIRS" = some (some (.int 300 tkP)))
  (yl29:K.lookup q29=some ⟨.type "code",yd29,.fields yv29,ys29⟩)
  (yl24:K.lookup q24=some ⟨.type "code",yd24,.fields yv24,ys24⟩)
  (yl28:K.lookup q28=some ⟨.type "code",yd28,.fields yv28,ys28⟩)
  (xcTipError:Na K "TipError" c_TipError)
  (xcNoVessel:Na K "NoVessel" c_NoVessel)
  (xcTooMany:Na K "TooMany" c_TooMany)
  (z0:Nn K "len")
  (z1:Nn K "sum")
  (z2:Nn K "all")
  (z3:Nn K "max")
  (z4:Nn K "min")
  (z5:Nn K "int")
  (z6:Nn K "tuple")
  (z7:Nn K "list")
  (z8:Nn K "bool")
  (z9:Nn K "range")
  (z10:Nn K "zip")
  (z11:Nn K "enumerate")
  (z12:Nn K "isinstance")
  (z13:Nn K "divmod")
  (z14:Nn K "set")
  (z15:Nn K "sorted")
  (yp29:yv29[11]? = some (.ref p29))
  (yn29:K.lookup p29=none)
  (yt29:p29∈ts)
  (yh29:PySem.W.codeHdIn K q29 p29=true)
  (yp24:yv24[11]? = some (.ref p24))
  (yn24:K.lookup p24=none)
  (yt24:p24∈ts)
  (yh24:PySem.W.codeHdIn K q24 p24=true)
  (yp28:yv28[11]? = some (.ref p28))
  (yn28:K.lookup p28=none)
  (yt28:p28∈ts)
  (yh28:PySem.W.codeHdIn K q28 p28=true)
  (yq29_24:p29≠p24)
  (yq29_28:p29≠p28)
  (yq24_28:p24≠p28)
  (exV:PySem.W.excIn K c_NoVessel [.type "ValueError",.type "Exception",.type "BaseException",.type "object"] "ValueError.__new__" = true)
  (exM:PySem.W.excIn K c_TooMany [.type "ValueError",.type "Exception",.type "BaseException",.type "object"] "ValueError.__new__" = true)
  (hmMxh:PySem.W.exmOne K (.ref c_TooMany) (.ref c_TooMany)=some true) :
  ∃ (fd:FuncData) (tabs:List (Addr×Addr)),(∀ q∈tabs,q.2∈ts/\K.lookup q.2=none/\PySem.W.codeHdIn K q.1 q.2=true)/\(∀ (s:Shared) (v:Value),BindsTo s fd ⟨[v],[]⟩ [("script",v)])/\∀ base:Heap,K.In base->base.Ns mainGlobals mg->(∀ q∈tabs,NestB mg base q.1 q.2)->FnOk l.prog w K mg base mG 11 fa fd ["script"] (spT K tabs):=by
 have e:=hfa.symm.trans (abd X G a31);cases e;have T:Txt mg:=⟨abr X G z0,abr X G z1,abr X G z2,abr X G z3,abr X G z4,abr X G z5,abr X G z6,abr X G z7,abr X G z8,abr X G z9,abr X G z10,abr X G z11,abr X G z12,abr X G z13,abr X G z14,abr X G z15⟩;have UM:TxtM mg:=⟨⟨_,abd X G mcM,_,rfl⟩⟩;have N3:Ne3 p29 p24 p28:=⟨yq29_24,yq29_28,yq24_28⟩;have UL:TxtL mg:=⟨⟨_,abd X G mcL,_,rfl⟩⟩;have UP:TxtP mg:=⟨⟨_,abd X G mcP,_,rfl⟩⟩;have XC_NoVessel:ExC K "NoVessel" c_NoVessel:=⟨xcNoVessel,exV⟩;have XC_TooMany:ExC K "TooMany" c_TooMany:=⟨xcTooMany,exM⟩;have hxM:=hmMxh;have mE_TooMany:=abd X G xcTooMany;have F0:=bT (st:=(bO 40)) l0 c0 k0;have F1:=bT (st:=(bO 41)) l1 c1 k1;have F2:=bT (st:=(bO 42)) l2 c2 k2;have F3:=bT (st:=(bO 43)) l3 c3 k3;have F4:=bT (st:=(bO 44)) l4 c4 k4;have F5:=bT (st:=(bO 45)) l5 c5 k5;have F6:=bT (st:=(bO 6)) l6 c6 k6;have F7:=bT (st:=(bO 5)) l7 c7 k7;have F8:=bT (st:=(bO 12)) l8 c8 k8;have F9:=bT (st:=(bO 11)) l9 c9 k9;have F10:=bT (st:=(bO 14)) l10 c10 k10;have F11:=bT (st:=(bO 9)) l11 c11 k11;have F12:=bT (st:=(bO 8)) l12 c12 k12;have F13:=bT (st:=(bO 13)) l13 c13 k13;have F14:=bT (st:=(bO 16)) l14 c14 k14;have F15:=bT (st:=(bO 17)) l15 c15 k15;have F16:=bT (st:=(bO 19)) l16 c16 k16;have F17:=bT (st:=(bO 22)) l17 c17 k17;have F18:=bT (st:=(bO 21)) l18 c18 k18;have F19:=bT (st:=(bO 20)) l19 c19 k19;have F20:=bT (st:=(bO 23)) l20 c20 k20;have F21:=bT (st:=(bO 18)) l21 c21 k21;have F22:=bT (st:=(bO 25)) l22 c22 k22;have F23:=bT (st:=(bO 26)) l23 c23 k23;have F24:=bT (st:=(bO 33)) l24 c24 k24;have F25:=bT (st:=(bO 35)) l25 c25 k25;have F26:=bT (st:=(bO 34)) l26 c26 k26;have F27:=bT (st:=(bO 32)) l27 c27 k27;have F28:=bT (st:=(bO 38)) l28 c28 k28;have F29:=bT (st:=(bO 29)) l29 c29 k29;have F30:=bT (st:=(bO 46)) l30 c30 k30;have F31:=bT (st:=(bO 47)) l31 c31 k31;refine⟨PySem.W.fnOf "law" "law" (m9 (bO 47)) (fB (bO 47)) (aM (bO 47)) .none kV31 dc31 pm31 an31 cd31 ct31,[(q29,p29),(q24,p24),(q28,p28)],λ q hq=>?_,λ s v=>.of_eq rfl,λ base _ _ hN=>?_⟩
 ·simp only [aao,acj,or_false] at hq;rcases hq with rfl | rfl | rfl
  ·exact⟨yt29,yn29,yh29⟩
  ·exact⟨yt24,yn24,yh24⟩
  ·exact⟨yt28,yn28,yh28⟩
 have NB_alike:=hN (q29,p29) (by simp);have NB_whole_machine:=hN (q24,p24) (by simp);have NB_soonest:=hN (q28,p28) (by simp);have C0:Callee l.prog w K mg base "_law_draw" ["tape","many"] 1 hW f0 _:=⟨xM F0 T,abd X G a0,k0,F0.binds λ _ _ _ _ _ _=>kA λ _ _=>rfl⟩;have C1:Callee l.prog w K mg base "_law_outs" ["tape","many","small"] 2 (BH K) f1 _:=⟨xK F1 T C0,abd X G a1,k1,F1.binds λ _ _ _ _ _ _=>eJ λ _ _ _=>rfl⟩;have C2:Callee l.prog w K mg base "_law_vessel" ["tape","number","many","spouts","small"] 3 (nV K) f2 _:=⟨sX F2 T C0 C1,abd X G a2,k2,F2.binds λ _ _ _ _ _ _=>EK λ _ _ _ _ _=>rfl⟩;have C3:Callee l.prog w K mg base "_law_net" ["tape","most","small"] 4 (BJ K) f3 _:=⟨xL F3 T C0 C2,abd X G a3,k3,F3.binds λ _ _ _ _ _ _=>eJ λ _ _ _=>rfl⟩;have C4:Callee l.prog w K mg base "_law_small" ["tape"] 5 (rU K) f4 _:=⟨sZ F4 T C3,abd X G a4,k4,F4.binds λ _ _ _ _ _ _=>oP λ _=>rfl⟩;have C5:Callee l.prog w K mg base "_law_grown" ["tape","net"] 4 (wS K) f5 _:=⟨uJ F5 T C0 C2,abd X G a5,k5,F5.binds λ _ _ _ _ _ _=>kA λ _ _=>rfl⟩;have C6:Callee l.prog w K mg base "is_whole" ["thing","least","most"] 1 rS f6 _:=⟨xJ F6 T,abd X G a6,k6,F6.binds λ _ _ _ _ _ _=>eJ λ _ _ _=>rfl⟩;have C7:CalleeR l.prog w K mg base "need_vessel" ["net","number"] 2 (qZ K c_NoVessel) f7 _:=⟨qT F7 T XC_NoVessel C6,abd X G a7,k7,F7.binds λ _ _ _ _ _ _=>kA λ _ _=>rfl⟩;have C8:Callee l.prog w K mg base "leads_to" ["vessel","spouts"] 1 (wR K) f8 _:=⟨zP F8 T,abd X G a8,k8,F8.binds λ _ _ _ _ _ _=>kA λ _ _=>rfl⟩;have C9:CalleeR l.prog w K mg base "matters" ["net","watched"] 3 (p6 K c_NoVessel) f9 _:=⟨zO F9 T C7 C8,abd X G a9,k9,F9.binds λ _ _ _ _ _ _=>kA λ _ _=>rfl⟩;have C10:Callee l.prog w K mg base "counted" ["kept"] 1 (p7 K) f10 _:=⟨CF F10 T,abd X G a10,k10,F10.binds λ _ _ _ _ _ _=>oP λ _=>rfl⟩;have C11:Callee l.prog w K mg base "renumbered_vessel" ["vessel","new_vessels","new_spouts"] 1 (BG K) f11 _:=⟨lB F11 T,abd X G a11,k11,F11.binds λ _ _ _ _ _ _=>eJ λ _ _ _=>rfl⟩;have C12:Callee l.prog w K mg base "renumbered" ["net","new_vessels","new_spouts"] 2 (IC K) f12 _:=⟨uI F12 T C11,abd X G a12,k12,F12.binds λ _ _ _ _ _ _=>eJ λ _ _ _=>rfl⟩;have C13:CalleeR l.prog w K mg base "trimmed" ["net","watched"] 4 (oY K c_NoVessel) f13 _:=⟨zL F13 T C9 C10 C12,abd X G a13,k13,F13.binds λ _ _ _ _ _ _=>kA λ _ _=>rfl⟩;have C14:Callee l.prog w K mg base "first_state" ["net"] 1 (nW K) f14 _:=⟨sW F14 T,abd X G a14,k14,F14.binds λ _ _ _ _ _ _=>oP λ _=>rfl⟩;have C15:Callee l.prog w K mg base "pouring" ["net","amount"] 1 (oZ K) f15 _:=⟨CD F15 T,abd X G a15,k15,F15.binds λ _ _ _ _ _ _=>kA λ _ _=>rfl⟩;have C16:Callee l.prog w K mg base "filled" ["spouts","state","poured"] 1 (rW K) f16 _:=⟨FY F16 T,abd X G a16,k16,F16.binds λ _ _ _ _ _ _=>eJ λ _ _ _=>rfl⟩;have C17:Callee l.prog w K mg base "send" ["sent","target","amount"] 1 wO f17 _:=⟨MP F17 T,abd X G a17,k17,F17.binds λ _ _ _ _ _ _=>eJ λ _ _ _=>rfl⟩;have C18:Callee l.prog w K mg base "share_out" ["outs","has","sent"] 2 (wN K) f18 _:=⟨xI F18 T C17,abd X G a18,k18,F18.binds λ _ _ _ _ _ _=>eJ λ _ _ _=>rfl⟩;have C19:Callee l.prog w K mg base "settle" ["vessel","has","sent"] 3 (rV K) f19 _:=⟨FX F19 T C17 C18,abd X G a19,k19,F19.binds λ _ _ _ _ _ _=>eJ λ _ _ _=>rfl⟩;have C20:Callee l.prog w K mg base "doors_behind" ["vessels","doors","tipped"] 1 (wT K) f20 _:=⟨qU F20 T,abd X G a20,k20,F20.binds λ _ _ _ _ _ _=>eJ λ _ _ _=>rfl⟩;have C21:Callee l.prog w K mg base "tick_behind" ["net","state","poured"] 4 (wM K) f21 _:=⟨qS F21 T C16 C19 C20,abd X G a21,k21,F21.binds λ _ _ _ _ _ _=>eJ λ _ _ _=>rfl⟩;have C22:Callee l.prog w K mg base "watch" ["net","state","vessel","amount"] 5 (nU K) f22 _:=⟨JO F22 T C15 C21,abd X G a22,k22,F22.binds λ _ _ _ _ _ _=>y9 λ _ _ _ _=>rfl⟩;have CB23:CalleeS l.prog w K mg base "go_through" ["first","step","most","limit"] 7 (vB l.prog w K mg base c_TooMany uG) f23 _:=⟨mO F23 T XC_TooMany,abd X G a23,k23,F23.binds λ _ _ _ _ _ _=>y9 λ _ _ _ _=>rfl⟩;have C23:CalleeS l.prog w K mg base "go_through" ["first","step","most","limit"] 7 (vB l.prog w K mg base c_TooMany cR) f23 _:=⟨mO F23 T XC_TooMany,abd X G a23,k23,F23.binds λ _ _ _ _ _ _=>y9 λ _ _ _ _=>rfl⟩;have C24:CalleeR l.prog w K mg base "whole_machine" ["net","watched","most"] 8 (BK K p24 c_TooMany) f24 _:=⟨pG F24 T rfl NB_whole_machine UL C14 C22 C23,abd X G a24,k24,F24.binds λ _ _ _ _ _ _=>eJ λ _ _ _=>rfl⟩;have C25:Callee l.prog w K mg base "numbered" ["signs"] 1 (BI K) f25 _:=⟨zN F25 T,abd X G a25,k25,F25.binds λ _ _ _ _ _ _=>oP λ _=>rfl⟩;have C26:Callee l.prog w K mg base "rooms_of" ["machine"] 2 (wP K) f26 _:=⟨zM F26 T C25,abd X G a26,k26,F26.binds λ _ _ _ _ _ _=>oP λ _=>rfl⟩;have C27:CalleeR l.prog w K mg base "least" ["net","watched","most"] 9 (wQ K p24 c_TooMany) f27 _:=⟨JP F27 T C24 C26,abd X G a27,k27,F27.binds λ _ _ _ _ _ _=>eJ λ _ _ _=>rfl⟩;have C28:CalleeR l.prog w K mg base "soonest" ["net","vessel","most"] 8 (BF K p28 c_NoVessel c_TooMany) f28 _:=⟨CC F28 T rfl NB_soonest UM C7 C14 C22 C23,abd X G a28,k28,F28.binds λ _ _ _ _ _ _=>eJ λ _ _ _=>rfl⟩;have C29:CalleeR l.prog w K mg base "alike" ["net","other","one","two","most"] 8 (wU K p29 c_TooMany) f29 _:=⟨JQ F29 T rfl NB_alike UP C14 C22 CB23,abd X G a29,k29,F29.binds λ _ _ _ _ _ _=>EK λ _ _ _ _ _=>rfl⟩;have C30:Callee l.prog w K mg base "_law_told" ["way","net","watched","most","other","number"] 10 (rT K p29 p24 p28) f30 _:=⟨sY F30 T mE_TooMany hxM N3 C27 C28 C29,abd X G a30,k30,F30.binds λ _ _ _ _ _ _=>ND λ _ _ _ _ _ _=>rfl⟩;exact PN F31 T C0 C4 C5 C13 C30
theorem walk {l:PySem.W.OpenLaw}{q:Program}{loose:List Str}{XP:(Str->Option Value)->Heap->Prop}{YP:World->Heap->Prop}{d:DefRec}{K:Params->aab}{ts:List Addr} (hn:l.most=some 63) (hdf:d.params.defaults=[])
  (hY:∀ (w:World) (h:Heap),YP w h->(K w.params).In h) (hYt:∀ (w:World) (h:Heap),YP w h->∀ P∈ts,h.get? P=some (PySem.W.tabObj #[]))
  (F:∀ (w:World) (mg:Str->Option Value) (fa:Addr) (h:Heap),(K w.params).In h->h.Ns mainGlobals mg->mg d.name=some (.ref fa)->
   ∃ (fd:FuncData) (tabs:List (Addr×Addr)),(∀ q∈tabs,q.2∈ts/\(K w.params).lookup q.2=none/\PySem.W.codeHdIn (K w.params) q.1 q.2=true)/\(∀ (s:Shared) (u:Value),BindsTo s fd ⟨[u],[]⟩ [("script",u)])/\∀ base:Heap,(K w.params).In base->base.Ns mainGlobals mg->(∀ q∈tabs,NestB mg base q.1 q.2)->FnOk l.prog w (K w.params) mg base mG 11 fa fd ["script"] (spT (K w.params) tabs)) :
  PySem.W.WalkO q loose XP YP l.row.toRowW d [] (λ f vs=>PySem.call f vs):=
 L2.walk_ofT (n:=63) (k:=11) (x := "script") (sp:=spT) hn (by decide) hdf ⟨rfl,by decide,by decide⟩ hY hYt F IB
end Tw
def PySem.W.Fast.tw17382482707080846083:Nat:=0
theorem PySem.W.Fast.te17382482707080846083:PySem.W.Fast.tw17382482707080846083=PySem.W.Fast.tw17382482707080846083:=rfl
def PySem.W.Fast.tw12291145348824422541:PySem.Program:=PySem.Challenge.pw_tipwell_k39_whole_trimmed_told_alike
theorem PySem.W.Fast.te12291145348824422541:PySem.Challenge.pw_tipwell_k39_whole_trimmed_told_alike=PySem.W.Fast.tw12291145348824422541:=rfl
namespace PySem.W.Fast
def tw8121296489293607790:=0
def tw17235475466097815183:=0
def tw8974177218822786454:=0
def tw1817416545076662103:=0
def tw4648312633903612495:=0
def tw4338901390927676896:=0
def tw12969590831973247758:=0
def tw6539490616743413831:=0
def tw9918829719995693622:=0
def tw11886464142380795020:=0
def tw11361615414384564301:=0
def tw13927606738169328615:=0
def tw13247896805787911311:=0
def tw2364039364385963875:=0
def tw17753034555795016718:=0
def tw3013340949813076974:=0
def tw15820029815896137942:=0
def tw11720194652400473745:=0
def tw5196561053825469158:=0
def tw13786321683368867653:=0
def tw16772511697404537688:=0
def tw14809343580646784475:=0
def tw3793051893019907534:=0
def tw70595389469795280:=0
def tw1154161040181220332:=0
def tw15808137024075431059:=0
def tw11928110040945410451:=0
def tw16440751871992059400:=0
def tw1034149033942533978:=0
def tw12910587606544427545:=0
def tw4652924079961263139:=0
def tw2982995647546609445:=0
def tw12765790673671727968:=0
def tw2710842608427843918:=0
def tw14835034650459123838:=0
def tw16548057050422399680:=0
def tw6783984452952983415:=0
def tw4500284686102372340:=0
def tw2827709396942395659:=0
def tw18227038748370737636:=0
def tw8886955935932357809:=0
def tw11075792135697700504:=0
def tw16471164093369489255:=0
def tw9355371867702876106:=0
def tw13622797077568512953:=0
def tw10576898830508639427:=0
def tw5347263995763042854:=0
def tw4559333634513221596:=0
def tw12069994010027739153:=0
def tw2438252057572509157:=0
def tw18046618349429970886:=0
def tw15331109736504292924:=0
def tw14379560996577691425:=0
def tw11393152301698094788:=0
def tw11196344212920785383:=0
def tw2071403326391861445:=0
def tw14356192711336840540:=0
def tw14447702731963065404:=0
def tw4586861143852342196:=0
def tw10869675724916992535:=0
def tw3727080507197704607:=0
def tw10993809430405455071:=0
def tw9188729709617649862:=0
def tw15543719017551057333:=0
def tw12403126825321516789:=0
def tw3121791940449963610:=0
def tw17543095712559519455:=0
def tw5260955073187440019:=0
def tw17464760153798610162:=0
def tw2711911176217532741:=0
def tw941611093308499032:=0
def tw14932053758409478770:=0
def tw10461000269567071296:=0
def tw370245758702623776:=0
def tw10532718130017618482:=0
def tw2168818315586163894:=0
def tw4309773320183413563:=0
def tw13645223788509561680:=0
def tw9013730097496715080:=0
def tw5903666713690269747:=0
def tw5999296784449495866:=0
def tw10598594842471642238:=0
def tw13408671124649703025:=0
end PySem.W.Fast
open PySem PySem.W PyProof.Rows
set_option maxRecDepth 100000 in
set_option maxHeartbeats 0 in
theorem PySem.Challenge.cw_tipwell_k39_whole_trimmed_told_alike_holds : PySem.Challenge.rw_tipwell_k39_whole_trimmed_told_alike.Holds := by
 w_on;o_law;km_head;(case hw=>w_witness2)
 k_fill
 refine Tw.walk (l:=PySem.Challenge.rw_tipwell_k39_whole_trimmed_told_alike) rfl rfl (λ w h Y=>PySem.W.km_in_of Y) (λ w h Y=>PySem.W.km_tabs_of Y) ?F
 case F=>
  intro w mg fa h KX G hmg;refine' Tw.all_mk KX G hmg ?_ ?_ ?_ ?_ ?_ ?_ ?_ ?_ ?_ ?_ ?_ ?_ ?_ ?_ ?_ ?_ ?_ ?_ ?_ ?_ ?_ ?_ ?_ ?_ ?_ ?_ ?_ ?_ ?_ ?_ ?_ ?_ ?_ ?_ ?_ ?_ ?_ ?_ ?_ ?_ ?_ ?_ ?_ ?_ ?_ ?_ ?_ ?_ ?_ ?_ ?_ ?_ ?_ ?_ ?_ ?_ ?_ ?_ ?_ ?_ ?_ ?_ ?_ ?_ ?_ ?_ ?_ ?_ ?_ ?_ ?_ ?_ ?_ ?_ ?_ ?_ ?_ ?_ ?_ ?_ ?_ ?_ ?_ ?_ ?_ ?_ ?_ ?_ ?_ ?_ ?_ ?_ ?_ ?_ ?_ ?_ ?_ ?_ ?_ ?_ ?_ ?_ ?_ ?_ ?_ ?_ ?_ ?_ ?_ ?_ ?_ ?_ ?_ ?_ ?_ ?_ ?_ ?_ ?_ ?_ ?_ ?_ ?_ ?_ ?_ ?_ ?_ ?_ ?_ ?_ ?_ ?_ ?_ ?_ ?_ ?_ ?_ ?_ ?_ ?_ ?_ ?_ ?_ ?_ ?_ ?_ ?_ ?_ ?_ ?_ ?_ ?_ ?_ ?yp29 ?yn29 ?yt29 ?yh29 ?yp24 ?yn24 ?yt24 ?yh24 ?yp28 ?yn28 ?yt28 ?yh28 ?yq29_24 ?yq29_28 ?yq24_28 ?exV ?exM ?hmMxh
  all_goals (try delta Tw.Na)
  all_goals (try delta Tw.Nn)
  all_goals (try delta Tw.Kp)
  all_goals (try delta Tw.Cd)
  all_goals (try delta Tw.Lk)
  all_goals try k_is
  (case yp29=>exact rfl)
  (case yn29=>first | k_is | exact rfl)
  (case yt29=>decide)
  (case yh29=>first | k_is | exact rfl)
  (case yp24=>exact rfl)
  (case yn24=>first | k_is | exact rfl)
  (case yt24=>decide)
  (case yh24=>first | k_is | exact rfl)
  (case yp28=>exact rfl)
  (case yn28=>first | k_is | exact rfl)
  (case yt28=>decide)
  (case yh28=>first | k_is | exact rfl)
  (case yq29_24=>decide)
  (case yq29_28=>decide)
  (case yq24_28=>decide)
  (case exV=>k_exc)
  (case exM=>k_exc)
  (case hmMxh=>kts_exm)
#print axioms PySem.Challenge.cw_tipwell_k39_whole_trimmed_told_alike_holds