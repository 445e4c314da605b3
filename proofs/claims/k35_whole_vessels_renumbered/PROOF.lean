import PyProof.Rows.All
import Wide.All
import OpenK.AllK
import Wide.FinOn
import Lean
import PyProof.EqAt
import PyProof.EqKinds
import PyProof.TupleCall
import PyProof.FactsAll.NoneType
import PyProof.ZipIter
import PyProof.EnumMake
import KE.KUnpack
import KE.KTryMore
import PyProof.NsDelKeeps
import PyProof.Rows.SetFrom
import PyProof.CollectWalk
import PyProof.Rows.SortWalk
import PyProof.TupleKey
import PyProof.FactsAll.bool_1
import PyProof.NeKinds
import PyProof.ListRange
import PyProof.FactsAll.tuple_0
import PyProof.FactsAll.tuple_2
import KE.RegKIsAll
import KE.RegKTryMore
import PySem.Challenge.RW_tipwell_k35_whole_vessels_renumbered
set_option Elab.async false
set_option linter.all false
set_option maxRecDepth 100000
abbrev aaa:=PySem.W.Frag
noncomputable def aab:=@PySem.Heap.get?_push_of_some
noncomputable def aac:=@List.length_map
noncomputable def aad:=@List.getElem?_eq_some_iff
noncomputable def aae:=@List.getD_eq_getElem?_getD
noncomputable def aaf:=@List.getElem?_eq_getElem
noncomputable def aag:=@PySem.Heap.get?_push_size
noncomputable def aah:=@List.getElem?_map
noncomputable def aai:=@List.map_append
noncomputable def aaj:=@List.mem_of_getElem?
noncomputable def aak:=@PySem.W.mg_of
noncomputable def aal:=@Bool.false_ne_true
noncomputable def aam:=@List.mem_cons_of_mem
noncomputable def aan:=@PySem.Heap.lt_size
noncomputable def aao:=@List.size_toArray
noncomputable def aap:=@Option.map_eq_some_iff
noncomputable def aaq:=@List.mem_singleton
noncomputable def aar:=@PySem.F.plainAttrs_list
noncomputable def aas:=@List.mem_cons_self
noncomputable def aat:=@List.length_append
noncomputable def aau:=@Nat.lt_of_lt_of_le
noncomputable def aav:=@Int.toNat_natCast
noncomputable def aaw:=@List.map_cons
noncomputable def aax:=@List.length_cons
noncomputable def aay:=@Nat.ne_of_lt
noncomputable def aaz:=@List.mem_map
noncomputable def aba:=@PySem.F.slot_list_append
noncomputable def abb:=@PySem.F.type_list_append
noncomputable def abc:=@List.mem_append
noncomputable def abd:=@Array.length_toList
noncomputable def abe:=@List.take_length
noncomputable def abf:=@List.getElem_mem
noncomputable def abg:=@Array.getElem?_eq_getElem
noncomputable def abh:=@PySem.W.mg_none_of
noncomputable def abi:=@List.nodup_cons
noncomputable def abj:=@PySem.boot_len
noncomputable def abk:=@List.mem_range
noncomputable def abl:=@List.length_take
noncomputable def abm:=@List.mem_append_right
noncomputable def abn:=@Array.getElem?_toList
noncomputable def abo:=@PySem.Heap.size_push
noncomputable def abp:=@Option.some.inj
noncomputable def abq:=@Nat.le_trans
noncomputable def abr:=@List.getElem?_append_left
noncomputable def abt:=@List.foldl_cons
noncomputable def abu:=@List.all_eq_true
noncomputable def abv:=@List.map_map
noncomputable def abw:=@List.getElem?_set_self
noncomputable def abx:=@Nat.lt_irrefl
noncomputable def aby:=@List.mem_iff_getElem?
noncomputable def abz:=@List.mem_append_left
noncomputable def aca:=@List.getElem?_set_ne
noncomputable def acb:=@List.length_range
noncomputable def acd:=@List.getElem?_eq_none
noncomputable def ace:=@Nat.le_of_lt
noncomputable def acf:=@PySem.Heap.get?_update_self
noncomputable def acg:=@List.take_succ
noncomputable def ach:=@List.append_assoc
noncomputable def aci:=@Nat.not_lt_zero
noncomputable def acj:=@List.getElem?_append_right
noncomputable def ack:=@List.append_nil
noncomputable def acl:=@List.length_set
noncomputable def acm:=@PySem.Heap.get?_update_other
noncomputable def acn:=@List.filter_cons_of_neg
noncomputable def aco:=@List.filter_cons_of_pos
noncomputable def acp:=@List.mem_filter
noncomputable def acq:=@List.sum_cons
namespace L2
open PySem PySem.Spec PyProof.Rows
noncomputable abbrev fQ:=Sum Int (Option Str)
noncomputable def GD:Value->Bool
 | .none=>true
 | _=>false
theorem xN {v:Value} (h:GD v=true):v=Value.none:=by
 cases v <;> simp_all [GD]
noncomputable def tJ:fQ->Value->Bool
 | .inl k,v=>Value.isInt k v
 | .inr (some x),v=>Value.isStrOf x v
 | .inr none,v=>GD v
noncomputable def n8:Int:=0xFCA86420
noncomputable def keyH (w:World):fQ->Int
 | .inl k=>hashInt k
 | .inr (some x)=>hashStr w x
 | .inr none=>n8
theorem cH:∀ {k:fQ}{v:Value},tJ k v=true->(∃ i t,k=Sum.inl i/\v=Value.int i t)\/(∃ x t,k=Sum.inr (some x)/\v=Value.str x t)\/(k=Sum.inr none/\v=Value.none)
 | .inl i,v,h=>by
  obtain⟨t,e⟩:=Value.isInt_shape (k:=i) (v:=v) h
  exact .inl ⟨i,t,rfl,e⟩
 | .inr (some x),v,h=>by
  obtain⟨t,e⟩:=Value.isStrOf_shape (x:=x) (v:=v) h
  exact .inr (.inl ⟨x,t,rfl,e⟩)
 | .inr none,v,h=>.inr (.inr ⟨rfl,xN h⟩)
theorem DC (i:Int) (t:Tok):tJ (.inl i) (.int i t)=true:=by simp [tJ,Value.isInt]
theorem DB (x:Str) (t:Tok):tJ (.inr (some x)) (.str x t)=true:=by simp [tJ,Value.isStrOf]
theorem LJ (a b:Int):decide ((Sum.inl a:fQ)=Sum.inl b)=(a == b):=by
 by_cases e:a=b
 ·subst e;simp
 ·have h:¬ (Sum.inl a:fQ)=Sum.inl b:=λ q=>e (Sum.inl.inj q)
  rw[decide_eq_false h]
  exact (beq_eq_false_iff_ne.mpr e).symm
theorem LH (a b:Str):decide ((Sum.inr (some a):fQ)=Sum.inr (some b))=decide (a=b):=by
 by_cases e:a=b
 ·subst e;simp
 ·have h:¬ (Sum.inr (some a):fQ)=Sum.inr (some b):=λ q=>e (abp (Sum.inr.inj q))
  rw[decide_eq_false h,decide_eq_false e]
theorem G4 (i:Int) (o:Option Str):decide ((Sum.inl i:fQ)=Sum.inr o)=false:=decide_eq_false (λ q=>nomatch q)
theorem G5 (i:Int) (o:Option Str):decide ((Sum.inr o:fQ)=Sum.inl i)=false:=decide_eq_false (λ q=>nomatch q)
theorem LG (x:Str):decide ((Sum.inr (some x):fQ)=Sum.inr none)=false:=decide_eq_false (λ q=>nomatch (Sum.inr.inj q))
theorem LI (x:Str):decide ((Sum.inr none:fQ)=Sum.inr (some x))=false:=decide_eq_false (λ q=>nomatch (Sum.inr.inj q))
theorem GJ {prog:Program}{w:World}{A:Around}{E:Value->Shared->Prop}{s:Shared}{Q:Int->Shared->Prop} (h:Q n8 { s with toks:=s.toks+1 }) :
  wpAny (model prog w) A (pyHash .none) Q E s:=by
 have hT:s.TypeIs .none "NoneType" := rfl
 unfold pyHash
 have hv:[Value.none].any Value.onHeap=false:=rfl
 refine wpAny_bind ?_
 rw[cRoomFor,if_neg (by rw[hv];exact aal)];refine wpAny_pure ?_
 refine wpAny_bind (wpAny_specialOf hT F.slot_NoneType_hash.lookup ?_)
 show wpAny _ _ (if (some (Value.builtin "NoneType.__hash__") == some Value.none)=true then _ else _) Q E s
 rw[if_neg (by rw[beq_builtin_none];exact aal)]
 refine wpAny_bind (wpAny_specialOf hT F.slot_NoneType_hash.lookup ?_)
 show wpAny _ _ (callSpecialIfBoundUnlessNone? .none "__hash__" _ >>= _) Q E s
 refine wpAny_bind (wpAny_callSpecialIfBoundUnlessNone?_slot hT F.slot_NoneType_hash
  (wpAny_call_entry F.slot_NoneType_hash hT F.entry_NoneType_hash
   (show wpAny _ _ (do ret (<- mkInt n8)) _ _ s from wpAny_ret_mkInt ?_) (F.args_NoneType_hash_1 _)))
 show wpAny _ _ (if (decide (-(2:Int) ^ 63<=n8) && decide (n8 < 2 ^ 63))=true then _ else _) Q E _
 rw[if_pos (by decide)]
 exact wpAny_pure h
noncomputable def dM (prog:Program) (w:World):PySem.KeyKind prog w fQ where
 is:=tJ
 hash:=keyH w
 inj:=λ v a b ha hb=>by
  rcases cH ha with ⟨i,t,rfl,rfl⟩ | ⟨x,t,rfl,rfl⟩ | ⟨rfl,rfl⟩
  ·rcases cH hb with ⟨j,u,rfl,e⟩ | ⟨y,u,rfl,e⟩ | ⟨rfl,e⟩
   ·injection e with e1 _;rw[e1]
   ·exact nomatch e
   ·exact nomatch e
  ·rcases cH hb with ⟨j,u,rfl,e⟩ | ⟨y,u,rfl,e⟩ | ⟨rfl,e⟩
   ·exact nomatch e
   ·injection e with e1 _;rw[e1]
   ·exact nomatch e
  ·rcases cH hb with ⟨j,u,rfl,e⟩ | ⟨y,u,rfl,e⟩ | ⟨rfl,e⟩
   ·exact nomatch e
   ·exact nomatch e
   ·rfl
 byValue:=λ k v h=>by
  rcases cH h with ⟨i,t,rfl,rfl⟩ | ⟨x,t,rfl,rfl⟩ | ⟨rfl,rfl⟩ <;> rfl
 pyHash:=λ hv h=>by
  rcases cH hv with ⟨i,t,rfl,rfl⟩ | ⟨x,t,rfl,rfl⟩ | ⟨rfl,rfl⟩
  ·exact wpAny_pyHash_int h
  ·exact wpAny_pyHash_str h
  ·exact GJ h
 eqBool:=λ hu hv h=>by
  rcases cH hu with ⟨i,t,rfl,rfl⟩ | ⟨x,t,rfl,rfl⟩ | ⟨rfl,rfl⟩
  ·rcases cH hv with ⟨j,u,rfl,rfl⟩ | ⟨y,u,rfl,rfl⟩ | ⟨rfl,rfl⟩
   ·rw[LJ] at h;exact wpAny_eqBool_int h
   ·rw[G4] at h;exact SeqAt.EqAt.int_str i t y u _ _ _ _ h
   ·rw[G4] at h;exact SeqAt.EqAt.int_none i t _ _ _ _ h
  ·rcases cH hv with ⟨j,u,rfl,rfl⟩ | ⟨y,u,rfl,rfl⟩ | ⟨rfl,rfl⟩
   ·rw[G5] at h;exact SeqAt.EqAt.str_int x t j u _ _ _ _ h
   ·rw[LH] at h;exact wpAny_eqBool_str h
   ·rw[LG] at h;exact SeqAt.EqAt.str_none x t _ _ _ _ h
  ·rcases cH hv with ⟨j,u,rfl,rfl⟩ | ⟨y,u,rfl,rfl⟩ | ⟨rfl,rfl⟩
   ·rw[G5] at h;exact SeqAt.EqAt.none_int j u _ _ _ _ h
   ·rw[LI] at h;exact SeqAt.EqAt.none_str y u _ _ _ _ h
   ·rw[decide_eq_true rfl] at h;exact SeqAt.EqAt.same Value.none _ _ _ _ h
 «strs»:=λ k x t v h=>by
  rcases cH h with ⟨i,u,rfl,e⟩ | ⟨y,u,rfl,e⟩ | ⟨rfl,e⟩
  ·exact nomatch e
  ·injection e with e1 _
   subst e1
   cases v <;> rfl
  ·exact nomatch e
theorem xK (prog:Program) (w:World) (i:Int) (t:Tok):(dM prog w).is (.inl i) (.int i t)=true:=DC i t
theorem xJ (prog:Program) (w:World) (x:Str) (t:Tok):(dM prog w).is (.inr (some x)) (.str x t)=true:=DB x t
end L2
namespace L2
open PySem PySem.Spec PyProof.Rows
inductive V where
 | non | bl (b:Bool) | int (i:Int) | str (x:Str) | byt (b:Array UInt8) | flt (b:UInt64) | ref (a:Addr) | ty (n:String)
 deriving DecidableEq
noncomputable def bE:V->Value->Prop
 | .non,u=>u=Value.none
 | .bl b,u=>u=Value.bool b
 | .int i,u=>∃ t,u=Value.int i t
 | .str x,u=>∃ t,u=Value.str x t
 | .byt b,u=>∃ t,u=Value.bytes b t
 | .flt b,u=>∃ t,u=Value.float b t
 | .ref a,u=>u=Value.ref a
 | .ty n,u=>u=Value.type n
noncomputable abbrev bG:List V->List Value->Prop:=Paired bE
theorem bG.length {xs:List V}{us:List Value} (r:bG xs us):xs.length=us.length:=Paired.length r
theorem bG.get:∀ {xs:List V}{us:List Value}{i:Nat}{x:V},bG xs us->xs[i]? = some x->∃ u,us[i]? = some u/\bE x u
 | _,_,_,_,.nil,e=>by simp at e
 | _,_,0,_,.cons r _,e=>by simp at e;subst e;exact⟨_,rfl,r⟩
 | _,_,i+1,x,.cons _ t,e=>by
  obtain⟨u,h1,h2⟩:=bG.get (i:=i) (x:=x) t (by simpa using e)
  exact⟨u,by simpa using h1,h2⟩
theorem bG.set {x:V}{u:Value} (r:bE x u):∀ {xs:List V}{us:List Value} (i:Nat),bG xs us->bG (xs.set i x) (us.set i u)
 | _,_,_,.nil=>.nil
 | _,_,0,.cons _ t=>.cons r t
 | _,_,i+1,.cons q t=>.cons q (bG.set r i t)
theorem bG.append:∀ {xs ys:List V}{us ws:List Value},bG xs us->bG ys ws->bG (xs++ys) (us++ws)
 | _,_,_,_,.nil,s=>s
 | _,_,_,_,.cons r t,s=>.cons r (bG.append t s)
theorem bG.take:∀ {xs:List V}{us:List Value} (n:Nat),bG xs us->bG (xs.take n) (us.take n)
 | _,_,0,_=>.nil
 | _,_,_+1,.nil=>.nil
 | _,_,n+1,.cons r t=>.cons r (bG.take n t)
theorem bG.drop:∀ {xs:List V}{us:List Value} (n:Nat),bG xs us->bG (xs.drop n) (us.drop n)
 | _,_,0,r=>r
 | _,_,_+1,.nil=>.nil
 | _,_,n+1,.cons _ t=>bG.drop n t
noncomputable def jI:Option V->Option Value->Prop
 | some v,some u=>bE v u
 | none,none=>True
 | _,_=>False
noncomputable def KV {bb:Type}:List (bb×V)->List (bb×Value)->Prop:=Paired λ (p:bb×V) (q:bb×Value)=>p.1=q.1/\bE p.2 q.2
noncomputable def kV:fQ->V
 | .inl i=>.int i
 | .inr (some x)=>.str x
 | .inr none=>.non
inductive HO where
 | lst (xs:List V)
 | tup (xs:List V)
 | dK (kvs:List (fQ×V)) | dT (kvs:List (List fQ×V))
 | set (S:Int->Bool) (n:Nat)
 | ins (C dx:Addr) (fs:List (Str×V))
 | own (x:Addr)
 | xd (fs:List (Str×V))
 | met (f x:Addr)
 | rng (lo hi:Int)
 | frz (o:Obj) (u:HO)
 | tbl (ps:Array Value)
 | ext (cu:Heap->Prop)
noncomputable abbrev Hp:=Addr->Option HO
noncomputable def upd (H:Hp) (a:Addr) (o:HO):Hp:=λ b=>if b=a then some o else H b
theorem aB {H:Hp}{a:Addr}{o:HO}:upd H a o a=some o:=by unfold upd;rw[if_pos rfl]
theorem aM {H:Hp}{a b:Addr}{o:HO} (h:b≠a):upd H a o b=H b:=by unfold upd;rw[if_neg h]
theorem HU {H:Hp}{a:Addr}{o u:HO}:upd (upd H a o) a u=upd H a u:=by
 funext b;unfold upd;split <;> rfl
theorem K2 {H:Hp}{a b:Addr}{o u:HO} (h:H a=some o) (h':H b=some u) (d:o≠u):a≠b:=by
 intro e;subst e;rw[h] at h';exact d (abp h')
theorem aN {H:Hp}{a b:Addr}{o:HO} (h:H a=some o) (h':H b=none):a≠b:=by
 intro e;subst e;rw[h] at h';cases h'
section
variable (P:Program) (w:World)
noncomputable def cN (H:Hp) (h:Heap) (a:Addr):HO->Prop
 | .lst xs=>xs.length<=sizeLine/\∃ (its:List Value) (n:Nat),bG xs its/\h.get? a=some { cls:=.type "list",data:=.seq its.toArray n }
 | .tup xs=>xs.length<=sizeLine/\∃ its:List Value,bG xs its/\IsTup h a its.toArray
 | .dK kvs=>kvs.length<=sizeLine/\(a == sysModules)=false/\∃ vs,KV kvs vs/\h.DictOf (dM P w) a vs
 | .dT kvs=>kvs.length<=sizeLine/\(a == sysModules)=false/\∃ xs:List (List fQ×Addr×Value),
   Paired (λ (p:List fQ×V) (q:List fQ×Addr×Value)=>p.1=q.1/\H q.2.1=some (.tup (p.1.map kV))/\bE p.2 q.2.2) kvs xs/\
   ∃ o es ep,h.get? a=some o/\o.ExactDict/\o.data=.dict es ep/\es.toList=xs.map (entryOfKey (tupleKind (dM P w)))/\(xs.map (·.1)).Nodup
 | .set S n=>h.SetOf (intKind P w) a S n
 | .ins C dx fs=>H dx=some (.own a)/\fs.length<=1000/\dx≠a/\h.get? a=some (PySem.W.instObj C dx)/\
   ∃ mA,h.Ns1 dx mA/\(∀ f,jI (fs.lookup f) (mA f))/\PySem.Within mA (fs.map (·.1))
 | .own _=>∃ o,h.get? a=some o
 | .xd fs=>∃ mA,h.Ns1 a mA/\∀ f,jI (fs.lookup f) (mA f)
 | .rng lo hi=>∃ t u v,h.get? a=some { cls:=.type "range",data:=.fields #[.int lo t,.int hi u,.int 1 v] }
 | .frz o u=>h.get? a=some o/\cN H h a u
 | .tbl ps=>h.get? a=some { cls:=.none,data:=.fields ps }
 | .met f x=>h.get? a=some (PySem.W.methodObj (.ref f) (.ref x))
 | .ext cu=>cu h/\(∃ o,h.get? a=some o)/\∀ h1 h2:Heap,cu h1->(∀ o,h1.get? a=some o->h2.get? a=some o)->cu h2
noncomputable def lY (H:Hp) (h:Heap):Prop:=∀ a o,H a=some o->cN P w H h a o
end
section
variable {P:Program}{w:World}{H H':Hp}{h h':Heap}{a:Addr}{o:HO}
theorem cN.lt (x:cN P w H h a o):a < h.objs.size:=by
 cases o with
 | lst xs=>obtain⟨_,_,_,_,e⟩:=x;exact aan e
 | tup xs=>obtain⟨_,_,_,p⟩:=x;exact p.lt
 | dK kvs=>obtain⟨_,_,_,_,o,_,_,e,_⟩:=x;exact aan e
 | dT kvs=>obtain⟨_,_,_,_,o,_,_,e,_⟩:=x;exact aan e
 | set S n=>obtain⟨o,_,_,_,e,_⟩:=x;exact aan e
 | ins C dx fs=>obtain⟨_,_,_,e,_⟩:=x;exact aan e
 | own y=>obtain⟨_,e⟩:=x;exact aan e
 | xd fs=>obtain⟨_,⟨_,_,_,e,_⟩,_⟩:=x;exact aan e
 | rng lo hi=>obtain⟨_,_,_,e⟩:=x;exact aan e
 | frz ob u=>obtain⟨e,_⟩:=x;exact aan e
 | tbl ps=>exact aan (show h.get? a=some _ from x)
 | met f y=>exact aan (show h.get? a=some _ from x)
 | ext cu=>obtain⟨_,⟨_,e⟩,_⟩:=x;exact aan e
theorem Paired.mapP {ar cg:Type}{F G:ar->cg->Prop}:∀ {fo:List ar}{fw:List cg},Paired F fo fw->(∀ a b,F a b->G a b)->Paired G fo fw
 | _,_,.nil,_=>.nil
 | _,_,.cons r t,f=>.cons (f _ _ r) (Paired.mapP t f)
theorem cN.stay (x:cN P w H h a o) (k:∀ b u,(b=a\/H b=some (.own a))->h.get? b=some u->h'.get? b=some u)
  (ho:∀ b,H b=some (.own a)->H' b=some (.own a)) (ht:∀ b xs,H b=some (.tup xs)->H' b=some (.tup xs)):cN P w H' h' a o:=by
 induction o with
 | lst xs=>obtain⟨z,its,n,r,e⟩:=x;exact⟨z,its,n,r,k _ _ (.inl rfl) e⟩
 | tup xs=>obtain⟨z,its,r,ob,e,c⟩:=x;exact⟨z,its,r,ob,k _ _ (.inl rfl) e,c⟩
 | dK kvs=>obtain⟨z,y,vs,r,ob,es,ep,e,c⟩:=x;exact⟨z,y,vs,r,ob,es,ep,k _ _ (.inl rfl) e,c⟩
 | dT kvs=>
  obtain⟨z,y,xs,r,ob,es,ep,e,c⟩:=x
  exact⟨z,y,xs,Paired.mapP r λ p q z=>⟨z.1,ht _ _ z.2.1,z.2.2⟩,ob,es,ep,k _ _ (.inl rfl) e,c⟩
 | set S n=>obtain⟨ob,es,ep,t,e,c⟩:=x;exact⟨ob,es,ep,t,k _ _ (.inl rfl) e,c⟩
 | ins C dx fs=>
  obtain⟨d,z,ne,e,mA,⟨od,es,ep,e2,c⟩,r⟩:=x
  exact⟨ho _ d,z,ne,k _ _ (.inl rfl) e,mA,⟨od,es,ep,k _ _ (.inr d) e2,c⟩,r⟩
 | own y=>obtain⟨ob,e⟩:=x;exact⟨ob,k _ _ (.inl rfl) e⟩
 | xd fs=>obtain⟨mA,⟨od,es,ep,e,c⟩,r⟩:=x;exact⟨mA,⟨od,es,ep,k _ _ (.inl rfl) e,c⟩,r⟩
 | rng lo hi=>obtain⟨t,u,v,e⟩:=x;exact⟨t,u,v,k _ _ (.inl rfl) e⟩
 | frz ob u ih=>obtain⟨e,q⟩:=x;exact⟨k _ _ (.inl rfl) e,ih q⟩
 | tbl ps=>
  have e:h.get? a=some { cls:=.none,data:=.fields ps }:=x
  show h'.get? a=some { cls:=.none,data:=.fields ps }
  exact k a _ (.inl rfl) e
 | met f y=>
  have e:h.get? a=some (PySem.W.methodObj (.ref f) (.ref y)):=x
  show h'.get? a=some (PySem.W.methodObj (.ref f) (.ref y))
  exact k a _ (.inl rfl) e
 | ext cu=>obtain⟨p,⟨o,e⟩,st⟩:=x;exact⟨st _ _ p λ o q=>k _ _ (.inl rfl) q,⟨o,k _ _ (.inl rfl) e⟩,st⟩
theorem lY.lt (x:lY P w H h) (e:H a=some o):a < h.objs.size:=(x a o e).lt
theorem lY.fresh (x:lY P w H h) (e:h.objs.size<=a):H a=none:=by
 cases q:H a with
 | none=>rfl
 | some u=>exact absurd (aau (x.lt q) e) (abx _)
theorem lY.kept (x:lY P w H h) (k:∀ b u,h.get? b=some u->h'.get? b=some u):lY P w H h':=λ a o e=>
 (x a o e).stay (λ b u _ q=>k b u q) (λ _ q=>q) λ _ _ q=>q
theorem lY.laid (x:lY P w H h) (k:∀ b u,h.get? b=some u->h'.get? b=some u) (hp:h.objs.size<=a) (new:cN P w (upd H a o) h' a o):lY P w (upd H a o) h':=λ b u e=>by
 have hn:=x.fresh hp
 by_cases hb:b=a
 ·subst hb;rw[aB] at e;cases e;exact new
 ·rw[aM hb] at e
  exact (x b u e).stay (λ c v _ q=>k c v q) (λ c q=>by rw[aM (aN q hn)];exact q) λ c xs q=>by rw[aM (aN q hn)];exact q
end
noncomputable def Rd (H:Hp) (a:Addr) (u:HO):Prop:=H a=some u\/∃ o,H a=some (.frz o u)
theorem Rd.ok {P:Program}{w:World}{H:Hp}{h:Heap}{a:Addr}{u:HO} (r:Rd H a u) (x:lY P w H h):cN P w H h a u:=by
 rcases r with r | ⟨o,r⟩
 ·exact x a u r
 ·obtain⟨_,q⟩:=x a _ r
  exact q
noncomputable def iF:Option HO->Prop
 | some (.lst _)=>True
 | some (.dK _)=>True
 | some (.dT _)=>True
 | some (.set _ _)=>True
 | some (.ins _ _ _)=>True
 | some (.ext _)=>True
 | _=>False
section
variable {P:Program}{w:World}{H:Hp}{h h':Heap}{x e:Addr}{o':HO}
theorem lY.write (ok:lY P w H h) (mu:iF (H x)) (he:e=x\/H e=some (.own x)) (k:∀ b u,b≠e->h.get? b=some u->h'.get? b=some u) (heo:∃ u,h'.get? e=some u)
  (new:cN P w (upd H x o') h' x o'):lY P w (upd H x o') h':=λ b u q=>by
 have nown:∀ c y,H c=some (.own y)->c≠x:=λ c y r z=>by subst z;rw[r] at mu;exact mu
 have ntup:∀ c xs,H c=some (.tup xs)->c≠x:=λ c xs r z=>by subst z;rw[r] at mu;exact mu
 by_cases hb:b=x
 ·subst hb;rw[aB] at q;cases q;exact new
 ·rw[aM hb] at q
  by_cases hbe:b=e
  ·have q':H b=some (.own x):=by
    rcases he with z | z
    ·exact absurd (hbe.trans z) hb
    ·rw[hbe];exact z
   rw[q] at q';cases q'
   obtain⟨v,hv⟩:=heo
   exact⟨v,by rw[hbe];exact hv⟩
  ·refine (ok b u q).stay (λ c v hc r=>k c v ?_ r) (λ c r=>by rw[aM (nown c b r)];exact r) λ c xs r=>by rw[aM (ntup c xs r)];exact r
   rcases hc with rfl | hc
   ·exact hbe
   ·rintro rfl
    rcases he with z | z
    ·exact nown c b hc z
    ·rw[hc] at z;cases z;exact hb rfl
end
structure Un (fs ex:List Addr) (H H':Hp) (h h':Heap):Prop where
 keep:∀ b o,h.get? b=some o->H b=none->b∉fs->b∉ex->h'.get? b=some o
 slot:∀ b o,h.get? b=some o->H b=none->b∈fs->b∉ex->∃ sl,h'.get? b=some { o with slots:=sl }
 free:∀ b o,h.get? b=some o->H b=none->b∉ex->H' b=none
 there:∀ b o,h.get? b=some o->b∉ex->∃ o',h'.get? b=some o'
 tups:∀ b xs,H b=some (.tup xs)->H' b=some (.tup xs)
 frzs:∀ b o u,H b=some (.frz o u)->H' b=some (.frz o u)
 tbls:∀ b ps,H b=some (.tbl ps)->∃ more,H' b=some (.tbl (ps++more))
section
variable {fs fs' ex ex':List Addr}{H H1 H2:Hp}{h h1 h2 h':Heap}{a x e:Addr}{o:HO}
theorem Un.any (u:Un fs ex H H1 h h1) {b:Addr}{ob:Obj} (q:h.get? b=some ob) (n:H b=none) (hx:b∉ex):∃ sl,h1.get? b=some { ob with slots:=sl }:=by
 by_cases hb:b∈fs
 ·exact u.slot b ob q n hb hx
 ·exact⟨ob.slots,u.keep b ob q n hb hx⟩
theorem Un.kept (k:∀ b u,h.get? b=some u->h'.get? b=some u):Un fs ex H H h h':=
 ⟨λ b ob q _ _ _=>k b ob q,λ b ob q _ _ _=>⟨ob.slots,k b ob q⟩,λ _ _ _ n _=>n,λ b ob q _=>⟨ob,k b ob q⟩,λ _ _ q=>q,λ _ _ _ q=>q,λ _ ps q=>⟨#[],by rw[q];simp⟩⟩
theorem Un.refl:Un fs ex H H h h:=Un.kept λ _ _ q=>q
theorem Un.laid (k:∀ b u,h.get? b=some u->h'.get? b=some u) (hp:h.objs.size<=a) (hn:H a=none):Un fs ex H (upd H a o) h h' where
 keep:=λ b u q _ _ _=>k b u q
 slot:=λ b u q _ _ _=>⟨u.slots,k b u q⟩
 free:=λ b u q n _=>by rw[aM (aay (aau (aan q) hp))];exact n
 there:=λ b u q _=>⟨u,k b u q⟩
 tups:=λ b xs q=>by rw[aM (aN q hn)];exact q
 frzs:=λ b u xs q=>by rw[aM (aN q hn)];exact q
 tbls:=λ b ps q=>⟨#[],by rw[aM (aN q hn),q];simp⟩
theorem Un.write (mu:iF (H x)) (he:e=x\/H e=some (.own x)) (k:∀ b u,b≠e->h.get? b=some u->h'.get? b=some u) (heo:∃ u,h'.get? e=some u):Un fs ex H (upd H x o) h h':=by
 have hx:∀ b,H b=none->b≠x:=λ b n z=>by subst z;rw[n] at mu;exact mu
 have hb:∀ b,H b=none->b≠e:=λ b n z=>by
  subst z
  rcases he with r | r
  ·exact hx b n r
  ·rw[n] at r;cases r
 have hm:∀ b u,H b=some u->¬ iF (some u)->b≠x:=λ b u q nm z=>by subst z;rw[q] at mu;exact nm mu
 refine⟨λ b u q n _ _=>k b u (hb b n) q,λ b u q n _ _=>⟨u.slots,k b u (hb b n) q⟩,λ b u q n _=>by rw[aM (hx b n)];exact n,λ b u q _=>?_,
  λ b xs q=>by rw[aM (hm b _ q λ z=>z)];exact q,λ b u xs q=>by rw[aM (hm b _ q λ z=>z)];exact q,λ b ps q=>⟨#[],by rw[aM (hm b _ q λ z=>z),q];simp⟩⟩
 by_cases hbe:b=e
 ·subst hbe;exact heo
 ·exact⟨u,k b u hbe q⟩
end
noncomputable def trk (h:Heap) (H:Hp):List Addr:=(List.range h.objs.size).filter λ a=>(H a).isSome
noncomputable def vI (h:Heap) (H:Hp):Heap:=PySem.W.hideAll h (trk h H)
theorem DF (h:Heap) (H:Hp):(vI h H).objs.size=h.objs.size:=PySem.W.hideAll_size _ _
theorem GI {h:Heap}{H:Hp}{b:Addr}{o:Obj} (e:h.get? b=some o) (n:H b=none):(vI h H).get? b=some o:=
 PySem.W.hideAll_get _ e λ hm=>by
  have q:(H b).isSome=true:=(acp.mp hm).2
  rw[n] at q;simp at q
theorem J3 {h:Heap}{H:Hp}{b:Addr}{o:Obj} (e:(vI h H).get? b=some o):h.get? b=some o/\H b=none:=by
 have e':h.get? b=some o:=PySem.W.of_hideAll (trk h H) e
 refine⟨e',?_⟩
 cases q:H b with
 | none=>rfl
 | some x=>
  have hm:b∈trk h H:=acp.mpr ⟨abk.mpr (aan e'),by simp [q]⟩
  have z:(vI h H).get? b=none:=PySem.W.hideAll_none (trk h H) hm
  rw[z] at e;cases e
end L2
namespace L2
open PySem PySem.Spec PyProof.Rows
structure Mod (K:aaa) (mg:Str->Option Value) (base:Heap):Prop where
 kin:K.In base
 glob:base.Ns mainGlobals mg
 blt:∃ mb,base.Ns builtinsNs mb/\∀ x:Str,x ≠ "__name__" -> mb x=bootBuiltins x
 nolimit:base.NoLimit
structure Cx where
 prog:Program
 w:World
 K:aaa
 mg:Str->Option Value
 base:Heap
 A:Around
 N:List Str
 s₀:Shared
 H₀:Hp
 env:Env
 outer:List Env
 stack:List Env
 ex:List Addr
 fn:Str->Bool
 calm:Bool
 pn:List (Addr×Obj)
 xe:Value->Shared->Prop
noncomputable def mC (l:List Env):List Addr:=l.filterMap (·.frame)
noncomputable abbrev Cx.fs (X:Cx):List Addr:=mC X.outer
noncomputable def Vis (sc:Scope) (x:Str):Prop:=sc.names.lookup x=some .local\/sc.names.lookup x=some .cell\/sc.names.lookup x=some .free
noncomputable def NL (sc:Scope) (x:Str):Prop:=sc.names.lookup x=some .local\/sc.names.lookup x=some .cell
noncomputable def Look (env:Env) (h:Heap) (m:Str->Option Value) (x:Str) (u:Value):Prop:=
 (env.kindOf x=some .local/\m x=some u)\/((env.kindOf x=some .cell\/env.kindOf x=some .free)/\∃ c,env.cells.lookup x=some c/\h.IsCell c (some u))
structure Cx.Ok (X:Cx):Prop where
 mod:Mod X.K X.mg X.base
 kind:X.env.scope.kind=.function
 glob:X.env.globals=mainGlobals
 blt:X.env.builtins=builtinsNs
 above:X.s₀.heap.objs.size<=X.env.locals
 inj:∀ x y c,X.env.cells.lookup x=some c->X.env.cells.lookup y=some c->x=y
 has:∀ x,(X.env.kindOf x=some .cell\/X.env.kindOf x=some .free)->∃ c,X.env.cells.lookup x=some c
 cab:∀ x c,X.fn x=true->X.env.cells.lookup x=some c->X.s₀.heap.objs.size<=c
 hd:X.calm=true->X.A.handled=none
 frames:X.A.frames=some X.stack
 stk:X.stack=X.outer\/(X.stack=X.env::X.outer/\X.env.frame=some X.env.locals)
 exf:∀ b∈X.ex,b≠X.env.locals/\∀ x c,X.env.cells.lookup x=some c->c≠b
 bs:∀ b o,X.base.get? b=some o->X.s₀.heap.get? b=some o/\X.H₀ b=none
 bsz:X.base.objs.size<=X.s₀.heap.objs.size
 noex:∀ b o,X.base.get? b=some o->b∉X.ex
 exfs:∀ b∈X.ex,b∉X.fs
 funs:X.s₀.heap.FunFrames X.base X.outer
 frf:∀ b∈X.fs,X.H₀ b=none
structure Inv (X:Cx) (pins:List (Addr×Obj)) (σ:List (Option V)) (H:Hp) (s:Shared):Prop where
 ok:X.Ok
 os:s.os=X.s₀.os
 bare:AllBare s.gens
 base:Un X.fs X.ex X.H₀ H X.s₀.heap s.heap
 loc:∃ m,s.heap.Ns X.env.locals m/\∀ (i:Nat) (x:Str) (v:V),X.N[i]? = some x->σ[i]? = some (some v)->Vis X.env.scope x->∃ u,bE v u/\Look X.env s.heap m x u
 cell:∀ x c,X.env.cells.lookup x=some c->∃ v,s.heap.IsCell c v
 free:H X.env.locals=none
 freeC:∀ x c,X.env.cells.lookup x=some c->H c=none
 pin:∀ p∈X.pn++pins,s.heap.get? p.1=some p.2/\H p.1=none/\p.1≠X.env.locals/\p.1∉X.fs/\∀ v,p.2.data≠.cell v
 hok:lY X.prog X.w H s.heap
 len:σ.length=X.N.length
section
variable {X:Cx}{pins:List (Addr×Obj)}{σ:List (Option V)}{H H':Hp}{s:Shared}{h':Heap}
theorem Cx.Ok.nofr (ok:X.Ok) {b:Addr}{o:Obj} (e:X.base.get? b=some o):b∉X.fs:=λ hb=>by
 have:=(ok.funs.mem hb).1
 rw[e] at this;cases this
theorem Inv.bs (I:Inv X pins σ H s):∀ b o,X.base.get? b=some o->s.heap.get? b=some o/\H b=none:=λ b o e=>
 ⟨I.base.keep b o (I.ok.bs b o e).1 (I.ok.bs b o e).2 (I.ok.nofr e) (I.ok.noex b o e),I.base.free b o (I.ok.bs b o e).1 (I.ok.bs b o e).2 (I.ok.noex b o e)⟩
theorem Inv.bk (I:Inv X pins σ H s):∀ b o,X.base.get? b=some o->s.heap.get? b=some o:=λ b o e=>(I.bs b o e).1
theorem Inv.mod (I:Inv X pins σ H s):Mod X.K X.mg X.base:=I.ok.mod
theorem Inv.kIn (I:Inv X pins σ H s):X.K.In s.heap:=I.ok.mod.kin.keeps I.bk
theorem Inv.lt (I:Inv X pins σ H s):X.env.locals < s.heap.objs.size:=let ⟨_,hn,_⟩:=I.loc;hn.lt
theorem Inv.sz (I:Inv X pins σ H s):X.s₀.heap.objs.size<=s.heap.objs.size:=abq I.ok.above (ace I.lt)
theorem Inv.nofs (I:Inv X pins σ H s) {a:Addr} (h:s.heap.objs.size<=a):a∉X.fs:=λ hb=>by
 obtain⟨_,o,ho,_⟩:=I.ok.funs.mem hb
 exact absurd (aau (aan ho) (abq I.sz h)) (abx _)
theorem Inv.cne (I:Inv X pins σ H s):∀ x c,X.env.cells.lookup x=some c->c≠X.env.locals:=λ x c e z=>by
 obtain⟨v,o,ho,hd⟩:=I.cell x c e
 obtain⟨m,⟨o',es,ep,ho',hd',_⟩,_⟩:=I.loc
 rw[z,ho'] at ho;cases ho;rw[hd'] at hd;cases hd
theorem Inv.funs (I:Inv X pins σ H s):s.heap.FunFrames X.base X.outer:=by
 have all:∀ (l:List Env),(∀ b∈mC l,b∈X.fs)->X.s₀.heap.FunFrames X.base l->s.heap.FunFrames X.base l:=by
  intro l
  induction l with
  | nil=>intro _ _;trivial
  | cons env r ih=>
   intro hs hl
   obtain⟨hk,⟨L,o,hf,hn,ho,hd⟩,hr⟩:=hl
   have hL:L∈X.fs:=hs L (by unfold mC;rw[List.filterMap_cons,hf];exact aas)
   obtain⟨sl,e⟩:=I.base.slot L o ho (I.ok.frf L hL) hL λ z=>I.ok.exfs L z hL
   exact⟨hk,⟨L,_,hf,hn,e,hd⟩,ih (λ b hb=>hs b (by unfold mC;rw[List.filterMap_cons,hf];exact aam _ hb)) hr⟩
 exact all X.outer (λ _ hb=>hb) I.ok.funs
theorem Inv.stack (I:Inv X pins σ H s):s.heap.FunFrames X.base X.stack:=by
 rcases I.ok.stk with e | ⟨e,hf⟩
 ·rw[e];exact I.funs
 ·rw[e]
  obtain⟨m,hn,_⟩:=I.loc
  refine .cons (by rw[I.ok.kind];decide) hf hn ?_ I.funs
  exact Heap.get?_none_of_le (abq I.ok.bsz I.ok.above)
theorem Inv.stkSub (I:Inv X pins σ H s):∀ b∈mC X.stack,b∈X.env.locals::X.fs:=λ b hb=>by
 rcases I.ok.stk with e | ⟨e,hf⟩
 ·rw[e] at hb;exact aam _ hb
 ·rw[e] at hb
  unfold mC at hb
  rw[List.filterMap_cons,hf] at hb
  exact hb
theorem Inv.stkFree (I:Inv X pins σ H s):∀ b∈mC X.stack,H b=none:=λ b hb=>by
 rcases List.mem_cons.mp (I.stkSub b hb) with e | hb
 ·rw[e];exact I.free
 ·obtain⟨_,o,ho,_⟩:=I.ok.funs.mem hb
  exact I.base.free b o ho (I.ok.frf b hb) λ z=>I.ok.exfs b z hb
theorem Inv.step {g':Array GenState}{t':Nat}{d':Drawn}{ch:List Addr} (I:Inv X pins σ H s)
  (hch:∀ b∈ch,(b∈X.ex\/X.s₀.heap.objs.size<=b)/\b≠X.env.locals/\(∀ x c,X.env.cells.lookup x=some c->c≠b)/\∀ p∈X.pn++pins,p.1≠b)
  (keep:∀ b o,b≠X.env.locals->b∉X.fs->b∉ch->s.heap.get? b=some o->H b=none->h'.get? b=some o)
  (slot:∀ b o,b≠X.env.locals->b∈X.fs->b∉ch->s.heap.get? b=some o->H b=none->∃ sl,h'.get? b=some { o with slots:=sl }) (free:∀ b o,b∉ch->s.heap.get? b=some o->H b=none->H' b=none)
  (there:∀ b o,b∉ch->s.heap.get? b=some o->∃ o',h'.get? b=some o')
  (tups:∀ b xs,H b=some (.tup xs)->H' b=some (.tup xs)) (frzs:∀ b o u,H b=some (.frz o u)->H' b=some (.frz o u)) (tbls:∀ b ps,H b=some (.tbl ps)->∃ more,H' b=some (.tbl (ps++more)))
  (ns:∀ m,s.heap.Ns X.env.locals m->h'.Ns X.env.locals m) (hok:lY X.prog X.w H' h') (hg:AllBare g') :
  Inv X pins σ H' { s with heap:=h',gens:=g',drawn:=d',toks:=t' }:=by
 have neL:∀ b o,X.s₀.heap.get? b=some o->b≠X.env.locals:=λ b o e=>aay (aau (aan e) I.ok.above)
 have neC:∀ b o,X.s₀.heap.get? b=some o->b∉X.ex->b∉ch:=λ b o e hx hb=>by
  rcases (hch b hb).1 with z | z
  ·exact hx z
  ·exact absurd (aau (aan e) z) (abx _)
 have cellK:∀ x c,X.env.cells.lookup x=some c->∀ v,s.heap.IsCell c v->h'.IsCell c v:=λ x c e v ⟨o,ho,hd⟩=>by
  have nch:c∉ch:=λ z=>(hch c z).2.2.1 x c e rfl
  by_cases hc:c∈X.fs
  ·obtain⟨sl,q⟩:=slot c o (I.cne x c e) hc nch ho (I.freeC x c e)
   exact⟨_,q,hd⟩
  ·exact⟨o,keep c o (I.cne x c e) hc nch ho (I.freeC x c e),hd⟩
 refine⟨I.ok,I.os,hg,⟨λ b o e n hb hx=>?_,λ b o e n hb hx=>?_,λ b o e n hx=>?_,λ b o e hx=>?_,λ b xs e=>tups b xs (I.base.tups b xs e),λ b o xs e=>frzs b o xs (I.base.frzs b o xs e),λ b ps e=>?_⟩,?_,λ x c e=>?_,?_,λ x c e=>?_,λ p hp=>?_,hok,I.len⟩
 ·exact keep b o (neL b o e) hb (neC b o e hx) (I.base.keep b o e n hb hx) (I.base.free b o e n hx)
 ·obtain⟨sl,e1⟩:=I.base.slot b o e n hb hx
  obtain⟨sl',e2⟩:=slot b _ (neL b o e) hb (neC b o e hx) e1 (I.base.free b o e n hx)
  exact⟨sl',e2⟩
 ·obtain⟨o',e1⟩:=I.base.there b o e hx
  exact free b o' (neC b o e hx) e1 (I.base.free b o e n hx)
 ·obtain⟨o',e1⟩:=I.base.there b o e hx
  exact there b o' (neC b o e hx) e1
 ·obtain⟨m1,e1⟩:=I.base.tbls b ps e
  obtain⟨m2,e2⟩:=tbls b _ e1
  exact⟨m1++m2,by rw[e2,Array.append_assoc]⟩
 ·obtain⟨m,hn,hl⟩:=I.loc
  refine⟨m,ns m hn,λ i x v e1 e2 e3=>?_⟩
  obtain⟨u,r,l⟩:=hl i x v e1 e2 e3
  refine⟨u,r,?_⟩
  rcases l with l | ⟨k,c,e,z⟩
  ·exact .inl l
  ·exact .inr ⟨k,c,e,cellK x c e _ z⟩
 ·obtain⟨v,z⟩:=I.cell x c e
  exact⟨v,cellK x c e v z⟩
 ·obtain⟨m,⟨o,_,_,ho,_⟩,_⟩:=I.loc
  exact free _ o (λ z=>(hch _ z).2.1 rfl) ho I.free
 ·obtain⟨v,o,ho,hd⟩:=I.cell x c e
  exact free c o (λ z=>(hch c z).2.2.1 x c e rfl) ho (I.freeC x c e)
 ·obtain⟨e,n,ne,nf,d⟩:=I.pin p hp
  have nch:p.1∉ch:=λ z=>(hch p.1 z).2.2.2 p hp rfl
  exact⟨keep p.1 p.2 ne nf nch e n,free p.1 p.2 nch e n,ne,nf,d⟩
theorem Inv.un {t':Nat} (I:Inv X pins σ H s) (u:Un X.fs [] H H' s.heap h') (hok:lY X.prog X.w H' h'):Inv X pins σ H' { s with heap:=h',toks:=t' }:=by
 obtain⟨m,⟨o,es,ep,ho,r⟩,_⟩:=id I.loc
 obtain⟨sl,hL⟩:=u.any ho I.free (by simp)
 exact I.step (g':=s.gens) (d':=s.drawn) (ch:=[]) (λ _ z=>nomatch z) (λ b o _ hb _ e n=>u.keep b o e n hb (by simp)) (λ b o _ hb _ e n=>u.slot b o e n hb (by simp)) (λ b o _ e n=>u.free b o e n (by simp)) (λ b o _ e=>u.there b o e (by simp)) u.tups u.frzs u.tbls (λ m' hm=>by
  obtain⟨o',es',ep',ho',r'⟩:=hm
  rw[ho] at ho';cases ho'
  exact⟨_,es',ep',hL,r'⟩) hok I.bare
theorem Inv.call {g':Array GenState}{t':Nat}{d':Drawn}{ch:List Addr} (I:Inv X pins σ H s) (u:Un (mC X.stack) ch H H' s.heap h') (hok:lY X.prog X.w H' h') (hg:AllBare g')
  (hch:∀ b∈ch,(b∈X.ex\/X.s₀.heap.objs.size<=b)/\b≠X.env.locals/\(∀ x c,X.env.cells.lookup x=some c->c≠b)/\∀ p∈X.pn++pins,p.1≠b) :
  Inv X pins σ H' { s with heap:=h',gens:=g',drawn:=d',toks:=t' }:=by
 obtain⟨m,⟨o,es,ep,ho,r⟩,_⟩:=id I.loc
 obtain⟨sl,hL⟩:=u.any ho I.free λ z=>(hch _ z).2.1 rfl
 exact I.step (ch:=ch) hch (λ b o hL hb hc e n=>u.keep b o e n (λ z=>(List.mem_cons.mp (I.stkSub b z)).elim hL hb) hc) (λ b o _ _ hc e n=>u.any e n hc) (λ b o hc e n=>u.free b o e n hc) (λ b o hc e=>u.there b o e hc) u.tups u.frzs u.tbls (λ m' hm=>by
  obtain⟨o',es',ep',ho',r'⟩:=hm
  rw[ho] at ho';cases ho'
  exact⟨_,es',ep',hL,r'⟩) hok hg
theorem Inv.turned {t':Nat}{it:Addr} (I:Inv X pins σ H s) (k:∀ b o,b≠it->s.heap.get? b=some o->h'.get? b=some o) (hn:H it=none) (hL:it≠X.env.locals)
  (h1:it∈X.ex\/X.s₀.heap.objs.size<=it) (h2:∀ x c,X.env.cells.lookup x=some c->c≠it) (h3:∀ p∈X.pn++pins,p.1≠it):Inv X pins σ H { s with heap:=h',toks:=t' }:=by
 have nit:∀ b u,H b=some u->b≠it:=λ b u e z=>by rw[z,hn] at e;cases e
 refine I.step (g':=s.gens) (d':=s.drawn) (ch:=[it]) (λ b hb=>?_) (λ b o _ _ hc e _=>k b o (λ z=>hc (by simp [z])) e) (λ b o _ _ hc e _=>⟨o.slots,k b o (λ z=>hc (by simp [z])) e⟩) (λ _ _ _ _ n=>n)
  (λ b o hc e=>⟨o,k b o (λ z=>hc (by simp [z])) e⟩) (λ _ _ e=>e) (λ _ _ _ e=>e) (λ b ps e=>⟨#[],by rw[e];simp⟩) (λ m hm=>?_) (λ b u e=>?_) I.bare
 ·have e:b=it:=by simpa using hb
  subst e
  exact⟨h1,hL,h2,h3⟩
 ·obtain⟨o,es,ep,ho,r⟩:=hm
  exact⟨o,es,ep,k _ o (Ne.symm hL) ho,r⟩
 ·refine (I.hok b u e).stay (λ c v hc q=>k c v ?_ q) (λ _ q=>q) λ _ _ q=>q
  rcases hc with z | z
  ·rw[z];exact nit b u e
  ·exact nit c _ z
theorem Inv.tok (I:Inv X pins σ H s) (t:Nat):Inv X pins σ H { s with toks:=t }:=I.un (h':=s.heap) (t':=t) Un.refl I.hok
theorem Inv.kept {t':Nat} (I:Inv X pins σ H s) (k:∀ b u,s.heap.get? b=some u->h'.get? b=some u):Inv X pins σ H { s with heap:=h',toks:=t' }:=I.un (Un.kept k) (I.hok.kept k)
theorem Inv.laid {a:Addr}{o:HO}{t':Nat} (I:Inv X pins σ H s) (k:∀ b u,s.heap.get? b=some u->h'.get? b=some u) (hp:s.heap.objs.size<=a) (new:cN X.prog X.w (upd H a o) h' a o) :
  Inv X pins σ (upd H a o) { s with heap:=h',toks:=t' }:=I.un (Un.laid k hp (I.hok.fresh hp)) (I.hok.laid k hp new)
theorem Inv.write {x e:Addr}{o:HO}{t':Nat} (I:Inv X pins σ H s) (mu:iF (H x)) (he:e=x\/H e=some (.own x)) (k:∀ b u,b≠e->s.heap.get? b=some u->h'.get? b=some u) (heo:∃ u,h'.get? e=some u)
  (new:cN X.prog X.w (upd H x o) h' x o):Inv X pins σ (upd H x o) { s with heap:=h',toks:=t' }:=I.un (Un.write mu he k heo) (I.hok.write mu he k heo new)
theorem Inv.pins_of {pins':List (Addr×Obj)} (I:Inv X pins σ H s) (h:∀ p∈pins',s.heap.get? p.1=some p.2/\H p.1=none/\p.1≠X.env.locals/\p.1∉X.fs/\∀ v,p.2.data≠.cell v):Inv X pins' σ H s:=
 ⟨I.ok,I.os,I.bare,I.base,I.loc,I.cell,I.free,I.freeC,λ p hp=>(abc.mp hp).elim (λ z=>I.pin p (abz _ z)) (h p),I.hok,I.len⟩
theorem xG {N:List Str} (hN:N.Nodup) {i j:Nat}{x:Str} (a:N[i]? = some x) (b:N[j]? = some x):i=j:=by
 obtain⟨h1,e1⟩:=aad.mp a
 obtain⟨h2,e2⟩:=aad.mp b
 exact (List.getElem_inj hN).mp (e1.trans e2.symm)
theorem sY {M:Model}{A:Around}{E:Value->Shared->Prop}{i:Nat}{x:Str}{v:V}{u:Value}{Q:Unit->Shared->Prop} (I:Inv X pins σ H s) (hN:X.N.Nodup) (hi:X.N[i]? = some x) (hx:NL X.env.scope x) (r:bE v u)
  (h:∀ s',Inv X pins (σ.set i (some v)) H s'->(∃ a,Heap.SameBut a s.heap s'.heap/\(a=X.env.locals\/X.env.cells.lookup x=some a))->Q () s') (hf:X.fn x=true\/X.env.scope.names.lookup x=some .local:=by first | exact .inl rfl | exact .inr rfl | assumption):wpAny M A (storeName X.env x u) Q E s:=by
 obtain⟨m,hn,hl⟩:=id I.loc
 have hcls:(X.env.scope.kind == .class || (X.env.scope.kind == .module && X.env.locals != X.env.globals))=false:=by rw[I.ok.kind];rfl
 have fz:i < σ.length:=by rw[I.len];exact (aad.mp hi).1
 have cne:=I.cne
 have tracked:∀ {a:Addr}{h':Heap},(∃ o,s.heap.get? a=some o/\H a=none)->Heap.SameBut a s.heap h'->lY X.prog X.w H h':=λ {a h'} ha hs b ob e=>by
  obtain⟨_,_,hfree⟩:=ha
  refine (I.hok b ob e).stay (λ c w' hc q=>(hs.2 c ?_).trans q) (λ _ q=>q) λ _ _ q=>q
  rintro rfl
  rcases hc with rfl | hc
  ·rw[hfree] at e;cases e
  ·rw[hfree] at hc;cases hc
 rcases hx with hk | hk
 ·refine wpAny_storeName_local hk hn (λ h' hn' hs=>?_) hcls
  obtain⟨oL,_,_,hoL,_⟩:=id hn
  refine h _ ⟨I.ok,I.os,I.bare,⟨λ b o e n hb hx=>?_,λ b o e n hb hx=>?_,I.base.free,λ b o e hx=>?_,I.base.tups,I.base.frzs,I.base.tbls⟩,⟨_,hn',λ j y v' e1 e2 e3=>?_⟩,λ y c e=>?_,I.free,I.freeC,λ p hp=>?_,tracked ⟨oL,hoL,I.free⟩ hs,by simpa using I.len⟩ ⟨_,hs,.inl rfl⟩
  ·exact (hs.2 b (aay (aau (aan e) I.ok.above))).trans (I.base.keep b o e n hb hx)
  ·obtain⟨sl,e1⟩:=I.base.slot b o e n hb hx
   exact⟨sl,(hs.2 b (aay (aau (aan e) I.ok.above))).trans e1⟩
  ·obtain⟨o',e1⟩:=I.base.there b o e hx
   exact⟨o',(hs.2 b (aay (aau (aan e) I.ok.above))).trans e1⟩
  ·by_cases hj:j=i
   ·subst hj
    rw[hi] at e1;cases e1
    rw[abw fz] at e2
    cases e2
    exact⟨u,r,.inl ⟨hk,by simp⟩⟩
   ·rw[aca (Ne.symm hj)] at e2
    obtain⟨u',r',q⟩:=hl j y v' e1 e2 e3
    refine⟨u',r',?_⟩
    rcases q with ⟨k,e⟩ | ⟨k,c,e,z⟩
    ·refine .inl ⟨k,?_⟩
     have:y≠x:=λ e=>hj (xG hN e1 (e ▸ hi))
     simp [this,e]
    ·exact .inr ⟨k,c,e,z.sameBut hs (cne y c e)⟩
  ·obtain⟨w',z⟩:=I.cell y c e
   exact⟨w',z.sameBut hs (cne y c e)⟩
  ·obtain⟨e,n,ne,nf,d⟩:=I.pin p hp
   exact⟨(hs.2 p.1 ne).trans e,n,ne,nf,d⟩
 ·have hfn:X.fn x=true:=by
   rcases hf with z | z
   ·exact z
   ·rw[z] at hk;cases hk
  obtain⟨c,hc⟩:=I.ok.has x (.inl hk)
  obtain⟨w',z⟩:=I.cell x c hc
  refine wpAny_storeName_cell I.ok.kind hk hc z (λ h' hc' hs=>?_)
  obtain⟨oc,hoc,hocd⟩:=id z
  refine h { s with heap:=h' } ⟨I.ok,I.os,I.bare,⟨λ b o e n hb hx=>?_,λ b o e n hb hx=>?_,I.base.free,λ b o e hx=>?_,I.base.tups,I.base.frzs,I.base.tbls⟩,⟨m,hn.sameBut hs (Ne.symm (cne x c hc)),λ j y v' e1 e2 e3=>?_⟩,λ y c' e=>?_,I.free,I.freeC,λ p hp=>?_,tracked ⟨oc,hoc,I.freeC x c hc⟩ hs,by simpa using I.len⟩ ⟨c,hs,.inr hc⟩
  ·exact (hs.2 b (aay (aau (aan e) (I.ok.cab x c hfn hc)))).trans (I.base.keep b o e n hb hx)
  ·obtain⟨sl,e1⟩:=I.base.slot b o e n hb hx
   exact⟨sl,(hs.2 b (aay (aau (aan e) (I.ok.cab x c hfn hc)))).trans e1⟩
  ·obtain⟨o',e1⟩:=I.base.there b o e hx
   exact⟨o',(hs.2 b (aay (aau (aan e) (I.ok.cab x c hfn hc)))).trans e1⟩
  ·by_cases hj:j=i
   ·subst hj
    rw[hi] at e1;cases e1
    rw[abw fz] at e2
    cases e2
    exact⟨u,r,.inr ⟨.inl hk,c,hc,hc'⟩⟩
   ·rw[aca (Ne.symm hj)] at e2
    obtain⟨u',r',q⟩:=hl j y v' e1 e2 e3
    refine⟨u',r',?_⟩
    rcases q with q | ⟨k,c',e,z'⟩
    ·exact .inl q
    ·refine .inr ⟨k,c',e,z'.sameBut hs ?_⟩
     rintro rfl
     exact hj (xG hN e1 (I.ok.inj _ _ _ e hc ▸ hi))
  ·by_cases hcc:c'=c
   ·subst hcc;exact⟨_,hc'⟩
   ·obtain⟨w2,z2⟩:=I.cell y c' e
    exact⟨w2,z2.sameBut hs hcc⟩
  ·obtain⟨e,n,ne,nf,d⟩:=I.pin p hp
   refine⟨(hs.2 p.1 ?_).trans e,n,ne,nf,d⟩
   intro q
   rw[q,hoc] at e
   have q':oc=p.2:=abp e
   exact d w' (by rw[<- q'];exact hocd)
theorem jO {M:Model}{A:Around}{E:Value->Shared->Prop}{i:Nat}{x:Str}{v:V}{u:Value}{Q:Unit->Shared->Prop} (I:Inv X pins σ H s) (hN:X.N.Nodup) (hi:X.N[i]? = some x) (hx:NL X.env.scope x) (r:bE v u)
  (h:∀ s',Inv X pins (σ.set i (some v)) H s'->Q () s') (hf:X.fn x=true\/X.env.scope.names.lookup x=some .local:=by first | exact .inl rfl | exact .inr rfl | assumption):wpAny M A (storeName X.env x u) Q E s:=
 sY I hN hi hx r (λ s' I' _=>h s' I') hf
theorem Inv.call' {s':Shared}{ch:List Addr} (I:Inv X pins σ H s) (ho:s'.os=s.os) (u:Un (mC X.stack) ch H H' s.heap s'.heap) (hok:lY X.prog X.w H' s'.heap) (hg:AllBare s'.gens)
  (hch:∀ b∈ch,(b∈X.ex\/X.s₀.heap.objs.size<=b)/\b≠X.env.locals/\(∀ x c,X.env.cells.lookup x=some c->c≠b)/\∀ p∈X.pn++pins,p.1≠b):Inv X pins σ H' s':=by
 obtain⟨h',g',d',t',o'⟩:=s'
 have e:o'=s.os:=ho
 subst e
 exact I.call (g':=g') (t':=t') (d':=d') u hok hg hch
end
noncomputable abbrev XK:=Value->Option Addr->Hp->Prop
noncomputable abbrev St:=List (Option V)
noncomputable abbrev VK:=V->Hp->Prop
noncomputable abbrev TE:=St->Hp->VK->Prop
noncomputable abbrev TT:=St->Hp->(Bool->Hp->Prop)->Prop
noncomputable abbrev TA:=St->Hp->(List V->Hp->Prop)->Prop
structure Ends where
 nx:St->Hp->Prop
 rt:VK
 bk:St->Hp->Prop:=λ _ _=>False
 ct:St->Hp->Prop:=λ _ _=>False
noncomputable abbrev TS:=Ends->St->Hp->Prop
noncomputable def EP (X:Cx) (pins:List (Addr×Obj)) (σ:St) (Q:VK) (u:Value) (s':Shared):Prop:=∃ v H',Inv X pins σ H' s'/\bE v u/\Q v H'
noncomputable def TP (X:Cx) (pins:List (Addr×Obj)) (σ:St) (Q:Bool->Hp->Prop) (b:Bool) (s':Shared):Prop:=∃ H',Inv X pins σ H' s'/\Q b H'
noncomputable def AP (X:Cx) (pins:List (Addr×Obj)) (σ:St) (Q:List V->Hp->Prop) (us:List Value) (s':Shared):Prop:=∃ vs H',Inv X pins σ H' s'/\bG vs us/\Q vs H'
noncomputable def SP (X:Cx) (pins:List (Addr×Obj)) (D:Ends) (f:Flow) (s':Shared):Prop:=
 match f with
 | .next=>∃ Z H',Inv X pins Z H' s'/\D.nx Z H'
 | .brk=>∃ Z H',Inv X pins Z H' s'/\D.bk Z H'
 | .cont=>∃ Z H',Inv X pins Z H' s'/\D.ct Z H'
 | .ret u=>∃ v Z H',Inv X pins Z H' s'/\bE v u/\D.rt v H'
noncomputable def PE (X:Cx) (e:Expr) (t:TE):Prop:=
 ∀ (pins:List (Addr×Obj)) (s:Shared) (σ:St) (H:Hp) (Q:VK),Inv X pins σ H s->t σ H Q->wpAny (model X.prog X.w) X.A (eval e X.env) (EP X pins σ Q) X.xe s
noncomputable def PT (X:Cx) (e:Expr) (t:TT):Prop:=
 ∀ (pins:List (Addr×Obj)) (s:Shared) (σ:St) (H:Hp) (Q:Bool->Hp->Prop),Inv X pins σ H s->t σ H Q->wpAny (model X.prog X.w) X.A (isTrue e X.env (eval e X.env)) (TP X pins σ Q) X.xe s
noncomputable def PW (X:Cx) (e:Expr) (t:TT):Prop:=
 ∀ (whole:Sem Value) (pins:List (Addr×Obj)) (s:Shared) (σ:St) (H:Hp) (Q:Bool->Hp->Prop),Inv X pins σ H s->t σ H Q->wpAny (model X.prog X.w) X.A (isTrue e X.env whole) (TP X pins σ Q) X.xe s
theorem PW.pt {X:Cx}{e:Expr}{t:TT} (h:PW X e t):PT X e t:=h _
noncomputable def PA (X:Cx) (es:List Expr) (t:TA):Prop:=
 ∀ (pos:Pos) (pins:List (Addr×Obj)) (s:Shared) (σ:St) (H:Hp) (Q:List V->Hp->Prop),Inv X pins σ H s->t σ H Q->wpAny (model X.prog X.w) X.A (spliced (backTo pos (starEach es X.env))) (AP X pins σ Q) X.xe s
noncomputable def PS (X:Cx) (st:Stmt) (t:TS):Prop:=
 ∀ (pins:List (Addr×Obj)) (s:Shared) (σ:St) (H:Hp) (D:Ends),Inv X pins σ H s->t D σ H->wpAny (model X.prog X.w) X.A (exec st X.env) (SP X pins D) X.xe s
noncomputable def yC (X:Cx) (st:List Stmt) (t:TS):Prop:=
 ∀ (pins:List (Addr×Obj)) (s:Shared) (σ:St) (H:Hp) (D:Ends),Inv X pins σ H s->t D σ H->wpAny (model X.prog X.w) X.A (execs st X.env) (SP X pins D) X.xe s
theorem cW {ar:Type}{t:Sem ar}{Q Q':ar->Shared->Prop}{M:Model}{A:Around}{E:Value->Shared->Prop}{s:Shared} (h:wpAny M A t Q E s) (hQ:∀ a s,Q a s->Q' a s):wpAny M A t Q' E s:=wpAny_mono h hQ λ _ _ x=>x
end L2
namespace L2
open PySem PySem.Spec PyProof.Rows
section
variable {X:Cx}
noncomputable def cZ (i:Nat):TE:=λ σ H Q=>∃ v,σ[i]? = some (some v)/\Q v H
noncomputable def tC (v:V):TE:=λ _ H Q=>Q v H
theorem LA {i:Nat}{x:Str}{pos:Pos} (hN:X.N[i]? = some x) (hv:Vis X.env.scope x) (hd:(x == ("__debug__" : Str))=false:=by decide) (hcd:(x == ("__classdict__" : Str))=false:=by decide):PE X (.Name x pos) (cZ i):=by
 intro pins s σ H Q I h
 obtain⟨v,e,h⟩:=h
 obtain⟨m,hn,hl⟩:=I.loc
 obtain⟨u,r,l⟩:=hl i x v hN e hv
 have fin:EP X pins σ Q u s:=⟨v,H,I,r,h⟩
 rcases l with ⟨hk,hm⟩ | ⟨hk,c,hc,hcell⟩
 ·exact wpAny_Name (wpAny_loadName_local I.ok.kind hk hn hm fin) hd
 ·rcases hk with hk | hk
  ·exact wpAny_Name (wpAny_loadName_cell I.ok.kind hk hc hcell fin) hd
  ·exact wpAny_Name (wpAny_loadName_free I.ok.kind hk hc hcell fin hcd) hd
theorem aH {i j pos}:PE X (.Constant (.int i) j pos) (tC (.int i)):=λ _ _ _ H _ I h=>wpAny_Constant_int ⟨.int i,H,I.tok _,⟨_,rfl⟩,h⟩
theorem gN {b j pos}:PE X (.Constant (.bool b) j pos) (tC (.bl b)):=λ _ _ _ H _ I h=>Constant_bool ⟨.bl b,H,I,rfl,h⟩
theorem gM {j pos}:PE X (.Constant .none j pos) (tC .non):=λ _ _ _ H _ I h=>Constant_none ⟨.non,H,I,rfl,h⟩
theorem hJ {x j pos}:PE X (.Constant (.str x) j pos) (tC (.str x)):=λ _ _ _ H _ I h=>Calls.Constant_str ⟨.str x,H,I.tok _,⟨_,rfl⟩,h⟩
noncomputable def Gl (X:Cx) (x:Str):Prop:=X.env.kindOf x=some .globalImplicit
theorem mZ {E:Value->Shared->Prop}{pins:List (Addr×Obj)}{s:Shared}{σ:St}{H:Hp}{x:Str}{u:Value}{pos:Pos}{Q:Value->Shared->Prop} (I:Inv X pins σ H s) (hg:Gl X x) (hm:X.mg x=some u) (h:Q u s)
  (hd:(x == ("__debug__" : Str))=false:=by decide):wpAny (model X.prog X.w) X.A (eval (.Name x pos) X.env) Q E s:=
 Calls.Name_function_global I.ok.kind hg (Calls.loadGlobal_global (by rw[I.ok.glob];exact I.mod.glob.keeps I.bk) hm h) hd
theorem j8 {E:Value->Shared->Prop}{pins:List (Addr×Obj)}{s:Shared}{σ:St}{H:Hp}{x:Str}{u:Value}{pos:Pos}{Q:Value->Shared->Prop} (I:Inv X pins σ H s) (hg:Gl X x) (hm:X.mg x=none) (hv:bootBuiltins x=some u) (h:Q u s)
  (hn:x ≠ "__name__" := by decide) (hd:(x == ("__debug__" : Str))=false:=by decide):wpAny (model X.prog X.w) X.A (eval (.Name x pos) X.env) Q E s:=by
 obtain⟨mb,h1,h2⟩:=I.mod.blt
 exact Calls.Name_function_global I.ok.kind hg (Calls.loadGlobal_builtin (by rw[I.ok.glob];exact I.mod.glob.keeps I.bk) hm (by rw[I.ok.blt];exact h1.keeps I.bk) ((h2 x hn).trans hv) h) hd
theorem IQ {x:Str}{v:V}{u:Value}{pos:Pos} (hg:Gl X x) (hm:X.mg x=some u) (r:bE v u) (hd:(x == ("__debug__" : Str))=false:=by decide):PE X (.Name x pos) (tC v):=
 λ _ _ _ H _ I h=>mZ I hg hm ⟨v,H,I,r,h⟩ hd
theorem j5 {x:Str}{v:V}{u:Value}{pos:Pos} (hg:Gl X x) (hm:X.mg x=none) (hv:bootBuiltins x=some u) (r:bE v u) (hn:x ≠ "__name__" := by decide) (hd:(x == ("__debug__" : Str))=false:=by decide):PE X (.Name x pos) (tC v):=
 λ _ _ _ H _ I h=>j8 I hg hm hv ⟨v,H,I,r,h⟩ hn hd
variable {a b:Expr}{ta tb:TE}{pos:Pos}
noncomputable def tB (t:TE):TT:=λ σ H Q=>t σ H λ x H1=>∃ c,x=.bl c/\Q c H1
theorem dL {e:Expr}{t:TE} (h:PE X e t) (he:∀ whole,isTrue e X.env whole=(do let v <- whole;standAt e.pos;holding [v] (truthy v)):=by intro _;rfl):PT X e (tB t):=by
 intro pins s σ H Q I hw
 refine isTrue_plain (cW (h pins s σ H _ I hw) λ v s1 ⟨x,H1,I1,r1,q1⟩=>?_) (he _)
 obtain⟨d,rfl,q⟩:=q1
 cases r1
 exact wpAny_truthy_bool ⟨H1,I1,q⟩
variable {tA tB':TT}{rest:List Expr}
noncomputable def tAnd (t u:TT):TT:=λ σ H Q=>t σ H λ c H1=>if c=true then u σ H1 Q else Q false H1
noncomputable def tOr (t u:TT):TT:=λ σ H Q=>t σ H λ c H1=>if c=true then Q true H1 else u σ H1 Q
noncomputable def tNot (t:TT):TT:=λ σ H Q=>t σ H λ c H1=>Q (!c) H1
theorem AR (ha:PT X a tA):PW X (.BoolOp .And [a] pos) tA:=by
 intro wh pins s σ H Q I h
 refine isTrue_and (cW (ha pins s σ H Q I h) λ c s1 e=>?_)
 cases c with
 | true=>exact isTrue_and_nil e
 | false=>exact e
theorem uS (ha:PT X a tA):PW X (.BoolOp .Or [a] pos) tA:=by
 intro wh pins s σ H Q I h
 refine isTrue_or (cW (ha pins s σ H Q I h) λ c s1 e=>?_)
 cases c with
 | false=>exact isTrue_or_nil e
 | true=>exact e
theorem EW (ha:PT X a tA) (hb:PW X (.BoolOp .And (b::rest) pos) tB'):PW X (.BoolOp .And (a::b::rest) pos) (tAnd tA tB'):=by
 intro wh pins s σ H Q I h
 refine isTrue_and (cW (ha pins s σ H _ I h) λ c s1 ⟨H1,I1,q1⟩=>?_)
 cases c with
 | true=>exact hb wh pins s1 σ H1 Q I1 q1
 | false=>exact⟨H1,I1,q1⟩
theorem AQ (ha:PT X a tA) (hb:PW X (.BoolOp .Or (b::rest) pos) tB'):PW X (.BoolOp .Or (a::b::rest) pos) (tOr tA tB'):=by
 intro wh pins s σ H Q I h
 refine isTrue_or (cW (ha pins s σ H _ I h) λ c s1 ⟨H1,I1,q1⟩=>?_)
 cases c with
 | true=>exact⟨H1,I1,q1⟩
 | false=>exact hb wh pins s1 σ H1 Q I1 q1
theorem eP (ha:PT X a tA):PT X (.UnaryOp .Not a pos) (tNot tA):=by
 intro pins s σ H Q I h
 exact isTrue_not (ha pins s σ H (λ c H1=>Q (!c) H1) I h)
noncomputable def MJ (ta tb:TE):TE:=λ σ H Q=>ta σ H λ x H1=>∃ c,x=.bl c/\if c=true then tb σ H1 Q else Q (.bl false) H1
noncomputable def tOrV (ta tb:TE):TE:=λ σ H Q=>ta σ H λ x H1=>∃ c,x=.bl c/\if c=true then Q (.bl true) H1 else tb σ H1 Q
noncomputable def JT (ta:TE):TE:=λ σ H Q=>ta σ H λ x H1=>∃ c,x=.bl c/\Q (.bl (!c)) H1
theorem gL {op}{t:TE} (h:PE X a t):PE X (.BoolOp op [a] pos) t:=λ pins s σ H Q I hw=>BoolOp_one (h pins s σ H Q I hw)
theorem fI (ha:PE X a ta) (hb:PE X (.BoolOp .And (b::rest) pos) tb):PE X (.BoolOp .And (a::b::rest) pos) (MJ ta tb):=by
 intro pins s σ H Q I h
 refine BoolOp_and (cW (ha pins s σ H _ I h) λ v s1 ⟨x,H1,I1,r1,q1⟩=>?_)
 obtain⟨c,rfl,q1⟩:=q1
 cases r1
 refine wpAny_truthy_bool ?_
 cases c with
 | true=>exact hb pins s1 σ H1 Q I1 q1
 | false=>exact⟨.bl false,H1,I1,rfl,q1⟩
theorem FF (ha:PE X a ta) (hb:PE X (.BoolOp .Or (b::rest) pos) tb):PE X (.BoolOp .Or (a::b::rest) pos) (tOrV ta tb):=by
 intro pins s σ H Q I h
 refine BoolOp_or (cW (ha pins s σ H _ I h) λ v s1 ⟨x,H1,I1,r1,q1⟩=>?_)
 obtain⟨c,rfl,q1⟩:=q1
 cases r1
 refine wpAny_truthy_bool ?_
 cases c with
 | false=>exact hb pins s1 σ H1 Q I1 q1
 | true=>exact⟨.bl true,H1,I1,rfl,q1⟩
theorem uU (ha:PE X a ta):PE X (.UnaryOp .Not a pos) (JT ta):=by
 intro pins s σ H Q I h
 refine UnaryOp_ (cW (ha pins s σ H _ I h) λ v s1 ⟨x,H1,I1,r1,q1⟩=>?_)
 obtain⟨c,rfl,q1⟩:=q1
 cases r1
 exact not_of (wpAny_truthy_bool ⟨.bl (!c),H1,I1,rfl,q1⟩)
end
end L2
namespace L2
open PySem PySem.Spec PyProof.Rows
noncomputable def bO (K:aaa) (H:Hp) (a:Addr) (xs:List V):Prop:=
 Rd H a (.lst xs)\/
  ∃ (o:Obj) (its:Array Value) (n:Nat),K.lookup a=some o/\o.cls=.type "list" /\ o.dict=none/\o.data=.seq its n/\its.size<=sizeLine/\bG xs its.toList
noncomputable def bN (K:aaa) (H:Hp) (a:Addr) (xs:List V):Prop:=
 Rd H a (.tup xs)\/
  ∃ (o:Obj) (its:Array Value) (n:Nat),K.lookup a=some o/\o.cls=.type "tuple" /\ o.data=.seq its n/\its.size<=sizeLine/\bG xs its.toList
noncomputable def absV:Value->Option V
 | .none=>some .non
 | .bool b=>some (.bl b)
 | .int i _=>some (.int i)
 | .str x _=>some (.str x)
 | .bytes b _=>some (.byt b)
 | .float b _=>some (.flt b)
 | .ref a=>some (.ref a)
 | .type n=>some (.ty n)
 | _=>none
theorem bE.abs {x:V}{u:Value} (r:bE x u):absV u=some x:=by
 cases x with
 | non=>cases r;rfl
 | bl _=>cases r;rfl
 | int _=>obtain⟨t,rfl⟩:=r;rfl
 | str _=>obtain⟨t,rfl⟩:=r;rfl
 | byt _=>obtain⟨t,rfl⟩:=r;rfl
 | flt _=>obtain⟨t,rfl⟩:=r;rfl
 | ref _=>cases r;rfl
 | ty _=>cases r;rfl
theorem bE.inj {x y:V}{u:Value} (r:bE x u) (q:bE y u):x=y:=abp (r.abs.symm.trans q.abs)
theorem bG.inj:∀ {xs ys:List V}{us:List Value},bG xs us->bG ys us->xs=ys
 | _,_,_,.nil,.nil=>rfl
 | _,_,_,.cons r t,.cons r' t'=>by rw[r.inj r',bG.inj t t']
section
variable {X:Cx}{pins:List (Addr×Obj)}{σ:St}{H:Hp}{s:Shared}{a:Addr}{xs ys:List V}
theorem bO.of {K:aaa} (h:H a=some (.lst xs)):bO K H a xs:=.inl (.inl h)
theorem bN.of {K:aaa} (h:H a=some (.tup xs)):bN K H a xs:=.inl (.inl h)
theorem Inv.list (I:Inv X pins σ H s) (h:bO X.K H a xs):∃ its:List Value,bG xs its/\PlainL s.heap a its.toArray/\xs.length<=sizeLine:=by
 rcases h with h | ⟨o,its,n,hk,hc,hd,hs,hz,r⟩
 ·obtain⟨z,its,n,r,e⟩:=h.ok I.hok
  exact⟨its,r,⟨_,n,e,rfl,rfl,rfl⟩,z⟩
 ·refine⟨its.toList,r,⟨o,n,I.kIn a o hk,hc,hd,by simpa using hs⟩,?_⟩
  have e:=r.length
  simp only [abd] at e
  omega
theorem Inv.tuple (I:Inv X pins σ H s) (h:bN X.K H a xs):∃ its:List Value,bG xs its/\IsTup s.heap a its.toArray/\xs.length<=sizeLine:=by
 rcases h with h | ⟨o,its,n,hk,hc,hs,hz,r⟩
 ·obtain⟨z,its,r,p⟩:=h.ok I.hok
  exact⟨its,r,p,z⟩
 ·refine⟨its.toList,r,⟨o,I.kIn a o hk,hc,n,by simpa using hs⟩,?_⟩
  have e:=r.length
  simp only [abd] at e
  omega
theorem Inv.list_inj (I:Inv X pins σ H s) (h:bO X.K H a xs) (h':bO X.K H a ys):xs=ys:=by
 obtain⟨its,r,⟨o,n,e,_,_,d⟩,_⟩:=I.list h
 obtain⟨its',r',⟨o',n',e',_,_,d'⟩,_⟩:=I.list h'
 rw[e] at e';cases e'
 rw[d] at d'
 injection d' with d1 _
 have:its=its':=by simpa using congrArg Array.toList d1
 subst this
 exact r.inj r'
theorem Inv.tuple_inj (I:Inv X pins σ H s) (h:bN X.K H a xs) (h':bN X.K H a ys):xs=ys:=by
 obtain⟨its,r,⟨o,e,_,n,d⟩,_⟩:=I.tuple h
 obtain⟨its',r',⟨o',e',_,n',d'⟩,_⟩:=I.tuple h'
 rw[e] at e';cases e'
 rw[d] at d'
 injection d' with d1 _
 have:its=its':=by simpa using congrArg Array.toList d1
 subst this
 exact r.inj r'
end
noncomputable abbrev Cx.wish (X:Cx) (E:Value->Shared->Prop):Cx:={ X with xe:=E }
noncomputable abbrev Cx.nox (X:Cx):Cx:=X.wish λ _ _=>False
theorem Cx.Ok.wish {X:Cx} (ok:X.Ok) (E:Value->Shared->Prop):(X.wish E).Ok:=
 ⟨ok.mod,ok.kind,ok.glob,ok.blt,ok.above,ok.inj,ok.has,ok.cab,ok.hd,ok.frames,ok.stk,ok.exf,ok.bs,ok.bsz,ok.noex,ok.exfs,ok.funs,ok.frf⟩
theorem Cx.Ok.unwish {X:Cx}{E:Value->Shared->Prop} (ok:(X.wish E).Ok):X.Ok:=
 ⟨ok.mod,ok.kind,ok.glob,ok.blt,ok.above,ok.inj,ok.has,ok.cab,ok.hd,ok.frames,ok.stk,ok.exf,ok.bs,ok.bsz,ok.noex,ok.exfs,ok.funs,ok.frf⟩
section
variable {X:Cx}{pins:List (Addr×Obj)}{σ:St}{H:Hp}{s:Shared}{E:Value->Shared->Prop}
theorem Inv.wish (I:Inv X pins σ H s) (E:Value->Shared->Prop):Inv (X.wish E) pins σ H s:=⟨I.ok.wish E,I.os,I.bare,I.base,I.loc,I.cell,I.free,I.freeC,I.pin,I.hok,I.len⟩
theorem Inv.unwish (I:Inv (X.wish E) pins σ H s):Inv X pins σ H s:=⟨I.ok.unwish,I.os,I.bare,I.base,I.loc,I.cell,I.free,I.freeC,I.pin,I.hok,I.len⟩
theorem SP.unwish {D:Ends}{f:Flow}{s':Shared} (h:SP (X.wish E) pins D f s'):SP X pins D f s':=by
 cases f with
 | next=>obtain⟨Z,H',I,q⟩:=h;exact⟨Z,H',I.unwish,q⟩
 | brk=>obtain⟨Z,H',I,q⟩:=h;exact⟨Z,H',I.unwish,q⟩
 | cont=>obtain⟨Z,H',I,q⟩:=h;exact⟨Z,H',I.unwish,q⟩
 | ret u=>obtain⟨v,Z,H',I,r,q⟩:=h;exact⟨v,Z,H',I.unwish,r,q⟩
theorem yC.nox {st:List Stmt}{t:TS} (h:yC X.nox st t):yC X st t:=λ pins s σ H D I hw=>
 wpAny_mono (h pins s σ H D (I.wish _) hw) (λ _ _ q=>q.unwish) λ _ _ z=>False.elim z
end
section
variable {X:Cx}{st:Stmt}{rest:List Stmt}{t u:TS}{e:Expr}{te:TE}{pos:Pos}
noncomputable def EC:TS:=λ D σ H=>D.nx σ H
noncomputable def iG (t u:TS):TS:=λ D σ H=>t { D with nx:=u D } σ H
theorem bJ:yC X [] EC:=λ _ _ σ H _ I h=>wpAny_execs_nil ⟨σ,H,I,h⟩
theorem aE (h1:PS X st t) (h2:yC X rest u):yC X (st::rest) (iG t u):=by
 intro pins s σ H D I h
 refine wpAny_execs_cons (cW (h1 pins s σ H { D with nx:=u D } I h) λ f s1 q=>?_)
 cases f with
 | next=>
  obtain⟨Z,H',I',q⟩:=q
  exact h2 pins s1 Z H' D I' q
 | ret v=>exact q
 | brk=>exact q
 | cont=>exact q
theorem aL (h1:PS X st t):yC X [st] t:=by
 intro pins s σ H D I h
 refine wpAny_execs_cons (cW (h1 pins s σ H D I h) λ f s1 q=>?_)
 cases f with
 | next=>exact wpAny_execs_nil q
 | ret v=>exact q
 | brk=>exact q
 | cont=>exact q
theorem Inv.quiet {pins:List (Addr×Obj)}{σ:St}{H:Hp}{s:Shared} (I:Inv X pins σ H s):interactive X.env=false:=by simp [interactive,I.ok.kind]
noncomputable def MH (te:TE):TS:=λ D σ H=>te σ H λ _ H1=>D.nx σ H1
theorem bW (he:PE X e te) (hs:swapsWith e none pos.line X.env=pure false:=by rfl):PS X (.Expr e pos) (MH te):=by
 intro pins s σ H D I h
 exact wpAny_Expr_any (cW (he pins s σ H _ I h) λ v s1 ⟨x,H1,I1,r1,q1⟩=>⟨σ,H1,I1,q1⟩) I.quiet hs
noncomputable def MC (te:TE):TS:=λ D σ H=>te σ H D.rt
theorem aZ (he:PE X e te):PS X (.Return (some e) pos) (MC te):=by
 intro pins s σ H D I h
 exact wpAny_Return_some (cW (he pins s σ H _ I h) λ v s1 ⟨x,H1,I1,r1,q1⟩=>⟨x,σ,H1,I1,r1,q1⟩)
noncomputable def ED (c:TT) (t u:TS):TS:=λ D σ H=>c σ H λ b H1=>if b=true then t D σ H1 else u D σ H1
theorem d8 {c:Expr}{a b:List Stmt}{tc:TT} (hc:PT X c tc) (ha:yC X a t) (hb:yC X b u):PS X (.If c a b pos) (ED tc t u):=by
 intro pins s σ H D I h
 refine wpAny_If (cW (hc pins s σ H _ I h) λ d s1 ⟨H1,I1,q1⟩=>?_)
 cases d with
 | true=>exact ha pins s1 σ H1 D I1 q1
 | false=>exact hb pins s1 σ H1 D I1 q1
end
noncomputable abbrev TG:=V->St->Hp->(St->Hp->Prop)->Prop
noncomputable abbrev KC:=List V->St->Hp->(St->Hp->Prop)->Prop
noncomputable def PG (X:Cx) (target:Expr) (t:TG):Prop:=
 ∀ (pins:List (Addr×Obj)) (s:Shared) (σ:St) (H:Hp) (v:V) (u:Value) (Q:St->Hp->Prop),Inv X pins σ H s->bE v u->t v σ H Q->
  wpAny (model X.prog X.w) X.A (assign target X.env u) (λ _ s'=>∃ Z H',Inv X pins Z H' s'/\Q Z H') X.xe s
noncomputable def NK (X:Cx) (ts:List Expr) (t:KC):Prop:=
 ∀ (pins:List (Addr×Obj)) (s:Shared) (σ:St) (H:Hp) (vs:List V) (us:List Value) (Q:St->Hp->Prop),Inv X pins σ H s->bG vs us->t vs σ H Q->
  wpAny (model X.prog X.w) X.A (assignInOrder ((assignEach ts X.env).map (·.2)) us) (λ _ s'=>∃ Z H',Inv X pins Z H' s'/\Q Z H') X.xe s
noncomputable abbrev HL:=V->V->V->Hp->(Hp->Prop)->Prop
noncomputable def LW (X:Cx) (t:HL):Prop:=
 ∀ (pins:List (Addr×Obj)) (s:Shared) (σ:St) (H:Hp) (o i v:V) (ov iv u:Value) (Q:Hp->Prop),Inv X pins σ H s->bE o ov->bE i iv->bE v u->t o i v H Q->
  wpAny (model X.prog X.w) X.A (setItem ov iv u) (λ _ s'=>∃ H',Inv X pins σ H' s'/\Q H') X.xe s
noncomputable abbrev M6:=V->V->Hp->VK->Prop
noncomputable def PIp (X:Cx) (op:Operator) (t:M6):Prop:=
 ∀ (pins:List (Addr×Obj)) (s:Shared) (σ:St) (H:Hp) (x y:V) (v u:Value) (Q:VK),Inv X pins σ H s->bE x v->bE y u->t x y H Q->
  wpAny (model X.prog X.w) X.A (inplaceOp op v u) (EP X pins σ Q) X.xe s
section
variable {X:Cx}{pos:Pos}
noncomputable def eK (i:Nat):TG:=λ v σ H Q=>Q (σ.set i (some v)) H
theorem aG {i:Nat}{x:Str} (hN:X.N.Nodup) (hi:X.N[i]? = some x) (hx:NL X.env.scope x) (hf:X.fn x=true\/X.env.scope.names.lookup x=some .local:=by first | exact .inl rfl | exact .inr rfl | assumption):PG X (.Name x pos) (eK i):=by
 intro pins s σ H v u Q I r h
 exact wpAny_assign_Name (jO I hN hi hx r (λ s' I'=>⟨_,H,I',h⟩) hf)
noncomputable def gNil:KC:=λ vs σ H Q=>vs=[]/\Q σ H
noncomputable def NF (t:TG) (u:KC):KC:=λ vs σ H Q=>∃ v r,vs=v::r/\t v σ H λ Z H'=>u r Z H' Q
theorem aW:NK X [] gNil:=by
 intro pins s σ H vs us Q I r h
 obtain⟨e,h⟩:=h
 subst e
 cases r
 exact assignInOrder_nil ⟨σ,H,I,h⟩
theorem aF {e:Expr}{es:List Expr}{t:TG}{u:KC} (h1:PG X e t) (h2:NK X es u)
  (hs:(assignEach (e::es) X.env).map (·.2)=assign e X.env::(assignEach es X.env).map (·.2):=by rfl):NK X (e::es) (NF t u):=by
 intro pins s σ H vs us Q I r h
 obtain⟨v,vr,e1,h⟩:=h
 subst e1
 cases r with
 | cons r rr=>
  rw[hs]
  refine assignInOrder_cons (cW (h1 pins s σ H _ _ _ I r h) λ _ s1 ⟨dc,H1,I1,q1⟩=>?_)
  exact h2 pins s1 dc H1 _ _ Q I1 rr q1
noncomputable def NE (K:aaa) (n:Nat) (t:KC):TG:=λ v σ H Q=>∃ a xs,v=.ref a/\bN K H a xs/\xs.length=n/\t xs σ H Q
theorem L9 {es:List Expr}{k:Nat}{t:KC}{n:Nat} (hc:X.calm=true) (h:NK X es t)
  (hn:(assignEach es X.env).length=n:=by rfl) (hst:(assignEach es X.env).findIdx? (·.1)=none:=by rfl):PG X (.Tuple es k pos) (NE X.K n t):=by
 intro pins s σ H v u Q I r hw
 obtain⟨a,xs,e1,hq,hl,hw⟩:=hw
 subst e1
 cases r
 obtain⟨its,rv,ht,hz⟩:=I.tuple hq
 refine assign_Tuple_tuple (I.ok.hd hc) ht (by simp [hn,<- hl,rv.length]) hst λ h' hx=>?_
 have I1:Inv X pins σ H { s with heap:=h' }:=I.kept (t':=s.toks) λ b o e=>hx b o (aay (aan e)) e
 exact h pins _ σ H xs _ Q I1 (by simpa using rv) hw
noncomputable def GT (to ti:TE) (t:HL):TG:=λ v σ H Q=>to σ H λ o H1=>ti σ H1 λ i H2=>t o i v H2 λ H3=>Q σ H3
theorem uT {o i:Expr}{to ti:TE}{t:HL} (ho:PE X o to) (hi:PE X i ti) (hs:LW X t)
  (ha:∀ v,assign (.Subscript o i pos) X.env v=(do
   let ov <- holding [v] (eval o X.env)
   let iv <- holding [v,ov] (eval i X.env)
   standAt pos
   holding [v,ov,iv] (setItem ov iv v)
   release [v,ov,iv] []):=by intro _;rfl):PG X (.Subscript o i pos) (GT to ti t):=by
 intro pins s σ H v u Q I r h
 rw[ha]
 refine wpAny_bind (wpAny_holding (cW (ho pins s σ H _ I h) λ ov s1 ⟨x,H1,I1,r1,q1⟩=>?_))
 refine wpAny_bind (wpAny_holding (cW (hi pins s1 σ H1 _ I1 q1) λ iv s2 ⟨y,H2,I2,r2,q2⟩=>?_))
 refine wpAny_bind (wpAny_standAt (wpAny_bind (wpAny_holding (cW (hs pins s2 σ H2 x y v ov iv u _ I2 r1 r2 r q2) λ _ s3 ⟨H3,I3,q3⟩=>?_))))
 exact wpAny_release ⟨σ,H3,I3,q3⟩
noncomputable def jN (te:TE) (g:TG):TS:=λ D σ H=>te σ H λ x H1=>g x σ H1 D.nx
theorem bZ {tg e:Expr}{te:TE}{g:TG} (he:PE X e te) (hg:PG X tg g) (hs:swapsWithSole [tg] e pos.line X.env=pure false:=by rfl) (hw:swappedStores [tg] e X.env=pure none:=by rfl)
  (h1:(assignEach [tg] X.env).map (·.2)=[assign tg X.env]:=by rfl):PS X (.Assign [tg] e pos) (jN te g):=by
 intro pins s σ H D I h
 refine wpAny_Assign_stores (cW (he pins s σ H _ I h) λ v s1 ⟨x,H1,I1,r1,q1⟩=>?_) hs hw
 rw[h1]
 exact cW (hg pins s1 σ H1 x v _ I1 r1 q1) λ _ s2 q=>q
theorem b9 {i:Nat}{x:Str}{e:Expr}{te:TE}{pos':Pos} (hN:X.N.Nodup) (hi:X.N[i]? = some x) (hx:NL X.env.scope x) (he:PE X e te) (hs:swapsWith e (some (.Name x pos')) pos.line X.env=pure false:=by rfl) (hf:X.fn x=true\/X.env.scope.names.lookup x=some .local:=by first | exact .inl rfl | exact .inr rfl | assumption) :
  PS X (.Assign [.Name x pos'] e pos) (jN te (eK i)):=by
 intro pins s σ H D I h
 refine wpAny_Assign_Name (cW (he pins s σ H _ I h) λ v s1 ⟨y,H1,I1,r1,q1⟩=>?_) hs
 exact jO I1 hN hi hx r1 (λ s2 I2=>⟨_,H1,I2,q1⟩) hf
noncomputable def tPar (i j:Nat) (ta:TA):TS:=λ D σ H=>ta σ H λ vs H1=>∃ v w,vs=[v,w]/\D.nx ((σ.set i (some v)).set j (some w)) H1
theorem yZ {i j:Nat}{x y:Str}{a b:Expr}{ta:TA}{px py pt:Pos}{kt k2 pt2} (hc:X.calm=true) (hN:X.N.Nodup) (hi:X.N[i]? = some x) (hj:X.N[j]? = some y) (hij:i≠j)
  (hx:X.env.scope.names.lookup x=some .local) (hy:X.env.scope.names.lookup y=some .local) (ha:PA X [a,b] ta)
  (hw:swappedStores [.Tuple [.Name x px,.Name y py] kt pt] (.Tuple [a,b] k2 pt2) X.env=pure (some [x,y]))
  (hs:swapsWithSole [.Tuple [.Name x px,.Name y py] kt pt] (.Tuple [a,b] k2 pt2) pos.line X.env=pure false:=by rfl) :
  PS X (.Assign [.Tuple [.Name x px,.Name y py] kt pt] (.Tuple [a,b] k2 pt2) pos) (tPar i j ta):=by
 intro pins s σ H D I h
 rw[exec_Assign_arm]
 refine wpAny_bind (wpAny_standAt ?_)
 rw[hs]
 refine wpAny_bind (wpAny_pure ?_)
 rw[if_neg (by decide)]
 refine wpAny_bind (Tuple_ (cW (ha _ pins s σ H _ I h) λ us s1 ⟨vs,H1,I1,r1,q1⟩=>?_))
 obtain⟨v,w,e1,q1⟩:=q1
 subst e1
 obtain⟨u1,u2,rfl,rv,rw'⟩:∃ u1 u2,us=[u1,u2]/\bE v u1/\bE w u2:=by
  cases r1 with
  | cons p q=>
   cases q with
   | cons p' q'=>
    cases q'
    exact⟨_,_,rfl,p,p'⟩
 refine wpAny_newObj_type ?_ (by show 2<=sizeLine;decide)
 have I2:Inv X pins σ H1 { s1 with heap:=s1.heap.push { cls:=.type "tuple",data:=.seq [u1,u2].toArray } }:=I1.kept (t':=s1.toks) λ b o e=>aab _ e
 rw[hw]
 refine wpAny_bind (wpAny_pure ?_)
 show wpAny (model X.prog X.w) X.A (do rule "assign.swapped-stores";let items <- unpackItems (.ref s1.heap.objs.size) 2 none;assignInOrder [λ v=>bindName X.env y v,λ v=>bindName X.env x v] items.reverse;pure Flow.next) _ _ _
 refine wpAny_bind (wpAny_rule (wpAny_bind (unpackItems_tuple (items:=#[u1,u2]) (I.ok.hd hc) (IsTup.new s1.heap _) λ h' hx'=>?_)))
 have I3:=I2.kept (h':=h') (t':=s1.toks) λ b o e=>hx' b o (aay (aan e)) e
 show wpAny _ _ (assignInOrder [λ v=>bindName X.env y v,λ v=>bindName X.env x v] [u2,u1] >>= λ _=>pure Flow.next) _ _ _
 refine wpAny_bind (assignInOrder_cons (wpAny_bindName (jO I3 hN hj (.inl hy) rw' (λ s2 I4=>?_) (.inr hy))))
 refine assignInOrder_cons (wpAny_bindName (jO I4 hN hi (.inl hx) rv (λ s3 I5=>assignInOrder_nil (wpAny_pure ?_)) (.inr hx)))
 rw[List.set_comm _ _ (Ne.symm hij)] at I5
 exact⟨_,H1,I5,q1⟩
noncomputable def tAug (i:Nat) (te:TE) (ti:M6):TS:=λ D σ H=>∃ x,σ[i]? = some (some x)/\te σ H λ y H1=>ti x y H1 λ z H2=>D.nx (σ.set i (some z)) H2
theorem zB {i:Nat}{x:Str}{e:Expr}{te:TE}{op:Operator}{ti:M6}{pos':Pos} (hN:X.N.Nodup) (hi:X.N[i]? = some x) (hx:NL X.env.scope x) (he:PE X e te) (ho:PIp X op ti) (hf:X.fn x=true\/X.env.scope.names.lookup x=some .local:=by first | exact .inl rfl | exact .inr rfl | assumption) :
  PS X (.AugAssign (.Name x pos') op e pos) (tAug i te ti):=by
 intro pins s σ H D I h
 obtain⟨v,e1,h⟩:=h
 obtain⟨m,hn,hl⟩:=I.loc
 have vis:Vis X.env.scope x:=by rcases hx with k | k;exact .inl k;exact .inr (.inl k)
 obtain⟨u,r,l⟩:=hl i x v hi e1 vis
 refine wpAny_AugAssign_Name ?_
 have go:wpAny (model X.prog X.w) X.A (eval e X.env) (λ w cj=>wpAny (model X.prog X.w) X.A (inplaceOp op u w) (λ r ck=>wpAny (model X.prog X.w) X.A (storeName X.env x r) (λ _=>SP X pins D .next) X.xe ck) X.xe cj) X.xe s:=by
  refine cW (he pins s σ H _ I h) λ w s1 ⟨y,H1,I1,r1,q1⟩=>?_
  refine cW (ho pins s1 σ H1 v y u w _ I1 r r1 q1) λ z s2 ⟨zv,H2,I2,r2,q2⟩=>?_
  exact jO I2 hN hi hx r2 (λ s3 I3=>⟨_,H2,I3,q2⟩) hf
 rcases l with ⟨hk,hm⟩ | ⟨hk,c,hc,hcell⟩
 ·exact wpAny_loadName_local I.ok.kind hk hn hm go
 ·rcases hk with hk | hk
  ·exact wpAny_loadName_cell I.ok.kind hk hc hcell go
  ·rcases hx with k | k
   ·have:X.env.scope.names.lookup x=some .free:=hk
    rw[k] at this;cases this
   ·have:X.env.scope.names.lookup x=some .free:=hk
    rw[k] at this;cases this
noncomputable def MI (to ti te:TE) (tget:V->V->Hp->VK->Prop) (tip:M6) (tset:HL):TS:=λ D σ H=>to σ H λ o H1=>ti σ H1 λ i H2=>tget o i H2 λ x H3=>te σ H3 λ y H4=>tip x y H4 λ z H5=>tset o i z H5 λ H6=>D.nx σ H6
noncomputable def LX (X:Cx) (t:V->V->Hp->VK->Prop):Prop:=
 ∀ (pins:List (Addr×Obj)) (s:Shared) (σ:St) (H:Hp) (o i:V) (ov iv:Value) (Q:VK),Inv X pins σ H s->bE o ov->bE i iv->t o i H Q->
  wpAny (model X.prog X.w) X.A (getItem ov iv) (EP X pins σ Q) X.xe s
theorem AU {o i e:Expr}{to ti te:TE}{tget:V->V->Hp->VK->Prop}{tip:M6}{tset:HL}{op:Operator}{tpos:Pos} (ho:PE X o to) (hi:PE X i ti) (hg:LX X tget) (he:PE X e te) (hp:PIp X op tip) (hs:LW X tset)
  (ha:∀ ov iv new,augStore i ov iv new=(do holding [new,ov,iv] (setItem ov iv new);release [new,ov,iv] [];pure .next):=by intros;rfl):PS X (.AugAssign (.Subscript o i tpos) op e pos) (MI to ti te tget tip tset):=by
 intro pins s σ H D I h
 refine wpAny_AugAssign_SubscriptAny (cW (ho pins s σ H _ I h) λ ov s1 ⟨x1,H1,I1,r1,q1⟩=>?_) ha
 refine cW (hi pins s1 σ H1 _ I1 q1) λ iv s2 ⟨x2,H2,I2,r2,q2⟩=>?_
 refine cW (hg pins s2 σ H2 x1 x2 ov iv _ I2 r1 r2 q2) λ old s3 ⟨x3,H3,I3,r3,q3⟩=>?_
 refine cW (he pins s3 σ H3 _ I3 q3) λ v s4 ⟨x4,H4,I4,r4,q4⟩=>?_
 refine cW (hp pins s4 σ H4 x3 x4 old v _ I4 r3 r4 q4) λ new s5 ⟨x5,H5,I5,r5,q5⟩=>?_
 exact cW (hs pins s5 σ H5 x1 x2 x5 ov iv new _ I5 r1 r2 r5 q5) λ _ s6 ⟨H6,I6,q6⟩=>⟨σ,H6,I6,q6⟩
noncomputable def ipI (f:Int->Int->Int):M6:=λ x y H Q=>∃ i j,x=.int i/\y=.int j/\Q (.int (f i j)) H
theorem vH:PIp X .Add (ipI λ i j=>i+j):=by
 intro pins s σ H x y v u Q I r1 r2 h
 obtain⟨i,j,e1,e2,q⟩:=h
 subst e1;subst e2
 obtain⟨t,rfl⟩:=r1
 obtain⟨t',rfl⟩:=r2
 exact iadd_int ⟨.int _,H,I.tok _,⟨_,rfl⟩,q⟩
theorem LO:PIp X .Sub (ipI λ i j=>i - j):=by
 intro pins s σ H x y v u Q I r1 r2 h
 obtain⟨i,j,e1,e2,q⟩:=h
 subst e1;subst e2
 obtain⟨t,rfl⟩:=r1
 obtain⟨t',rfl⟩:=r2
 exact isub_int ⟨.int _,H,I.tok _,⟨_,rfl⟩,q⟩
end
section
variable {X:Cx}{pos:Pos}
noncomputable def KL (c:TT) (tb:TS):TS:=λ D σ H=>∃ W:Nat->St->Hp->Prop,(∃ m,W m σ H)/\∀ m σ H,W m σ H->
 c σ H λ b H1=>if b=true then ∃ N:St->Hp->Prop,(∀ Z H',N Z H'->∃ m',m' < m/\W m' Z H')/\tb { D with nx:=N,ct:=N,bk:=D.nx } σ H1 else D.nx σ H1
theorem wS {c:Expr}{body:List Stmt}{tc:TT}{tb:TS} (hp:PassesOwn (model X.prog X.w) X.A X.env X.xe) (hc:PT X c tc) (hb:yC X body tb):PS X (.While c body [] pos) (KL tc tb):=by
 intro pins s σ H D I h
 obtain⟨W,⟨m0,w0⟩,turn⟩:=h
 refine wpAny_While (codeAny_whileLoop (λ n s'=>∃ Z H',Inv X pins Z H' s'/\W n Z H') ?_ m0 ⟨σ,H,I,w0⟩)
 rintro n s1 ⟨dc,H1,I1,w1⟩
 refine wpAny_passesOwn hp (cW (hc pins s1 dc H1 _ I1 (turn n dc H1 w1)) λ b s2 ⟨H2,I2,q2⟩=>?_)
 cases b with
 | true=>
  obtain⟨N,hN,q2⟩:=q2
  rw[if_pos rfl]
  refine wpAny_passesOwn hp (cW (hb pins s2 dc H2 _ I2 q2) λ f s3 q3=>?_)
  cases f with
  | next=>
   obtain⟨ap,H3,I3,n3⟩:=q3
   obtain⟨m',hm,w3⟩:=hN ap H3 n3
   exact⟨m',hm,ap,H3,I3,w3⟩
  | cont=>
   obtain⟨ap,H3,I3,n3⟩:=q3
   obtain⟨m',hm,w3⟩:=hN ap H3 n3
   exact⟨m',hm,ap,H3,I3,w3⟩
  | brk=>exact q3
  | ret v=>exact q3
 | false=>
  rw[if_neg aal]
  exact wpAny_execs_nil ⟨dc,H2,I2,q2⟩
end
structure It where
 go:Nat->Hp->Prop
 yld:Nat->Hp->V->Hp->Prop
 stop:Nat->Hp->Prop
noncomputable def lZ (X:Cx) (pins:List (Addr×Obj)) (H:Hp) (b:Addr):Prop:=
 H b=none/\b≠X.env.locals/\b∉X.fs/\(b∈X.ex\/X.s₀.heap.objs.size<=b)/\(∀ x c,X.env.cells.lookup x=some c->c≠b)/\∀ p∈X.pn++pins,p.1≠b
theorem Inv.fpOk {X:Cx}{pins:List (Addr×Obj)}{σ:St}{H H':Hp}{s:Shared}{b:Addr} (I:Inv X pins σ H s) (hb:s.heap.objs.size<=b) (hn:H' b=none):lZ X pins H' b:=by
 refine⟨hn,Nat.ne_of_gt (aau I.lt hb),I.nofs hb,.inr (abq I.sz hb),λ x c e z=>?_,λ p hp z=>?_⟩
 ·obtain⟨v,q⟩:=I.cell x c e
  exact absurd (aau q.lt (by rw[z];exact hb)) (abx _)
 ·exact absurd (aau (aan (I.pin p hp).1) (by rw[z];exact hb)) (abx _)
structure Turn (P:Program) (w:World) (K:aaa) (tg:Expr) (J:It) (fp:List Addr) (it:Addr) (tn:Nat->Heap->Prop):Prop where
 mem:it∈fp
 obj:∀ i h,tn i h->∀ b∈fp,∃ o,h.get? b=some o/\∀ v,o.data≠.cell v
 keep:∀ i h h',tn i h->(∀ b∈fp,∀ o,h.get? b=some o->h'.get? b=some o)->tn i h'
 item:∀ (X:Cx),X.prog=P->X.w=w->X.K=K->X.calm=true->∀ (i:Nat) (pins:List (Addr×Obj)) (s:Shared) (σ:St) (H:Hp) (E:Value->Shared->Prop),Inv X pins σ H s->(∀ b∈fp,lZ X pins H b)->tn i s.heap->J.go i H->
  wpAny (model P w) X.A (pyNext (.ref it)) (λ r s1=>∃ u,r=some u/\
   wpAny (model P w) X.A (letOwnedTupleGo tg (.ref it) u) (λ _ s2=>∃ x H',Inv X pins σ H' s2/\bE x u/\J.yld i H x H'/\tn (i+1) s2.heap/\∀ b∈fp,H' b=none) E s1) E s
 done:∀ (X:Cx),X.prog=P->X.w=w->X.K=K->X.calm=true->∀ (i:Nat) (pins:List (Addr×Obj)) (s:Shared) (σ:St) (H:Hp) (E:Value->Shared->Prop),Inv X pins σ H s->(∀ b∈fp,lZ X pins H b)->tn i s.heap->J.stop i H->
  wpAny (model P w) X.A (pyNext (.ref it)) (λ r s1=>r=none/\Inv X pins σ H s1) E s
 self:∀ (A:Around) (i:Nat) (s:Shared) (Q:Value->Shared->Prop) (E:Value->Shared->Prop),tn i s.heap->Q (.ref it) s->wpAny (model P w) A (pyIter (.ref it)) Q E s
noncomputable abbrev TI:=St->Hp->(It->Hp->Prop)->Prop
noncomputable def PIE (X:Cx) (pins:List (Addr×Obj)) (σ:St) (tg:Expr) (R:It->Hp->Prop) (itv:Value) (s2:Shared):Prop:=
 ∃ (it:Addr) (fp:List Addr) (tn:Nat->Heap->Prop) (J:It) (H':Hp),itv=.ref it/\Inv X pins σ H' s2/\Turn X.prog X.w X.K tg J fp it tn/\tn 0 s2.heap/\(∀ b∈fp,lZ X pins H' b)/\R J H'
noncomputable def PI (X:Cx) (tg iter:Expr) (wi:TI):Prop:=
 ∀ (pins:List (Addr×Obj)) (s:Shared) (σ:St) (H:Hp) (R:It->Hp->Prop),Inv X pins σ H s->wi σ H R->
  wpAny (model X.prog X.w) X.A (eval iter X.env) (λ v s1=>wpAny (model X.prog X.w) X.A (pyIter v) (PIE X pins σ tg R) X.xe s1) X.xe s
theorem GN {M:Model}{A:Around}{E:Value->Shared->Prop}{s:Shared}{tg:Expr}{it:Addr}{u:Value}{o:Obj}{n:String}{vs:Array Value}{Q:Unit->Shared->Prop} (ho:s.heap.get? it=some o) (hc:o.cls=.type n) (hd:o.data=.fields vs)
  (hn:["enumerate","zip","dict_itemiterator","dict_reverseitemiterator","odict_iterator","itertools.zip_longest","itertools.pairwise"].contains n=false) (hQ:Q () s):wpAny M A (letOwnedTupleGo tg (.ref it) u) Q E s:=by
 unfold letOwnedTupleGo
 cases tg <;> first
  | exact wpAny_pure hQ
  | (cases u <;> first
    | exact wpAny_pure hQ
    | (refine wpAny_bind (wpAny_load ho ?_)
       rw[hc,hd]
       show wpAny M A (if (["enumerate","zip","dict_itemiterator","dict_reverseitemiterator","odict_iterator","itertools.zip_longest","itertools.pairwise"].contains n && vs[0]? == some (rawInt _))=true then _ else _) Q E s
       rw[if_neg (by intro h;rw[hn,Bool.false_and] at h;cases h)]
       exact wpAny_pure hQ))
noncomputable def M0 (K:aaa) (a:Addr):It:=
 ⟨λ i H=>∃ xs x,bO K H a xs/\xs[i]? = some x,λ i H x H'=>H'=H/\∀ xs,bO K H a xs->xs[i]? = some x,λ i H=>∃ xs,bO K H a xs/\xs.length<=i⟩
noncomputable def M7 (K:aaa) (a:Addr):It:=
 ⟨λ i H=>∃ xs x,bN K H a xs/\xs[i]? = some x,λ i H x H'=>H'=H/\∀ xs,bN K H a xs->xs[i]? = some x,λ i H=>∃ xs,bN K H a xs/\xs.length<=i⟩
noncomputable def KF (lo:Int) (n:Nat):It:=⟨λ i _=>i < n,λ i H x H'=>H'=H/\x=.int (lo+i),λ i _=>n<=i⟩
theorem CF {P:Program}{w:World}{K:aaa}{tg:Expr} (a it:Addr):Turn P w K tg (M0 K a) [it] it (λ i h=>h.IsListIter it a i) where
 mem:=by simp
 obj:=λ i h st b hb=>by
  have e:b=it:=by simpa using hb
  subst e
  obtain⟨o,e,c,d⟩:=st
  exact⟨o,e,λ v z=>by rw[d] at z;cases z⟩
 keep:=λ i h h' st k=>st.at λ o e=>k it (by simp) o e
 item:=by
  intro X hP hw hK hc i pins s σ H E I hf st hg
  subst hP hw hK
  obtain⟨xs,x,hq,hx⟩:=hg
  obtain⟨its,rv,p,hz⟩:=I.list hq
  obtain⟨u,hu,ru⟩:=rv.get hx
  obtain⟨f0,f1,f2,f3,f4,f5⟩:=hf it (by simp)
  refine wpAny_pyNext_list_item st p.isList (x:=u) (by simpa using hu) λ h' st' sb=>?_
  have I1:Inv X pins σ H { s with heap:=h' }:=I.turned (t':=s.toks) (λ b o hb e=>(sb.2 b hb).trans e) f0 f1 f3 f4 f5
  obtain⟨o,e,c,d⟩:=id st'
  exact⟨u,rfl,GN (s:={ s with heap:=h' }) e c d (by decide) ⟨x,H,I1,ru,⟨rfl,λ ys hy=>by rw[I.list_inj hy hq];exact hx⟩,st',λ b hb=>(hf b hb).1⟩⟩
 done:=by
  intro X hP hw hK hc i pins s σ H E I hf st hg
  subst hP hw hK
  obtain⟨xs,hq,hx⟩:=hg
  obtain⟨its,rv,p,hz⟩:=I.list hq
  obtain⟨f0,f1,f2,f3,f4,f5⟩:=hf it (by simp)
  have hl:=rv.length
  exact wpAny_pyNext_list_end (I.ok.hd hc) st p.isList (by simp;omega) λ h' eb=>⟨rfl,I.turned (t':=s.toks) (λ b o hb e=>eb b o hb e) f0 f1 f3 f4 f5⟩
 self:=λ _ _ _ _ _ st h=>wpAny_pyIter_listiter st h
theorem yI {P:Program}{w:World}{K:aaa}{tg:Expr} (a it:Addr):Turn P w K tg (M7 K a) [it] it (λ i h=>h.IsTupleIter it a i) where
 mem:=by simp
 obj:=λ i h st b hb=>by
  have e:b=it:=by simpa using hb
  subst e
  obtain⟨o,e,c,d⟩:=st
  exact⟨o,e,λ v z=>by rw[d] at z;cases z⟩
 keep:=λ i h h' st k=>st.at λ o e=>k it (by simp) o e
 item:=by
  intro X hP hw hK hc i pins s σ H E I hf st hg
  subst hP hw hK
  obtain⟨xs,x,hq,hx⟩:=hg
  obtain⟨its,rv,p,hz⟩:=I.tuple hq
  obtain⟨u,hu,ru⟩:=rv.get hx
  obtain⟨f0,f1,f2,f3,f4,f5⟩:=hf it (by simp)
  refine wpAny_pyNext_tuple_item st (show s.heap.IsTuple a its.toArray from p) (x:=u) (by simpa using hu) λ h' st' sb=>?_
  have I1:Inv X pins σ H { s with heap:=h' }:=I.turned (t':=s.toks) (λ b o hb e=>(sb.2 b hb).trans e) f0 f1 f3 f4 f5
  obtain⟨o,e,c,d⟩:=id st'
  exact⟨u,rfl,GN (s:={ s with heap:=h' }) e c d (by decide) ⟨x,H,I1,ru,⟨rfl,λ ys hy=>by rw[I.tuple_inj hy hq];exact hx⟩,st',λ b hb=>(hf b hb).1⟩⟩
 done:=by
  intro X hP hw hK hc i pins s σ H E I hf st hg
  subst hP hw hK
  obtain⟨xs,hq,hx⟩:=hg
  obtain⟨its,rv,p,hz⟩:=I.tuple hq
  obtain⟨f0,f1,f2,f3,f4,f5⟩:=hf it (by simp)
  have hl:=rv.length
  exact wpAny_pyNext_tuple_end (I.ok.hd hc) st (show s.heap.IsTuple a its.toArray from p) (by simp;omega) λ h' eb=>⟨rfl,I.turned (t':=s.toks) (λ b o hb e=>eb b o hb e) f0 f1 f3 f4 f5⟩
 self:=λ _ _ _ _ _ st h=>wpAny_pyIter_tupleiter st h
theorem yJ {P:Program}{w:World}{K:aaa}{tg:Expr} (it:Addr) (lo:Int) (n:Nat):Turn P w K tg (KF lo n) [it] it (λ i h=>IsRangeIter h it (lo+(i:Nat) * 1) ((n:Int) - (i:Nat)) 1) where
 mem:=by simp
 obj:=λ i h st b hb=>by
  have e:b=it:=by simpa using hb
  subst e
  exact⟨_,st,λ v z=>by
   have z':Data.fields _=Data.cell v:=z
   cases z'⟩
 keep:=λ i h h' st k=>k it (by simp) _ st
 item:=by
  intro X hP hw hK hc i pins s σ H E I hf st hg
  subst hP hw hK
  obtain⟨f0,f1,f2,f3,f4,f5⟩:=hf it (by simp)
  have W:=Walks.range (prog:=X.prog) (w:=X.w) (I.ok.hd hc) it lo 1 n
  refine W.item i s _ _ hg st λ v h' tk hv st' kk=>?_
  obtain⟨t,rfl⟩:=hv
  have I1:Inv X pins σ H { s with heap:=h',toks:=tk }:=I.turned (λ b o hb e=>kk b o (by simpa using hb) e) f0 f1 f3 f4 f5
  refine⟨_,rfl,GN (s:={ s with heap:=h',toks:=tk }) (n := "range_iterator") st' rfl rfl (by decide) ⟨.int (lo+i),H,I1,⟨t,?_⟩,⟨rfl,rfl⟩,st',λ b hb=>(hf b hb).1⟩⟩
  rw[Int.mul_one]
 done:=by
  intro X hP hw hK hc i pins s σ H E I hf st hg
  subst hP hw hK
  obtain⟨f0,f1,f2,f3,f4,f5⟩:=hf it (by simp)
  exact wpAny_pyNext_range_end (I.ok.hd hc) st (by have:n<=i:=hg;omega) λ h' eb=>⟨rfl,I.turned (t':=s.toks) (λ b o hb e=>eb b o hb e) f0 f1 f3 f4 f5⟩
 self:=λ _ _ _ _ _ st h=>wpAny_pyIter_rangeiter st h
end L2
namespace L2
open PySem PySem.Spec PyProof.Rows
section
variable {X:Cx}{tg:Expr}
noncomputable def K6 (K:aaa) (tl:TE):TI:=λ σ H R=>tl σ H λ x H1=>∃ a,x=.ref a/\(∃ xs,bO K H1 a xs)/\R (M0 K a) H1
noncomputable def NB (K:aaa) (tl:TE):TI:=λ σ H R=>tl σ H λ x H1=>∃ a,x=.ref a/\(∃ xs,bN K H1 a xs)/\R (M7 K a) H1
theorem IN {l:Expr}{tl:TE} (hl:PE X l tl):PI X tg l (K6 X.K tl):=by
 intro pins s σ H R I h
 refine cW (hl pins s σ H _ I h) λ v s1 ⟨x,H1,I1,r1,q1⟩=>?_
 obtain⟨a,e,⟨xs,hq⟩,q⟩:=q1
 subst e
 cases r1
 obtain⟨its,rv,p,hz⟩:=I1.list hq
 refine wpAny_pyIter_list p.isList ?_
 refine⟨s1.heap.objs.size,[s1.heap.objs.size],_,_,H1,rfl,I1.kept (t':=s1.toks) λ b o e=>aab _ e,CF a _,⟨_,aag _ rfl,rfl,rfl⟩,λ b hb=>?_,q⟩
 have e:b=s1.heap.objs.size:=by simpa using hb
 subst e
 exact I1.fpOk (Nat.le_refl _) (I1.hok.fresh (Nat.le_refl _))
theorem L8 {l:Expr}{tl:TE} (hl:PE X l tl):PI X tg l (NB X.K tl):=by
 intro pins s σ H R I h
 refine cW (hl pins s σ H _ I h) λ v s1 ⟨x,H1,I1,r1,q1⟩=>?_
 obtain⟨a,e,⟨xs,hq⟩,q⟩:=q1
 subst e
 cases r1
 obtain⟨its,rv,p,hz⟩:=I1.tuple hq
 refine wpAny_pyIter_tuple (show s1.heap.IsTuple a its.toArray from p) ?_
 refine⟨s1.heap.objs.size,[s1.heap.objs.size],_,_,H1,rfl,I1.kept (t':=s1.toks) λ b o e=>aab _ e,yI a _,⟨_,aag _ rfl,rfl,rfl⟩,λ b hb=>?_,q⟩
 have e:b=s1.heap.objs.size:=by simpa using hb
 subst e
 exact I1.fpOk (Nat.le_refl _) (I1.hok.fresh (Nat.le_refl _))
theorem ES {pins:List (Addr×Obj)}{σ:St}{H:Hp}{s:Shared}{R:It->Hp->Prop}{E:Value->Shared->Prop}{lo hi:Int}{t u v:Tok}{tk:Nat} (I:Inv X pins σ H s) (h1 : -(2 ^ 62)<=lo) (h2:lo < 2 ^ 62) (h3 : -(2 ^ 62)<=hi) (h4:hi < 2 ^ 62)
  (q:R (KF lo (hi - lo).toNat) H):wpAny (model X.prog X.w) X.A (pyIter (.ref s.heap.objs.size)) (PIE X pins σ tg R) E { s with heap:=s.heap.push { cls:=.type "range",data:=.fields #[.int lo t,.int hi u,.int 1 v] },toks:=tk }:=by
 refine wpAny_pyIter_range (IsRange.new ..) (small_one h1 h2 h3 h4) ?_
 have I1:Inv X pins σ H { s with heap:=s.heap.push { cls:=.type "range",data:=.fields #[.int lo t,.int hi u,.int 1 v] },toks:=tk }:=I.kept λ b o e=>aab _ e
 refine⟨(s.heap.push { cls:=.type "range",data:=.fields #[.int lo t,.int hi u,.int 1 v] }).objs.size,[(s.heap.push { cls:=.type "range",data:=.fields #[.int lo t,.int hi u,.int 1 v] }).objs.size],_,_,H,rfl,
  I1.kept (t':=tk) λ b o e=>aab _ e,yJ _ lo (hi - lo).toNat,?_,λ b hb=>?_,q⟩
 ·have e1:lo+((0:Nat):Int) * 1=lo:=by simp
  have e2:(((hi - lo).toNat:Nat):Int) - ((0:Nat):Int)=Builtin.Range.rangeSize lo hi 1:=by rw[rangeSize_one];split <;> omega
  show IsRangeIter _ _ (lo+((0:Nat):Int) * 1) ((((hi - lo).toNat:Nat):Int) - ((0:Nat):Int)) 1
  rw[e1,e2]
  exact aag _ rfl
 ·have e:b=(s.heap.push { cls:=.type "range",data:=.fields #[.int lo t,.int hi u,.int 1 v] }).objs.size:=by simpa using hb
  subst e
  exact I1.fpOk (Nat.le_refl _) (I1.hok.fresh (Nat.le_refl _))
noncomputable def NC (ta:TA):TI:=λ σ H R=>ta σ H λ vs H1=>∃ j:Int,vs=[.int j]/\-(2 ^ 62)<=j/\j < 2 ^ 62/\R (KF 0 j.toNat) H1
theorem dX {a:Expr}{ta:TA}{p pos:Pos} (hg:Gl X "range") (hm:X.mg "range" = none) (ha:PA X [a] ta) (hs:starEach [a] X.env=[(false,eval a X.env)]:=by rfl):PI X tg (.Call (.Name "range" p) [a] [] pos) (NC ta):=by
 intro pins s σ H R I h
 refine Call_ (j8 I hg hm boot_range (PyProof.Rows.callWith_type1 (cW (ha pos pins s σ H _ I h) λ us s1 ⟨vs,H1,I1,r1,q1⟩=>?_) hs rfl))
 obtain⟨j,e,q1,q2,q⟩:=q1
 subst e
 cases r1 with
 | cons r rr=>
  cases rr
  obtain⟨t,rfl⟩:=r
  exact call_range_1 (ES I1 (by omega) (by omega) q1 q2 (by simpa using q))
noncomputable def KN (wi:TI) (g:TG) (tb:TS):TS:=λ D σ H=>wi σ H λ J H1=>∃ W:Nat->Nat->St->Hp->Prop,(∃ m,W 0 m σ H1)/\∀ i m σ H,W i m σ H->
 (J.stop i H/\D.nx σ H)\/(J.go i H/\∃ N:St->Hp->Prop,(∀ Z H',N Z H'->∃ m',m' < m/\W (i+1) m' Z H')/\∀ x H',J.yld i H x H'->g x σ H' λ bg H2=>tb { D with nx:=N,ct:=N,bk:=D.nx } bg H2)
noncomputable def qS (fp:List Addr) (h:Heap):List (Addr×Obj):=fp.filterMap λ b=>(h.get? b).map λ o=>(b,o)
theorem j7 {fp:List Addr}{h:Heap}{b:Addr}{o:Obj} (hb:b∈fp) (e:h.get? b=some o):(b,o)∈qS fp h:=List.mem_filterMap.mpr ⟨b,hb,by rw[e];rfl⟩
theorem D3 {fp:List Addr}{h:Heap}{p:Addr×Obj} (hp:p∈qS fp h):p.1∈fp/\h.get? p.1=some p.2:=by
 obtain⟨b,hb,e⟩:=List.mem_filterMap.mp hp
 cases q:h.get? b with
 | none=>rw[q] at e;cases e
 | some o=>
  rw[q] at e
  have e':(b,o)=p:=abp e
  subst e'
  exact⟨hb,q⟩
theorem Inv.pinned {pins:List (Addr×Obj)}{σ:St}{H:Hp}{s:Shared}{fp:List Addr} (I:Inv X pins σ H s) (hf:∀ b∈fp,lZ X pins H b) (ho:∀ b∈fp,∃ o,s.heap.get? b=some o/\∀ v,o.data≠.cell v):Inv X (pins++qS fp s.heap) σ H s:=
 I.pins_of λ p hp=>(abc.mp hp).elim (λ z=>I.pin p (abm _ z)) λ z=>by
  obtain⟨hb,e⟩:=D3 z
  obtain⟨f0,f1,f2,_⟩:=hf p.1 hb
  obtain⟨o,e',d⟩:=ho p.1 hb
  rw[e] at e';cases e'
  exact⟨e,f0,f1,f2,d⟩
theorem Inv.unpinned {pins pl:List (Addr×Obj)}{σ:St}{H:Hp}{s:Shared} (I:Inv X (pins++pl) σ H s):Inv X pins σ H s:=I.pins_of λ p hp=>I.pin p (abm _ (abz _ hp))
theorem dY {iter:Expr}{body:List Stmt}{wi:TI}{g:TG}{tb:TS}{pos:Pos} (hp:PassesOwn (model X.prog X.w) X.A X.env X.xe) (hc:X.calm=true) (hi:PI X tg iter wi) (hg:PG X tg g) (hb:yC X body tb)
  (hs:∀ x,foldedSetIterable iter X.env x=pure x:=by intro _;rfl):PS X (.For tg iter body [] pos) (KN wi g tb):=by
 intro pins s σ H D I h
 refine wpAny_For (cW (hi pins s σ H _ I h) λ v s1 h1=>cW h1 λ itv s2 h2=>?_) hs
 obtain⟨it,fp,tn,J,H2,e,I2,T,st2,f2,W,⟨m0,w0⟩,turn⟩:=h2
 subst e
 have stat:∀ {H':Hp},(∀ b∈fp,H' b=none)->∀ b∈fp,lZ X pins H' b:=λ hn b hb=>⟨hn b hb,(f2 b hb).2⟩
 refine codeAny_forLoop_any (λ n s'=>∃ i Z H',Inv X pins Z H' s'/\tn i s'.heap/\(∀ b∈fp,H' b=none)/\W i n Z H') ?_ m0 ⟨0,σ,H2,I2,st2,λ b hb=>(f2 b hb).1,w0⟩
 rintro n s3 ⟨i,ap,H3,I3,st3,fr3,w3⟩
 rcases turn i n ap H3 w3 with ⟨stop,qn⟩ | ⟨go,N,hN,step⟩
 ·refine wpAny_passesOwn hp (cW (T.done X rfl rfl rfl hc i pins s3 ap H3 X.xe I3 (stat fr3) st3 stop) λ r s4 ⟨hr,I4⟩=>?_)
  subst hr
  exact wpAny_execs_nil ⟨ap,H3,I4,qn⟩
 ·refine wpAny_passesOwn hp (cW (T.item X rfl rfl rfl hc i pins s3 ap H3 X.xe I3 (stat fr3) st3 go) λ r s4 ⟨u,hr,h4⟩=>?_)
  subst hr
  refine wpAny_passesOwn hp (cW h4 λ _ s5 ⟨x,H5,I5,r5,y5,st5,fr5⟩=>?_)
  have I5':=I5.pinned (stat fr5) (T.obj _ _ st5)
  refine wpAny_passesOwn hp (cW (hg _ s5 ap H5 x u _ I5' r5 (step x H5 y5)) λ _ s6 ⟨σ6,H6,I6,q6⟩=>?_)
  refine wpAny_passesOwn hp (cW (hb _ s6 σ6 H6 _ I6 q6) λ f s7 q7=>?_)
  have again:∀ {cb:St}{H7:Hp},Inv X (pins++qS fp s5.heap) cb H7 s7->N cb H7->∃ m,m < n/\∃ i Z H',Inv X pins Z H' s7/\tn i s7.heap/\(∀ b∈fp,H' b=none)/\W i m Z H':=λ {cb H7} I7 n7=>by
   obtain⟨m',hm,w7⟩:=hN cb H7 n7
   refine⟨m',hm,i+1,cb,H7,I7.unpinned,T.keep _ _ _ st5 λ b hb o e=>(I7.pin (b,o) (abm _ (abm _ (j7 hb e)))).1,λ b hb=>?_,w7⟩
   obtain⟨o,e,d⟩:=T.obj _ _ st5 b hb
   exact (I7.pin (b,o) (abm _ (abm _ (j7 hb e)))).2.1
  cases f with
  | next=>obtain⟨cb,H7,I7,n7⟩:=q7;exact again I7 n7
  | cont=>obtain⟨cb,H7,I7,n7⟩:=q7;exact again I7 n7
  | brk=>obtain⟨cb,H7,I7,q7⟩:=q7;exact⟨cb,H7,I7.unpinned,q7⟩
  | ret v=>obtain⟨x7,cb,H7,I7,r7,q7⟩:=q7;exact⟨x7,cb,H7,I7.unpinned,r7,q7⟩
end
theorem rS {K:aaa}{a:Addr}{xs:List V}{g:TG}{tb:TS}{D:Ends}{σ:St}{H:Hp} (Pv:Nat->St->Hp->Prop) (h0:Pv 0 σ H) (hl:∀ i σ H,i<=xs.length->Pv i σ H->bO K H a xs)
  (hs:∀ i x σ H,xs[i]? = some x->Pv i σ H->g x σ H λ bg H2=>tb { D with nx:=Pv (i+1),ct:=Pv (i+1),bk:=D.nx } bg H2) (hd:∀ σ H,Pv xs.length σ H->D.nx σ H) :
  ∃ W:Nat->Nat->St->Hp->Prop,(∃ m,W 0 m σ H)/\∀ i m σ H,W i m σ H->
   ((M0 K a).stop i H/\D.nx σ H)\/((M0 K a).go i H/\∃ N:St->Hp->Prop,(∀ Z H',N Z H'->∃ m',m' < m/\W (i+1) m' Z H')/\∀ x H',(M0 K a).yld i H x H'->g x σ H' λ bg H2=>tb { D with nx:=N,ct:=N,bk:=D.nx } bg H2):=by
 refine⟨λ i m σ H=>m=xs.length - i/\i<=xs.length/\Pv i σ H,⟨xs.length,by simp,Nat.zero_le _,h0⟩,?_⟩
 rintro i m σ H ⟨rfl,hi,p⟩
 have q:=hl i σ H hi p
 by_cases hlt:i < xs.length
 ·refine .inr ⟨⟨xs,xs[i],q,by simp [hlt]⟩,Pv (i+1),λ Z H' p'=>⟨xs.length - (i+1),by omega,rfl,hlt,p'⟩,λ x H' y=>?_⟩
  obtain⟨e,y⟩:=y
  subst e
  exact hs i x σ _ (y xs q) p
 ·have e:i=xs.length:=by omega
  subst e
  exact .inl ⟨⟨xs,q,Nat.le_refl _⟩,hd σ H p⟩
theorem pK {K:aaa}{a:Addr}{xs:List V}{g:TG}{tb:TS}{D:Ends}{σ:St}{H:Hp} (Pv:Nat->St->Hp->Prop) (h0:Pv 0 σ H) (hl:∀ i σ H,i<=xs.length->Pv i σ H->bN K H a xs)
  (hs:∀ i x σ H,xs[i]? = some x->Pv i σ H->g x σ H λ bg H2=>tb { D with nx:=Pv (i+1),ct:=Pv (i+1),bk:=D.nx } bg H2) (hd:∀ σ H,Pv xs.length σ H->D.nx σ H) :
  ∃ W:Nat->Nat->St->Hp->Prop,(∃ m,W 0 m σ H)/\∀ i m σ H,W i m σ H->
   ((M7 K a).stop i H/\D.nx σ H)\/((M7 K a).go i H/\∃ N:St->Hp->Prop,(∀ Z H',N Z H'->∃ m',m' < m/\W (i+1) m' Z H')/\∀ x H',(M7 K a).yld i H x H'->g x σ H' λ bg H2=>tb { D with nx:=N,ct:=N,bk:=D.nx } bg H2):=by
 refine⟨λ i m σ H=>m=xs.length - i/\i<=xs.length/\Pv i σ H,⟨xs.length,by simp,Nat.zero_le _,h0⟩,?_⟩
 rintro i m σ H ⟨rfl,hi,p⟩
 have q:=hl i σ H hi p
 by_cases hlt:i < xs.length
 ·refine .inr ⟨⟨xs,xs[i],q,by simp [hlt]⟩,Pv (i+1),λ Z H' p'=>⟨xs.length - (i+1),by omega,rfl,hlt,p'⟩,λ x H' y=>?_⟩
  obtain⟨e,y⟩:=y
  subst e
  exact hs i x σ _ (y xs q) p
 ·have e:i=xs.length:=by omega
  subst e
  exact .inl ⟨⟨xs,q,Nat.le_refl _⟩,hd σ H p⟩
theorem fL {lo:Int}{n:Nat}{g:TG}{tb:TS}{D:Ends}{σ:St}{H:Hp} (Pv:Nat->St->Hp->Prop) (h0:Pv 0 σ H)
  (hs:∀ i σ H,i < n->Pv i σ H->g (.int (lo+i)) σ H λ bg H2=>tb { D with nx:=Pv (i+1),ct:=Pv (i+1),bk:=D.nx } bg H2) (hd:∀ σ H,Pv n σ H->D.nx σ H) :
  ∃ W:Nat->Nat->St->Hp->Prop,(∃ m,W 0 m σ H)/\∀ i m σ H,W i m σ H->
   ((KF lo n).stop i H/\D.nx σ H)\/((KF lo n).go i H/\∃ N:St->Hp->Prop,(∀ Z H',N Z H'->∃ m',m' < m/\W (i+1) m' Z H')/\∀ x H',(KF lo n).yld i H x H'->g x σ H' λ bg H2=>tb { D with nx:=N,ct:=N,bk:=D.nx } bg H2):=by
 refine⟨λ i m σ H=>m=n - i/\i<=n/\Pv i σ H,⟨n,by simp,Nat.zero_le _,h0⟩,?_⟩
 rintro i m σ H ⟨rfl,hi,p⟩
 by_cases hlt:i < n
 ·refine .inr ⟨hlt,Pv (i+1),λ Z H' p'=>⟨n - (i+1),by omega,rfl,hlt,p'⟩,λ x H' y=>?_⟩
  obtain⟨e,y⟩:=y
  subst e y
  exact hs i σ _ hlt p
 ·have e:i=n:=by omega
  subst e
  exact .inl ⟨Nat.le_refl _,hd σ H p⟩
end L2
namespace L2
open PySem PySem.Spec PyProof.Rows
noncomputable abbrev R2:=V->V->Hp->VK->Prop
noncomputable def g7 (X:Cx) (f:Value->Value->Sem Value) (r:R2):Prop:=
 ∀ (pins:List (Addr×Obj)) (s:Shared) (σ:St) (H:Hp) (x y:V) (v u:Value) (Q:VK),Inv X pins σ H s->bE x v->bE y u->r x y H Q->
  wpAny (model X.prog X.w) X.A (f v u) (EP X pins σ Q) X.xe s
noncomputable def UnR (X:Cx) (f:Value->Sem Value) (r:V->Hp->VK->Prop):Prop:=
 ∀ (pins:List (Addr×Obj)) (s:Shared) (σ:St) (H:Hp) (x:V) (v:Value) (Q:VK),Inv X pins σ H s->bE x v->r x H Q->
  wpAny (model X.prog X.w) X.A (f v) (EP X pins σ Q) X.xe s
noncomputable def eS (X:Cx) (f:Value) (r:List V->Hp->VK->Prop):Prop:=
 ∀ (pins:List (Addr×Obj)) (s:Shared) (σ:St) (H:Hp) (xs:List V) (us:List Value) (Q:VK),Inv X pins σ H s->bG xs us->r xs H Q->
  wpAny (model X.prog X.w) X.A (call f us) (EP X pins σ Q) X.xe s
noncomputable def iD (r:R2) (ta tb:TE):TE:=λ σ H Q=>ta σ H λ x H1=>tb σ H1 λ y H2=>r x y H2 Q
noncomputable def tUn (r:V->Hp->VK->Prop) (ta:TE):TE:=λ σ H Q=>ta σ H λ x H1=>r x H1 Q
noncomputable def rI (C:Int->Int->Prop) (g:Int->Int->V):R2:=λ x y H Q=>∃ i j,x=.int i/\y=.int j/\C i j/\Q (g i j) H
noncomputable def uR (g:Int->Int->V):R2:=λ x y H Q=>∃ i j,x=.int i/\y=.int j/\Q (g i j) H
noncomputable def rU (g:Int->V):V->Hp->VK->Prop:=λ x H Q=>∃ i,x=.int i/\Q (g i) H
section
variable {X:Cx}{a b c:Expr}{ta tb tc:TE}{pos:Pos}
theorem LV (ha:PE X a ta) (hb:PE X b tb) {pins:List (Addr×Obj)}{s:Shared}{σ:St}{H:Hp}{R:V->V->Hp->Prop} (I:Inv X pins σ H s)
  (h:ta σ H λ x H1=>tb σ H1 λ y H2=>R x y H2) {Q:Value->Shared->Prop}{f:Value->Value->Sem Value}
  (hf:∀ v u s2 x y H2,Inv X pins σ H2 s2->bE x v->bE y u->R x y H2->wpAny (model X.prog X.w) X.A (f v u) Q X.xe s2) :
  wpAny (model X.prog X.w) X.A (eval a X.env) (λ v ah=>wpAny (model X.prog X.w) X.A (eval b X.env) (λ u cj=>wpAny (model X.prog X.w) X.A (f v u) Q X.xe cj) X.xe ah) X.xe s:=by
 refine cW (ha pins s σ H _ I h) λ v s1 ⟨x,H1,I1,r1,q1⟩=>?_
 refine cW (hb pins s1 σ H1 _ I1 q1) λ u s2 ⟨y,H2,I2,r2,q2⟩=>?_
 exact hf v u s2 x y H2 I2 r1 r2 q2
theorem bA {op:Operator}{r:R2} (ho:g7 X (binaryOp op) r) (ha:PE X a ta) (hb:PE X b tb):PE X (.BinOp a op b pos) (iD r ta tb):=by
 intro pins s σ H Q I h
 exact wpAny_BinOp (LV ha hb I h λ v u s2 x y H2 I2 rx ry q=>ho pins s2 σ H2 x y v u Q I2 rx ry q)
theorem wV {op:UnaryOp}{r:V->Hp->VK->Prop} (ho:UnR X (unaryOp op) r) (ha:PE X a ta):PE X (.UnaryOp op a pos) (tUn r ta):=by
 intro pins s σ H Q I h
 exact UnaryOp_ (cW (ha pins s σ H _ I h) λ v s1 ⟨x,H1,I1,r1,q1⟩=>ho pins s1 σ H1 x v Q I1 r1 q1)
theorem N7 {f:Value->Value->Sem Value}{C:Int->Int->Prop}{g:Int->Int->Int}
  (rule:∀ (i j:Int) (t u:Tok) (s:Shared) (Q:Value->Shared->Prop) (E:Value->Shared->Prop),C i j->Q (.int (g i j) s.toks) { s with toks:=s.toks+1 }->wpAny (model X.prog X.w) X.A (f (.int i t) (.int j u)) Q E s) :
  g7 X f (rI C λ i j=>.int (g i j)):=by
 intro pins s σ H x y v u Q I rx ry h
 obtain⟨i,j,rfl,rfl,hc,q⟩:=h
 obtain⟨t,rfl⟩:=rx
 obtain⟨t',rfl⟩:=ry
 exact rule i j t t' s _ _ hc ⟨.int (g i j),H,I.tok _,⟨_,rfl⟩,q⟩
theorem N6 {f:Value->Value->Sem Value}{g:Int->Int->Int}
  (rule:∀ (i j:Int) (t u:Tok) (s:Shared) (Q:Value->Shared->Prop) (E:Value->Shared->Prop),Q (.int (g i j) s.toks) { s with toks:=s.toks+1 }->wpAny (model X.prog X.w) X.A (f (.int i t) (.int j u)) Q E s) :
  g7 X f (uR λ i j=>.int (g i j)):=by
 intro pins s σ H x y v u Q I rx ry h
 obtain⟨i,j,rfl,rfl,q⟩:=h
 obtain⟨t,rfl⟩:=rx
 obtain⟨t',rfl⟩:=ry
 exact rule i j t t' s _ _ ⟨.int (g i j),H,I.tok _,⟨_,rfl⟩,q⟩
theorem IX {f:Value->Value->Sem Value}{g:Int->Int->Bool}
  (rule:∀ (i j:Int) (t u:Tok) (s:Shared) (Q:Value->Shared->Prop) (E:Value->Shared->Prop),Q (.bool (g i j)) s->wpAny (model X.prog X.w) X.A (f (.int i t) (.int j u)) Q E s) :
  g7 X f (uR λ i j=>.bl (g i j)):=by
 intro pins s σ H x y v u Q I rx ry h
 obtain⟨i,j,rfl,rfl,q⟩:=h
 obtain⟨t,rfl⟩:=rx
 obtain⟨t',rfl⟩:=ry
 exact rule i j t t' s _ _ ⟨.bl (g i j),H,I,rfl,q⟩
noncomputable def M1 (i j:Int):Prop:=0 < j/\j < 1073741824
noncomputable def NN (i j:Int):Prop:=0<=j/\j<=1000000/\i.natAbs < 2 ^ 64
noncomputable def yA (i j:Int):Prop:=(-(2 ^ 64) < i/\i < 2 ^ 64)\/(-(2 ^ 64) < j/\j < 2 ^ 64)
theorem yA.ok {i j:Int} (h:yA i j):IntMulOk i j:=by
 rcases h with ⟨h1,h2⟩ | ⟨h1,h2⟩
 ·exact .of_left (intBits_le_64 h1 h2)
 ·exact .of_right (intBits_le_64 h1 h2)
theorem dG:g7 X (binaryOp .Add) (uR λ i j=>.int (i+j)):=N6 λ _ _ _ _ _ _ _ q=>add_int q
theorem fJ:g7 X (binaryOp .Sub) (uR λ i j=>.int (i - j)):=N6 λ _ _ _ _ _ _ _ q=>sub_int q
theorem lL:g7 X (binaryOp .Mult) (rI yA λ i j=>.int (i * j)):=N7 λ _ _ _ _ _ _ _ hc q=>mul_int q hc.ok
theorem kK:g7 X (binaryOp .FloorDiv) (rI M1 λ i j=>.int (i / j)):=N7 λ i j _ _ _ _ _ hc q=>by
 have h1:(0:Int) < j:=hc.1
 have h2:j < 1073741824:=hc.2
 exact floordiv_int (by omega) (by rw[Int.fdiv_eq_ediv_of_nonneg i (by omega)];exact q) (.inl (PyProof.noPylong_small (by omega)))
theorem qW:g7 X (binaryOp .Mod) (rI (λ _ j=>0 < j) λ i j=>.int (i % j)):=N7 λ i j _ _ _ _ _ hc q=>by
 have h1:(0:Int) < j:=hc
 exact mod_int' (by omega) (by rw[Int.fmod_eq_emod_of_nonneg i (by omega)];exact q)
theorem LC:g7 X (binaryOp .Pow) (rI NN λ i j=>.int (i ^ j.toNat)):=N7 λ _ _ _ _ _ _ _ hc q=>pow_int_small hc.1 hc.2.1 hc.2.2 q
theorem unI {f:Value->Sem Value}{g:Int->Int}
  (rule:∀ (i:Int) (t:Tok) (s:Shared) (Q:Value->Shared->Prop) (E:Value->Shared->Prop),Q (.int (g i) s.toks) { s with toks:=s.toks+1 }->wpAny (model X.prog X.w) X.A (f (.int i t)) Q E s) :
  UnR X f (rU λ i=>.int (g i)):=by
 intro pins s σ H x v Q I rx h
 obtain⟨i,rfl,q⟩:=h
 obtain⟨t,rfl⟩:=rx
 exact rule i t s _ _ ⟨.int (g i),H,I.tok _,⟨_,rfl⟩,q⟩
theorem pQ:UnR X (unaryOp .USub) (rU λ i=>.int (-i)):=unI λ _ _ _ _ _ q=>neg_int q
end
noncomputable def ML:V->V->Bool
 | .non,.non=>true | .non,.int _=>true | .int _,.non=>true | .non,.bl _=>true | .bl _,.non=>true | .non,.str _=>true | .str _,.non=>true
 | .int _,.int _=>true | .bl _,.bl _=>true | .str _,.str _=>true | .byt _,.byt _=>true
 | .int _,.str _=>true | .str _,.int _=>true | .bl _,.str _=>true | .str _,.bl _=>true
 | _,_=>false
noncomputable def rEq:R2:=λ x y H Q=>ML x y=true/\Q (.bl (decide (x=y))) H
noncomputable def rNe:R2:=λ x y H Q=>ML x y=true/\Q (.bl (!decide (x=y))) H
theorem BO {i j:Int}:decide (V.int i=V.int j)=(i == j):=by
 rw[Bool.eq_iff_iff]
 simp
theorem HE {i j:Bool}:decide (V.bl i=V.bl j)=(i == j):=by
 rw[Bool.eq_iff_iff]
 simp
theorem BN {i j:Str}:decide (V.str i=V.str j)=(i == j):=by
 rw[Bool.eq_iff_iff]
 simp
theorem BP {i j:Array UInt8}:decide (V.byt i=V.byt j)=(i.toList == j.toList):=by
 rw[Bool.eq_iff_iff]
 cases i
 cases j
 simp
section
variable {X:Cx}{a b c:Expr}{ta tb tc:TE}{pos:Pos}
theorem bX {pins:List (Addr×Obj)}{σ:St}{H:Hp}{s:Shared}{Q:VK}{k k':Bool} (I:Inv X pins σ H s) (q:Q (.bl k) H) (e:k=k'):EP X pins σ Q (.bool k') s:=by
 subst e
 exact⟨.bl k,H,I,rfl,q⟩
theorem tG:g7 X (compareOp .Eq) rEq:=by
 intro pins s σ H x y v u Q I rx ry h
 obtain⟨hs,q⟩:=h
 cases x with
 | non=>
  cases rx
  cases y with
  | non=>cases ry;exact PySem.EqNone.eq_none_none (bX I q (by simp))
  | bl j=>cases ry;exact PySem.EqNone.eq_none_bool (bX I q (by simp))
  | int j=>obtain⟨t',rfl⟩:=ry;exact PySem.EqNone.eq_none_int (bX I q (by simp))
  | str j=>obtain⟨t',rfl⟩:=ry;exact PySem.EqNone.eq_none_str (bX I q (by simp))
  | _=>exact absurd (show false=true from hs) aal
 | bl i=>
  cases rx
  cases y with
  | non=>cases ry;exact PySem.EqNone.eq_bool_none (bX I q (by simp))
  | bl j=>cases ry;exact eq_bool (bX I q HE)
  | str j=>obtain⟨t',rfl⟩:=ry;exact PySem.EqMixed.eq_bool_str (bX I q (by simp))
  | _=>exact absurd (show false=true from hs) aal
 | int i=>
  obtain⟨t,rfl⟩:=rx
  cases y with
  | non=>cases ry;exact PySem.EqNone.eq_int_none (bX I q (by simp))
  | int j=>obtain⟨t',rfl⟩:=ry;exact eq_int (bX I q BO)
  | str j=>obtain⟨t',rfl⟩:=ry;exact PySem.EqMixed.eq_int_str (bX I q (by simp))
  | _=>exact absurd (show false=true from hs) aal
 | str i=>
  obtain⟨t,rfl⟩:=rx
  cases y with
  | non=>cases ry;exact PySem.EqNone.eq_str_none (bX I q (by simp))
  | bl j=>cases ry;exact PySem.EqMixed.eq_str_bool (bX I q (by simp))
  | int j=>obtain⟨t',rfl⟩:=ry;exact PySem.EqMixed.eq_str_int (bX I q (by simp))
  | str j=>obtain⟨t',rfl⟩:=ry;exact eq_str (bX I q BN)
  | _=>exact absurd (show false=true from hs) aal
 | byt i=>
  obtain⟨t,rfl⟩:=rx
  cases y with
  | byt j=>obtain⟨t',rfl⟩:=ry;exact PySem.W.eq_bytes (bX I q BP)
  | _=>exact absurd (show false=true from hs) aal
 | _=>cases y <;> exact absurd (show false=true from hs) aal
theorem N4:g7 X (compareOp .NotEq) rNe:=by
 intro pins s σ H x y v u Q I rx ry h
 obtain⟨hs,q⟩:=h
 cases x with
 | non=>
  cases rx
  cases y with
  | non=>cases ry;exact PySem.EqNone.ne_none_none (bX I q (by simp))
  | bl j=>cases ry;exact PySem.EqNone.ne_none_bool (bX I q (by simp))
  | int j=>obtain⟨t',rfl⟩:=ry;exact PySem.EqNone.ne_none_int (bX I q (by simp))
  | str j=>obtain⟨t',rfl⟩:=ry;exact PySem.EqNone.ne_none_str (bX I q (by simp))
  | _=>exact absurd (show false=true from hs) aal
 | bl i=>
  cases rx
  cases y with
  | non=>cases ry;exact PySem.EqNone.ne_bool_none (bX I q (by simp))
  | bl j=>cases ry;exact ne_bool (bX I q (congrArg not HE))
  | str j=>obtain⟨t',rfl⟩:=ry;exact PySem.EqMixed.ne_bool_str (bX I q (by simp))
  | _=>exact absurd (show false=true from hs) aal
 | int i=>
  obtain⟨t,rfl⟩:=rx
  cases y with
  | non=>cases ry;exact PySem.EqNone.ne_int_none (bX I q (by simp))
  | int j=>obtain⟨t',rfl⟩:=ry;exact ne_int (bX I q (congrArg not BO))
  | str j=>obtain⟨t',rfl⟩:=ry;exact PySem.EqMixed.ne_int_str (bX I q (by simp))
  | _=>exact absurd (show false=true from hs) aal
 | str i=>
  obtain⟨t,rfl⟩:=rx
  cases y with
  | non=>cases ry;exact PySem.EqNone.ne_str_none (bX I q (by simp))
  | bl j=>cases ry;exact PySem.EqMixed.ne_str_bool (bX I q (by simp))
  | int j=>obtain⟨t',rfl⟩:=ry;exact PySem.EqMixed.ne_str_int (bX I q (by simp))
  | str j=>obtain⟨t',rfl⟩:=ry;exact ne_str (bX I q (congrArg not BN))
  | _=>exact absurd (show false=true from hs) aal
 | byt i=>
  obtain⟨t,rfl⟩:=rx
  cases y with
  | byt j=>obtain⟨t',rfl⟩:=ry;exact PySem.W.ne_bytes (bX I q (congrArg not BP))
  | _=>exact absurd (show false=true from hs) aal
 | _=>cases y <;> exact absurd (show false=true from hs) aal
theorem wZ:g7 X (compareOp .Lt) (uR λ i j=>.bl (decide (i < j))):=IX λ _ _ _ _ _ _ _ q=>lt_int q
theorem tF:g7 X (compareOp .LtE) (uR λ i j=>.bl (decide (i<=j))):=IX λ _ _ _ _ _ _ _ q=>le_int q
theorem FM:g7 X (compareOp .Gt) (uR λ i j=>.bl (decide (j < i))):=IX λ _ _ _ _ _ _ _ q=>gt_int q
theorem N5:g7 X (compareOp .GtE) (uR λ i j=>.bl (decide (j<=i))):=IX λ _ _ _ _ _ _ _ q=>ge_int q
theorem zG:g7 X (compareOp .Is) (λ x y H Q=>y=.non/\Q (.bl (decide (x=.non))) H):=by
 intro pins s σ H x y v u Q I rx ry h
 obtain⟨rfl,q⟩:=h
 cases ry
 refine is_none_gen (bX I q ?_)
 cases x <;> first
  | (cases rx;rfl)
  | (obtain⟨t,rfl⟩:=rx;rfl)
theorem g7.or {f:Value->Value->Sem Value}{r r':R2} (h:g7 X f r) (h':g7 X f r'):g7 X f (λ x y H Q=>r x y H Q\/r' x y H Q):=by
 intro pins s σ H x y v u Q I rx ry q
 rcases q with q | q
 ·exact h pins s σ H x y v u Q I rx ry q
 ·exact h' pins s σ H x y v u Q I rx ry q
theorem cR (b:Expr) {op:CmpOp} (h:op≠.In:=by decide) (h2:op≠.NotIn:=by decide):behindInMarks op b=false:=by
 have e1:(op == CmpOp.In)=false:=by cases op <;> first | rfl | exact absurd rfl h
 have e2:(op == CmpOp.NotIn)=false:=by cases op <;> first | rfl | exact absurd rfl h2
 cases b <;> simp [behindInMarks,e1,e2]
theorem g8 {op:CmpOp}{r:R2} (ho:g7 X (compareOp op) r) (ha:PE X a ta) (hb:PE X b tb) (hm:behindInMarks op b=false):PE X (.Compare a [op] [b] pos) (iD r ta tb):=by
 intro pins s σ H Q I h
 exact wpAny_Compare1 (LV ha hb I h λ v u s2 x y H2 I2 rx ry q=>ho pins s2 σ H2 x y v u Q I2 rx ry q) hm
noncomputable def A9 (t:TE):TT:=λ σ H Q=>t σ H λ x H'=>∃ k,x=.bl k/\Q k H'
theorem cT {op:CmpOp}{r:R2} (ho:g7 X (compareOp op) r) (ha:PE X a ta) (hb:PE X b tb) (hm:behindInMarks op b=false):PT X (.Compare a [op] [b] pos) (A9 (iD r ta tb)):=by
 intro pins s σ H Q I h
 refine wpAny_isTrue_Compare1 (cW (ha pins s σ H _ I h) λ v s1 ⟨x,H1,I1,r1,q1⟩=>cW (hb pins s1 σ H1 _ I1 q1) λ u s2 ⟨y,H2,I2,r2,q2⟩=>
  cW (ho pins s2 σ H2 x y v u _ I2 r1 r2 q2) λ c s3 ⟨z,H3,I3,r3,k,e,q3⟩=>?_) hm
 subst e
 cases r3
 exact wpAny_truthy_bool ⟨H3,I3,q3⟩
noncomputable def KQ (r r':R2) (ta tb tc:TE):TE:=λ σ H Q=>ta σ H λ x H1=>tb σ H1 λ y H2=>r x y H2 λ z H3=>∃ k,z=.bl k/\
 (if k=true then tc σ H3 λ w' H4=>r' y w' H4 Q else Q (.bl false) H3)
theorem qV {op op':CmpOp}{r r':R2} (ho:g7 X (compareOp op) r) (ho':g7 X (compareOp op') r') (ha:PE X a ta) (hb:PE X b tb) (hc:PE X c tc)
  (hm:lastMarks [op,op'] [b,c]=false:=by with_unfolding_all rfl):PE X (.Compare a [op,op'] [b,c] pos) (KQ r r' ta tb tc):=by
 intro pins s σ H Q I h
 refine Compare_chain (cW (ha pins s σ H _ I h) λ v s1 ⟨x,H1,I1,r1,q1⟩=>chain_link (cW (hb pins s1 σ H1 _ I1 q1) λ u s2 ⟨y,H2,I2,r2,q2⟩=>
  cW (ho pins s2 σ H2 x y v u _ I2 r1 r2 q2) λ d s3 ⟨z,H3,I3,r3,k,e,q3⟩=>?_)) hm
 subst e
 cases r3
 refine wpAny_truthy_bool ?_
 cases k with
 | false=>exact ite_ff ⟨.bl false,H3,I3,rfl,q3⟩
 | true=>exact ite_tt (chain_last (cW (hc pins s3 σ H3 _ I3 q3) λ w' s4 ⟨z',H4,I4,r4,q4⟩=>ho' pins s4 σ H4 y z' u w' Q I4 r2 r4 q4))
theorem rF:(sizeLine:Nat) < 2 ^ 63:=by rw[sizeLine_eq];decide
theorem pP {x:V}{us:List Value} (r:bG [x] us):∃ u,us=[u]/\bE x u:=by
 cases r with
 | cons r1 r2=>cases r2;exact⟨_,rfl,r1⟩
theorem JS {x y:V}{us:List Value} (r:bG [x,y] us):∃ u w',us=[u,w']/\bE x u/\bE y w':=by
 cases r with
 | cons r1 r2=>
  cases r2 with
  | cons r3 r4=>cases r4;exact⟨_,_,rfl,r1,r3⟩
theorem tT (hc:X.calm=true):eS X (.builtin "max") (λ xs H Q=>∃ i j,xs=[.int i,.int j]/\Q (.int (if j > i then j else i)) H):=by
 intro pins s σ H xs us Q I r h
 obtain⟨i,j,rfl,q⟩:=h
 obtain⟨u,w',rfl,⟨t,rfl⟩,⟨t',rfl⟩⟩:=JS r
 refine max_two_ints (I.ok.hd hc) λ h' tk k=>⟨_,H,I.kept k,?_,q⟩
 by_cases hj:j > i
 ·rw[if_pos hj,if_pos hj];exact⟨_,rfl⟩
 ·rw[if_neg hj,if_neg hj];exact⟨_,rfl⟩
theorem iT:eS X (.type "int") (λ xs H Q=>(∃ i,xs=[.int i]/\Q (.int i) H)\/∃ k,xs=[.bl k]/\Q (.int (if k then 1 else 0)) H):=by
 intro pins s σ H xs us Q I r h
 rcases h with ⟨i,rfl,q⟩ | ⟨k,rfl,q⟩
 ·obtain⟨u,rfl,t,rfl⟩:=pP r
  exact call_int_int ⟨.int i,H,I,⟨_,rfl⟩,q⟩
 ·obtain⟨u,rfl,r1⟩:=pP r
  cases r1
  exact call_int_bool ⟨.int (if k then 1 else 0),H,I.tok _,⟨_,rfl⟩,q⟩
end
end L2
namespace L2
open PySem PySem.Spec PyProof.Rows
structure ObjM (h:Heap) (x dx C:Addr) (mA:Str->Option Value):Prop where
 obj:h.get? x=some (PySem.W.instObj C dx)
 ns:h.Ns1 dx mA
 ne:dx≠x
theorem DA {h:Heap}{dx:Addr}{mA:Str->Option Value} (n:h.Ns1 dx mA):∃ od,h.get? dx=some od/\∀ name,PySem.W.lookIn name od=some (mA name):=by
 obtain⟨o,es,ep,ho,hd,hk,_,hm⟩:=n
 refine⟨o,ho,λ name=>?_⟩
 have e:=hm name
 unfold nsFind findBy at e
 rw[<- Array.find?_toList] at e
 unfold PySem.W.lookIn
 rw[hd]
 dsimp only
 split
 ·rename_i y q
  rw[q] at e
  exact congrArg some e
 ·rename_i q
  rw[q] at e
  have a:es.toList.any (·.refKey)=false:=by
   rw[List.any_eq_false]
   intro y hy
   obtain⟨z,t,hkey⟩:=hk y (Array.mem_toList_iff.mp hy)
   simp [DictEntry.refKey,hkey]
  have a':¬ es.toList.any (·.refKey)=true:=by rw[a];exact aal
  rw[if_neg a']
  exact congrArg some e
theorem ObjM.look {h:Heap}{x dx C:Addr}{mA:Str->Option Value} (I:ObjM h x dx C mA):∃ od,PySem.W.InstAt h x (PySem.W.instObj C dx) C (some od)/\∀ name,PySem.W.lookIn name od=some (mA name):=
 let ⟨od,ho,hl⟩:=DA I.ns
 ⟨od,⟨I.obj,rfl,rfl,ho⟩,hl⟩
section
variable {prog:Program}{w:World}{A:Around}{E:Value->Shared->Prop}{s:Shared}{K:aaa}{x dx C f:Addr}{mA:Str->Option Value}{name:Str}{v:Value}
theorem JH {expr:Bool}{Q:Value->Shared->Prop} (X:K.In s.heap) (I:ObjM s.heap x dx C mA) (hg:PySem.W.plainGet K C name=true) (hh:PySem.W.hasDictIn K C=true)
  (ha:PySem.W.findIn K (.ref C) name=some none) (hv:mA name=some v) (hv':PySem.W.handedIn v=true) (h:Q v { s with toks:=s.toks+1 }) :
  wpAny (model prog w) A (getAttr (.ref x) name expr) Q E s:=by
 obtain⟨od,J,hl⟩:=I.look
 exact PySem.W.get_value X J (PySem.W.plainGet_of hg).1 (PySem.W.findObj_own hh ha rfl (by rw[hl,hv])) hv' h
theorem GR {pl:Sem Bool}{Q:Value×List Value->Shared->Prop} (X:K.In s.heap) (I:ObjM s.heap x dx C mA) (hg:PySem.W.plainGet K C name=true)
  (hf:PySem.W.findIn K (.ref C) name=some (some (.ref f))) (ht:PySem.W.isFn K (.ref f)=true) (hv:mA name=none) (h:Q (.ref f,[.ref x]) s) :
  wpAny (model prog w) A (getMethod (.ref x) name pl) Q E s:=by
 obtain⟨od,J,hl⟩:=I.look
 exact PySem.W.method_fn X J (PySem.W.plainGet_of hg).1 (PySem.W.plainGet_of hg).2 hf (beq_iff_eq.mp ht) (by show (PySem.W.lookIn name od).map (·.isSome)=some false;rw[hl,hv];rfl) h
theorem IA {ns:List Str}{Q:Unit->Shared->Prop} (X:K.In s.heap) (I:ObjM s.heap x dx C mA)
  (hs:PySem.W.findIn K (.ref C) "__setattr__" = some (some (.builtin "object.__setattr__"))) (hp:PySem.W.plainOver K C=true) (ht:PySem.W.takerIn K C name=some none) (hh:PySem.W.hasDictIn K C=true)
  (hw:PySem.Within mA ns) (hsz:ns.length<=sizeLine)
  (h:∀ h',ObjM h' x dx C (λ y=>if y=name then some v else mA y)->Heap.SameBut dx s.heap h'->Q () { s with heap:=h',toks:=s.toks+2 }) :
  wpAny (model prog w) A (setAttr (.ref x) name v) Q E s:=by
 obtain⟨od,J,hl⟩:=I.look
 refine PySem.W.set_plain X J hs (PySem.W.osa_open (s:={ s with toks:=s.toks+1 }) (r:=none) X J hp ht λ b=>?_)
 obtain⟨cd,hc,hd'⟩:=PySem.W.any_some hh
 have hx:s.heap.get? x=some ⟨.ref C,some dx,.plain,#[]⟩:=I.obj
 refine wpAny_bind (wpAny_pure (wpAny_bind (wpAny_bind (wpAny_loadPart hx (wpAny_bind (PySem.W.Looks.here (s:={ s with toks:=s.toks+1 }) (PySem.W.looks_clsIn X hc) ?_))))))
 rw[hd']
 refine wpAny_pure (a:=some dx) (wpAny_bind (wpAny_pure (wpAny_bind ?_)))
 refine wpAny_nsSet1 (s:={ s with toks:=s.toks+1 }) I.ns λ h' hn2 hs2=>?_
 obtain⟨oD,esD,epD,hoD,hdD,hcD⟩:=hn2.count (PySem.Within.cons name v hw)
 refine wpAny_bind (wpAny_lookBehind hoD (by rw[hdD];exact pastItsLine_dict (abq hcD (by rw[aax];omega))) ?_)
 exact wpAny_pure (h _ ⟨(hs2.2 _ (Ne.symm I.ne)).trans I.obj,hn2,I.ne⟩ hs2)
theorem FV {R:Result->Shared->Prop}{vs:List Value}{kw:List (Str×Value)} (X:K.In s.heap) (hm:PySem.W.makesIn K C=true)
  (hi:PySem.W.findIn K (.ref C) "__init__" = some (some (.ref f))) (hf:PySem.W.typeIn K (.ref f)=some (.type "function"))
  (h:codeAny (model prog w) (A.under (.builtin "type.__call__" ⟨.ref C::vs,kw⟩)) (.call (.ref f) ⟨.ref (s.heap.objs.size+1)::vs,kw⟩) (PySem.W.InitBack (s.heap.objs.size+1) R)
   { s with heap:=(s.heap.push PySem.W.emptyDict).push (PySem.W.instObj C s.heap.objs.size) }) :
  codeAny (model prog w) A (.call (.ref C) ⟨vs,kw⟩) R s:=by
 obtain⟨hh,g,d,t,os⟩:=s
 exact PySem.W.make_core (PySem.W.makes_of X hm) (PySem.W.looks_findIn X hi) (λ self=>PySem.W.bind_fn X self hf) (.inl rfl) h
end
noncomputable def cB (f:Str) (v:V):List (Str×V)->List (Str×V)
 | []=>[(f,v)]
 | (g,x)::r=>if g=f then (g,v)::r else (g,x)::cB f v r
theorem oW (f g:Str) (v:V):∀ fs:List (Str×V),(cB f v fs).lookup g=if g=f then some v else fs.lookup g
 | []=>by
  show List.lookup g [(f,v)]=_
  by_cases h:g=f
  ·have hb:(g == f)=true:=beq_iff_eq.mpr h
   simp only [List.lookup,hb,if_pos h]
  ·have hb:(g == f)=false:=beq_eq_false_iff_ne.mpr h
   simp only [List.lookup,hb,if_neg h]
 | (k,x)::r=>by
  have ih:=oW f g v r
  rw[show cB f v ((k,x)::r)=(if k=f then (k,v)::r else (k,x)::cB f v r) from rfl]
  by_cases hk:k=f
  ·rw[if_pos hk]
   by_cases h:g=k
   ·have hb:(g == k)=true:=beq_iff_eq.mpr h
    simp only [List.lookup,hb,if_pos (h.trans hk)]
   ·have hb:(g == k)=false:=beq_eq_false_iff_ne.mpr h
    simp only [List.lookup,hb,if_neg (λ e:g=f=>h (e.trans hk.symm))]
  ·rw[if_neg hk]
   by_cases h:g=k
   ·have hb:(g == k)=true:=beq_iff_eq.mpr h
    simp only [List.lookup,hb,if_neg (λ e:g=f=>hk (h.symm.trans e))]
   ·have hb:(g == k)=false:=beq_eq_false_iff_ne.mpr h
    simp only [List.lookup,hb]
    exact ih
theorem o4 (f:Str) (v:V):∀ fs:List (Str×V),f∈(cB f v fs).map (·.1)/\∀ g,g∈fs.map (·.1)->g∈(cB f v fs).map (·.1)
 | []=>⟨by simp [cB],λ g h=>by simp at h⟩
 | (k,x)::r=>by
  obtain⟨i1,i2⟩:=o4 f v r
  rw[show cB f v ((k,x)::r)=(if k=f then (k,v)::r else (k,x)::cB f v r) from rfl]
  by_cases hk:k=f
  ·rw[if_pos hk]
   subst hk
   exact⟨by simp,λ g h=>by simpa using h⟩
  ·rw[if_neg hk]
   refine⟨?_,λ g h=>?_⟩
   ·rw[aaw]
    exact aam _ i1
   ·rw[aaw] at h ⊢
    rcases List.mem_cons.mp h with e | e
    ·exact List.mem_cons.mpr (.inl e)
    ·exact aam _ (i2 g e)
theorem oX (f:Str) (v:V):∀ fs:List (Str×V),(cB f v fs).length<=fs.length+1
 | []=>by simp [cB]
 | (k,x)::r=>by
  have ih:=oX f v r
  rw[show cB f v ((k,x)::r)=(if k=f then (k,v)::r else (k,x)::cB f v r) from rfl]
  by_cases hk:k=f
  ·rw[if_pos hk,aax,aax];omega
  ·rw[if_neg hk,aax,aax];omega
theorem jI.some_of {v:V}{o:Option Value} (r:jI (some v) o):∃ u,o=some u/\bE v u:=by
 cases o with
 | none=>exact (show False from r).elim
 | some u=>exact⟨u,rfl,r⟩
theorem jI.none_of {o:Option Value} (r:jI none o):o=none:=by
 cases o with
 | none=>rfl
 | some u=>exact (show False from r).elim
theorem DG {v:V}{u:Value} (r:bE v u):PySem.W.handedIn u=true:=by
 cases v with
 | non=>cases (show u=Value.none from r);rfl
 | bl b=>cases (show u=Value.bool b from r);rfl
 | int i=>obtain⟨t,e⟩:=(show ∃ t,u=Value.int i t from r);cases e;rfl
 | str x=>obtain⟨t,e⟩:=(show ∃ t,u=Value.str x t from r);cases e;rfl
 | byt b=>obtain⟨t,e⟩:=(show ∃ t,u=Value.bytes b t from r);cases e;rfl
 | flt b=>obtain⟨t,e⟩:=(show ∃ t,u=Value.float b t from r);cases e;rfl
 | ref a=>cases (show u=Value.ref a from r);rfl
 | ty n=>cases (show u=Value.type n from r);rfl
section
variable {P:Program}{w:World}{H H':Hp}{h h':Heap}{a C dx:Addr}{fs fs':List (Str×V)}
theorem pG (hok:lY P w H h) (e:H a=some (.ins C dx fs)):∃ mA,ObjM h a dx C mA/\(∀ f,jI (fs.lookup f) (mA f))/\PySem.Within mA (fs.map (·.1))/\fs.length<=1000/\H dx=some (.own a):=by
 obtain⟨d,z,ne,ob,mA,n,r,q⟩:=(show cN P w H h a (.ins C dx fs) from hok a _ e)
 exact⟨mA,⟨ob,n,ne⟩,r,q,z,d⟩
end
structure Cls (K:aaa) (C:Addr):Prop where
 pg:PySem.W.plainGet K C Str.empty=true
 hd:PySem.W.hasDictIn K C=true
 po:PySem.W.plainOver K C=true
 sa:PySem.W.findIn K (.ref C) "__setattr__" = some (some (.builtin "object.__setattr__"))
theorem Cls.get {K:aaa}{C:Addr} (c:Cls K C) (f:Str):PySem.W.plainGet K C f=true:=c.pg
noncomputable def hX (K:aaa) (C:Addr) (f:Str):Prop:=PySem.W.findIn K (.ref C) f=some none
theorem hX.taker {K:aaa}{C:Addr}{f:Str} (n:hX K C f):PySem.W.takerIn K C f=some none:=by
 unfold PySem.W.takerIn
 rw[show PySem.W.findIn K (.ref C) f=some none from n]
 rfl
structure Meth (K:aaa) (C:Addr) (m:Str) (f:Addr):Prop where
 at_:PySem.W.findIn K (.ref C) m=some (some (.ref f))
 fn:PySem.W.isFn K (.ref f)=true
 kp:PySem.W.keepIn K (.ref f)=true
section
variable {X:Cx}{pins:List (Addr×Obj)}{σ:St}{H:Hp}{s:Shared}{a C dx:Addr}{fs:List (Str×V)}{f:Str}{v:V}{A:Around}{E:Value->Shared->Prop}
theorem zX {b:Bool}{Q:Value->Shared->Prop} (I:Inv X pins σ H s) (e:H a=some (.ins C dx fs)) (c:Cls X.K C) (n:hX X.K C f) (l:fs.lookup f=some v)
  (h:∀ u s',Inv X pins σ H s'->bE v u->Q u s'):wpAny (model X.prog X.w) A (getAttr (.ref a) f b) Q E s:=by
 obtain⟨mA,O,r,_,_,_⟩:=pG I.hok e
 obtain⟨u,hu,ru⟩:=jI.some_of (v:=v) (o:=mA f) (by rw[<- l];exact r f)
 exact JH I.kIn O (c.get f) c.hd n hu (DG ru) (h u _ (I.tok _) ru)
theorem rQ {m:Str}{g:Addr}{pl:Sem Bool}{Q:Value×List Value->Shared->Prop} (I:Inv X pins σ H s) (e:H a=some (.ins C dx fs)) (c:Cls X.K C) (k:Meth X.K C m g) (l:fs.lookup m=none)
  (h:Q (.ref g,[.ref a]) s):wpAny (model X.prog X.w) A (getMethod (.ref a) m pl) Q E s:=by
 obtain⟨mA,O,r,_,_,_⟩:=pG I.hok e
 have hn:mA m=none:=jI.none_of (by rw[<- l];exact r m)
 exact GR I.kIn O (c.get m) k.at_ k.fn hn h
theorem yV {y:V}{u:Value}{Q:Unit->Shared->Prop} (I:Inv X pins σ H s) (e:H a=some (.ins C dx fs)) (c:Cls X.K C) (n:hX X.K C f) (hl:fs.length < 1000) (ry:bE y u)
  (h:∀ s',Inv X pins σ (upd H a (.ins C dx (cB f y fs))) s'->Q () s'):wpAny (model X.prog X.w) A (setAttr (.ref a) f u) Q E s:=by
 obtain⟨mA,O,r,wi,_,ho⟩:=pG I.hok e
 have hz:(fs.map (·.1)).length<=sizeLine:=by rw[aac,sizeLine_eq];omega
 refine IA I.kIn O c.sa c.po n.taker c.hd wi hz λ h' O' sb=>h _ ?_
 have hd:∃ o,h'.get? dx=some o:=let ⟨o,_,_,e',_⟩:=O'.ns;⟨o,e'⟩
 refine I.write (x:=a) (e:=dx) (by rw[e];exact True.intro) (.inr ho) (λ b q hb z=>(sb.2 b hb).trans z) hd ?_
 refine⟨by rw[aM O.ne];exact ho,?_,O.ne,O'.obj,_,O'.ns,λ g=>?_,λ g hg=>?_⟩
 ·have:=oX f y fs;omega
 ·show jI ((cB f y fs).lookup g) (if g=f then some u else mA g)
  rw[oW]
  by_cases q:g=f
  ·rw[if_pos q,if_pos q];exact ry
  ·rw[if_neg q,if_neg q];exact r g
 ·by_cases q:g=f
  ·rw[q];exact (o4 f y fs).1
  ·refine (o4 f y fs).2 g (wi g λ z=>hg ?_)
   show (if g=f then some u else mA g)=none
   rw[if_neg q];exact z
theorem Inv.made (I:Inv X pins σ H s):Inv X pins σ (upd (upd H s.heap.objs.size (.own (s.heap.objs.size+1))) (s.heap.objs.size+1) (.ins C s.heap.objs.size []))
  { s with heap:=(s.heap.push PySem.W.emptyDict).push (PySem.W.instObj C s.heap.objs.size) }:=by
 have e1:(s.heap.push PySem.W.emptyDict).get? s.heap.objs.size=some PySem.W.emptyDict:=aag s.heap rfl
 have e2:((s.heap.push PySem.W.emptyDict).push (PySem.W.instObj C s.heap.objs.size)).get? (s.heap.objs.size+1)=some (PySem.W.instObj C s.heap.objs.size):=by
  have:=aag (s.heap.push PySem.W.emptyDict) (o:=PySem.W.instObj C s.heap.objs.size) rfl
  rwa [abo] at this
 have e3:(s.heap.push PySem.W.emptyDict).Ns s.heap.objs.size (λ _=>none):=⟨PySem.W.emptyDict,#[],_,e1,rfl,(λ e he=>absurd he (by simp)),λ _=>rfl⟩
 have I1:=I.laid (a:=s.heap.objs.size) (o:=.own (s.heap.objs.size+1)) (h':=s.heap.push PySem.W.emptyDict) (t':=s.toks) (λ b u q=>aab _ q) (Nat.le_refl _) ⟨_,e1⟩
 refine I1.laid (a:=s.heap.objs.size+1) (o:=.ins C s.heap.objs.size []) (t':=s.toks) (λ b u q=>aab _ q) (Nat.le_of_eq (abo _ _)) ?_
 have ne:s.heap.objs.size≠s.heap.objs.size+1:=aay (Nat.lt_succ_self _)
 refine⟨by rw[aM ne,aB],Nat.zero_le _,ne,e2,λ _=>none,(Heap.Ns1.of_empty e3).at λ o q=>aab _ q,λ _=>True.intro,λ y hy=>absurd rfl hy⟩
theorem JN {prog:Program}{w:World}{env:Env}{e:Expr}{f:Str}{pos:Pos}{s:Shared}{Q:Value->Shared->Prop} (hb:attributeBase e f env (eval e env)=eval e env)
  (h:wpAny (model prog w) A (eval e env) (λ o ah=>wpAny (model prog w) A (getAttr o f true) Q E ah) E s):wpAny (model prog w) A (eval (.Attribute e f pos) env) Q E s:=
 Attribute_any_ h (by rw[arm_eval_Attribute,hb])
end
noncomputable def MG (K:aaa) (ta:TE) (f:Str):TE:=λ σ H Q=>ta σ H λ x H1=>∃ a C dx fs v,x=.ref a/\H1 a=some (.ins C dx fs)/\Cls K C/\hX K C f/\fs.lookup f=some v/\Q v H1
noncomputable def MM (K:aaa) (ta tv:TE) (f:Str):TS:=λ D σ H=>tv σ H λ y H1=>ta σ H1 λ x H2=>∃ a C dx fs,x=.ref a/\H2 a=some (.ins C dx fs)/\Cls K C/\hX K C f/\fs.length < 1000/\
 D.nx σ (upd H2 a (.ins C dx (cB f y fs)))
section
variable {X:Cx}{o e value:Expr}{f:Str}{pos pos' tpos:Pos}{ta tv:TE}
theorem LB (he:PE X e ta) (hb:attributeBase e f X.env (eval e X.env)=eval e X.env):PE X (.Attribute e f pos) (MG X.K ta f):=by
 intro pins s σ H Q I h
 refine JN hb (cW (he pins s σ H _ I h) λ u s1 ⟨x,H1,I1,rx,a,C,dx,fs,v,ex,ea,c,n,l,q⟩=>?_)
 subst ex
 obtain rfl:u=Value.ref a:=rx
 exact zX I1 ea c n l λ u' s2 I2 ru=>⟨v,H1,I2,ru,q⟩
theorem L5 (ha:PE X o ta) (hv:PE X value tv) (hs:swapsWith value (some (.Attribute o f pos')) pos.line X.env=pure false):PS X (.Assign [.Attribute o f pos'] value pos) (MM X.K ta tv f):=by
 intro pins s σ H D I h
 refine plainObj_wpAny_Assign_Attribute (cW (hv pins s σ H _ I h) λ u s1 ⟨y,H1,I1,ry,q⟩=>cW (ha pins s1 σ H1 _ I1 q) λ ov s2 ⟨x,H2,I2,rx,a,C,dx,fs,ex,ea,c,n,l,q2⟩=>?_) hs
 subst ex
 obtain rfl:ov=Value.ref a:=rx
 exact yV I2 ea c n l ry λ s3 I3=>⟨σ,_,I3,q2⟩
end
section
variable {X:Cx}{pins:List (Addr×Obj)}{σ:St}{H:Hp}{s:Shared}{A:Around}{E:Value->Shared->Prop}{Q:Value->Shared->Prop}{c:Value}{b:Bool}
inductive TyOf (K:aaa) (H:Hp):V->Value->Prop where
 | non:TyOf K H .non (.type "NoneType")
 | bl (x:Bool):TyOf K H (.bl x) (.type "bool")
 | int (i:Int):TyOf K H (.int i) (.type "int")
 | str (x:Str):TyOf K H (.str x) (.type "str")
 | flt (x:UInt64):TyOf K H (.flt x) (.type "float")
 | lst {a:Addr}{xs:List V} (e:H a=some (.lst xs)):TyOf K H (.ref a) (.type "list")
 | frz {a:Addr}{o:Obj}{xs:List V} (e:H a=some (.frz o (.lst xs))):TyOf K H (.ref a) (.type "list")
 | tup {a:Addr}{xs:List V} (e:H a=some (.tup xs)):TyOf K H (.ref a) (.type "tuple")
 | dK {a:Addr}{kvs:List (fQ×V)} (e:H a=some (.dK kvs)):TyOf K H (.ref a) (.type "dict")
 | dT {a:Addr}{kvs:List (List fQ×V)} (e:H a=some (.dT kvs)):TyOf K H (.ref a) (.type "dict")
 | ins {a C dx:Addr}{fs:List (Str×V)} (e:H a=some (.ins C dx fs)) (cl:Cls K C) (ha:PySem.W.findIn K (.ref C) "__class__" = some (some (.builtin "object.__class__")))
   (hn:PySem.W.specialIn K (.builtin "object.__class__") "__get__" = some (some (.builtin "getset_descriptor.__get__"))) (htk:PySem.W.takesIn K (.builtin "object.__class__")=some true)
   (hm:PySem.W.mroIn K C (.type "object")=some true):TyOf K H (.ref a) (.ref C)
theorem DD {x:V}{u t:Value} (I:Inv X pins σ H s) (rx:bE x u) (ty:TyOf X.K H x t) (e:PySem.W.kitOne X.K t c=some b) (h:∀ tk,Q (.bool b) { s with toks:=tk }) :
  wpAny (model X.prog X.w) A (call (.builtin "isinstance") [u,c]) Q E s:=by
 cases ty with
 | non=>cases (show u=Value.none from rx);exact PySem.W.kia_one PySem.W.kitx_none I.kIn True.intro e (λ z=>nomatch z) h
 | bl y=>cases (show u=Value.bool y from rx);exact PySem.W.kia_one PySem.W.kitx_bool I.kIn True.intro e (λ z=>nomatch z) h
 | int i=>obtain⟨t,q⟩:=(show ∃ t,u=Value.int i t from rx);cases q;exact PySem.W.kia_one PySem.W.kitx_int I.kIn True.intro e (λ z=>nomatch z) h
 | str y=>obtain⟨t,q⟩:=(show ∃ t,u=Value.str y t from rx);cases q;exact PySem.W.kia_one PySem.W.kitx_str I.kIn True.intro e (λ z=>nomatch z) h
 | flt y=>obtain⟨t,q⟩:=(show ∃ t,u=Value.float y t from rx);cases q;exact PySem.W.kia_one PySem.W.kitx_float I.kIn True.intro e (λ z=>nomatch z) h
 | @lst a xs ea=>
  cases (show u=Value.ref a from rx)
  obtain⟨_,_,n,_,h1⟩:=(show cN X.prog X.w H s.heap a (.lst xs) from I.hok a _ ea)
  exact PySem.W.kia_one PySem.W.kitx_list I.kIn ⟨_,h1,rfl⟩ e (λ z=>nomatch z) h
 | @frz a ob xs ea=>
  cases (show u=Value.ref a from rx)
  obtain⟨_,_,_,n,_,h1⟩:=(show cN X.prog X.w H s.heap a (.frz ob (.lst xs)) from I.hok a _ ea)
  exact PySem.W.kia_one PySem.W.kitx_list I.kIn ⟨_,h1,rfl⟩ e (λ z=>nomatch z) h
 | @tup a xs ea=>
  cases (show u=Value.ref a from rx)
  obtain⟨_,_,_,p⟩:=(show cN X.prog X.w H s.heap a (.tup xs) from I.hok a _ ea)
  obtain⟨o,h1,h2,_⟩:=p
  exact PySem.W.kia_one PySem.W.kitx_tuple I.kIn ⟨o,h1,h2⟩ e (λ z=>nomatch z) h
 | @dK a kvs ea=>
  cases (show u=Value.ref a from rx)
  obtain⟨_,_,vs,_,p⟩:=(show cN X.prog X.w H s.heap a (.dK kvs) from I.hok a _ ea)
  obtain⟨o,es,ep,h1,h2,_⟩:=p
  exact PySem.W.kia_one PySem.W.kitx_dict I.kIn ⟨o,h1,h2.1⟩ e (λ z=>nomatch z) h
 | @dT a kvs ea=>
  cases (show u=Value.ref a from rx)
  obtain⟨_,_,xs,_,o,es,ep,h1,h2,_⟩:=(show cN X.prog X.w H s.heap a (.dT kvs) from I.hok a _ ea)
  exact PySem.W.kia_one PySem.W.kitx_dict I.kIn ⟨o,h1,h2.1⟩ e (λ z=>nomatch z) h
 | @ins a C dx fs ea cl ha hn htk hm=>
  cases (show u=Value.ref a from rx)
  obtain⟨mA,O,_⟩:=pG I.hok ea
  obtain⟨od,J,_⟩:=O.look
  exact PySem.W.kia_one (PySem.W.kitx_own (cl.get _) cl.hd ha hn htk hm) I.kIn J e (λ z=>nomatch z) h
end
end L2
namespace L2
open PySem PySem.Spec PyProof.Rows
structure Room (k:Nat) (A:Around):Prop where
 hd:A.handled=none
 dp:A.depth+3 * k+5 < recursionLimit
 un:A.units+16 * k+200 < cLine
theorem Room.mono {j k:Nat}{A:Around} (r:Room k A) (h:j<=k):Room j A:=⟨r.hd,by have:=r.dp;omega,by have:=r.un;omega⟩
theorem Room.deeper {k:Nat}{A:Around} (r:Room (k+1) A) (env:Env):Room k (A.deeper env):=
 ⟨r.hd,by have:=r.dp;show A.depth+1+3 * k+5 < _;omega,by have:=r.un;show A.units+3+16 * k+200 < _;omega⟩
theorem zR {A:Around}{C:Addr}{us:List Value}{kw:List (Str×Value)}:(A.under (.builtin "type.__call__" ⟨.ref C::us,kw⟩)).depth=A.depth+1:=by
 first | rfl | simp [Around.under,Code.weight,Code.isCreation,Code.isGuard,Code.isCaller,Code.frames,Code.isFrame,guardIds]
theorem zQ {A:Around}{C:Addr}{us:List Value}{kw:List (Str×Value)}:(A.under (.builtin "type.__call__" ⟨.ref C::us,kw⟩)).units=A.units+1:=by
 first | rfl | simp [Around.under,Code.cUnits,Code.frames,Code.isFrame]
theorem Room.make {k:Nat}{A:Around} (r:Room (k+1) A) (C:Addr) (us:List Value) (kw:List (Str×Value)):Room k (A.under (.builtin "type.__call__" ⟨.ref C::us,kw⟩)):=
 ⟨r.hd,by have:=r.dp;rw[zR];omega,by have:=r.un;rw[zQ];omega⟩
theorem Room.depth {k:Nat}{A:Around} (r:Room k A):A.depth < recursionLimit:=by have:=r.dp;omega
theorem Room.units {k:Nat}{A:Around} (r:Room k A):A.units+64 < cLine:=by have:=r.un;omega
noncomputable def jF:TA:=λ _ H Q=>Q [] H
noncomputable def dR (ta:TE) (tr:TA):TA:=λ σ H Q=>ta σ H λ x H1=>tr σ H1 λ xs H2=>Q (x::xs) H2
section
variable {X:Cx}{e:Expr}{es:List Expr}{te:TE}{t:TA}{pos:Pos}
theorem aD:PA X [] jF:=λ _ _ _ _ H Q I h=>Calls.spliced_nil ⟨[],H,I,.nil,h⟩
theorem aA (ha:PE X e te) (hr:PA X es t) (hs:starEach (e::es) X.env=(false,eval e X.env)::starEach es X.env:=by rfl):PA X (e::es) (dR te t):=by
 intro pos pins s σ H Q I h
 rw[hs]
 show wpAny _ _ (spliced ((false,eval e X.env)::backTo pos (starEach es X.env))) _ _ s
 refine Calls.spliced_cons (cW (ha pins s σ H _ I h) λ u s1 ⟨x,H1,I1,r1,q1⟩=>?_)
 exact cW (hr pos pins s1 σ H1 _ I1 q1) λ us s2 ⟨xs,H2,I2,r2,q2⟩=>⟨x::xs,H2,I2,.cons r1 r2,q2⟩
noncomputable def tTup (t:TA):TE:=λ σ H Q=>t σ H λ xs H1=>xs.length<=sizeLine/\∀ p,H1 p=none->Q (.ref p) (upd H1 p (.tup xs))
noncomputable def HX (t:TA):TE:=λ σ H Q=>t σ H λ xs H1=>xs.length<=sizeLine/\∀ p,H1 p=none->Q (.ref p) (upd H1 p (.lst xs))
theorem bS {x1} (h:PA X es t):PE X (.Tuple es x1 pos) (tTup t):=by
 intro pins s σ H Q I hq
 refine wpAny_Tuple_spliced (cW (h pos pins s σ H _ I hq) λ us s1 ⟨xs,H1,I1,r,z,q⟩=>⟨by rw[<- r.length];exact z,?_⟩)
 have hf:H1 s1.heap.objs.size=none:=I1.hok.fresh (Nat.le_refl _)
 refine⟨.ref s1.heap.objs.size,upd H1 s1.heap.objs.size (.tup xs),I1.laid (t':=s1.toks) (λ b u e=>aab _ e) (Nat.le_refl _) ?_,rfl,q _ hf⟩
 exact⟨z,us,r,⟨_,aag _ rfl,rfl,_,rfl⟩⟩
theorem bP (h:PA X es t):PE X (.List es pos) (HX t):=by
 intro pins s σ H Q I hq
 refine wpAny_List_spliced (cW (h pos pins s σ H _ I hq) λ us s1 ⟨xs,H1,I1,r,z,q⟩=>⟨by rw[<- r.length];exact z,?_⟩)
 have hf:H1 s1.heap.objs.size=none:=I1.hok.fresh (Nat.le_refl _)
 refine⟨.ref s1.heap.objs.size,upd H1 s1.heap.objs.size (.lst xs),I1.laid (t':=s1.toks) (λ b u e=>aab _ e) (Nat.le_refl _) ?_,rfl,q _ hf⟩
 exact⟨z,us,0,r,aag _ rfl⟩
end
noncomputable abbrev Sp:=List V->Hp->VK->XK->Prop
noncomputable abbrev DZ:=List Env->Hp->Shared->XK->Value->Shared->Prop
structure Env0 (P:Program) (w:World) (K:aaa) (mg:Str->Option Value) (base:Heap) (A:Around) (outer:List Env) (s:Shared) (H:Hp):Prop where
 frames:A.frames=some outer
 mod:Mod K mg base
 bs:∀ b o,base.get? b=some o->s.heap.get? b=some o/\H b=none
 bsz:base.objs.size<=s.heap.objs.size
 funs:s.heap.FunFrames base outer
 frf:∀ b∈mC outer,H b=none
 hok:lY P w H s.heap
 bare:AllBare s.gens
noncomputable def CE (outer:List Env) (P:Program) (w:World) (H:Hp) (s:Shared) (Q:VK) (u:Value) (s':Shared):Prop:=
 ∃ v H',s'.os=s.os/\AllBare s'.gens/\Un (mC outer) [] H H' s.heap s'.heap/\lY P w H' s'.heap/\bE v u/\Q v H'
noncomputable def CR (CX:DZ) (outer:List Env) (P:Program) (w:World) (H:Hp) (s:Shared) (Q:VK) (E:XK) (r:Result) (s':Shared):Prop:=
 match r with
 | .ok (.ret u)=>CE outer P w H s Q u s'
 | .ok _=>False
 | .error e=>CX outer H s E e s'
structure FnOk (P:Program) (w:World) (K:aaa) (mg:Str->Option Value) (base:Heap) (CX:DZ) (k:Nat) (f:Addr) (fd:FuncData) (ps:List Str) (sp:Sp):Prop where
 len:∀ vs H Q E,sp vs H Q E->vs.length=ps.length
 run:∀ (A:Around) (outer:List Env) (s:Shared) (H:Hp) (args:Args) (us:List Value) (vs:List V) (Q:VK) (E:XK),Room k A->Env0 P w K mg base A outer s H->BindsTo s fd args (ps.zip us)->bG vs us->sp vs H Q E->
  codeAny (model P w) A (.call (.ref f) args) (CR CX outer P w H s Q E) s
theorem FnOk.imp {P:Program}{w:World}{K:aaa}{mg:Str->Option Value}{base:Heap}{CX:DZ}{k:Nat}{f:Addr}{fd:FuncData}{ps:List Str}{sp sp':Sp} (F:FnOk P w K mg base CX k f fd ps sp)
  (h:∀ vs H Q E,sp' vs H Q E->sp vs H Q E):FnOk P w K mg base CX k f fd ps sp':=
 ⟨λ vs H Q E q=>F.len vs H Q E (h _ _ _ _ q),λ A outer s H args us vs Q E hr he hb hv hs=>F.run A outer s H args us vs Q E hr he hb hv (h _ _ _ _ hs)⟩
theorem Env0.make {P:Program}{w:World}{K:aaa}{mg:Str->Option Value}{base:Heap}{A:Around}{outer:List Env}{s:Shared}{H:Hp} (e:Env0 P w K mg base A outer s H) (C:Addr) (us:List Value) (kw:List (Str×Value)) :
  Env0 P w K mg base (A.under (.builtin "type.__call__" ⟨.ref C::us,kw⟩)) outer s H:=⟨by first | exact e.frames | (simpa [Around.under,Code.envs,Code.isFrame,pushEnvs] using e.frames),e.mod,e.bs,e.bsz,e.funs,e.frf,e.hok,e.bare⟩
section
variable {X:Cx}{pins:List (Addr×Obj)}{σ:St}{H:Hp}{s s':Shared}
theorem Inv.env0 (I:Inv X pins σ H s):Env0 X.prog X.w X.K X.mg X.base X.A X.stack s H:=
 ⟨I.ok.frames,I.ok.mod,I.bs,abq I.ok.bsz I.sz,I.stack,I.stkFree,I.hok,I.bare⟩
theorem Inv.after {Q:VK}{u:Value} (I:Inv X pins σ H s) (h:CE X.stack X.prog X.w H s Q u s'):EP X pins σ Q u s':=by
 obtain⟨v,H',os,bare,un,hok,r,q⟩:=h
 obtain⟨hh,g,d,t,os'⟩:=s'
 obtain rfl:os'=s.os:=os
 exact⟨v,H',I.call (h':=hh) (g':=g) (d':=d) (t':=t) (ch:=[]) un hok bare (λ b z=>absurd z (by simp)),r,q⟩
end
noncomputable def pZ (sp:Sp) (dvs:List V) (E:XK) (t:TA):TE:=λ σ H Q=>t σ H λ vs H1=>sp (vs++dvs) H1 Q E
noncomputable def wC (C:Addr) (m:Str) (sp:Sp) (dvs:List V) (E:XK) (ta:TE) (t:TA):TE:=λ σ H Q=>ta σ H λ x H1=>∃ a dx fs,x=.ref a/\H1 a=some (.ins C dx fs)/\fs.lookup m=none/\
 t σ H1 λ vs H2=>sp (x::(vs++dvs)) H2 Q E
noncomputable def ME (C:Addr) (sp:Sp) (dvs:List V) (E:XK) (t:TA):TE:=λ σ H Q=>t σ H λ vs H1=>∀ x dx,H1 x=none->H1 dx=none->dx≠x->
 sp (.ref x::(vs++dvs)) (upd (upd H1 dx (.own x)) x (.ins C dx [])) (λ v H2=>v=.non/\Q (.ref x) H2) E
noncomputable def iU (K:aaa) (fd:FuncData) (ps:List Str) (ds:List Value):Prop:=
 ∀ (s:Shared) (us:List Value),K.In s.heap->(us++ds).length=ps.length->BindsTo s fd ⟨us,[]⟩ (ps.zip (us++ds))
theorem iU.all {K:aaa}{fd:FuncData}{ps:List Str} (h:∀ us:List Value,us.length=ps.length->bindArgs fd ⟨us,[]⟩=pure (ps.zip us)):iU K fd ps []:=λ s us _ hl=>by
 rw[ack] at hl ⊢
 exact .of_eq (h us hl)
noncomputable def gT (CX:DZ) (X:Cx) (E:XK):Prop:=∀ (pins:List (Addr×Obj)) (σ:St) (H:Hp) (s:Shared) (e:Value) (s':Shared),Inv X pins σ H s->CX X.stack H s E e s'->X.xe e s'
section
variable {X:Cx}{CX:DZ}{k:Nat}{f C:Addr}{fd:FuncData}{ps:List Str}{sp:Sp}{dvs:List V}{ds:List Value}{E:XK}{x m:Str}{p pos apos:Pos}{e o:Expr}{es:List Expr}{ta:TE}{t:TA}
theorem yW {pins:List (Addr×Obj)}{σ:St}{H:Hp}{s:Shared}{Q:VK}{us:List Value}{vs:List V} (F:FnOk X.prog X.w X.K X.mg X.base CX k f fd ps sp) (hr:Room k X.A) (hb:iU X.K fd ps ds) (hd:bG dvs ds) (hx:gT CX X E)
  (I:Inv X pins σ H s) (r:bG vs us) (h:sp (vs++dvs) H Q E):wpAny (model X.prog X.w) X.A (call (.ref f) us) (EP X pins σ Q) X.xe s:=by
 have r2:bG (vs++dvs) (us++ds):=r.append hd
 have hl:(us++ds).length=ps.length:=by rw[<- r2.length];exact F.len _ _ _ _ h
 refine wpAny_call (codeAny_mono (F.run X.A X.stack s H ⟨us,[]⟩ (us++ds) (vs++dvs) Q E hr I.env0 (hb s us I.kIn hl) r2 h) λ r s' hq=>?_)
 cases r with
 | error e=>exact hx pins σ H s e s' I hq
 | ok fl=>
  cases fl with
  | ret u=>exact I.after hq
  | next=>exact False.elim hq
  | brk=>exact False.elim hq
  | cont=>exact False.elim hq
theorem kJ (F:FnOk X.prog X.w X.K X.mg X.base CX k f fd ps sp) (hr:Room k X.A) (hg:Gl X x) (hm:X.mg x=some (.ref f)) (hk:PySem.W.keepIn X.K (.ref f)=true) (hb:iU X.K fd ps ds) (hd:bG dvs ds) (hx:gT CX X E)
  (ha:PA X (e::es) t) (hdb:(x == ("__debug__" : Str))=false:=by decide) (he:starEach (e::es) X.env=(false,eval e X.env)::starEach es X.env:=by rfl) (hpl:(backTo pos (starEach es X.env)).any (·.1)=false:=by rfl) :
  PE X (.Call (.Name x p) (e::es) [] pos) (pZ sp dvs E t):=by
 intro pins s σ H Q I h
 refine wpAny_Call_Name_kw (mZ I hg hm ?_ hdb)
 refine PySem.W.callWith_K (h₀:=X.base) I.ok.mod.kin hk (cW (ha pos pins s σ H _ I h) λ us s1 ⟨vs,H1,I1,r,q⟩=>⟨I1.kIn,?_⟩) he hpl
 exact yW F hr hb hd hx I1 r q
theorem mQ {pl:Sem Bool} (he:PE X o ta) (c:Cls X.K C) (hm:Meth X.K C m f) (F:FnOk X.prog X.w X.K X.mg X.base CX k f fd ps sp) (hr:Room k X.A) (hb:iU X.K fd ps ds) (hd:bG dvs ds) (hx:gT CX X E) (ha:PA X (e::es) t)
  (hst:starEach (e::es) X.env=(false,eval e X.env)::starEach es X.env:=by rfl) (hpl:(backTo pos (starEach es X.env)).any (·.1)=false:=by rfl)
  (ht:eval (.Call (.Attribute o m apos) (e::es) [] pos) X.env=(do
   let ov <- eval o X.env
   standAt apos.atName
   let (f,first) <- holding [ov] (getMethod ov m pl)
   callWith pos f first (backTo pos (starEach (e::es) X.env)) (backToKw pos (keywordEach [] X.env))):=by rfl) :
  PE X (.Call (.Attribute o m apos) (e::es) [] pos) (wC C m sp dvs E ta t):=by
 intro pins s σ H Q I h
 refine PySem.W.methodCall_KW (pl:=pl) (cW (he pins s σ H _ I h) λ u s1 ⟨x,H1,I1,rx,a,dx,fs,ex,ea,l,q⟩=>?_) ht
 subst ex
 obtain rfl:u=Value.ref a:=rx
 refine rQ I1 ea c hm l ?_
 refine PySem.W.callWith_K (first:=[.ref a]) (h₀:=X.base) I.ok.mod.kin hm.kp (cW (ha pos pins s1 σ H1 _ I1 q) λ us s2 ⟨vs,H2,I2,r,q2⟩=>⟨I2.kIn,?_⟩) hst hpl
 exact yW (us:=.ref a::us) (vs:=.ref a::vs) F hr hb hd hx I2 (.cons rfl r) q2
theorem mP {pl:Sem Bool} (he:PE X o ta) (c:Cls X.K C) (hm:Meth X.K C m f) (F:FnOk X.prog X.w X.K X.mg X.base CX k f fd ps sp) (hr:Room k X.A) (hb:iU X.K fd ps ds) (hd:bG dvs ds) (hx:gT CX X E)
  (ht:eval (.Call (.Attribute o m apos) [] [] pos) X.env=(do
   let ov <- eval o X.env
   standAt apos.atName
   let (f,first) <- holding [ov] (getMethod ov m pl)
   callWith pos f first (backTo pos (starEach [] X.env)) (backToKw pos (keywordEach [] X.env))):=by rfl) :
  PE X (.Call (.Attribute o m apos) [] [] pos) (wC C m sp dvs E ta jF):=by
 intro pins s σ H Q I h
 refine PySem.W.methodCall_KW (pl:=pl) (cW (he pins s σ H _ I h) λ u s1 ⟨x,H1,I1,rx,a,dx,fs,ex,ea,l,q⟩=>?_) ht
 subst ex
 obtain rfl:u=Value.ref a:=rx
 refine rQ I1 ea c hm l ?_
 exact PySem.W.callWith_K0 (first:=[.ref a]) I1.kIn hm.kp (yW (us:=[.ref a]) (vs:=[.ref a]) F hr hb hd hx I1 (.cons rfl .nil) q)
structure Mk (K:aaa) (C f:Addr):Prop where
 makes:PySem.W.makesIn K C=true
 init:PySem.W.findIn K (.ref C) "__init__" = some (some (.ref f))
 fn:PySem.W.isFn K (.ref f)=true
 kp:PySem.W.keepIn K (.ref C)=true
theorem EM {pins:List (Addr×Obj)}{σ:St}{H:Hp}{s:Shared}{Q:VK}{us:List Value}{vs:List V} (M:Mk X.K C f) (F:FnOk X.prog X.w X.K X.mg X.base CX k f fd ps sp) (hr:Room (k+1) X.A) (hb:iU X.K fd ps ds) (hd:bG dvs ds)
  (hx:gT CX X E) (I:Inv X pins σ H s) (r:bG vs us)
  (h:∀ x dx,H x=none->H dx=none->dx≠x->sp (.ref x::(vs++dvs)) (upd (upd H dx (.own x)) x (.ins C dx [])) (λ v H2=>v=.non/\Q (.ref x) H2) E) :
  wpAny (model X.prog X.w) X.A (call (.ref C) us) (EP X pins σ Q) X.xe s:=by
 have hq:=h (s.heap.objs.size+1) s.heap.objs.size (I.hok.fresh (Nat.le_succ _)) (I.hok.fresh (Nat.le_refl _)) (aay (Nat.lt_succ_self _))
 have I2:=Inv.made (C:=C) I
 have r2:bG (V.ref (s.heap.objs.size+1)::(vs++dvs)) (Value.ref (s.heap.objs.size+1)::(us++ds)):=.cons rfl (r.append hd)
 have hl:(Value.ref (s.heap.objs.size+1)::us++ds).length=ps.length:=by
  have e:=r2.length
  rw[F.len _ _ _ _ hq] at e
  exact e.symm
 refine wpAny_call (FV (f:=f) I.kIn M.makes M.init (beq_iff_eq.mp M.fn) (codeAny_mono (F.run _ X.stack _ _ ⟨Value.ref (s.heap.objs.size+1)::us,[]⟩ (Value.ref (s.heap.objs.size+1)::(us++ds)) _ _ E (hr.make C us [])
  (I2.env0.make C us []) (hb _ (Value.ref (s.heap.objs.size+1)::us) I2.kIn hl) r2 hq) λ r s' hq'=>?_))
 cases r with
 | error e=>exact hx pins σ _ _ e s' I2 hq'
 | ok fl=>
  cases fl with
  | ret u=>
   obtain⟨v,H',I3,rv,ev,q3⟩:=I2.after hq'
   subst ev
   exact⟨rv,⟨V.ref (s.heap.objs.size+1),H',I3,rfl,q3⟩⟩
  | next=>exact False.elim hq'
  | brk=>exact False.elim hq'
  | cont=>exact False.elim hq'
theorem AY (M:Mk X.K C f) (F:FnOk X.prog X.w X.K X.mg X.base CX k f fd ps sp) (hr:Room (k+1) X.A) (hg:Gl X x) (hm:X.mg x=some (.ref C)) (hb:iU X.K fd ps ds) (hd:bG dvs ds) (hx:gT CX X E)
  (ha:PA X (e::es) t) (hdb:(x == ("__debug__" : Str))=false:=by decide) (he:starEach (e::es) X.env=(false,eval e X.env)::starEach es X.env:=by rfl) (hpl:(backTo pos (starEach es X.env)).any (·.1)=false:=by rfl) :
  PE X (.Call (.Name x p) (e::es) [] pos) (ME C sp dvs E t):=by
 intro pins s σ H Q I h
 refine wpAny_Call_Name_kw (mZ I hg hm ?_ hdb)
 refine PySem.W.callWith_K (h₀:=X.base) I.ok.mod.kin M.kp (cW (ha pos pins s σ H _ I h) λ us s1 ⟨vs,H1,I1,r,q⟩=>⟨I1.kIn,?_⟩) he hpl
 exact EM M F hr hb hd hx I1 r q
end
section
variable {X:Cx}{CX:DZ}{k:Nat}{f C:Addr}{fd:FuncData}{ps ks:List Str}{sp:Sp}{E:XK}{x m:Str}{p pos apos kpos:Pos}{e o:Expr}{es:List Expr}{kws:List Keyword}{te ta:TE}{t tk:TA}{nm:Option Str}
variable {g:List Value->List Value->List Value}{gV:List V->List V->List V}
end
structure FnScope (N P:List Str) (sc:Scope):Prop where
 kind:sc.kind=.function
 co:sc.isCoroutine=false
 gen:sc.isGenerator=false
 nd:N.Nodup
 pre:N.take P.length=P
 par:∀ x∈P,sc.names.lookup x=some .local\/sc.names.lookup x=some .cell
 nofree:∀ y∈sc.names,y.2≠.free
theorem tU {kindOf:Str->Option NameKind}{x:Str}:∀ {binds:List (Str×Value)}{m:Str->Option Value},(∀ v,(x,v)∉binds)->bindL kindOf binds m x=m x
 | [],_,_=>rfl
 | (n,v)::r,m,h=>by
  unfold bindL
  rw[tU λ w hw=>h w (aam _ hw)]
  split
  ·have:x≠n:=by rintro rfl;exact h v aas
   simp [this]
  ·rfl
theorem tW {kindOf:Str->Option NameKind}{x:Str}:∀ {binds:List (Str×Value)}{m:Str->Option Value},(∀ v,(x,v)∉binds)->bindC kindOf binds m x=m x
 | [],_,_=>rfl
 | (n,v)::r,m,h=>by
  unfold bindC
  rw[tW λ w hw=>h w (aam _ hw)]
  split
  ·rfl
  ·have:x≠n:=by rintro rfl;exact h v aas
   simp [this]
theorem tV {kindOf:Str->Option NameKind}{x:Str}{v:Value}:∀ {P:List Str}{vs:List Value}{i:Nat}{m:Str->Option Value},P.Nodup->P[i]? = some x->vs[i]? = some v->kindOf x=some .local->
  bindL kindOf (P.zip vs) m x=some v
 | [],_,_,_,_,h,_,_=>by simp at h
 | _::_,[],_,_,_,_,h,_=>by simp at h
 | p::P,w::vs,0,m,nd,h1,h2,hk=>by
  simp at h1 h2;subst h1;subst h2
  show bindL kindOf ((p,w)::P.zip vs) m p=_
  unfold bindL
  rw[tU λ v hv=>(abi.mp nd).1 (List.of_mem_zip hv).1,if_pos hk]
  simp
 | p::P,w::vs,i+1,m,nd,h1,h2,hk=>by
  show bindL kindOf ((p,w)::P.zip vs) m x=_
  unfold bindL
  exact tV (i:=i) (abi.mp nd).2 (by simpa using h1) (by simpa using h2) hk
theorem tX {kindOf:Str->Option NameKind}{x:Str}{v:Value}:∀ {P:List Str}{vs:List Value}{i:Nat}{m:Str->Option Value},P.Nodup->P[i]? = some x->vs[i]? = some v->kindOf x≠some .local->
  bindC kindOf (P.zip vs) m x=some v
 | [],_,_,_,_,h,_,_=>by simp at h
 | _::_,[],_,_,_,_,h,_=>by simp at h
 | p::P,w::vs,0,m,nd,h1,h2,hk=>by
  simp at h1 h2;subst h1;subst h2
  show bindC kindOf ((p,w)::P.zip vs) m p=_
  unfold bindC
  rw[tW λ v hv=>(abi.mp nd).1 (List.of_mem_zip hv).1,if_neg hk]
  simp
 | p::P,w::vs,i+1,m,nd,h1,h2,hk=>by
  show bindC kindOf ((p,w)::P.zip vs) m x=_
  unfold bindC
  exact tX (i:=i) (abi.mp nd).2 (by simpa using h1) (by simpa using h2) hk
noncomputable def mE (N:List Str) (vs:List V):St:=vs.map some++List.replicate (N.length - vs.length) none
noncomputable def xW (CX:DZ) (P:Program) (w:World) (K:aaa) (mg:Str->Option Value) (base:Heap) (N:List Str) (qual:Str) (scope:Scope) (f:Addr) (cd:Value) (A:Around) (outer:List Env) (s:Shared) (H:Hp) (E:XK):Cx where
 prog:=P
 w:=w
 K:=K
 mg:=mg
 base:=base
 A:=A.deeper (envOfC qual scope s.heap.objs.size f cd)
 N:=N
 s₀:=s
 H₀:=H
 env:=envOfC qual scope s.heap.objs.size f cd
 outer:=outer
 stack:=envOfC qual scope s.heap.objs.size f cd::outer
 ex:=[]
 calm:=true
 fn:=λ _=>true
 pn:=[]
 xe:=λ e s'=>wpAny (model P w) (A.deeper (envOfC qual scope s.heap.objs.size f cd)) (leaving (envOfC qual scope s.heap.objs.size f cd) e) (λ _ s''=>CX outer H s E e s'') (λ e' s''=>CX outer H s E e' s'') s'
theorem xZ {sc:Scope}{n:Nat}{x:Str} (h:sc.names.lookup x=some .cell):∃ c,(cellsFrom n sc.names []).lookup x=some c:=by
 have q:=PySem.W.cellsFrom_some sc.names n [] (.inl h)
 exact Option.isSome_iff_exists.mp q
theorem DE {CX:DZ}{P:Program}{w:World}{K:aaa}{mg:Str->Option Value}{base:Heap}{N ps:List Str}{qual:Str}{scope:Scope}{f:Addr}{cd:Value}{A:Around}{outer:List Env}{s s1:Shared}{H:Hp}{E:XK}{us:List Value}{vs:List V}
  (S:FnScope N ps scope) (hd:A.handled=none) (e0:Env0 P w K mg base A outer s H) (hl:vs.length=ps.length) (r:bG vs us)
  (x:InCallC s s.heap.objs.size (bindL (envOfC qual scope s.heap.objs.size f cd).kindOf (ps.zip us) λ _=>none) (cellsFrom (s.heap.objs.size+1) scope.names []) (bindC (envOfC qual scope s.heap.objs.size f cd).kindOf (ps.zip us) λ _=>none) s1) :
  Inv (xW CX P w K mg base N qual scope f cd A outer s H E) [] (mE N vs) H s1:=by
 have hpl:ps.length<=N.length:=by have:=congrArg List.length S.pre;rw[abl] at this;omega
 obtain⟨h1,tk,rfl,hk⟩:=x.done
 have noA:∀ b:Addr,b∉(xW CX P w K mg base N qual scope f cd A outer s H E).ex:=λ b z=>absurd (show b∈([]:List Addr) from z) (by simp)
 refine⟨⟨e0.mod,S.kind,rfl,rfl,Nat.le_refl _,λ y z c h1 h2=>?_,λ y hy=>?_,λ y c _ h=>?_,λ _=>hd,Around.frames_deeper e0.frames,.inr ⟨rfl,rfl⟩,λ b z=>absurd z (noA b),e0.bs,e0.bsz,λ b _ _=>noA b,λ b z=>absurd z (noA b),e0.funs,e0.frf⟩,
  rfl,e0.bare,Un.kept hk,⟨_,x.toInCall.ns,λ i y v h1 h2 h3=>?_⟩,λ y c h=>⟨_,x.cell y c h⟩,e0.hok.fresh (Nat.le_refl _),λ y c h=>?_,λ p hp=>absurd (show p∈([]:List (Addr×Obj)) from hp) (by simp),e0.hok.kept hk,?_⟩
 ·exact name_of_addr x.apart (PySem.mem_of_lookup h1) (PySem.mem_of_lookup h2)
 ·have hy:scope.names.lookup y=some .cell\/scope.names.lookup y=some .free:=hy
  rcases hy with hy | hy
  ·exact xZ hy
  ·exact absurd rfl (S.nofree _ (PySem.mem_of_lookup hy))
 ·exact ace (x.above y c (PySem.mem_of_lookup h))
 ·have hi:i < vs.length:=by
   unfold mE at h2
   by_cases hi:i < vs.length
   ·exact hi
   ·rw[acj (by simpa using hi)] at h2
    rw[List.getElem?_replicate] at h2
    split at h2 <;> cases h2
  have ha:vs[i]? = some v:=by
   unfold mE at h2
   rw[abr (by simpa using hi),aah] at h2
   cases e:vs[i]? with
   | none=>rw[e] at h2;cases h2
   | some a=>rw[e] at h2;cases h2;rfl
  obtain⟨u,hu,rv⟩:=r.get ha
  have hp:ps[i]? = some y:=by
   rw[<- S.pre,List.getElem?_take_of_lt (by omega)];exact h1
  have ndP:ps.Nodup:=by rw[<- S.pre];exact S.nd.sublist (List.take_sublist _ _)
  refine⟨u,rv,?_⟩
  rcases S.par y (aaj hp) with k | k
  ·exact .inl ⟨k,tV ndP hp hu k⟩
  ·obtain⟨c,e⟩:=xZ (n:=s.heap.objs.size+1) k
   refine .inr ⟨.inl k,c,e,?_⟩
   have q:=x.cell y c e
   rw[tX ndP hp hu (by show scope.names.lookup y≠_;rw[k];decide)] at q
   exact q
 ·exact e0.hok.fresh (ace (x.above y c (PySem.mem_of_lookup h)))
 ·unfold mE
  show _=N.length
  rw[aat,aac,List.length_replicate]
  omega
theorem K9 {CX:DZ}{P:Program}{w:World}{K:aaa}{mg:Str->Option Value}{base:Heap}{k:Nat}{f:Addr}{name qual:Str}{params:Arguments}{body:List Stmt}{scope:Scope}{dV kV doc pm cdv ct oc:Value}{an od:Option Addr}
  {osl:Array (Option Value)}{N ps:List Str}{sp:Sp} (lk:K.lookup f=some ⟨oc,od,.func (PySem.W.fnOf name qual params body scope dV kV doc pm an cdv ct),osl⟩) (hcd:PySem.W.codeIn K cdv qual=true) (S:FnScope N ps scope)
  (len:∀ vs H Q E,sp vs H Q E->vs.length=ps.length)
  (hbody:∀ (A:Around) (outer:List Env) (s:Shared) (H:Hp) (vs:List V) (Q:VK) (E:XK),Room k (A.deeper (envOfC qual scope s.heap.objs.size f cdv))->sp vs H Q E->
   ∃ t,yC (xW CX P w K mg base N qual scope f cdv A outer s H E) body t/\t { nx:=λ _ H'=>Q .non H',rt:=Q } (mE N vs) H) :
  FnOk P w K mg base CX (k+1) f (PySem.W.fnOf name qual params body scope dV kV doc pm an cdv ct) ps sp:=by
 refine⟨len,λ A outer s H args us vs Q E hr e0 hb r hsp=>?_⟩
 have hl:=len _ _ _ _ hsp
 have KX:K.In s.heap:=e0.mod.kin.keeps λ b o e=>(e0.bs b o e).1
 have lim:s.heap.NoLimit:=e0.mod.nolimit.keeps λ b o e=>(e0.bs b o e).1
 have hkind:∀ y∈ps.zip us,scope.names.lookup y.1=some .local\/(scope.names.lookup y.1=some .cell/\((cellsFrom (s.heap.objs.size+1) scope.names []).lookup y.1).isSome=true):=λ ⟨n,v⟩ hy=>by
  rcases S.par n (List.of_mem_zip hy).1 with q | q
  ·exact .inl q
  ·exact .inr ⟨q,PySem.W.cellsFrom_some _ _ _ (.inl q)⟩
 refine codeAny_call_function hr.depth (KX _ _ lk) rfl S.co S.gen rfl (PySem.W.codeRec_of KX hcd) (hb _ _ _ _ ?_)
 refine wpAny_newFunctionEnv_cells S.kind hkind λ env he s1 x=>?_
 subst he
 refine⟨lim.keeps x.toInCall.keep,codeAny_func ?_⟩
 obtain⟨t,ht,hq⟩:=hbody A outer s H vs Q E (hr.deeper _) hsp
 have I:Inv (xW CX P w K mg base N qual scope f cdv A outer s H E) [] (mE N vs) H s1:=DE S hr.hd e0 hl r x
 refine wpAny_mono (ht [] s1 (mE N vs) H _ I hq) (λ fl s' hs=>?_) λ e s' hs=>hs
 have fin:∀ {Z:St}{H':Hp}{v:V}{u:Value},Inv (xW CX P w K mg base N qual scope f cdv A outer s H E) [] Z H' s'->bE v u->Q v H'->CE outer P w H s Q u s':=
  λ {Z H' v u} J rv q=>⟨v,H',J.os,J.bare,J.base,J.hok,rv,q⟩
 cases fl with
 | ret u=>
  obtain⟨v,Z,H',J,rv,q⟩:=hs
  exact fin J rv q
 | next=>
  obtain⟨Z,H',J,q⟩:=hs
  exact fin (v:=V.non) (u:=Value.none) J rfl q
 | brk=>
  obtain⟨_,_,_,q⟩:=hs
  exact False.elim q
 | cont=>
  obtain⟨_,_,_,q⟩:=hs
  exact False.elim q
end L2
namespace L2
open PySem PySem.Spec PyProof.Rows
section
variable {X:Cx}{x:Str}{p pos:Pos}{e:Expr}{es:List Expr}{t:TA}{id T:String}{r:List V->Hp->VK->Prop}
noncomputable def M4 (r:List V->Hp->VK->Prop) (t:TA):TE:=λ σ H Q=>t σ H λ vs H1=>r vs H1 Q
theorem aU (hc:eS X (.builtin id) r) (hg:Gl X x) (hm:X.mg x=none) (hv:bootBuiltins x=some (.builtin id)) (ha:PA X (e::es) t) (hn:x ≠ "__name__" := by decide) (hdb:(x == ("__debug__" : Str))=false:=by decide)
  (he:starEach (e::es) X.env=(false,eval e X.env)::starEach es X.env:=by rfl) (hpl:(backTo pos (starEach es X.env)).any (·.1)=false:=by rfl):PE X (.Call (.Name x p) (e::es) [] pos) (M4 r t):=by
 intro pins s σ H Q I h
 refine wpAny_Call_Name_kw (j8 I hg hm hv ?_ hn hdb)
 exact PyProof.Rows.callWith_builtin1 (cW (ha pos pins s σ H _ I h) λ us s1 ⟨vs,H1,I1,r1,q1⟩=>hc pins s1 σ H1 vs us Q I1 r1 q1) he hpl
theorem aY (hc:eS X (.type T) r) (hg:Gl X x) (hm:X.mg x=none) (hv:bootBuiltins x=some (.type T)) (ha:PA X (e::es) t) (hn:x ≠ "__name__" := by decide) (hdb:(x == ("__debug__" : Str))=false:=by decide)
  (he:starEach (e::es) X.env=(false,eval e X.env)::starEach es X.env:=by rfl) (hpl:(backTo pos (starEach es X.env)).any (·.1)=false:=by rfl):PE X (.Call (.Name x p) (e::es) [] pos) (M4 r t):=by
 intro pins s σ H Q I h
 refine wpAny_Call_Name_kw (j8 I hg hm hv ?_ hn hdb)
 exact PyProof.Rows.callWith_type1 (cW (ha pos pins s σ H _ I h) λ us s1 ⟨vs,H1,I1,r1,q1⟩=>hc pins s1 σ H1 vs us Q I1 r1 q1) he hpl
end
end L2
namespace HT
open PySem PyProof.Rows
section
open PySem.SeqAt
open PySem.AutoSeq1 (wpAny_loadPart')
open PySem.MeetsSeq PySem.MeetsSeq2 PySem.MeetsSeq3
end
section
variable {prog:Program}{w:World}{A:Around}{E:Value->Shared->Prop}{s:Shared}
theorem cat_tup {t b:Addr}{vs ws:List Value}{Q:Value->Shared->Prop} (ht:IsTup s.heap t vs.toArray) (hb:IsTup s.heap b ws.toArray) (hv:vs≠[])
  (h1:ws=[]->Q (.ref t) s) (h2:ws≠[]->Q (.ref s.heap.objs.size) { s with heap:=s.heap.push { cls:=.type "tuple",data:=.seq (vs++ws).toArray } })
  (hsz:vs.length+ws.length<=sizeLine):wpAny (model prog w) A (binaryOp .Add (.ref t) (.ref b)) Q E s:=by
 obtain⟨⟨cls,dd,data,sl⟩,ho,hc,n,hd⟩:=id ht
 obtain⟨⟨cls2,dd2,data2,sl2⟩,ho2,hc2,n2,hd2⟩:=id hb
 simp only at hc hd hc2 hd2
 subst hc hd hc2 hd2
 have e:vs.toArray++ws.toArray=(vs++ws).toArray:=by simp
 by_cases hw:ws=[]
 ·exact concat_meets ⟨_,ho,rfl⟩ ⟨_,ho2,rfl⟩ noFill_tuple_add seq_tuple_add PySem.F.slot_tuple_add PySem.F.entry_tuple_add (PySem.F.args_tuple_add_2 _ _)
   (tuple_addW1 t b vs.toArray ws.toArray n n2 dd dd2 sl sl2 (by simpa using hv) (by simp [hw])) ⟨ho,ho2,h1 hw⟩
 ·refine concat_meets ⟨_,ho,rfl⟩ ⟨_,ho2,rfl⟩ noFill_tuple_add seq_tuple_add PySem.F.slot_tuple_add PySem.F.entry_tuple_add (PySem.F.args_tuple_add_2 _ _)
   (tuple_addW2 t b vs.toArray ws.toArray n n2 dd dd2 sl sl2 (by simpa using hv) (by simpa using hw) (by rw[aao,aao];exact hsz)) ⟨ho,ho2,?_⟩
  rw[e]
  exact h2 hw
noncomputable def sIx (n d:Nat):Option Int->Nat
 | none=>d
 | some v=>if v < 0 then (v+(n:Int)).toNat else min v.toNat n
theorem KW (n d:Nat) (hd:d<=n) (o:Option Int):sIx n d o<=n:=by
 cases o with
 | none=>exact hd
 | some v=>
  show (if v < 0 then (v+(n:Int)).toNat else min v.toNat n)<=n
  by_cases hv:v < 0
  ·rw[if_pos hv];omega
  ·rw[if_neg hv];exact Nat.min_le_right _ _
theorem BQ (v:Int) (n d:Nat):(if v < 0 then max (v+(n:Int)) 0 else min v (n:Int))=((sIx n d (some v):Nat):Int):=by
 show (if v < 0 then max (v+(n:Int)) 0 else min v (n:Int))=(((if v < 0 then (v+(n:Int)).toNat else min v.toNat n):Nat):Int)
 by_cases hv:v < 0
 ·simp only [if_pos hv];omega
 ·simp only [if_neg hv];omega
theorem A4 (lo hi:Option Int) (n:Nat):Builtin.Slice.sliceAdjust lo hi 1 (n:Int)=(((sIx n 0 lo:Nat):Int),((sIx n n hi:Nat):Int)):=by
 have h1:¬ ((1:Int) < 0):=by omega
 unfold Builtin.Slice.sliceAdjust
 simp only [h1,if_false]
 refine Prod.ext ?_ ?_
 ·cases lo with
  | none=>rfl
  | some v=>exact BQ v n 0
 ·cases hi with
  | none=>rfl
  | some v=>exact BQ v n n
theorem zC (i j:Nat):Builtin.Slice.slicePlaces (i:Int) (j:Int) 1=j - i:=by
 unfold Builtin.Slice.slicePlaces
 have h1:(1:Int) > 0:=by omega
 simp only [h1,if_true,Int.ediv_one]
 split <;> omega
theorem qI {v:Value}{o:Option Int}{Q:Option Int->Shared->Prop} (p:IsPart v o) (h:Q o s):wpAny (model prog w) A (Builtin.Slice.slicePartIndex v) Q E s:=by
 cases p with
 | none=>exact slicePart_none h
 | int i t=>exact slicePart_int h
theorem nO {sl:Addr}{vl vu:Value}{lo hi:Option Int}{n:Nat}{Q:Int×Int×Nat->Shared->Prop} (hs:s.heap.IsSliceOf sl vl vu .none) (pl:IsPart vl lo) (pu:IsPart vu hi)
  (h:Q (((sIx n 0 lo:Nat):Int),1,sIx n n hi - sIx n 0 lo) s):wpAny (model prog w) A (Builtin.Slice.sliceApplied (.ref sl) (pure (n:Int))) Q E s:=by
 obtain⟨os,hos,hcs,hds⟩:=id hs
 unfold Builtin.Slice.sliceApplied Builtin.Slice.sliceFields
 refine wpAny_bind (wpAny_bind (wpAny_field hos hds (x:=vl) rfl (wpAny_bind (wpAny_field hos hds (x:=vu) rfl (wpAny_bind (wpAny_field hos hds (x:=.none) rfl (wpAny_pure ?_)))))))
 refine wpAny_bind (slicePart_none ?_)
 show wpAny _ _ (if ((1:Int) == 0)=true then _ else _) _ _ s
 rw[if_neg (by decide)]
 refine wpAny_bind (qI pl (wpAny_bind (qI pu (wpAny_bind (wpAny_pure ?_)))))
 show wpAny _ _ (match Builtin.Slice.sliceAdjust lo hi 1 (n:Int) with | (lo,hi)=>pure (lo,(1:Int),Builtin.Slice.slicePlaces lo hi 1)) _ _ s
 rw[A4 lo hi n]
 show wpAny _ _ (pure (((sIx n 0 lo:Nat):Int),(1:Int),Builtin.Slice.slicePlaces ((sIx n 0 lo:Nat):Int) ((sIx n n hi:Nat):Int) 1)) _ _ s
 rw[zC]
 exact wpAny_pure h
theorem FA (xs:Array Value) (i k:Nat):((List.range k).filterMap λ (m:Nat)=>xs[((i:Int)+(m:Int) * 1).toNat]?).toArray=((xs.toList.drop i).take k).toArray:=by
 have e:(λ (m:Nat)=>xs[((i:Int)+(m:Int) * 1).toNat]?)=λ m=>xs[i+m]?:=by
  funext m
  have:((i:Int)+(m:Int) * 1).toNat=i+m:=by omega
  rw[this]
 rw[e]
 have:=pick_run xs i k
 rw[List.filterMap_map] at this
 have e2:((λ x=>xs[x]?) ∘ λ x=>i+x)=λ m=>xs[i+m]?:=rfl
 rw[e2] at this
 rw[this]
theorem getItem_tuple_cut {t sl:Addr}{items:Array Value}{vl vu:Value}{lo hi:Option Int}{Q:Value->Shared->Prop} (ht:IsTup s.heap t items) (hs:s.heap.IsSliceOf sl vl vu .none) (pl:IsPart vl lo) (pu:IsPart vu hi)
  (hw:¬ (sIx items.size 0 lo=0/\sIx items.size items.size hi=items.size))
  (h:Q (.ref s.heap.objs.size) { s with heap:=s.heap.push { cls:=.type "tuple",data:=.seq ((items.toList.drop (sIx items.size 0 lo)).take (sIx items.size items.size hi - sIx items.size 0 lo)).toArray } })
  (hsz:items.size<=sizeLine):wpAny (model prog w) A (getItem (.ref t) (.ref sl)) Q E s:=by
 have htake:sizeOk (.seq ((items.toList.drop (sIx items.size 0 lo)).take (sIx items.size items.size hi - sIx items.size 0 lo)).toArray):=by
  show ((items.toList.drop (sIx items.size 0 lo)).take (sIx items.size items.size hi - sIx items.size 0 lo)).toArray.size<=sizeLine
  rw[aao,abl,List.length_drop,abd]
  omega
 have hj:sIx items.size items.size hi<=items.size:=KW _ _ (Nat.le_refl _) hi
 obtain⟨os,hos,hcs,hds⟩:=id hs
 have hTs:s.TypeIs (.ref sl) "slice" := ⟨os,hos,hcs⟩
 unfold getItem
 try with_reducible refine wpAny_holding ?_
 first | refine wpAny_bind (wpAny_pure ?_) | skip
 refine wpAny_bind (wpAny_sequenceKey ht.typeIs (by decide) ?_)
 refine wpAny_bind (wpAny_callSpecial?_slot (name:=Str.ofString "__getitem__") ht.typeIs PyProof.Rows.slot_tuple_getitem
  (wpAny_call_entry PyProof.Rows.slot_tuple_getitem ht.typeIs entry_tuple_getitem ?_ (args_tuple_getitem _ _)))
 show wpAny _ _ (Builtin.Tuple.tupleItemsOf (.ref t) >>= _) _ _ s
 refine wpAny_bind (tupleItemsOf_ ht ?_)
 refine wpAny_bind (wpAny_typeOf hTs ?_)
 rw[if_pos (by decide)]
 refine wpAny_bind (nO hs pl pu ?_)
 have hno:¬ ((((sIx items.size 0 lo:Nat):Int) == 0 && (1:Int) == 1 && (sIx items.size items.size hi - sIx items.size 0 lo) == items.size)=true):=by
  intro q
  rw[Bool.and_eq_true,Bool.and_eq_true] at q
  have q1:((sIx items.size 0 lo:Nat):Int)=0:=eq_of_beq q.1.1
  have q2:sIx items.size items.size hi - sIx items.size 0 lo=items.size:=eq_of_beq q.2
  exact hw ⟨by omega,by omega⟩
 show wpAny _ _ (if (((sIx items.size 0 lo:Nat):Int) == 0 && (1:Int) == 1 && (sIx items.size items.size hi - sIx items.size 0 lo) == items.size)=true then _ else _) _ _ s
 rw[if_neg hno,FA]
 first
  | exact wpAny_bind (m:=Builtin.Tuple.tupleExact _) (wpAny_newObj_type (wpAny_pure ⟨_,rfl,wpAny_pure h⟩) htake)
  | exact wpAny_bind (m:=Builtin.Tuple.tupleExact _) (wpAny_newObj_type (wpAny_bind (wpAny_pure (wpAny_pure ⟨_,rfl,wpAny_pure h⟩))) htake)
  | exact wpAny_bind (wpAny_bind (m:=Builtin.Tuple.tupleExact _) (wpAny_newObj_type (wpAny_pure (wpAny_pure ⟨_,rfl,wpAny_pure h⟩)) htake))
  | exact wpAny_bind (wpAny_bind (m:=Builtin.Tuple.tupleExact _) (wpAny_newObj_type (wpAny_pure ⟨_,rfl,wpAny_pure h⟩) htake))
end
end HT
namespace L2
open PySem PySem.Spec PyProof.Rows
noncomputable abbrev TO:=St->Hp->(Option Int->Hp->Prop)->Prop
noncomputable def PO (X:Cx) (e:Option Expr) (t:TO):Prop:=
 ∀ (pins:List (Addr×Obj)) (s:Shared) (σ:St) (H:Hp) (Q:Option Int->Hp->Prop),Inv X pins σ H s->t σ H Q->
  wpAny (model X.prog X.w) X.A (evalPart e X.env) (λ u s'=>∃ o H',Inv X pins σ H' s'/\IsPart u o/\Q o H') X.xe s
noncomputable def HW:TO:=λ _ H Q=>Q none H
noncomputable def MD (t:TE):TO:=λ σ H Q=>t σ H λ x H1=>∃ i,x=.int i/\Q (some i) H1
theorem rK {ns:List Int}:∀ {us:List Value},bG (ns.map V.int) us->IntsAre us ns:=by
 induction ns with
 | nil=>intro us r;rw[List.map_nil] at r;cases r;exact .nil
 | cons n ns ih=>
  intro us r
  rw[aaw] at r
  cases r with
  | cons r1 r2=>
   obtain⟨t,e⟩:=r1
   subst e
   exact .cons n t (ih r2)
section
variable {X:Cx}{e:Expr}{te:TE}{lo hi:Option Expr}{tl th:TO}{pos p2:Pos}
theorem IJ:PO X none HW:=by
 intro pins s σ H Q I h
 rw[evalPart_none]
 exact wpAny_pure ⟨none,H,I,.none,h⟩
theorem II (h:PE X e te):PO X (some e) (MD te):=by
 intro pins s σ H Q I hw
 rw[evalPart_some]
 refine cW (h pins s σ H _ I hw) λ u s1 ⟨x,H1,I1,r1,q1⟩=>?_
 obtain⟨i,rfl,q⟩:=q1
 obtain⟨t,rfl⟩:=r1
 exact⟨some i,H1,I1,.int i t,q⟩
noncomputable def SlR (X:Cx) (r:V->Option Int->Option Int->Hp->VK->Prop):Prop:=
 ∀ (pins:List (Addr×Obj)) (s:Shared) (σ:St) (H:Hp) (x:V) (v vl vu:Value) (lo hi:Option Int) (sl:Addr) (Q:VK),Inv X pins σ H s->bE x v->s.heap.IsSliceOf sl vl vu .none->IsPart vl lo->IsPart vu hi->r x lo hi H Q->
  ∃ T id,typeLookup (.type T) "__getitem__" = pure (some (.builtin id))/\s.TypeIs v T/\wpAny (model X.prog X.w) X.A (getItem v (.ref sl)) (EP X pins σ Q) X.xe s
noncomputable def tSl (r:V->Option Int->Option Int->Hp->VK->Prop) (te:TE) (tl th:TO):TE:=λ σ H Q=>te σ H λ x H1=>tl σ H1 λ l H2=>th σ H2 λ u H3=>r x l u H3 Q
theorem FE {r:V->Option Int->Option Int->Hp->VK->Prop} (hr:SlR X r) (he:PE X e te) (hl:PO X lo tl) (hu:PO X hi th):PE X (.Subscript e (.Slice lo hi none p2) pos) (tSl r te tl th):=by
 intro pins s σ H Q I h
 refine Subscript_ (cW (he pins s σ H _ I h) λ v s1 ⟨x,H1,I1,r1,q1⟩=>?_)
 refine wpAny_Slice (cW (hl pins s1 σ H1 _ I1 q1) λ vl s2 ⟨l,H2,I2,pl,q2⟩=>cW (hu pins s2 σ H2 _ I2 q2) λ vu s3 ⟨u,H3,I3,pu,q3⟩=>?_)
 rw[evalPart_none]
 refine wpAny_pure ?_
 have I4:Inv X pins σ H3 { s3 with heap:=s3.heap.push { cls:=.type "slice",data:=.fields #[vl,vu,.none] } }:=I3.kept (t':=s3.toks) λ b ob q=>aab _ q
 obtain⟨T,id,hT,ht,hg⟩:=hr pins { s3 with heap:=s3.heap.push { cls:=.type "slice",data:=.fields #[vl,vu,.none] } } σ H3 x v vl vu l u s3.heap.objs.size Q I4 r1 (Heap.IsSliceOf.new ..) pl pu q3
 show wpAny (model X.prog X.w) X.A (subscriptTail e (.Slice lo hi none p2) v (.ref s3.heap.objs.size)) (EP X pins σ Q) X.xe { s3 with heap:=s3.heap.push { cls:=.type "slice",data:=.fields #[vl,vu,.none] } }
 exact tail_any (ops:=[.ref s3.heap.objs.size,v]) ht hT hg (by with_unfolding_all rfl)
noncomputable def HG (xs:List V) (lo hi:Option Int):List V:=(xs.drop (HT.sIx xs.length 0 lo)).take (HT.sIx xs.length xs.length hi - HT.sIx xs.length 0 lo)
theorem xX (xs:List V) (lo hi:Option Int):(HG xs lo hi).length<=xs.length:=by
 unfold HG
 rw[abl,List.length_drop]
 omega
noncomputable def MR (K:aaa):V->Option Int->Option Int->Hp->VK->Prop:=λ x lo hi H Q=>∃ a xs,x=.ref a/\bN K H a xs/\
 ¬ (HT.sIx xs.length 0 lo=0/\HT.sIx xs.length xs.length hi=xs.length)/\∀ p,H p=none->Q (.ref p) (upd H p (.tup (HG xs lo hi)))
theorem KR:SlR X (MR X.K):=by
 intro pins s σ H x v vl vu lo hi sl Q I rx hs pl pu h
 obtain⟨a,xs,rfl,hx,hw,q⟩:=h
 cases rx
 obtain⟨its,r,ht,hz⟩:=I.tuple hx
 have hlen:its.toArray.size=xs.length:=by rw[aao];exact r.length.symm
 refine⟨"tuple",_,PyProof.Rows.slot_tuple_getitem.lookup,ht.typeIs,?_⟩
 refine HT.getItem_tuple_cut ht hs pl pu (by rw[hlen];exact hw) ?_ (by rw[hlen];exact hz)
 rw[hlen]
 refine⟨.ref s.heap.objs.size,_,I.laid (t':=s.toks) (o:=.tup (HG xs lo hi)) (λ b ob q=>aab _ q) (Nat.le_refl _) ?_,rfl,q _ (I.hok.fresh (Nat.le_refl _))⟩
 exact⟨abq (xX xs lo hi) hz,_,(r.drop (HT.sIx xs.length 0 lo)).take (HT.sIx xs.length xs.length hi - HT.sIx xs.length 0 lo),IsTup.new _ _⟩
noncomputable def K1 (K:aaa):R2:=λ x y H Q=>∃ a b xs ys,x=.ref a/\y=.ref b/\bN K H a xs/\bN K H b ys/\xs≠[]/\xs.length+ys.length<=sizeLine/\
 (ys=[]->Q (.ref a) H)/\(ys≠[]->∀ p,H p=none->Q (.ref p) (upd H p (.tup (xs++ys))))
theorem bG.nil_iff {xs:List V}{us:List Value} (r:bG xs us):us=[]↔xs=[]:=by
 cases r with
 | nil=>simp
 | cons _ _=>simp
theorem B1:g7 X (binaryOp .Add) (K1 X.K):=by
 intro pins s σ H x y v u Q I rx ry h
 obtain⟨a,b,xs,ys,rfl,rfl,ha,hb,hx,hz,q1,q2⟩:=h
 cases rx
 cases ry
 obtain⟨its,r1,p1,_⟩:=I.tuple ha
 obtain⟨its2,r2,p2,_⟩:=I.tuple hb
 refine HT.cat_tup p1 p2 (λ z=>hx (r1.nil_iff.mp z)) (λ z=>⟨.ref a,H,I,rfl,q1 (r2.nil_iff.mp z)⟩) (λ z=>?_) (by rw[<- r1.length,<- r2.length];exact hz)
 refine⟨.ref s.heap.objs.size,_,I.laid (t':=s.toks) (o:=.tup (xs++ys)) (λ b ob q=>aab _ q) (Nat.le_refl _) ?_,rfl,q2 (λ w=>z (r2.nil_iff.mpr w)) _ (I.hok.fresh (Nat.le_refl _))⟩
 exact⟨by rw[aat];exact hz,_,r1.append r2,IsTup.new _ _⟩
end
end L2
namespace L2
open PySem PySem.Spec PyProof.Rows
noncomputable def G9 (n:Nat) (i:Int):Option Nat:=if 0<=i then (if i < n then some i.toNat else none) else if -(n:Int)<=i then some (i+n).toNat else none
noncomputable def BR {ar:Type} (xs:List ar) (i:Int):Option ar:=(G9 xs.length i).bind λ j=>xs[j]?
theorem BB {n:Nat}{i:Int}{j:Nat} (h:G9 n i=some j):seqIndex? i n=some j/\j < n/\-(n:Int)<=i/\i < n:=by
 unfold G9 at h
 by_cases h0:0<=i
 ·rw[if_pos h0] at h
  by_cases h1:i < n
  ·rw[if_pos h1] at h
   have e:i.toNat=j:=abp h
   exact⟨by rw[seqIndex_of h0 h1,e],by omega,by omega,h1⟩
  ·rw[if_neg h1] at h;cases h
 ·rw[if_neg h0] at h
  by_cases h1 : -(n:Int)<=i
  ·rw[if_pos h1] at h
   have e:(i+n).toNat=j:=abp h
   exact⟨by rw[seqIndex_neg (by omega) h1,e],by omega,h1,by omega⟩
  ·rw[if_neg h1] at h;cases h
theorem vV {ar:Type}{xs:List ar}{i:Int}{v:ar} (h:BR xs i=some v):∃ j,seqIndex? i xs.length=some j/\xs[j]? = some v/\j < xs.length/\-(xs.length:Int)<=i/\i < xs.length:=by
 unfold BR at h
 cases e:G9 xs.length i with
 | none=>rw[e] at h;cases h
 | some j=>
  rw[e] at h
  obtain⟨h1,h2,h3,h4⟩:=BB e
  exact⟨j,h1,h,h2,h3,h4⟩
theorem dO {ar:Type}{xs:List ar}{j:Nat}{v:ar} (h:xs[j]? = some v):BR xs (j:Int)=some v:=by
 have hj:j < xs.length:=(aad.mp h).1
 have e:G9 xs.length (j:Int)=some j:=by
  unfold G9
  rw[if_pos (by omega),if_pos (by omega)];simp
 unfold BR;rw[e];exact h
theorem kD {ar:Type} (xs:List ar) (v:ar):BR (xs++[v]) (-1)=some v:=by
 have hl:(xs++[v]).length=xs.length+1:=by simp
 have e:G9 (xs++[v]).length (-1)=some xs.length:=by
  unfold G9
  rw[hl,if_neg (by decide),if_pos (by omega)]
  congr 1
  omega
 unfold BR
 rw[e]
 show (xs++[v])[xs.length]? = some v
 simp
noncomputable def JP (b:Expr):Prop:=∀ o i,subscripted b false o i=operate [o,i] (getItem o i)
noncomputable def E2 (X:Cx) (r:R2):Prop:=
 ∀ (value slice:Expr) (pins:List (Addr×Obj)) (s:Shared) (σ:St) (H:Hp) (x y:V) (v u:Value) (Q:VK),Inv X pins σ H s->bE x v->bE y u->r x y H Q->
  subscripted slice false v u=operate [v,u] (getItem v u)->wpAny (model X.prog X.w) X.A (subscriptTail value slice v u) (EP X pins σ Q) X.xe s
noncomputable def MtR (X:Cx) (id:String) (r:V->List V->Hp->VK->Prop):Prop:=
 ∀ (pins:List (Addr×Obj)) (s:Shared) (σ:St) (H:Hp) (x:V) (xs:List V) (v:Value) (us:List Value) (Q:VK),Inv X pins σ H s->bE x v->bG xs us->r x xs H Q->
  wpAny (model X.prog X.w) X.A (call (.builtin id) (v::us)) (EP X pins σ Q) X.xe s
section
variable {X:Cx}{a b:Expr}{ta tb:TE}{pos:Pos}
theorem E2.or {r r':R2} (h:E2 X r) (h':E2 X r'):E2 X (λ x y H Q=>r x y H Q\/r' x y H Q):=by
 intro value slice pins s σ H x y v u Q I rx ry q hs
 rcases q with q | q
 ·exact h value slice pins s σ H x y v u Q I rx ry q hs
 ·exact h' value slice pins s σ H x y v u Q I rx ry q hs
theorem b0 {r:R2} (hr:E2 X r) (ha:PE X a ta) (hb:PE X b tb) (hs:JP b):PE X (.Subscript a b pos) (iD r ta tb):=by
 intro pins s σ H Q I h
 exact Subscript_ (LV ha hb I h λ v u s2 x y H2 I2 rx ry q=>hr a b pins s2 σ H2 x y v u Q I2 rx ry q (hs _ _))
noncomputable def MW (K:aaa):R2:=λ x y H Q=>∃ p xs i v,x=.ref p/\y=.int i/\bO K H p xs/\BR xs i=some v/\Q v H
noncomputable def MU (K:aaa):R2:=λ x y H Q=>∃ p xs i v,x=.ref p/\y=.int i/\bN K H p xs/\BR xs i=some v/\Q v H
noncomputable def MV:R2:=λ x y H Q=>∃ z i c,x=.str z/\y=.int i/\z.length<=sizeLine/\BR z.cps.toList i=some c/\Q (.str ⟨#[c]⟩) H
theorem JF:E2 X (MW X.K):=by
 intro value slice pins s σ H x y v u Q I rx ry h hs
 obtain⟨p,xs,i,z,rfl,rfl,hq,he,q⟩:=h
 cases rx
 obtain⟨t,rfl⟩:=ry
 obtain⟨its,r,pl,hz⟩:=I.list hq
 obtain⟨j,h1,h2,h3,h4,h5⟩:=vV he
 obtain⟨w,ew,rw'⟩:=r.get h2
 have hl:=r.length
 have hn:=rF
 have fin:EP X pins σ Q w s:=⟨z,H,I,rw',q⟩
 by_cases h0:0<=i
 ·have hj:i.toNat=j:=by
   rw[seqIndex_of h0 h5] at h1
   exact abp h1
  exact item_listR pl.isList h0 (by omega) (by rw[hj];simpa using ew) fin hs
 ·have hj:(i+(its.toArray.size:Int)).toNat=j:=by
   rw[seqIndex_neg (by omega) h4] at h1
   rw[aao,<- hl]
   exact abp h1
  exact subscriptTail_builtinR (x:=w) pl.isList.typeIs slot_list_getitem.lookup
   (wpAny_getItem_list_neg (Q:=λ r s'=>r=w/\EP X pins σ Q r s') pl.isList (by omega) (by rw[aao] <;> omega) (by omega) (by rw[hj];simpa using ew) ⟨rfl,fin⟩) hs
theorem LK:E2 X (MU X.K):=by
 intro value slice pins s σ H x y v u Q I rx ry h hs
 obtain⟨p,xs,i,z,rfl,rfl,hq,he,q⟩:=h
 cases rx
 obtain⟨t,rfl⟩:=ry
 obtain⟨its,r,pl,hz⟩:=I.tuple hq
 obtain⟨j,h1,h2,h3,h4,h5⟩:=vV he
 obtain⟨w,ew,rw'⟩:=r.get h2
 have hl:=r.length
 have hn:=rF
 have fin:EP X pins σ Q w s:=⟨z,H,I,rw',q⟩
 exact subscriptTail_builtinR (x:=w) pl.typeIs slot_tuple_getitem.lookup
  (getItem_tuple (j:=j) (Q:=λ r s'=>r=w/\EP X pins σ Q r s') pl (by omega) (by omega) (by rw[aao,<- hl];exact h1) (by simpa using ew) ⟨rfl,fin⟩) hs
theorem LL:E2 X MV:=by
 intro value slice pins s σ H x y v u Q I rx ry h hs
 obtain⟨z,i,c,rfl,rfl,hz,he,q⟩:=h
 obtain⟨t,rfl⟩:=rx
 obtain⟨t',rfl⟩:=ry
 obtain⟨j,h1,h2,h3,h4,h5⟩:=vV he
 have hl:z.cps.toList.length=z.length:=by simp [Str.length]
 rw[hl] at h1 h4 h5
 have hn:=rF
 exact tail_any (typeIs_str s z t) slot_str_getitem.lookup (getItem_str (c:=c) (by
  have e1:decide (i < -(2 ^ 63:Int))=false:=decide_eq_false (by omega)
  have e2:decide (i ≥ 2 ^ 63)=false:=decide_eq_false (by omega)
  rw[e1,e2,Bool.or_false]) (by rw[h1];simpa using h2) ⟨.str ⟨#[c]⟩,H,I.tok _,⟨_,rfl⟩,q⟩) hs
noncomputable def wP (K:aaa):R2:=λ x y H Q=>MW K x y H Q\/MU K x y H Q\/MV x y H Q
theorem LM:E2 X (wP X.K):=JF.or (LK.or LL)
theorem zP (its:List Value) (n j:Nat) (u:Value):Obj.mapSeq (·.setIfInBounds j u) { cls:=.type "list",data:=.seq its.toArray n }={ cls:=.type "list",data:=.seq (its.set j u).toArray n }:=by
 simp [Obj.mapSeq]
theorem Inv.lst {pins:List (Addr×Obj)}{σ:St}{H:Hp}{s:Shared}{p:Addr}{xs:List V} (I:Inv X pins σ H s) (h:H p=some (.lst xs)) :
  ∃ (its:List Value) (n:Nat),bG xs its/\s.heap.get? p=some { cls:=.type "list",data:=.seq its.toArray n }/\xs.length<=sizeLine:=by
 obtain⟨z,its,n,r,e⟩:=I.hok p _ h
 exact⟨its,n,r,e,z⟩
theorem Inv.lstUpd {pins:List (Addr×Obj)}{σ:St}{H:Hp}{s:Shared}{p:Addr}{xs ys:List V}{its its':List Value}{n n':Nat}{f:Obj->Obj} (I:Inv X pins σ H s) (h:H p=some (.lst xs))
  (ho:s.heap.get? p=some { cls:=.type "list",data:=.seq its.toArray n }) (hf:f { cls:=.type "list",data:=.seq its.toArray n }={ cls:=.type "list",data:=.seq its'.toArray n' }) (r:bG ys its') (hz:ys.length<=sizeLine) (t:Nat) :
  Inv X pins σ (upd H p (.lst ys)) { s with heap:=s.heap.update p f,toks:=t }:=by
 have e:(s.heap.update p f).get? p=some { cls:=.type "list",data:=.seq its'.toArray n' }:=by
  rw[acf f ho (by rw[hf] <;> rfl),hf]
 refine I.write (x:=p) (e:=p) (by rw[h];trivial) (.inl rfl) (λ b u hb q=>(acm _ _ (Ne.symm hb)).trans q) ⟨_,e⟩ ?_
 exact⟨hz,its',n',r,e⟩
noncomputable def wN:V->V->V->Hp->(Hp->Prop)->Prop:=λ o i v H Q=>∃ p xs k j,o=.ref p/\i=.int k/\H p=some (.lst xs)/\G9 xs.length k=some j/\Q (upd H p (.lst (xs.set j v)))
theorem iI:LW X wN:=by
 intro pins s σ H o i v ov iv u Q I ro ri rv h
 obtain⟨p,xs,k,j,rfl,rfl,hp,hj,q⟩:=h
 cases ro
 obtain⟨t,rfl⟩:=ri
 obtain⟨its,n,r,ho,hz⟩:=I.lst hp
 obtain⟨h1,h2,h3,h4⟩:=BB hj
 have hl:=r.length
 have hn:=rF
 have I':Inv X pins σ (upd H p (.lst (xs.set j v))) { s with heap:=s.heap.update p (Obj.mapSeq (·.setIfInBounds j u)) }:=
  I.lstUpd hp ho (zP its n j u) (r.set rv j) (by rw[acl];exact hz) s.toks
 by_cases h0:0<=k
 ·have hk:k.toNat=j:=by
   rw[seqIndex_of h0 h4] at h1
   exact abp h1
  exact PySem.W.ki_setAt ho h0 (by omega) (by rw[aao,<- hl];exact h4) (by rw[hk];exact⟨_,I',q⟩)
 ·have hk:(k+(its.toArray.size:Int)).toNat=j:=by
   rw[seqIndex_neg (by omega) h3] at h1
   rw[aao,<- hl]
   exact abp h1
  exact PySem.W.ki_setBack ho (by omega) (by rw[aao,<- hl];exact h3) (by omega) (by rw[hk];exact⟨_,I',q⟩)
noncomputable def iQ:V->Bool
 | .non=>true
 | .bl _=>true
 | .int _=>true
 | .str _=>true
 | _=>false
noncomputable def zZ:V->V->Bool
 | .non,.non=>true
 | .bl a,.bl b=>a == b
 | .bl a,.int b=>(if a then 1 else 0) == b
 | .int a,.bl b=>a == (if b then 1 else 0)
 | .int a,.int b=>a == b
 | .str a,.str b=>a == b
 | _,_=>false
theorem LR {A:Around}{s:Shared}{y x:V}{u v:Value} (ry:bE y u) (rx:bE x v) (fy:iQ y=true) (fx:iQ x=true):SeqAt.EqAt A s u v (zZ y x):=by
 cases y with
 | non=>
  cases ry
  cases x with
  | non=>cases rx;exact SeqAt.EqAt.same _
  | bl b=>cases rx;exact SeqAt.EqAt.none_bool b
  | int b=>obtain⟨t,rfl⟩:=rx;exact SeqAt.EqAt.none_int b t
  | str b=>obtain⟨t,rfl⟩:=rx;exact SeqAt.EqAt.none_str b t
  | _=>exact absurd (show false=true from fx) aal
 | bl a=>
  cases ry
  cases x with
  | non=>cases rx;exact SeqAt.EqAt.bool_none a
  | bl b=>cases rx;exact SeqAt.EqAt.bool_bool a b
  | int b=>obtain⟨t,rfl⟩:=rx;exact SeqAt.EqAt.bool_int a b t
  | str b=>obtain⟨t,rfl⟩:=rx;exact SeqAt.EqAt.bool_str a b t
  | _=>exact absurd (show false=true from fx) aal
 | int a=>
  obtain⟨t',rfl⟩:=ry
  cases x with
  | non=>cases rx;exact SeqAt.EqAt.int_none a t'
  | bl b=>cases rx;exact SeqAt.EqAt.int_bool a t' b
  | int b=>obtain⟨t,rfl⟩:=rx;exact SeqAt.EqAt.int_int a t' b t
  | str b=>obtain⟨t,rfl⟩:=rx;exact SeqAt.EqAt.int_str a t' b t
  | _=>exact absurd (show false=true from fx) aal
 | str a=>
  obtain⟨t',rfl⟩:=ry
  cases x with
  | non=>cases rx;exact SeqAt.EqAt.str_none a t'
  | bl b=>cases rx;exact SeqAt.EqAt.str_bool a t' b
  | int b=>obtain⟨t,rfl⟩:=rx;exact SeqAt.EqAt.str_int a t' b t
  | str b=>obtain⟨t,rfl⟩:=rx;exact SeqAt.EqAt.str_str a t' b t
  | _=>exact absurd (show false=true from fx) aal
 | _=>exact absurd (show false=true from fy) aal
noncomputable def w4 (x:V) (u:Value):Bool:=match u with
 | .none=>zZ .non x
 | .bool b=>zZ (.bl b) x
 | .int i _=>zZ (.int i) x
 | .str z _=>zZ (.str z) x
 | _=>false
theorem vN {x y:V}{u:Value} (r:bE y u) (f:iQ y=true):w4 x u=zZ y x:=by
 cases y with
 | non=>cases r;rfl
 | bl b=>cases r;rfl
 | int i=>obtain⟨t,rfl⟩:=r;rfl
 | str z=>obtain⟨t,rfl⟩:=r;rfl
 | _=>exact absurd (show false=true from f) aal
theorem nB {x:V}:∀ {xs:List V}{us:List Value},bG xs us->xs.all iQ=true->us.any (w4 x)=xs.any λ y=>zZ y x
 | _,_,.nil,_=>rfl
 | y::xs,u::us,.cons r t,f=>by
  rw[List.all_cons,Bool.and_eq_true] at f
  rw[List.any_cons,List.any_cons,vN r f.1,nB t f.2]
theorem iN {A:Around}{s:Shared}{x:V}{v:Value} (rx:bE x v) (fx:iQ x=true):∀ {xs:List V}{us:List Value},bG xs us->xs.all iQ=true->∀ u∈us,SeqAt.EqAt A s u v (w4 x u)
 | _,_,.nil,_=>λ u hu=>by cases hu
 | y::xs,u::us,.cons r t,f=>λ u' hu=>by
  rw[List.all_cons,Bool.and_eq_true] at f
  rcases List.mem_cons.mp hu with rfl | hu
  ·rw[vN r f.1];exact LR r rx f.1 fx
  ·exact iN rx fx t f.2 u' hu
noncomputable def E1 (x:V) (xs:List V):Bool:=xs.any λ y=>zZ y x
noncomputable def rIn (K:aaa) (neg:Bool):R2:=λ x y H Q=>∃ p xs,y=.ref p/\(bO K H p xs\/bN K H p xs)/\iQ x=true/\xs.all iQ=true/\Q (.bl (if neg then !E1 x xs else E1 x xs)) H
theorem CS:g7 X (compareOp .In) (rIn X.K false):=by
 intro pins s σ H x y v u Q I rx ry h
 obtain⟨p,xs,rfl,hq,fx,fs,q⟩:=h
 cases ry
 rcases hq with hq | hq
 ·obtain⟨its,r,pl,hz⟩:=I.list hq
  refine SeqAt.in_listAt (w4 x) pl.isList (λ w hw=>iN rx fx r fs w (by simpa using hw)) ⟨.bl _,H,I,rfl,?_⟩
  rw[show its.toArray.any (w4 x)=its.any (w4 x) by simp,nB r fs]
  exact q
 ·obtain⟨its,r,pl,hz⟩:=I.tuple hq
  refine SeqAt.in_tupleAt (w4 x) pl (λ w hw=>iN rx fx r fs w (by simpa using hw)) ⟨.bl _,H,I,rfl,?_⟩
  rw[show its.toArray.any (w4 x)=its.any (w4 x) by simp,nB r fs]
  exact q
theorem uW:g7 X (compareOp .NotIn) (rIn X.K true):=by
 intro pins s σ H x y v u Q I rx ry h
 obtain⟨p,xs,rfl,hq,fx,fs,q⟩:=h
 cases ry
 rcases hq with hq | hq
 ·obtain⟨its,r,pl,hz⟩:=I.list hq
  refine SeqAt.notIn_listAt (w4 x) pl.isList (λ w hw=>iN rx fx r fs w (by simpa using hw)) ⟨.bl _,H,I,rfl,?_⟩
  rw[show its.toArray.any (w4 x)=its.any (w4 x) by simp,nB r fs]
  exact q
 ·obtain⟨its,r,pl,hz⟩:=I.tuple hq
  refine SeqAt.notIn_tupleAt (w4 x) pl (λ w hw=>iN rx fx r fs w (by simpa using hw)) ⟨.bl _,H,I,rfl,?_⟩
  rw[show its.toArray.any (w4 x)=its.any (w4 x) by simp,nB r fs]
  exact q
theorem vT:eS X (.builtin "len") (λ xs H Q=>∃ p ys,xs=[.ref p]/\(bO X.K H p ys\/bN X.K H p ys)/\Q (.int ys.length) H):=by
 intro pins s σ H xs us Q I r h
 obtain⟨p,ys,rfl,hq,q⟩:=h
 obtain⟨u,rfl,rx⟩:=pP r
 cases rx
 have hn:=rF
 rcases hq with hq | hq
 ·obtain⟨its,r',pl,hz⟩:=I.list hq
  have hlen:=r'.length
  exact Calls.call_len_list pl.isList (by simp only [aao] <;> omega) ⟨.int ys.length,H,I.tok _,⟨s.toks+1,by rw[aao,hlen]⟩,q⟩
 ·obtain⟨its,r',pl,hz⟩:=I.tuple hq
  have hlen:=r'.length
  exact len_tuple pl (by simp only [aao] <;> omega) ⟨.int ys.length,H,I.tok _,⟨s.toks+1,by rw[aao,hlen]⟩,q⟩
theorem vS:eS X (.type "list") (λ xs H Q=>∃ p ys,xs=[.ref p]/\(bO X.K H p ys\/bN X.K H p ys)/\∀ l,H l=none->Q (.ref l) (upd H l (.lst ys))):=by
 intro pins s σ H xs us Q I r h
 obtain⟨p,ys,rfl,hq,q⟩:=h
 obtain⟨u,rfl,rx⟩:=pP r
 cases rx
 have fin:∀ (its:List Value),bG ys its->ys.length<=sizeLine->∀ (h':Heap) (c':Nat),(∀ b o',s.heap.get? b=some o'->h'.get? b=some o')->
   h'.get? s.heap.objs.size=some { cls:=.type "list",dict:=none,data:=.seq its.toArray c',slots:=#[] }->EP X pins σ Q (.ref s.heap.objs.size) { s with heap:=h' }:=λ its r' hz h' c' kp e=>
  ⟨.ref s.heap.objs.size,_,I.laid (t':=s.toks) kp (Nat.le_refl _) (show cN X.prog X.w _ h' _ (.lst ys) from ⟨hz,its,c',r',e⟩),rfl,q _ (I.hok.fresh (Nat.le_refl _))⟩
 rcases hq with hq | hq
 ·obtain⟨its,r',pl,hz⟩:=I.list hq
  have hlen:=r'.length
  obtain⟨o,ho,hc,n,hd⟩:=pl.isList
  exact call_list_seq p (.inl rfl) ho hc hd (λ h' c' kp e=>fin its r' hz h' c' kp e) (by simp only [aao] <;> omega)
 ·obtain⟨its,r',pl,hz⟩:=I.tuple hq
  have hlen:=r'.length
  obtain⟨o,ho,hc,n,hd⟩:=pl
  exact call_list_seq p (.inr rfl) ho hc hd (λ h' c' kp e=>fin its r' hz h' c' kp e) (by simp only [aao] <;> omega)
theorem sQ:eS X (.type "tuple") (λ xs H Q=>∃ p ys,xs=[.ref p]/\((bO X.K H p ys/\∀ l,H l=none->Q (.ref l) (upd H l (.tup ys)))\/(bN X.K H p ys/\Q (.ref p) H))):=by
 intro pins s σ H xs us Q I r h
 obtain⟨p,ys,rfl,h⟩:=h
 obtain⟨u,rfl,rx⟩:=pP r
 cases rx
 rcases h with ⟨hq,q⟩ | ⟨hq,q⟩
 ·obtain⟨its,r',pl,hz⟩:=I.list hq
  have hlen:=r'.length
  refine call_tuple_list pl.isList (λ h' kp=>?_) (by simp only [aao] <;> omega)
  have I1:Inv X pins σ H { s with heap:=h' }:=I.kept (t':=s.toks) kp
  have I2:Inv X pins σ (upd H h'.objs.size (.tup ys)) { s with heap:=h'.push { cls:=.type "tuple",data:=.seq its.toArray } }:=
   I1.laid (t':=s.toks) (λ b o e=>aab _ e) (Nat.le_refl _) (show cN X.prog X.w _ _ _ (.tup ys) from ⟨hz,its,r',IsTup.new _ _⟩)
  exact⟨.ref h'.objs.size,_,I2,rfl,q _ (I1.hok.fresh (Nat.le_refl _))⟩
 ·obtain⟨its,r',pl,hz⟩:=I.tuple hq
  exact call_tuple_same pl ⟨.ref p,H,I,rfl,q⟩
noncomputable def tyV (K:aaa) (T:String) (x:V) (H:Hp):Prop:=match x with
 | .str _=>T = "str"
 | .int _=>T = "int"
 | .ref p=>(T = "list" /\ ∃ xs,bO K H p xs)\/(T = "tuple" /\ ∃ o,K.lookup p=some o/\o.cls=.type "tuple" /\ o.dict=none)\/
   (T = "dict" /\ ((∃ kvs,H p=some (.dK kvs))\/∃ kvs,H p=some (.dT kvs)))\/(T = "set" /\ ∃ S n,H p=some (.set S n))
 | _=>False
theorem KK {pins:List (Addr×Obj)}{σ:St}{H:Hp}{s:Shared}{T:String}{x:V}{v:Value} (I:Inv X pins σ H s) (r:bE x v) (ty:tyV X.K T x H) :
  s.TypeIs v T/\∀ a,v=.ref a->∃ ob,s.heap.get? a=some ob/\ob.dict=none:=by
 cases x with
 | str z=>
  obtain⟨t,rfl⟩:=r
  cases (show T = "str" from ty)
  exact⟨typeIs_str s z t,λ _ e=>nomatch e⟩
 | int i=>
  obtain⟨t,rfl⟩:=r
  cases (show T = "int" from ty)
  exact⟨typeIs_int s i t,λ _ e=>nomatch e⟩
 | ref p=>
  cases r
  rcases ty with ⟨rfl,xs,hq⟩ | ⟨rfl,o,hk,hc,hd⟩ | ⟨rfl,hk⟩ | ⟨rfl,S,n,hk⟩
  ·obtain⟨its,_,pl,_⟩:=I.list hq
   refine⟨pl.isList.typeIs,λ a e=>?_⟩
   cases e
   obtain⟨o,n,e,c,hd,_⟩:=pl
   exact⟨o,e,hd⟩
  ·refine⟨⟨o,I.kIn p o hk,hc⟩,λ a e=>?_⟩
   cases e
   exact⟨o,I.kIn _ o hk,hd⟩
  ·have z:∃ o,s.heap.get? p=some o/\o.ExactDict:=by
    rcases hk with ⟨kvs,hk⟩ | ⟨kvs,hk⟩
    ·obtain⟨_,_,_,_,o,_,_,e,ex,_⟩:=I.hok p _ hk
     exact⟨o,e,ex⟩
    ·obtain⟨_,_,_,_,o,_,_,e,ex,_⟩:=I.hok p _ hk
     exact⟨o,e,ex⟩
   obtain⟨o,e,ex⟩:=z
   refine⟨⟨o,e,ex.1⟩,λ a e2=>?_⟩
   cases e2
   exact⟨o,e,ex.2.1⟩
  ·obtain⟨o,_,_,_,e,ex,_⟩:=I.hok p _ hk
   refine⟨⟨o,e,ex.1⟩,λ a e2=>?_⟩
   cases e2
   exact⟨o,e,ex.2.1⟩
 | _=>exact False.elim ty
noncomputable def tBM (K:aaa) (T:String) (r:V->List V->Hp->VK->Prop) (to:TE) (t:TA):TE:=λ σ H Q=>to σ H λ x H1=>tyV K T x H1/\t σ H1 λ xs H2=>r x xs H2 Q
variable {o e:Expr}{es:List Expr}{to:TE}{t:TA}{name:Str}{apos cpos:Pos}{T id:String}{r:V->List V->Hp->VK->Prop}
theorem N3 (pa:PlainAttrs T) (slot:Slot T name id) (hty:typeOf (.builtin id)=pure (.type "method_descriptor")) (hm:MtR X id r) (ho:PE X o to) (ha:PA X (e::es) t)
  (hbase:attributeBase o name X.env (eval o X.env)=eval o X.env:=by rfl)
  (hfew:((backTo cpos (starEach (e::es) X.env)).all (λ x=>!x.1) && (backToKw cpos (keywordEach [] X.env)).all (λ x=>x.1.isSome)
   && decide ((e::es).length+([]:List Keyword).length+(if ([]:List Keyword).isEmpty then 0 else 1) < 30))=true:=by rfl)
  (hline:(apos.endLine == cpos.line)=true:=by rfl) (hs:starEach (e::es) X.env=(false,eval e X.env)::starEach es X.env:=by rfl) (hplain:(backTo cpos (starEach es X.env)).any (·.1)=false:=by rfl) :
  PE X (.Call (.Attribute o name apos) (e::es) [] cpos) (tBM X.K T r to t):=by
 intro pins s σ H Q I h
 refine wpAny_Call_method_late hbase hfew hline rfl (cW (ho pins s σ H _ I h) λ v s1 ⟨x,H1,I1,r1,ty,q1⟩=>?_)
 obtain⟨h1,h2⟩:=KK I1 r1 ty
 refine⟨T,id,pa,slot,hty,h1,h2,?_⟩
 have hA:=ha cpos pins s1 σ H1 _ I1 q1
 rw[hs] at hA ⊢
 refine Calls.callWith_builtin (by show (false || (backTo cpos (starEach es X.env)).any (·.1))=false;rw[hplain] <;> rfl) (Calls.evalArgs_plain ?_)
 exact cW hA λ us s2 ⟨vs,H2,I2,r2,q2⟩=>hm pins s2 σ H2 x vs v us Q I2 r1 r2 q2
end
end L2
namespace L2
open PySem PySem.Spec PyProof.Rows
noncomputable def MtM (X:Cx) (id:String) (r:V->List V->Hp->VK->Prop):Prop:=
 ∀ (pins:List (Addr×Obj)) (s:Shared) (σ:St) (H:Hp) (x:V) (xs:List V) (v:Value) (us:List Value) (Q:VK),Inv X pins σ H s->bE x v->bG xs us->r x xs H Q->
  wpAny (model X.prog X.w) X.A (call (.builtin id) (v::us)) (EP X pins σ Q) X.xe s
theorem bG.one {x:V}{us:List Value} (h:bG [x] us):∃ u,us=[u]/\bE x u:=pP h
theorem bG.two {x y:V}{us:List Value} (h:bG [x,y] us):∃ u v,us=[u,v]/\bE x u/\bE y v:=JS h
theorem bG.eraseIdx:∀ {xs:List V}{us:List Value} (i:Nat),bG xs us->bG (xs.eraseIdx i) (us.eraseIdx i)
 | _,_,_,.nil=>.nil
 | _,_,0,.cons _ t=>t
 | _,_,i+1,.cons r t=>.cons r (bG.eraseIdx i t)
theorem bG.rep {xs:List V}{us:List Value} (h:bG xs us):∀ k:Nat,bG (List.replicate k xs).flatten (List.replicate k us).flatten
 | 0=>.nil
 | k+1=>by
  rw[List.replicate_succ,List.replicate_succ,List.flatten_cons,List.flatten_cons]
  exact bG.append h (bG.rep h k)
theorem tI {ar:Type}:∀ (l:List ar) (i:Nat),(l.eraseIdx i).length<=l.length
 | [],_=>Nat.le_refl _
 | _::_,0=>Nat.le_succ _
 | _::r,i+1=>Nat.succ_le_succ (tI r i)
theorem tO (its:List Value):∀ (k:Nat) (acc:List Value),
  List.foldl (λ x1 x2=>x1++x2) acc.toArray (List.replicate k its.toArray)=(acc++(List.replicate k its).flatten).toArray
 | 0,acc=>by simp
 | k+1,acc=>by
  have e:acc.toArray++its.toArray=(acc++its).toArray:=by simp
  have e2:(acc++its)++(List.replicate k its).flatten=acc++(List.replicate (k+1) its).flatten:=by
   rw[List.replicate_succ,List.flatten_cons,ach]
  rw[<- e2,<- tO its k (acc++its),<- e,List.replicate_succ,abt]
section
variable {X:Cx}{pins:List (Addr×Obj)}{σ:St}{H:Hp}{s:Shared}{l b:Addr}{xs ys zs:List V}
theorem Inv.lset {its its':List Value}{n:Nat}{f:Array Value->Array Value}{t':Nat} (I:Inv X pins σ H s) (hH:H l=some (.lst xs))
  (e:s.heap.get? l=some { cls:=.type "list",data:=.seq its.toArray n }) (hf:f its.toArray=its'.toArray) (hv:bG ys its') (hz:ys.length<=sizeLine) :
  Inv X pins σ (upd H l (.lst ys)) { s with heap:=s.heap.update l (Obj.mapSeq f),toks:=t' }:=by
 have q:=PySem.IsL.update e f
 rw[hf] at q
 refine I.write (x:=l) (e:=l) (by rw[hH];exact trivial) (.inl rfl) (λ b' u hb hu=>(acm s.heap (Obj.mapSeq f) (Ne.symm hb)).trans hu) ⟨_,q⟩ ?_
 exact⟨hz,its',_,hv,q⟩
theorem Inv.lnew {its:List Value}{t':Nat} (I:Inv X pins σ H s) (hv:bG ys its) (hz:ys.length<=sizeLine) :
  Inv X pins σ (upd H s.heap.objs.size (.lst ys)) { s with heap:=s.heap.push { cls:=.type "list",data:=.seq its.toArray },toks:=t' }:=
 I.laid (λ _ _ q=>aab _ q) (Nat.le_refl _) ⟨hz,its,0,hv,aag _ rfl⟩
theorem Inv.fresh (I:Inv X pins σ H s):H s.heap.objs.size=none:=I.hok.fresh (Nat.le_refl _)
theorem Inv.lstM (I:Inv X pins σ H s) (hH:H l=some (.lst xs)):xs.length<=sizeLine/\∃ (its:List Value) (n:Nat),bG xs its/\xs.length=its.length/\s.heap.get? l=some { cls:=.type "list",data:=.seq its.toArray n }:=by
 obtain⟨z,its,n,r,e⟩:=I.hok l _ hH
 exact⟨z,its,n,r,r.length,e⟩
theorem FQ {n:Nat} (h:n<=sizeLine):Builtin.List.listTooLong n=false:=by
 unfold Builtin.List.listTooLong
 exact decide_eq_false (by omega)
end
section
variable {X:Cx}
noncomputable def IF:V->List V->Hp->VK->Prop:=λ x vs H Q=>∃ l xs y,x=.ref l/\vs=[y]/\H l=some (.lst xs)/\xs.length < sizeLine/\Q .non (upd H l (.lst (xs++[y])))
theorem cE:MtM X "list.append" IF:=by
 intro pins s σ H x vs v us Q I rx rv h
 obtain⟨l,xs,y,rfl,rfl,hH,hz,q⟩:=h
 cases rx
 obtain⟨u,rfl,ru⟩:=rv.one
 obtain⟨z,its,n,r,hl,e⟩:=I.lstM hH
 refine call_meets F.slot_list_append ⟨_,e,rfl⟩ F.entry_list_append (F.args_list_append_2 _ _) (PySem.list_append l its.toArray n u (by rw[aao];omega)) ⟨e,?_⟩
 refine⟨.non,_,I.lset (its':=its++[u]) hH e (by simp) (r.append (.cons ru .nil)) ?_,rfl,q⟩
 rw[aat,List.length_singleton]
 omega
noncomputable def IE:V->List V->Hp->VK->Prop:=λ x vs H Q=>∃ l b xs zs,x=.ref l/\vs=[.ref b]/\H l=some (.lst xs)/\H b=some (.lst zs)/\xs.length+zs.length<=sizeLine/\Q .non (upd H l (.lst (xs++zs)))
theorem D8:MtM X "list.extend" IE:=by
 intro pins s σ H x vs v us Q I rx rv h
 obtain⟨l,b,xs,zs,rfl,rfl,hH,hB,hz,q⟩:=h
 cases rx
 obtain⟨u,rfl,ru⟩:=rv.one
 cases ru
 obtain⟨z,its,n,r,hl,e⟩:=I.lstM hH
 obtain⟨z2,its2,n2,r2,hl2,e2⟩:=I.lstM hB
 have hsz:its.toArray.size+its2.toArray.size<=sizeLine:=by rw[aao,aao];omega
 have hlong:¬ (!its.toArray.isEmpty && Builtin.List.listTooLong (its.toArray.size+its2.toArray.size))=true:=by
  rw[FQ hsz,Bool.and_false]
  exact aal
 refine call_meets F.slot_list_extend ⟨_,e,rfl⟩ F.entry_list_extend (F.args_list_extend_2 _ _)
  (AutoSeq1.list_extend_list_list_0 l its.toArray n b its2.toArray n2 hlong (by rw[aao];omega) (by omega)) ⟨e,e2,?_⟩
 refine⟨.non,_,I.lset (its':=its++its2) hH e (by simp) (r.append r2) ?_,rfl,q⟩
 rw[aat]
 omega
noncomputable def L1:V->List V->Hp->VK->Prop:=λ x vs H Q=>∃ l xs i k y,x=.ref l/\vs=[.int i]/\H l=some (.lst xs)/\-(2 ^ 63)<=i/\i < 2 ^ 63/\seqIndex? i xs.length=some k/\xs[k]? = some y/\Q y (upd H l (.lst (xs.eraseIdx k)))
theorem FS:MtM X "list.pop" L1:=by
 intro pins s σ H x vs v us Q I rx rv h
 obtain⟨l,xs,i,k,y,rfl,rfl,hH,h1,h2,hk,hy,q⟩:=h
 cases rx
 obtain⟨u,rfl,ru⟩:=rv.one
 obtain⟨t,rfl⟩:=ru
 obtain⟨z,its,n,r,hl,e⟩:=I.lstM hH
 obtain⟨w,hw,rw'⟩:=r.get hy
 refine call_meets F.slot_list_pop ⟨_,e,rfl⟩ F.entry_list_pop (F.args_list_pop_2 _ _)
  (MeetsSeq.list_pop_at l its.toArray n i t k w (fitsIndex_both h1 h2) (by rw[aao,<- hl];exact hk) (by rw[<- abn];exact hw) (by rw[aao];omega)) ⟨e,?_⟩
 refine⟨y,_,I.lset (its':=its.eraseIdx k) hH e ?_ (r.eraseIdx k) ?_,rw',q⟩
 ·show its.toArray.eraseIdxIfInBounds k=(its.eraseIdx k).toArray
  rw[List.eraseIdxIfInBounds_toArray]
 ·have:=tI xs k
  omega
noncomputable def rCat:R2:=λ x y H Q=>∃ l b xs zs,x=.ref l/\y=.ref b/\H l=some (.lst xs)/\H b=some (.lst zs)/\xs.length+zs.length<=sizeLine/\∀ p,H p=none->Q (.ref p) (upd H p (.lst (xs++zs)))
theorem qX:g7 X (binaryOp .Add) rCat:=by
 intro pins s σ H x y v u Q I rx ry h
 obtain⟨l,b,xs,zs,rfl,rfl,hH,hB,hz,q⟩:=h
 cases rx
 cases ry
 obtain⟨z,its,n,r,hl,e⟩:=I.lstM hH
 obtain⟨z2,its2,n2,r2,hl2,e2⟩:=I.lstM hB
 refine PySem.P.add_list e e2 ?_ (by rw[aao,aao];omega)
 have ea:its.toArray++its2.toArray=(its++its2).toArray:=by simp
 rw[ea]
 exact⟨.ref _,_,I.lnew (t':=s.toks) (r.append r2) (by rw[aat];omega),rfl,q _ I.fresh⟩
theorem B8 {ar:Type} (xs:List ar) (k:Nat):(List.replicate k xs).flatten.length=k * xs.length:=by
 induction k with
 | zero=>simp
 | succ k ih=>rw[List.replicate_succ,List.flatten_cons,aat,ih,Nat.succ_mul,Nat.add_comm]
end
section
variable {prog:Program}{w:World}{A:Around}{E:Value->Shared->Prop}{s:Shared}
end
section
variable {X:Cx}
end
end L2
namespace L2
open PySem PySem.Spec PyProof.Rows
section
variable {bb:Type} [DecidableEq bb]
noncomputable def eC (kvs:List (bb×V)) (k:bb):Option V:=(kvs.find? λ kv=>decide (kv.1=k)).map (·.2)
noncomputable def gK (kvs:List (bb×V)) (k:bb) (v:V):List (bb×V):=
 if (kvs.any λ kv=>decide (kv.1=k))=true then kvs.map (λ kv=>if kv.1=k then (kv.1,v) else kv) else kvs++[(k,v)]
theorem dP {p:bb×V}{r:List (bb×V)}{k:bb} (e:p.1=k):eC (p::r) k=some p.2:=by simp [eC,List.find?_cons,e]
theorem dQ {p:bb×V}{r:List (bb×V)}{k:bb} (e:¬ p.1=k):eC (p::r) k=eC r k:=by simp [eC,List.find?_cons,e]
theorem jL (k:bb):∀ kvs:List (bb×V),(kvs.any λ kv=>decide (kv.1=k))=(eC kvs k).isSome
 | []=>rfl
 | p::r=>by
  rw[List.any_cons]
  by_cases e:p.1=k
  ·simp only [dP e,decide_eq_true e,Bool.true_or,Option.isSome_some]
  ·rw[dQ e,decide_eq_false e,Bool.false_or];exact jL k r
theorem wA (k j:bb) (y:V):∀ kvs:List (bb×V),eC (kvs.map λ kv=>if kv.1=k then (kv.1,y) else kv) j=(eC kvs j).map λ x=>if j=k then y else x
 | []=>rfl
 | p::r=>by
  have ih:=wA k j y r
  rw[aaw]
  by_cases h:p.1=k
  ·rw[if_pos h]
   by_cases e:p.1=j
   ·rw[dP (p:=(p.1,y)) e,dP e,Option.map_some,if_pos (e.symm.trans h)]
   ·rw[dQ (p:=(p.1,y)) e,dQ e,ih]
  ·rw[if_neg h]
   by_cases e:p.1=j
   ·rw[dP (p:=p) e,dP e,Option.map_some,if_neg (λ z=>h (e.trans z))]
   ·rw[dQ (p:=p) e,dQ e,ih]
theorem sW (k j:bb) (y:V):∀ kvs:List (bb×V),eC kvs k=none->eC (kvs++[(k,y)]) j=if j=k then some y else eC kvs j
 | [],_=>by
  by_cases e:k=j
  ·rw[if_pos e.symm];exact dP (p:=(k,y)) e
  ·rw[if_neg (λ z=>e z.symm)];exact dQ (p:=(k,y)) e
 | p::r,hn=>by
  rw[List.cons_append]
  have hk:¬ p.1=k:=λ z=>by rw[dP z] at hn;cases hn
  rw[dQ hk] at hn
  have ih:=sW k j y r hn
  by_cases e:p.1=j
  ·rw[dP e,dP e,if_neg (λ z=>hk (e.trans z))]
  ·rw[dQ e,dQ e,ih]
theorem jK (kvs:List (bb×V)) (k j:bb) (y:V):eC (gK kvs k y) j=if j=k then some y else eC kvs j:=by
 unfold gK
 by_cases a:(kvs.any λ kv=>decide (kv.1=k))=true
 ·rw[if_pos a,wA]
  rw[jL] at a
  by_cases e:j=k
  ·obtain⟨x,hx⟩:=Option.isSome_iff_exists.mp a
   rw[if_pos e,e,hx,Option.map_some,if_pos rfl]
  ·rw[if_neg e]
   cases eC kvs j with
   | none=>rfl
   | some x=>rw[Option.map_some,if_neg e]
 ·rw[if_neg a]
  refine sW k j y kvs ?_
  rw[jL] at a
  cases q:eC kvs k with
  | none=>rfl
  | some x=>rw[q] at a;exact (a rfl).elim
theorem fU (kvs:List (bb×V)) (k:bb) (v:V):(gK kvs k v).length<=kvs.length+1:=by
 unfold gK
 split
 ·rw[aac];omega
 ·rw[aat,aax,List.length_nil];omega
theorem jI.isSome_eq {o:Option V}{u:Option Value} (r:jI o u):o.isSome=u.isSome:=by
 cases o with
 | none=>cases u with
  | none=>rfl
  | some _=>exact (show False from r).elim
 | some _=>cases u with
  | none=>exact (show False from r).elim
  | some _=>rfl
theorem jI.getD {o:Option V}{u:Option Value}{d:V}{d':Value} (r:jI o u) (rd:bE d d'):bE (o.getD d) (u.getD d'):=by
 cases o with
 | none=>cases u with
  | none=>exact rd
  | some _=>exact (show False from r).elim
 | some _=>cases u with
  | none=>exact (show False from r).elim
  | some _=>exact r
theorem KV.val {kvs:List (bb×V)}{vs:List (bb×Value)} (r:KV kvs vs) (k:bb):jI (eC kvs k) (valueAt vs k):=by
 unfold KV at r
 induction r with
 | nil=>exact True.intro
 | @cons p q ps qs h t ih=>
  obtain⟨h1,h2⟩:=h
  by_cases e:p.1=k
  ·have e':q.1=k:=h1.symm.trans e
   have b:valueAt (q::qs) k=some q.2:=by simp [valueAt,List.find?_cons,e']
   rw[dP e,b];exact h2
  ·have e':¬ q.1=k:=λ z=>e (h1.trans z)
   have b:valueAt (q::qs) k=valueAt qs k:=by simp [valueAt,List.find?_cons,e']
   rw[dQ e,b];exact ih
theorem KV.any {kvs:List (bb×V)}{vs:List (bb×Value)} (r:KV kvs vs) (k:bb):(kvs.any λ kv=>decide (kv.1=k))=vs.any λ kv=>decide (kv.1=k):=by
 unfold KV at r
 induction r with
 | nil=>rfl
 | cons h t ih=>rw[List.any_cons,List.any_cons,ih,h.1]
theorem KV.repl {kvs:List (bb×V)}{vs:List (bb×Value)} (r:KV kvs vs) (k:bb) {y:V}{u:Value} (ry:bE y u) :
  KV (kvs.map λ kv=>if kv.1=k then (kv.1,y) else kv) (vs.map λ kv=>if kv.1=k then (kv.1,u) else kv):=by
 unfold KV at r ⊢
 induction r with
 | nil=>exact .nil
 | @cons p q ps qs h t ih=>
  rw[aaw,aaw]
  refine .cons ?_ ih
  obtain⟨h1,h2⟩:=h
  by_cases e:p.1=k
  ·rw[if_pos e,if_pos (h1.symm.trans e)];exact⟨h1,ry⟩
  ·rw[if_neg e,if_neg (λ z=>e (h1.trans z))];exact⟨h1,h2⟩
theorem KV.put {kvs:List (bb×V)}{vs:List (bb×Value)} (r:KV kvs vs) (k:bb) {y:V}{u:Value} (ry:bE y u):KV (gK kvs k y) (stored vs k u):=by
 unfold gK stored
 rw[r.any k]
 by_cases e:(vs.any λ kv=>decide (kv.1=k))=true
 ·rw[if_pos e,if_pos e];exact r.repl k ry
 ·rw[if_neg e,if_neg e];exact Paired.snoc r ⟨rfl,ry⟩
theorem KV.length {kvs:List (bb×V)}{vs:List (bb×Value)} (r:KV kvs vs):kvs.length=vs.length:=Paired.length r
end
theorem G8 {P:Program}{w:World}{k:fQ}{u:Value} (r:bE (kV k) u):(dM P w).is k u=true:=by
 cases k with
 | inl i=>obtain⟨t,e⟩:=(show ∃ t,u=Value.int i t from r);subst e;exact xK P w i t
 | inr z=>cases z with
  | some x=>obtain⟨t,e⟩:=(show ∃ t,u=Value.str x t from r);subst e;exact xJ P w x t
  | none=>obtain rfl:=(show u=Value.none from r);rfl
theorem gF {P:Program}{w:World}:∀ {ks:List fQ}{us:List Value},bG (ks.map kV) us->ItemsAre (dM P w) ks us
 | [],_,r=>by rw[List.map_nil] at r;cases r;exact .nil
 | k::ks,_,r=>by
  rw[aaw] at r
  cases r with
  | cons h t=>exact .cons (G8 h) (gF t)
noncomputable abbrev KT (H:Hp):List (List fQ×V)->List (List fQ×Addr×Value)->Prop:=Paired λ p q=>p.1=q.1/\H q.2.1=some (.tup (p.1.map kV))/\bE p.2 q.2.2
theorem KT.val {H:Hp}{kvs:List (List fQ×V)}{xs:List (List fQ×Addr×Value)} (r:KT H kvs xs) (k:List fQ):jI (eC kvs k) ((atKey xs k).map (·.2)):=by
 induction r with
 | nil=>exact True.intro
 | @cons p q ps qs h t ih=>
  obtain⟨h1,_,h2⟩:=h
  by_cases e:p.1=k
  ·have e':q.1=k:=h1.symm.trans e
   have b:atKey (q::qs) k=some q.2:=by simp [atKey,List.find?_cons,e']
   rw[dP e,b];exact h2
  ·have e':¬ q.1=k:=λ z=>e (h1.trans z)
   have b:atKey (q::qs) k=atKey qs k:=by simp [atKey,List.find?_cons,e']
   rw[dQ e,b];exact ih
theorem KT.repl {H:Hp}{kvs:List (List fQ×V)}{xs:List (List fQ×Addr×Value)} (r:KT H kvs xs) (k:List fQ) {y:V}{u:Value} (ry:bE y u) :
  KT H (kvs.map λ kv=>if kv.1=k then (kv.1,y) else kv) (xs.map (putAt k u)):=by
 induction r with
 | nil=>exact .nil
 | @cons p q ps qs h t ih=>
  rw[aaw,aaw]
  refine .cons ?_ ih
  obtain⟨h1,h2,h3⟩:=h
  unfold putAt
  by_cases e:p.1=k
  ·rw[if_pos e,if_pos (h1.symm.trans e)];exact⟨h1,h2,ry⟩
  ·rw[if_neg e,if_neg (λ z=>e (h1.trans z))];exact⟨h1,h2,h3⟩
theorem KT.put {H:Hp}{kvs:List (List fQ×V)}{xs:List (List fQ×Addr×Value)} (r:KT H kvs xs) (k:List fQ) {b:Addr}{y:V}{u:Value} (hb:H b=some (.tup (k.map kV))) (ry:bE y u) :
  KT H (gK kvs k y) (storedH xs k b u):=by
 have e:(kvs.any λ kv=>decide (kv.1=k))=(atKey xs k).isSome:=by
  rw[jL,(r.val k).isSome_eq,Option.isSome_map]
 unfold gK storedH
 rw[e]
 by_cases q:(atKey xs k).isSome=true
 ·rw[if_pos q,if_pos q];exact r.repl k ry
 ·rw[if_neg q,if_neg q];exact Paired.snoc r ⟨rfl,hb,ry⟩
theorem KT.keeps {H H':Hp}{kvs:List (List fQ×V)}{xs:List (List fQ×Addr×Value)} (r:KT H kvs xs) (ht:∀ b ys,H b=some (.tup ys)->H' b=some (.tup ys)):KT H' kvs xs:=
 Paired.mapP r λ _ _ z=>⟨z.1,ht _ _ z.2.1,z.2.2⟩
section
variable {P:Program}{w:World}{H:Hp}{h:Heap}{a:Addr}
theorem JW {u:HO} (ok:lY P w H h) (e:Rd H a u):cN P w H h a u:=e.ok ok
theorem GZ {kvs:List (fQ×V)} (ok:lY P w H h) (e:Rd H a (.dK kvs)):kvs.length<=sizeLine/\(a == sysModules)=false/\∃ vs,KV kvs vs/\h.DictOf (dM P w) a vs:=
 show cN P w H h a (.dK kvs) from JW ok e
theorem KB {kvs:List (fQ×V)} (ok:lY P w H h) (e:H a=some (.dK kvs)):kvs.length<=sizeLine/\(a == sysModules)=false/\∃ vs,KV kvs vs/\h.DictOf (dM P w) a vs:=GZ ok (.inl e)
theorem zU {ks:List fQ} (ok:lY P w H h) (e:H a=some (.tup (ks.map kV))):(tupleKind (dM P w)).is h ks a:=by
 obtain⟨_,its,r,o,h1,h2,n,h3⟩:=(show cN P w H h a (.tup (ks.map kV)) from ok a _ e)
 exact⟨o,its.toArray,n,h1,h2,h3,by simpa using gF r⟩
theorem GY {kvs:List (List fQ×V)} (ok:lY P w H h) (e:Rd H a (.dT kvs)):kvs.length<=sizeLine/\(a == sysModules)=false/\
  ∃ xs,KT H kvs xs/\h.DictOfH (tupleKind (dM P w)) a xs:=by
 obtain⟨z,y,xs,r,o,es,ep,h1,h2,h3,h4,h5⟩:=(show cN P w H h a (.dT kvs) from JW ok e)
 refine⟨z,y,xs,r,o,es,ep,h1,h2,h3,h4,λ x hx=>?_,h5⟩
 have all:∀ {l:List (List fQ×V)}{m:List (List fQ×Addr×Value)},KT H l m->∀ x∈m,(tupleKind (dM P w)).is h x.1 x.2.1:=by
  intro l m q
  induction q with
  | nil=>intro x hx;exact nomatch hx
  | @cons p q ps qs hq t ih=>
   intro x hx
   rcases List.mem_cons.mp hx with e | hx
   ·subst e
    exact zU ok (by rw[<- hq.1];exact hq.2.1)
   ·exact ih x hx
 exact all r x hx
theorem NH {kvs:List (List fQ×V)} (ok:lY P w H h) (e:H a=some (.dT kvs)):kvs.length<=sizeLine/\(a == sysModules)=false/\
  ∃ xs,KT H kvs xs/\h.DictOfH (tupleKind (dM P w)) a xs:=GY ok (.inl e)
end
noncomputable def A6 (H:Hp) (a:Addr) (y:V) (r:Option V):Prop:=
 (∃ kvs k,Rd H a (.dK kvs)/\y=kV k/\r=eC kvs k)\/∃ kvs k b,Rd H a (.dT kvs)/\y=.ref b/\H b=some (.tup (k.map kV))/\r=eC kvs k
noncomputable def HN (H:Hp) (a:Addr) (y v:V) (H':Hp):Prop:=
 (∃ kvs k,H a=some (.dK kvs)/\y=kV k/\kvs.length < sizeLine/\H'=upd H a (.dK (gK kvs k v)))\/
 ∃ kvs k b,H a=some (.dT kvs)/\y=.ref b/\H b=some (.tup (k.map kV))/\kvs.length < sizeLine/\H'=upd H a (.dT (gK kvs k v))
theorem A6.k {H:Hp}{a:Addr}{kvs:List (fQ×V)}{k:fQ} (e:H a=some (.dK kvs)):A6 H a (kV k) (eC kvs k):=.inl ⟨kvs,k,.inl e,rfl,rfl⟩
theorem HN.k {H:Hp}{a:Addr}{kvs:List (fQ×V)}{k:fQ}{v:V} (e:H a=some (.dK kvs)) (hl:kvs.length < sizeLine):HN H a (kV k) v (upd H a (.dK (gK kvs k v))):=.inl ⟨kvs,k,e,rfl,hl,rfl⟩
section
variable {X:Cx}{pins:List (Addr×Obj)}{σ:St}{H:Hp}{s:Shared}{a:Addr}{y v:V}{u r:Value}{o:Option V}{A:Around}{E:Value->Shared->Prop}
theorem Inv.big (I:Inv X pins σ H s):sysModules < s.heap.objs.size:=by
 have h:mainGlobals < s.heap.objs.size:=(I.mod.glob.keeps I.bk).lt
 exact Nat.lt_trans (by decide) h
theorem vQ {h':Heap}{t':Nat}{ob:HO} (I:Inv X pins σ H s) (mu:iF (H a)) (hs:Heap.SameBut a s.heap h') (he:∃ q,h'.get? a=some q) (new:cN X.prog X.w (upd H a ob) h' a ob) :
  Inv X pins σ (upd H a ob) { s with heap:=h',toks:=t' }:=
 I.write (x:=a) (e:=a) mu (.inl rfl) (λ b q hb z=>(hs.2 b hb).trans z) he new
theorem LS {P:Program}{w:World}{H':Hp}{h':Heap}{kvs:List (fQ×V)}{vs:List (fQ×Value)} (z:kvs.length<=sizeLine) (hd:(a == sysModules)=false) (rel:KV kvs vs) (dd:h'.DictOf (dM P w) a vs) :
  cN P w H' h' a (.dK kvs):=⟨z,hd,vs,rel,dd⟩
theorem DQ {H':Hp}{Q:Unit->Shared->Prop} (hu:A.units+1 < cLine) (I:Inv X pins σ H s) (g:HN H a y v H') (ry:bE y u) (rv:bE v r) (h:∀ s',Inv X pins σ H' s'->Q () s') :
  wpAny (model X.prog X.w) A (setItem (.ref a) u r) Q E s:=by
 rcases g with ⟨kvs,k,e,ey,l,eH⟩ | ⟨kvs,k,b,e,ey,eb,l,eH⟩
 ·subst ey eH
  obtain⟨z,hd,vs,rel,dd⟩:=KB I.hok e
  have hz:vs.length<=sizeLine:=by rw[<- rel.length];exact z
  have hl:(gK kvs k v).length<=sizeLine:=by have:=fU kvs k v;omega
  refine wpAny_setItem_pairs (hsz:=hz) (G8 ry) dd λ h' dd' hs=>h _ ?_
  have he:∃ q,h'.get? a=some q:=let ⟨q,_,_,hq,_⟩:=dd';⟨q,hq⟩
  exact vQ I (by rw[e];exact True.intro) hs he (LS hl hd (rel.put k rv) dd')
 ·subst ey eH
  cases (show u=Value.ref b from ry)
  obtain⟨z,hd,xs,rel,dd⟩:=NH I.hok e
  have hz:xs.length<=sizeLine:=by rw[<- Paired.length rel];exact z
  have hl:(gK kvs k v).length<=sizeLine:=by have:=fU kvs k v;omega
  refine wpAny_setItem_heap (hsz:=hz) (tupleKind_room_in1 hu) (zU I.hok eb) dd λ h' dd' hs=>h _ ?_
  obtain⟨q,es,ep,hq,h2,h3,h4,_,h5⟩:=dd'
  refine vQ I (by rw[e];exact True.intro) hs ⟨q,hq⟩ ⟨hl,hd,_,(rel.put k eb rv).keeps λ c ys ec=>?_,q,es,ep,hq,h2,h3,h4,h5⟩
  rw[aM (K2 ec e (λ z=>nomatch z))]
  exact ec
end
section
variable {X:Cx}{pins:List (Addr×Obj)}{σ:St}{H:Hp}{s:Shared}{a:Addr}{kvs:List (fQ×V)}{k:fQ}{u:Value}{A:Around}{E:Value->Shared->Prop}
end
noncomputable def MN (td ty tv:TE):TS:=λ D σ H=>tv σ H λ v H1=>td σ H1 λ x H2=>ty σ H2 λ y H3=>∃ a H4,x=.ref a/\HN H3 a y v H4/\D.nx σ H4
section
variable {X:Cx}{o i e value:Expr}{pos pos' tpos:Pos}{td ty tv:TE}
theorem IH (hu:X.A.units+1 < cLine) (ho:PE X o td) (hi:PE X i ty) (hv:PE X value tv) (hs:swapsWith value (some (.Subscript o i pos')) pos.line X.env=pure false) :
  PS X (.Assign [.Subscript o i pos'] value pos) (MN td ty tv):=by
 intro pins s σ H D I h
 refine wpAny_Assign_Subscript (cW (hv pins s σ H _ I h) λ r s1 ⟨v,H1,I1,rv,q1⟩=>cW (ho pins s1 σ H1 _ I1 q1) λ u s2 ⟨x,H2,I2,rx,q2⟩=>cW (hi pins s2 σ H2 _ I2 q2) λ iv s3 ⟨y,H3,I3,ry,a,H4,ex,g,q3⟩=>?_) hs
 subst ex
 obtain rfl:u=Value.ref a:=rx
 exact DQ hu I3 g ry rv λ s4 I4=>⟨σ,H4,I4,q3⟩
end
theorem HA {P:Program}{w:World}{H:Hp} (h:Heap) (hb:sysModules < h.objs.size):cN P w H (h.push { cls:=.type "dict",data:=.dict #[] }) h.objs.size (.dK []):=
 ⟨Nat.zero_le _,beq_eq_false_iff_ne.mpr (Ne.symm (aay hb)),[],.nil,Heap.DictOf.new h⟩
noncomputable def KO:TE:=λ _ H Q=>∀ p,H p=none->Q (.ref p) (upd H p (.dK []))
section
variable {X:Cx}{pos:Pos}
theorem wX:PE X (.Dict [] [] pos) KO:=λ pins s σ H Q I h=>
 wpAny_Dict_empty ⟨.ref s.heap.objs.size,_,I.laid (a:=s.heap.objs.size) (o:=.dK []) (t':=s.toks) (λ _ _ q=>aab _ q) (Nat.le_refl _) (HA s.heap I.big),rfl,h _ (I.hok.fresh (Nat.le_refl _))⟩
end
structure M2 (X:Cx) (o:Expr) (m:Str) (apos:Pos) (e f:Expr) (cpos:Pos):Prop where
 base:attributeBase o m X.env (eval o X.env)=eval o X.env
 few:((backTo cpos (starEach [e,f] X.env)).all (λ x=>!x.1) && (backToKw cpos (keywordEach [] X.env)).all (λ x=>x.1.isSome)
  && decide (([e,f]:List Expr).length+([]:List Keyword).length+(if ([]:List Keyword).isEmpty then 0 else 1) < 30))=true
 line:(apos.endLine == cpos.line)=true
 trees:backTo cpos (starEach [e,f] X.env)=[(false,eval e X.env),(false,eval f X.env)]
noncomputable def IsD (H:Hp) (a:Addr):Prop:=(∃ kvs,Rd H a (.dK kvs))\/∃ kvs,Rd H a (.dT kvs)
theorem LN {X:Cx}{pins:List (Addr×Obj)}{σ:St}{H:Hp}{s:Shared}{a:Addr} (I:Inv X pins σ H s) (d:IsD H a) :
  s.TypeIs (.ref a) "dict" /\ (∀ b,Value.ref a=.ref b->∃ ob,s.heap.get? b=some ob/\ob.dict=none)/\(a == sysModules)=false:=by
 rcases d with ⟨kvs,e⟩ | ⟨kvs,e⟩
 ·obtain⟨_,hd,vs,_,dd⟩:=GZ I.hok e
  refine⟨dd.typeIs,λ b q=>?_,hd⟩
  cases q
  obtain⟨ob,_,_,h1,h2,_⟩:=dd
  exact⟨ob,h1,h2.2.1⟩
 ·obtain⟨_,hd,xs,_,dd⟩:=GY I.hok e
  refine⟨dd.typeIs,λ b q=>?_,hd⟩
  cases q
  obtain⟨ob,_,_,h1,h2,_⟩:=dd
  exact⟨ob,h1,h2.2.1⟩
section
variable {X:Cx}{pins:List (Addr×Obj)}{σ:St}{H:Hp}{s:Shared}{a:Addr}{y d:V}{u r:Value}{o:Option V}{A:Around}{E:Value->Shared->Prop}
theorem LU {Q:Value->Shared->Prop} (hu:A.units+1 < cLine) (I:Inv X pins σ H s) (g:A6 H a y o) (ry:bE y u) (rd:bE d r) (h:∀ w' s',Inv X pins σ H s'->bE (o.getD d) w'->Q w' s') :
  wpAny (model X.prog X.w) A (call (.builtin "dict.get") [.ref a,u,r]) Q E s:=by
 rcases g with ⟨kvs,k,e,ey,l⟩ | ⟨kvs,k,b,e,ey,eb,l⟩
 ·subst ey
  obtain⟨z,hd,vs,rel,dd⟩:=GZ I.hok e
  refine call_meetsIn PySem.F.slot_dict_get dd.typeIs PySem.F.entry_dict_get (PySem.F.args_dict_get_3 _ _ _) (meets_dict_get_default (dM X.prog X.w) a (G8 ry) hd r) ⟨_,dd.mapOf,h _ _ (I.tok _) ?_⟩
  rw[l]
  exact (rel.val k).getD rd
 ·subst ey
  cases (show u=Value.ref b from ry)
  obtain⟨z,hd,xs,rel,dd⟩:=GY I.hok e
  refine call_meetsIn PySem.F.slot_dict_get dd.typeIs PySem.F.entry_dict_get (PySem.F.args_dict_get_3 _ _ _) (meetsH_dict_get_default (tupleKind (dM X.prog X.w)) a b hd r) ⟨tupleKind_room_in1 hu,k,xs,zU I.hok eb,dd,h _ _ (I.tok _) ?_⟩
  rw[l]
  exact (rel.val k).getD rd
end
noncomputable def KP (td ty tx:TE):TE:=λ σ H Q=>td σ H λ x H1=>∃ a,x=.ref a/\IsD H1 a/\ty σ H1 λ y H2=>tx σ H2 λ z H3=>∃ o,A6 H3 a y o/\Q (o.getD z) H3
section
variable {X:Cx}{o e f:Expr}{apos cpos:Pos}{td ty tx:TE}
theorem qU (hu:X.A.units+1 < cLine) (ho:PE X o td) (he:PE X e ty) (hf:PE X f tx) (m:M2 X o "get" apos e f cpos):PE X (.Call (.Attribute o "get" apos) [e,f] [] cpos) (KP td ty tx):=by
 intro pins s σ H Q I h
 refine wpAny_Call_method m.base m.few m.line PySem.F.plainAttrs_dict PySem.F.slot_dict_get PySem.F.type_dict_get (cW (ho pins s σ H _ I h) λ u s1 ⟨x,H1,I1,rx,a,ex,d,q1⟩=>?_)
 subst ex
 obtain rfl:u=Value.ref a:=rx
 obtain⟨t1,t2,_⟩:=LN I1 d
 refine⟨t1,t2,?_⟩
 rw[m.trees]
 refine Calls.callWith_builtin rfl (Calls.evalArgs_plain (Calls.spliced_cons (cW (he pins s1 σ H1 _ I1 q1) λ iv s2 ⟨y,H2,I2,ry,q2⟩=>
  Calls.spliced_cons (cW (hf pins s2 σ H2 _ I2 q2) λ fv s3 ⟨z,H3,I3,rz,ov,g,q3⟩=>Calls.spliced_nil ?_))))
 exact LU hu I3 g ry rz λ w' s4 I4 rw'=>⟨_,H3,I4,rw',q3⟩
end
section
variable {X:Cx}{pins:List (Addr×Obj)}{σ:St}{H:Hp}{s:Shared}{a:Addr}{kvs:List (fQ×V)}{A:Around}{E:Value->Shared->Prop}
end
section
variable {X:Cx}{pins:List (Addr×Obj)}{σ:St}{H:Hp}{s:Shared}{a:Addr}{y:V}{u:Value}{A:Around}{E:Value->Shared->Prop}
end
end L2
namespace Att
open PySem PySem.W PySem.Calls PyProof.Rows
theorem p9 {P:Params}{h:Heap}:∀ (ns:List Int) (vs:List Value),WellAll P h vs (ns.map WData.int)->IntsAre vs ns:=by
 intro ns
 induction ns with
 | nil=>
  intro vs w
  rw[List.map_nil] at w
  cases w
  exact .nil
 | cons n ns ih=>
  intro vs w
  rw[aaw] at w
  cases w with
  | cons a b=>
   cases a
   exact .cons _ _ (ih _ b)
theorem CI {l:OpenLaw}{n:Nat} (hn:l.most=some n) {P:Params}{h:Heap}{args:List WData}{vals:List Value}
  (hpre:l.row.toRowW.claim.pre args=true) (hwl:WellAll P h vals args) :
  ∃ a vs ns,vals=[Value.ref a]/\args=[WData.list (ns.map WData.int)]/\h.get? a=some { cls:=.type "list",data:=.seq vs.toArray }/\IntsAre vs ns/\ns.length<=n:=by
 have hsh:WShape.hasAll [] args [.list .int]=true:=(pre_splitW hpre).1
 have hc:l.pre.holds [] { args:=args }=true:=(pre_splitW hpre).2
 obtain⟨d,r,rfl,h1,h2⟩:=hasAllW_cons hsh
 obtain rfl:=hasAllW_nil h2
 obtain⟨xs,rfl,h3⟩:=hasW_list h1
 obtain⟨ns,rfl⟩:=items_int h3
 have hlen:ns.length<=n:=by
  unfold OpenLaw.pre at hc
  have h4:(WTm.not (.lt (.lit (.int (n:Int))) (.len (.arg 0)))).holds [] { args:=[.list (ns.map .int)] }=true:=by
   have h4:=(holds_andW hc).1
   rw[hn] at h4
   exact h4
  have h5:=condW_of h4 (w_not (w_lt w_lit (w_len_list (w_arg rfl))))
  rw[aac] at h5
  refine Nat.le_of_not_lt λ q=>?_
  have q':(n:Int) < ((ns.length:Nat):Int):=by omega
  first
   | (rw[decide_eq_true q'] at h5;exact absurd h5 (by decide))
   | (simp at h5;omega)
 cases hwl with
 | cons w1 w2=>
  cases w2
  cases w1 with
  | list ho hall=>exact⟨_,_,ns,rfl,rfl,ho,p9 ns _ hall,hlen⟩
theorem CM (l:OpenLaw) (args:List WData):l.row.toRowW.claim.post args (.bool true) args=true:=
 postW_of (r:=l.row.toRowW) (X:=(true == true))
  (show WShape.has [] (.bool true) .bool=true by first | rfl | decide | simp [WShape.has,WShape.arms,WShape.armsAll])
  (show (WTm.eq .res (.lit (.bool true))).value [] { args:=args,res:=some (.bool true),after:=args }=some (.bool (true == true)) from w_eq_bool (w_res rfl) w_lit) rfl
theorem attach_call {l:OpenLaw}{n:Nat}{q:Program}{loose:List Str}{XP:(Str->Option Value)->Heap->Prop}{YP:World->Heap->Prop}{d:DefRec}
  (hn:l.most=some n) (hdf:d.params.defaults=[])
  (call:∀ (w:World) (s₀ ah:Shared) (mg mb:Str->Option Value) (fa:Addr) (o:Obj) (pm cd doc:Value) (a:Addr) (vs:List Value) (ns:List Int),
   Ground q loose [] XP w s₀ mg mb ah.heap->YP w ah.heap->
   ah.heap.get? fa=some o->o.data=.func (docDef d.name d.params d.body d.scope pm cd doc)->ah.heap.CodeRec cd d.name->mg d.name=some (.ref fa)->
   ah.heap.get? a=some { cls:=.type "list",data:=.seq vs.toArray }->IntsAre vs ns->ns.length<=n->ah.gens = #[]->
   codeAny (model l.prog w) callerA (.call (.ref fa) ⟨[.ref a],[]⟩) (λ r s'=>r=.ok (.ret (.bool true))/\OldK ah.heap s'.heap/\s'.os=ah.os/\AllBare s'.gens) ah) :
  WalkO q loose XP YP l.row.toRowW d [] (λ f vs=>PySem.call f vs):=by
 intro w s₀ ah mg mb G Y fa o pm cd doc dV kV ho hd hcd hD hmg hg args vals as hpre hlay hrd hwl hlo
 obtain rfl:dV=.none:=Dflts.none hD hdf
 obtain rfl:kV=.none:=Dflts.noKw hD
 obtain⟨a,vs,ns,rfl,rfl,hobj,hints,hlen⟩:=CI hn hpre hwl
 refine enter_call (codeAny_mono (call w s₀ ah mg mb fa o pm cd doc a vs ns G Y ho (fd_plain hd) hcd hmg hobj hints hlen hg) λ r s' hq=>?_)
 obtain⟨rfl,h2,h3,h4⟩:=hq
 exact⟨.inl ⟨.bool true,.bool true,[],rfl,λ _=>rfl,.bool true,CM l _,λ _=>⟨List.Pairwise.nil,λ _ hm=>(nomatch hm)⟩⟩,h2,h3,h4⟩
section
variable {prog:Program}{w:World}{A:Around}{E:Value->Shared->Prop}{s:Shared}{K:Frag}
end
end Att
namespace L2
open PySem PySem.Spec PyProof.Rows
theorem sV:∀ {vs:List Value}{ns:List Int},IntsAre vs ns->bG (ns.map V.int) vs
 | _,_,.nil=>.nil
 | _,_,.cons n t h=>.cons ⟨t,rfl⟩ (sV h)
noncomputable def LY (H:Hp):Prop:=∀ b,H b=none\/∃ o xs,H b=some (.frz o (.lst xs))
theorem FZ {P:Program}{w:World}{K:aaa}{mg mb:Str->Option Value}{CX:DZ}{k:Nat}{fa a:Addr}{fd:FuncData}{x:Str}{sp:Sp}{ah:Shared}{vs:List Value}{ns:List Int}
  (KX:K.In ah.heap) (hns:ah.heap.Ns mainGlobals mg) (hb:ah.heap.Ns builtinsNs mb) (hbb:∀ x:Str,x ≠ "__name__" -> mb x=bootBuiltins x) (hlim:ah.heap.NoLimit) (hg:ah.gens = #[])
  (ha:ah.heap.get? a=some { cls:=.type "list",data:=.seq vs.toArray }) (hi:IntsAre vs ns) (hl:ns.length<=sizeLine) (hr:Room k callerA)
  (F:∀ base:Heap,K.In base->base.Ns mainGlobals mg->FnOk P w K mg base CX k fa fd [x] sp) (hbind:∀ (s:Shared) (u:Value),BindsTo s fd ⟨[u],[]⟩ [(x,u)])
  (hsp:∀ H:Hp,LY H->bO K H a (ns.map V.int)->sp [.ref a] H (λ v _=>v=.bl true) λ _ _ _=>False)
  (hCX:∀ H e s',CX [] H ah (λ _ _ _=>False) e s'->False) :
  codeAny (model P w) callerA (.call (.ref fa) ⟨[.ref a],[]⟩) (λ r s'=>r=.ok (.ret (.bool true))/\OldK ah.heap s'.heap/\s'.os=ah.os/\AllBare s'.gens) ah:=by
 have rv:=sV hi
 have lenV:=hi.length
 have core:∀ H:Hp,LY H->bO K H a (ns.map V.int)->lY P w H ah.heap->(∀ b,H b≠none->b=a)->(H a≠none->K.lookup a=none)->
   codeAny (model P w) callerA (.call (.ref fa) ⟨[.ref a],[]⟩) (λ r s'=>r=.ok (.ret (.bool true))/\OldK ah.heap s'.heap/\s'.os=ah.os/\AllBare s'.gens) ah:=by
  intro H hO hS hok hA hK
  have base_of:∀ {b:Addr}{o:Obj},ah.heap.get? b=some o->H b=none->(vI ah.heap H).get? b=some o:=λ e n=>GI e n
  have noA:∀ {b:Addr}{o:Obj}{es:Array DictEntry}{ep:Nat},ah.heap.get? b=some o->o.data=.dict es ep->H b=none:=λ {b o es ep} e d=>by
   cases q:H b with
   | none=>rfl
   | some u=>
    have e':b=a:=hA b (by rw[q];simp)
    subst e'
    rw[ha] at e;cases e
    have d':Data.seq vs.toArray _=Data.dict es ep:=d
    cases d'
  have nsK:∀ {b:Addr}{m:Str->Option Value},ah.heap.Ns b m->(vI ah.heap H).Ns b m:=λ {b m} ⟨o,es,ep,e,d,r⟩=>⟨o,es,ep,base_of e (noA e d),d,r⟩
  have hKb:K.In (vI ah.heap H):=λ b o e=>base_of (KX b o e) (by
   cases q:H b with
   | none=>rfl
   | some u=>
    have e':b=a:=hA b (by rw[q];simp)
    subst e'
    rw[hK (by rw[q];simp)] at e;cases e)
  have hM:Mod K mg (vI ah.heap H):=⟨hKb,nsK hns,⟨mb,nsK hb,hbb⟩,let ⟨mc,h1,h2⟩:=hlim;⟨mc,nsK h1,h2⟩⟩
  have e0:Env0 P w K mg (vI ah.heap H) callerA [] ah H:=⟨rfl,hM,λ b o e=>J3 e,Nat.le_of_eq (DF _ _),trivial,λ b hb=>absurd (show b∈([]:List Addr) from hb) (by simp),hok,.of_eq hg⟩
  refine codeAny_mono ((F _ hKb (nsK hns)).run callerA [] ah H ⟨[.ref a],[]⟩ [.ref a] [.ref a] _ _ hr e0 (hbind ah (.ref a)) (.cons rfl .nil) (hsp H hO hS)) λ r s' h=>?_
  cases r with
  | error e=>exact (hCX H e s' h).elim
  | ok fl=>
   cases fl with
   | next=>exact False.elim h
   | brk=>exact False.elim h
   | cont=>exact False.elim h
   | ret u=>
    obtain⟨v,H',os,bare,un,hok',r',q⟩:=h
    have q':v=.bl true:=q
    subst q'
    obtain rfl:u=Value.bool true:=r'
    refine⟨rfl,OldK.of_keep λ b o e=>?_,os,bare⟩
    cases q:H b with
    | none=>exact un.keep b o e q (by intro z;exact absurd (show b∈([]:List Addr) from z) (by simp)) (by simp)
    | some u=>
     rcases hO b with z | ⟨ob,xs,z⟩
     ·rw[q] at z;cases z
     ·have z2:=un.frzs b ob _ z
      obtain⟨e1,_⟩:=hok b _ z
      obtain⟨e2,_⟩:=hok' b _ z2
      rw[e] at e1;cases e1
      exact e2
 cases hk:K.lookup a with
 | some o=>
  have e:=KX a o hk
  rw[ha] at e
  cases e
  refine core (λ _=>none) (λ _=>.inl rfl) (.inr ⟨_,vs.toArray,_,hk,rfl,rfl,rfl,by rw[aao,lenV];exact hl,by simpa using rv⟩) (λ b u z=>by have z':(none:Option HO)=some u:=z;cases z') (λ b z=>absurd rfl z) λ z=>absurd rfl z
 | none=>
  refine core (λ b=>if b=a then some (.frz { cls:=.type "list",data:=.seq vs.toArray } (.lst (ns.map V.int))) else none) (λ b=>?_) (.inl (.inr ⟨{ cls:=.type "list",data:=.seq vs.toArray },if_pos rfl⟩)) (λ b u z=>?_) (λ b z=>?_) λ _=>hk
  ·by_cases hb:b=a
   ·exact .inr ⟨_,_,if_pos hb⟩
   ·exact .inl (if_neg hb)
  ·by_cases hb:b=a
   ·have z':=(if_pos hb).symm.trans z
    cases z'
    subst hb
    exact⟨ha,by rw[aac];exact hl,vs,_,rv,ha⟩
   ·have z':=(if_neg hb).symm.trans z
    cases z'
  ·by_cases hb:b=a
   ·exact hb
   ·exact absurd (if_neg hb) z
end L2
namespace L2
open PySem PySem.Spec PyProof.Rows
theorem walk_of {l:PySem.W.OpenLaw}{n k:Nat}{q:Program}{loose:List Str}{XP:(Str->Option Value)->Heap->Prop}{YP:World->Heap->Prop}{d:DefRec}{K:Params->aaa}{CX:World->DZ}{sp:World->Sp}{x:Str}
  (hn:l.most=some n) (hn2:n<=sizeLine) (hdf:d.params.defaults=[]) (hr:Room k callerA)
  (hY:∀ (w:World) (h:Heap),YP w h->(K w.params).In h)
  (F:∀ (w:World) (mg:Str->Option Value) (fa:Addr) (h:Heap),(K w.params).In h->h.Ns mainGlobals mg->mg d.name=some (.ref fa)->
   ∃ fd:FuncData,(∀ (s:Shared) (u:Value),BindsTo s fd ⟨[u],[]⟩ [(x,u)])/\
    ∀ base:Heap,(K w.params).In base->base.Ns mainGlobals mg->FnOk l.prog w (K w.params) mg base (CX w) k fa fd [x] (sp w))
  (hsp:∀ (w:World) (H:Hp) (a:Addr) (ns:List Int),ns.length<=n->LY H->bO (K w.params) H a (ns.map V.int)->sp w [.ref a] H (λ v _=>v=.bl true) λ _ _ _=>False)
  (hCX:∀ (w:World) (H:Hp) (s:Shared) (e:Value) (s':Shared),CX w [] H s (λ _ _ _=>False) e s'->False) :
  PySem.W.WalkO q loose XP YP l.row.toRowW d [] (λ f vs=>PySem.call f vs):=by
 refine Att.attach_call hn hdf λ w s₀ ah mg mb fa o pm cd doc a vs ns G Y ho hd hcd hmg hobj hints hlen hg=>?_
 have KX:=hY w _ Y
 obtain⟨fd,hb,hF⟩:=F w mg fa _ KX G.T.g hmg
 exact FZ KX G.T.g G.T.b G.T.builtins G.T.nolimit hg hobj hints (abq hlen hn2) hr hF hb (λ H hO hS=>hsp w H a ns hlen hO hS) λ H e s'=>hCX w H ah e s'
end L2
namespace L2
open PySem PySem.Spec PyProof.Rows
noncomputable def bD (s:Stmt) (j:Nat):Stmt:=match s with
 | .ClassDef _ _ _ body _ _ _ _ _ _ _=>body.getD j (.Pass ⟨0,0,0,0⟩)
 | _=>.Pass ⟨0,0,0,0⟩
noncomputable def aV (s:Stmt):Arguments:=match s with
 | .FunctionDef _ a _ _ _ _ _ _ _ _=>a
 | _=>{ posonlyargs:=[],args:=[],vararg:=none,kwonlyargs:=[],kw_defaults:=[],kwarg:=none,defaults:=[] }
noncomputable def aT (s:Stmt):List Stmt:=match s with
 | .FunctionDef _ _ b _ _ _ _ _ _ _=>b
 | _=>[]
noncomputable def aJ (s:Stmt):Scope:=match s with
 | .FunctionDef _ _ _ _ _ _ sc _ _ _=>sc
 | _=>{ kind:=.function,names:=[],isGenerator:=false,isCoroutine:=false }
noncomputable abbrev gC:DZ:=λ _ _ _ _ _ _=>False
noncomputable abbrev E0:XK:=λ _ _ _=>False
theorem jD {X:Cx}:gT gC X E0:=λ _ _ _ _ _ _ _ h=>h.elim
structure Fun (K:aaa) (x qual:Str) (st:Stmt) (f:Addr) (fd:FuncData):Prop where
 ex:∃ (oc:Value) (od:Option Addr) (kV doc pm:Value) (an:Option Addr) (cdv ct:Value) (osl:Array (Option Value)),
  fd=PySem.W.fnOf x qual (aV st) (aT st) (aJ st) .none kV doc pm an cdv ct/\K.lookup f=some ⟨oc,od,.func fd,osl⟩/\PySem.W.codeIn K cdv qual=true
 kp:PySem.W.keepIn K (.ref f)=true
section
variable {P:Program}{w:World}{K:aaa}{mg:Str->Option Value}{base:Heap}
theorem Fun.ok {x qual:Str}{st:Stmt}{f:Addr}{fd:FuncData}{N ps:List Str}{k:Nat}{sp:Sp} (F:Fun K x qual st f fd) (S:FnScope N ps (aJ st)) (len:∀ vs H Q E,sp vs H Q E->vs.length=ps.length)
  (hbody:∀ (cdv:Value) (A:Around) (outer:List Env) (s:Shared) (H:Hp) (vs:List V) (Q:VK) (E:XK),Room k (A.deeper (envOfC qual (aJ st) s.heap.objs.size f cdv))->sp vs H Q E->
   ∃ t,yC (xW gC P w K mg base N qual (aJ st) f cdv A outer s H E).nox (aT st) t/\t { nx:=λ _ H'=>Q .non H',rt:=Q } (mE N vs) H):FnOk P w K mg base gC (k+1) f fd ps sp:=by
 obtain⟨oc,od,kV,doc,pm,an,cdv,ct,osl,rfl,lk,hcd⟩:=F.ex
 refine K9 lk hcd S len λ A outer s H vs Q E hr hsp=>?_
 obtain⟨t,h,q⟩:=hbody cdv A outer s H vs Q E hr hsp
 exact⟨t,h.nox,q⟩
theorem Fun.binds {x qual:Str}{st:Stmt}{f:Addr}{fd:FuncData}{ps:List Str} (F:Fun K x qual st f fd)
  (h:∀ (kV doc pm:Value) (an:Option Addr) (cdv ct:Value) (us:List Value),us.length=ps.length->bindArgs (PySem.W.fnOf x qual (aV st) (aT st) (aJ st) .none kV doc pm an cdv ct) ⟨us,[]⟩=pure (ps.zip us)):iU K fd ps []:=by
 obtain⟨oc,od,kV,doc,pm,an,cdv,ct,osl,rfl,lk,hcd⟩:=F.ex
 exact .all (h kV doc pm an cdv ct)
theorem bH {x qual:Str}{st:Stmt}{f:Addr}{oc:Value}{od an:Option Addr}{osl:Array (Option Value)}{kV doc pm cdv ct:Value} (l:K.lookup f=some ⟨oc,od,.func (PySem.W.fnOf x qual (aV st) (aT st) (aJ st) .none kV doc pm an cdv ct),osl⟩)
  (c:PySem.W.codeIn K cdv qual=true) (k:PySem.W.keepIn K (.ref f)=true):Fun K x qual st f (PySem.W.fnOf x qual (aV st) (aT st) (aJ st) .none kV doc pm an cdv ct):=⟨⟨oc,od,kV,doc,pm,an,cdv,ct,osl,rfl,l,c⟩,k⟩
end
theorem K8 {A:Around}{k:Nat} (hr:Room k A):A.units+1 < cLine:=Nat.lt_of_le_of_lt (Nat.add_le_add_left (by decide:1<=64) _) hr.units
theorem aP {n:Nat} (h:n<=1000):n < sizeLine:=Nat.lt_of_le_of_lt h (by decide)
section
variable {X:Cx}
theorem pv (i:Nat) {x:Str}{pos:Pos} (hN:X.N[i]? = some x:=by rfl) (hv:Vis X.env.scope x:=by first | exact Or.inl rfl | exact Or.inr (Or.inl rfl) | exact Or.inr (Or.inr rfl)) (hd:(x == ("__debug__" : Str))=false:=by decide)
  (hcd:(x == ("__classdict__" : Str))=false:=by decide):PE X (.Name x pos) (cZ i):=LA hN hv hd hcd
end
theorem eU {A B:Prop} (h:B):if false=true then A else B:=by
 rw[if_neg aal]
 exact h
theorem gA {A B:Prop} (h:A):if true=true then A else B:=by
 rw[if_pos rfl]
 exact h
theorem n6 {c A B:Prop} [Decidable c] (h1:c->A) (h2:¬ c->B):if c then A else B:=by
 by_cases h:c
 ·rw[if_pos h]
  exact h1 h
 ·rw[if_neg h]
  exact h2 h
theorem NA {c A B:Prop} [Decidable c] (hc:c) (h:B):if (!decide c)=true then A else B:=by
 rw[decide_eq_true hc]
 exact eU h
noncomputable def aK (H H':Hp):Prop:=∀ b o,H b=some o->H' b=some o
theorem aK.refl (H:Hp):aK H H:=λ _ _ h=>h
theorem aK.trans {H H1 H2:Hp} (a:aK H H1) (b:aK H1 H2):aK H H2:=λ c o h=>b c o (a c o h)
theorem aK.free {H H':Hp} (e:aK H H') {l:Addr} (h:H' l=Option.none):H l=Option.none:=by
 cases q:H l with
 | none=>rfl
 | some o=>
  rw[e l o q] at h
  cases h
theorem aK.seq {K:aaa}{H H':Hp}{a:Addr}{xs:List V} (e:aK H H') (h:bO K H a xs):bO K H' a xs:=by
 rcases h with (h | ⟨o,h⟩) | h
 ·exact .inl (.inl (e _ _ h))
 ·exact .inl (.inr ⟨o,e _ _ h⟩)
 ·exact .inr h
end L2
set_option maxHeartbeats 4000000
namespace L2
open PySem PySem.Spec PyProof.Rows
theorem g6 {env:Env} (hk:env.scope.kind=.function):∀ {names:List (Str×NameKind)}{x:Str},names.lookup x=some .free->env.kindOf x=some .cell->
  (names.map λ (n,k)=>if (k == NameKind.free && env.scope.kind == .function && env.kindOf n == some .cell) then (n,NameKind.cell) else (n,k)).lookup x=some .cell
 | [],_,h,_=>by simp at h
 | (n,k)::r,x,h,hc=>by
  have ih:=@g6 env hk r x
  show List.lookup x ((if (k == NameKind.free && env.scope.kind == .function && env.kindOf n == some .cell)=true then (n,NameKind.cell) else (n,k))::_)=_
  cases hx:x == n with
  | true=>
   simp only [List.lookup_cons,hx] at h
   cases h
   have e:x=n:=by simpa using hx
   subst e
   rw[if_pos (by rw[hk,hc];decide)]
   simp [List.lookup_cons]
  | false=>
   simp only [List.lookup_cons,hx] at h
   by_cases hq:(k == NameKind.free && env.scope.kind == .function && env.kindOf n == some .cell)=true
   ·rw[if_pos hq];simp only [List.lookup_cons,hx];exact ih h hc
   ·rw[if_neg hq];simp only [List.lookup_cons,hx];exact ih h hc
noncomputable def HQ (env:Env):List (Str×Addr)->Prop
 | []=>True
 | p::r=>env.cells.lookup p.1=some p.2/\HQ env r
theorem HQ.get {env:Env}:∀ {cl:List (Str×Addr)},HQ env cl->∀ x c,cl.lookup x=some c->env.cells.lookup x=some c
 | [],_,_,_,e=>by simp at e
 | (n,a)::r,h,x,c,e=>by
  cases hx:x == n with
  | true=>
   simp only [List.lookup_cons,hx] at e
   cases e
   have e':x=n:=by simpa using hx
   subst e'
   exact h.1
  | false=>
   simp only [List.lookup_cons,hx] at e
   exact HQ.get h.2 x c e
noncomputable def y9 (X:Cx) (scope:Scope) (N':List Str):List (Option Nat)->Nat->Prop
 | [],_=>True
 | none::r,i=>y9 X scope N' r (i+1)
 | some j::r,i=>(∃ x,N'[i]? = some x/\X.N[j]? = some x/\scope.names.lookup x=some .free/\X.env.kindOf x=some .cell)/\y9 X scope N' r (i+1)
theorem y9.get {X:Cx}{scope:Scope}{N':List Str}:∀ {fr:List (Option Nat)}{k:Nat},y9 X scope N' fr k->∀ i j,fr[i]? = some (some j)->
  ∃ x,N'[k+i]? = some x/\X.N[j]? = some x/\scope.names.lookup x=some .free/\X.env.kindOf x=some .cell
 | [],_,_,i,j,e=>by simp at e
 | none::r,k,h,0,j,e=>by simp at e
 | some _::r,k,h,0,j,e=>by simp at e;subst e;exact h.1
 | none::r,k,h,i+1,j,e=>by
  have:=y9.get (k:=k+1) (show y9 X scope N' r (k+1) from h) i j (by simpa using e)
  rwa [Nat.add_right_comm] at this
 | some _::r,k,h,i+1,j,e=>by
  have:=y9.get (k:=k+1) h.2 i j (by simpa using e)
  rwa [Nat.add_right_comm] at this
structure LcOk (X:Cx) (scope:Scope) (cl:List (Str×Addr)) (N':List Str) (fr:List (Option Nat)):Prop where
 clos:closureFor scope X.env=pure cl
 cls:HQ X.env cl
 kind:scope.kind=.function
 nocell:(scope.names.all λ p=>p.2 != NameKind.cell)=true
 locs:(scope.names.all λ p=>p.2 != NameKind.local || scope.names.lookup p.1 == some NameKind.local)=true
 frees:(scope.names.all λ p=>p.2 != NameKind.free || (cl.lookup p.1).isSome)=true
 len:fr.length=N'.length
 fr:y9 X scope N' fr 0
noncomputable def BI (fr:List (Option Nat)) (σ:St):St:=fr.map λ o=>o.bind λ j=>(σ[j]?).join
noncomputable def w6 (X:Cx) (N':List Str) (scope:Scope) (cl:List (Str×Addr)) (fp:List Addr) (s:Shared) (H:Hp):Cx:=
 { X with N:=N',s₀:=s,H₀:=H,env:=compEnvC scope cl s.heap.objs.size X.env,outer:=X.stack,ex:=fp,fn:=λ _=>false,pn:=[] }
noncomputable def NJ (X:Cx) (ifs:List Expr) (t:TT):Prop:=
 ∀ (pins:List (Addr×Obj)) (s:Shared) (σ:St) (H:Hp) (Q:Bool->Hp->Prop),Inv X pins σ H s->t σ H Q->
  wpAny (model X.prog X.w) X.A (forIn ifs true λ c r=>if r=true then do let ok <- isTrue c X.env (eval c X.env);pure (ForInStep.yield ok) else pure (ForInStep.yield r)) (TP X pins σ Q) X.xe s
noncomputable def EB:TT:=λ _ H Q=>Q true H
theorem cP {X:Cx}:NJ X [] EB:=λ _ _ _ H _ I h=>wpAny_tests_nil ⟨H,I,h⟩
theorem IK {X:Cx}{c:Expr}{t:TT} (h:PT X c t):NJ X [c] t:=λ pins s σ H Q I hw=>wpAny_tests_one (h pins s σ H Q I hw)
noncomputable def hV (J:It) (g:TG) (tc:TT) (te:TE) (fr:List (Option Nat)) (σ:St) (H1:Hp) (Q:Addr->Hp->Prop):Prop:=
 ∀ D,H1 D=none->∃ W:Nat->Nat->List V->St->Hp->Prop,(∃ m,W 0 m [] (BI fr σ) (upd H1 D (.lst [])))/\
  ∀ i m ys Z H',W i m ys Z H'->(J.stop i H'/\Q D H')\/
   (J.go i H'/\∃ N:List V->St->Hp->Prop,(∀ ys' fb H'',N ys' fb H''->∃ m',m' < m/\W (i+1) m' ys' fb H'')/\
    ∀ x H2,J.yld i H' x H2->g x Z H2 λ ap H3=>tc ap H3 λ b H4=>
    if b=true then te ap H4 λ y H5=>H5 D=some (.lst ys)/\ys.length < sizeLine/\N (ys++[y]) ap (upd H5 D (.lst (ys++[y])))
    else N ys ap H4)
theorem rH {J:It}{n:Nat}{g:TG}{tc:TT}{te:TE}{fr:List (Option Nat)}{σ:St}{H1:Hp}{Q:Addr->Hp->Prop} (Pv:Addr->Nat->List V->St->Hp->Prop)
  (h0:∀ D,H1 D=none->Pv D 0 [] (BI fr σ) (upd H1 D (.lst [])))
  (hstop:∀ D ys Z H',Pv D n ys Z H'->J.stop n H'/\Q D H')
  (hgo:∀ D i ys Z H',i < n->Pv D i ys Z H'->J.go i H'/\∀ x H2,J.yld i H' x H2->g x Z H2 λ ap H3=>tc ap H3 λ b H4=>
    if b=true then te ap H4 λ y H5=>H5 D=some (.lst ys)/\ys.length < sizeLine/\Pv D (i+1) (ys++[y]) ap (upd H5 D (.lst (ys++[y])))
    else Pv D (i+1) ys ap H4):hV J g tc te fr σ H1 Q:=by
 intro D hD
 refine⟨λ i m ys σ H=>m=n - i/\i<=n/\Pv D i ys σ H,⟨n,by simp,Nat.zero_le _,h0 D hD⟩,?_⟩
 rintro i m ys Z H' ⟨rfl,hi,p⟩
 by_cases hlt:i < n
 ·obtain⟨go,step⟩:=hgo D i ys Z H' hlt p
  exact .inr ⟨go,Pv D (i+1),λ ys' fb H'' p'=>⟨n - (i+1),by omega,rfl,hlt,p'⟩,step⟩
 ·have e:i=n:=by omega
  subst e
  exact .inl (hstop D ys Z H' p)
theorem BJ {J:It}{n:Nat}{g:TG}{tb:TS}{D:Ends}{σ:St}{H:Hp} (Pv:Nat->St->Hp->Prop) (h0:Pv 0 σ H) (hstop:∀ σ H,Pv n σ H->J.stop n H/\D.nx σ H)
  (hgo:∀ i σ H,i < n->Pv i σ H->J.go i H/\∀ x H',J.yld i H x H'->g x σ H' λ bg H2=>tb { D with nx:=Pv (i+1),ct:=Pv (i+1),bk:=D.nx } bg H2) :
  ∃ W:Nat->Nat->St->Hp->Prop,(∃ m,W 0 m σ H)/\∀ i m σ H,W i m σ H->
   (J.stop i H/\D.nx σ H)\/(J.go i H/\∃ N:St->Hp->Prop,(∀ Z H',N Z H'->∃ m',m' < m/\W (i+1) m' Z H')/\∀ x H',J.yld i H x H'->g x σ H' λ bg H2=>tb { D with nx:=N,ct:=N,bk:=D.nx } bg H2):=by
 refine⟨λ i m σ H=>m=n - i/\i<=n/\Pv i σ H,⟨n,by simp,Nat.zero_le _,h0⟩,?_⟩
 rintro i m σ H ⟨rfl,hi,p⟩
 by_cases hlt:i < n
 ·obtain⟨go,step⟩:=hgo i σ H hlt p
  exact .inr ⟨go,Pv (i+1),λ Z H' p'=>⟨n - (i+1),by omega,rfl,hlt,p'⟩,step⟩
 ·have e:i=n:=by omega
  subst e
  exact .inl (hstop σ H p)
noncomputable def tLC (wi:TI) (fr:List (Option Nat)) (g:TG) (tc:TT) (te:TE):TE:=λ σ H Q=>wi σ H λ J H1=>hV J g tc te fr σ H1 λ D H'=>Q (.ref D) H'
section
variable {prog:Program}{w:World}{A:Around}{R:Result->Shared->Prop}{s:Shared}
theorem vR {elt target iter:Expr}{ifs:List Expr}{scope:Scope}{pos:Pos}{it acc:Value}{env:Env} (I:Nat->Shared->Prop)
  (turn:∀ n s,I n s->wpAny (model prog w) A (pyNext it) (λ r ah=>match r with
   | none=>R (.ok .next) ah
   | some v=>wpAny (model prog w) A (letOwnedTupleGo target it v) (λ _ fe=>wpAny (model prog w) A (assign target env v) (λ _ cj=>
     wpAny (model prog w) A (forIn ifs true λ c r=>if r=true then do let ok <- isTrue c env (eval c env);pure (ForInStep.yield ok) else pure (ForInStep.yield r)) (λ ok ck=>
      if ok=true then wpAny (model prog w) A (eval elt env) (λ x de=>
       wpAny (model prog w) A (call (.builtin "list.append") [acc,x]) (λ _ ga=>∃ m,m < n/\I m ga) (notedBy (model prog w) A env λ e s'=>R (.error e) s') de) (notedBy (model prog w) A env λ e s'=>R (.error e) s') ck
      else ∃ m,m < n/\I m ck) (notedBy (model prog w) A env λ e s'=>R (.error e) s') cj) (notedBy (model prog w) A env λ e s'=>R (.error e) s') fe) (notedBy (model prog w) A env λ e s'=>R (.error e) s') ah)
    (notedBy (model prog w) A env λ e s'=>R (.error e) s') s)
  (n:Nat) (h:I n s) :
  codeAny (model prog w) A (.compLoop (.ListComp elt [⟨target,iter,ifs,0⟩] scope pos) 0 it acc env) R s:=by
 refine codeAny_loop rfl I (λ n s hI=>?_) n h
 show wpAny _ A ((compTurn (.ListComp elt [⟨target,iter,ifs,0⟩] scope pos) 0 it acc env).onRaise (λ x=>do noteFrame x env;theTreesLotGoes x)) _ _ s
 refine wpAny_noted ?_
 rw[compTurn_list]
 refine wpAny_bind (wpAny_standAt (wpAny_bind (wpAny_mono (turn n s hI) (λ r ah h₁=>?_) λ _ _ h'=>h')))
 cases r with
 | none=>exact wpAny_pure h₁
 | some v=>
  refine wpAny_bind (wpAny_mono h₁ (λ _ fe h₁'=>?_) λ _ _ h'=>h')
  refine wpAny_bind (wpAny_mono h₁' (λ _ cj aq=>wpAny_bind (wpAny_mono aq (λ ok ck ak=>?_) λ _ _ h'=>h')) λ _ _ h'=>h')
  cases ok with
  | false=>exact wpAny_pure ⟨rfl,ak⟩
  | true=>
   exact wpAny_bind (wpAny_bind (wpAny_mono ak (λ x de au=>wpAny_bind (wpAny_mono au (λ _ ga bn=>wpAny_pure (wpAny_pure ⟨rfl,bn⟩)) λ _ _ h'=>h')) λ _ _ h'=>h'))
end
section
variable {X:Cx}
theorem LcOk.invC {scope:Scope}{cl:List (Str×Addr)}{N':List Str}{fr:List (Option Nat)}{pins:List (Addr×Obj)}{σ:St}{H:Hp}{s:Shared}{h1:Heap}{fp:List Addr}{m1:Str->Option Value}{tk:Nat}
  (S:LcOk X scope cl N' fr) (I:Inv X pins σ H s) (hf:∀ b∈fp,lZ X pins H b) (hfo:∀ b∈fp,b < s.heap.objs.size)
  (k:∀ b o,s.heap.get? b=some o->h1.get? b=some o) (hn:h1.Ns s.heap.objs.size m1):Inv (w6 X N' scope cl fp s H) [] (BI fr σ) H { s with heap:=h1,toks:=tk }:=by
 have hfree:=S.frees
 have hcell:=S.nocell
 rw[abu] at hfree hcell
 have fresh:H s.heap.objs.size=none:=I.hok.fresh (Nat.le_refl _)
 have clg:=S.cls.get
 refine⟨⟨I.ok.mod,S.kind,I.ok.glob,I.ok.blt,Nat.le_refl _,λ x y c e1 e2=>I.ok.inj x y c (clg x c e1) (clg y c e2),λ x hx=>?_,(λ x c e=>nomatch e),I.ok.hd,I.ok.frames,.inl rfl,λ b hb=>⟨aay (hfo b hb),λ x c e=>(hf b hb).2.2.2.2.1 x c (clg x c e)⟩,
  I.bs,abq I.ok.bsz I.sz,λ b o e hb=>?_,λ b hb hz=>?_,I.stack,I.stkFree⟩,rfl,I.bare,Un.kept k,⟨m1,hn,λ i x v e1 e2 e3=>?_⟩,λ x c e=>?_,fresh,λ x c e=>I.freeC x c (clg x c e),λ p hp=>absurd (show p∈([]:List (Addr×Obj)) from hp) (by simp),I.hok.kept k,?_⟩
 ·
  have hm:∃ k',(x,k')∈scope.names/\k'=NameKind.free:=by
   have hx':(relabel scope X.env).names.lookup x=some .cell\/(relabel scope X.env).names.lookup x=some .free:=hx
   obtain⟨k',e,hk'⟩:∃ k',(relabel scope X.env).names.lookup x=some k'/\(k'=.cell\/k'=.free):=by
    rcases hx' with e | e
    ·exact⟨_,e,.inl rfl⟩
    ·exact⟨_,e,.inr rfl⟩
   have hmem:=PySem.mem_of_lookup e
   obtain⟨⟨n,kn⟩,hp,he⟩:=aaz.mp hmem
   dsimp only at he
   split at he
   ·rename_i hc
    cases he
    have:kn=.free:=by
     simp only [Bool.and_eq_true,beq_iff_eq] at hc
     exact hc.1.1
    exact⟨kn,hp,this⟩
   ·cases he
    rcases hk' with e' | e'
    ·subst e'
     have:=hcell _ hp
     simp at this
    ·exact⟨_,hp,e'⟩
  obtain⟨k',hp,rfl⟩:=hm
  have:=hfree _ hp
  simp only [bne_self_eq_false,Bool.false_or] at this
  exact Option.isSome_iff_exists.mp this
 ·rcases (hf b hb).2.2.2.1 with z | z
  ·exact I.ok.noex b o e z
  ·have:=aan e
   exact absurd (aau this (abq I.ok.bsz z)) (abx _)
 ·obtain⟨_,f1,f2,_⟩:=hf b hb
  rcases List.mem_cons.mp (I.stkSub b hz) with e | e
  ·exact f1 e
  ·exact f2 e
 ·
  unfold BI at e2
  rw[aah] at e2
  cases ef:fr[i]? with
  | none=>rw[ef] at e2;cases e2
  | some o=>
   rw[ef] at e2
   cases o with
   | none=>simp at e2
   | some j=>
    have e2':(σ[j]?).join=some v:=by simpa using e2
    obtain⟨x',h1',h2',h3',h4'⟩:=S.fr.get i j ef
    rw[Nat.zero_add] at h1'
    have ex:x'=x:=by
     have:N'[i]? = some x:=e1
     rw[h1'] at this
     exact abp this
    subst ex
    have e2'':σ[j]? = some (some v):=by
     cases q:σ[j]? with
     | none=>rw[q] at e2';cases e2'
     | some z=>rw[q] at e2';simp at e2';rw[e2']
    obtain⟨m,hm,hl⟩:=I.loc
    obtain⟨u,r,lk⟩:=hl j x' v h2' e2'' (.inr (.inl h4'))
    refine⟨u,r,?_⟩
    rcases lk with ⟨q,_⟩ | ⟨_,c,hc,z⟩
    ·rw[h4'] at q;cases q
    ·have hcl:∃ c',cl.lookup x'=some c':=by
      have:=hfree _ (PySem.mem_of_lookup h3')
      simp only [bne_self_eq_false,Bool.false_or] at this
      exact Option.isSome_iff_exists.mp this
     obtain⟨c',hc'⟩:=hcl
     have e':=clg x' c' hc'
     rw[hc] at e'
     cases e'
     obtain⟨oc,hoc,hd⟩:=z
     refine .inr ⟨.inl ?_,c,hc',oc,k c oc hoc,hd⟩
     exact g6 I.ok.kind h3' h4'
 ·obtain⟨v,oc,hoc,hd⟩:=I.cell x c (clg x c e)
  exact⟨v,oc,k c oc hoc,hd⟩
 ·show (BI fr σ).length=N'.length
  unfold BI
  rw[aac,S.len]
theorem Inv.outC {scope:Scope}{cl:List (Str×Addr)}{N':List Str}{pins pins':List (Addr×Obj)}{σ Z:St}{H H':Hp}{s s':Shared}{fp:List Addr} (I:Inv X pins σ H s) (J:Inv (w6 X N' scope cl fp s H) pins' Z H' s')
  (hf:∀ b∈fp,lZ X pins H b):Inv X pins σ H' s':=
 I.call' (ch:=fp) J.os J.base J.hok J.bare λ b hb=>by
  obtain⟨_,f1,_,f3,f4,f5⟩:=hf b hb
  exact⟨f3,f1,f4,f5⟩
theorem Inv.letgo {pins:List (Addr×Obj)}{σ:St}{H:Hp}{s:Shared}{C:Addr}{h':Heap} (I:Inv X pins σ H s) (f:lZ X pins H C) (hsb:Heap.SameBut C s.heap h'):Inv X pins σ H { s with heap:=h' }:=by
 obtain⟨f0,f1,f2,f3,f4,f5⟩:=f
 exact I.turned (t':=s.toks) (it:=C) (h':=h') (λ b o hb e=>(hsb.2 b hb).trans e) f0 f1 f3 f4 f5
theorem xM {elt tg iter:Expr}{ifs:List Expr}{scope:Scope}{pos:Pos}{N':List Str}{fr:List (Option Nat)}{cl:List (Str×Addr)}{g:TG}{tc:TT}{te:TE}
  {pins:List (Addr×Obj)}{σ:St}{H:Hp}{s:Shared}{J:It}{fp:List Addr}{it:Addr}{tn:Nat->Heap->Prop}{Q:Addr->Hp->Prop}{RR:Value->Addr->Result->Shared->Prop}{E:Value->Shared->Prop}
  (hx:∀ e s,¬ X.xe e s) (hc:X.calm=true) (S:LcOk X scope cl N' fr)
  (hg:∀ fp s H,PG (w6 X N' scope cl fp s H) tg g) (ht:∀ fp s H,NJ (w6 X N' scope cl fp s H) ifs tc) (he:∀ fp s H,PE (w6 X N' scope cl fp s H) elt te)
  (I:Inv X pins σ H s) (T:Turn X.prog X.w X.K tg J fp it tn) (st:tn 0 s.heap) (hf:∀ b∈fp,lZ X pins H b) (h:hV J g tc te fr σ H Q)
  (hRR:∀ D C H' s' m',Inv X pins σ H' s'->Q D H'->s'.heap.Ns C m'->lZ X pins H' C->RR (.ref D) C (.ok .next) s') :
  wpAny (model X.prog X.w) X.A (newList []) (λ acc ck=>wpAny (model X.prog X.w) X.A (newFunctionEnv scope X.env.globals cl [] X.env.qual none .none (some X.env)) (λ cenv de=>
   codeAny (model X.prog X.w) X.A (.compStart (.ListComp elt [⟨tg,iter,ifs,0⟩] scope pos) 0 (.ref it) acc { cenv with scope:=relabel scope X.env }) (RR acc cenv.locals) de) E ck) E s:=by
 have hcell:=S.nocell
 rw[abu] at hcell
 refine wpAny_newObj_type (wpAny_newFunctionEnv (λ x hx'=>by simpa using hcell x hx') (by intro y hy;simp at hy) (λ h₁ cw cx=>?_) S.kind)
 dsimp only at cw cx ⊢
 have fresh:H s.heap.objs.size=none:=I.hok.fresh (Nat.le_refl _)
 have I3:Inv X pins σ (upd H s.heap.objs.size (.lst [])) { s with heap:=s.heap.push { cls:=.type "list",data:=.seq ([]:List Value).toArray },toks:=s.toks }:=I.lnew (ys:=[]) (its:=[]) .nil (Nat.zero_le _)
 have hf3:∀ b∈fp,lZ X pins (upd H s.heap.objs.size (.lst [])) b:=λ b hb=>by
  obtain⟨o,ho,_⟩:=T.obj _ _ st b hb
  exact⟨by rw[aM (aay (aan ho))];exact (hf b hb).1,(hf b hb).2⟩
 generalize hs3:({ s with heap:=s.heap.push { cls:=.type "list",data:=.seq ([]:List Value).toArray },toks:=s.toks }:Shared)=s3 at I3
 have e3:s3.heap=s.heap.push { cls:=.type "list",dict:=none,data:=.seq ([]:List Value).toArray }:=by rw[<- hs3]
 have e3s:({ s with heap:=s.heap.push { cls:=.type "list",dict:=none,data:=.seq ([]:List Value).toArray } }:Shared)=s3:=hs3
 have hsz3:s3.heap.objs.size=s.heap.objs.size+1:=by rw[e3,abo]
 have hfo:∀ b∈fp,b < s3.heap.objs.size:=λ b hb=>by
  obtain⟨o,ho,_⟩:=T.obj _ _ st b hb
  rw[hsz3]
  exact Nat.lt_succ_of_lt (aan ho)
 rw[<- e3] at cw cx ⊢
 have old3:∀ b o,s3.heap.get? b=some o->h₁.get? b=some o:=λ b o e=>cx.extBut b o (aay (aan e)) (aab _ e)
 have old:∀ b o,s.heap.get? b=some o->s3.heap.get? b=some o:=λ b o e=>by rw[e3];exact aab _ e
 have I4:=S.invC (tk:=s3.toks) I3 hf3 hfo old3 cw
 obtain⟨W,⟨m0,w0⟩,turn⟩:=h s.heap.objs.size fresh
 have stat:∀ {H':Hp},(∀ b∈fp,H' b=none)->∀ b∈fp,lZ (w6 X N' scope cl fp s3 (upd H s.heap.objs.size (.lst []))) [] H' b:=λ hn b hb=>by
  refine⟨hn b hb,aay (hfo b hb),?_,.inl hb,λ x c e=>(hf b hb).2.2.2.2.1 x c (S.cls.get x c e),λ p hp=>absurd (show p∈([]:List (Addr×Obj)) from hp) (by simp)⟩
  intro hz
  obtain⟨_,f1,f2,_⟩:=hf b hb
  rcases List.mem_cons.mp (I.stkSub b hz) with e | e
  ·exact f1 e
  ·exact f2 e
 have loop:∀ s4:Shared,s4={ s3 with heap:=h₁,toks:=s3.toks }->
   codeAny (model X.prog X.w) X.A (.compLoop (.ListComp elt [⟨tg,iter,ifs,0⟩] scope pos) 0 (.ref it) (.ref s.heap.objs.size) (compEnvC scope cl s3.heap.objs.size X.env)) (RR (.ref s.heap.objs.size) s3.heap.objs.size) s4:=by
  intro s4 hs4
  refine vR (λ n s'=>∃ i ys Z H',Inv (w6 X N' scope cl fp s3 (upd H s.heap.objs.size (.lst []))) [] Z H' s'/\tn i s'.heap/\(∀ b∈fp,H' b=none)/\W i n ys Z H') ?_ m0
   ⟨0,[],BI fr σ,_,by rw[hs4];exact I4,by rw[hs4];exact T.keep _ _ _ st λ b _ o e=>old3 b o (old b o e),λ b hb=>(hf3 b hb).1,w0⟩
  rintro n s5 ⟨i,ys,ed,H5,I5,st5,fr5,w5⟩
  rcases turn i n ys ed H5 w5 with ⟨stop,qn⟩ | ⟨go,N,hN,step⟩
  ·refine cW (T.done (w6 X N' scope cl fp s3 (upd H s.heap.objs.size (.lst []))) rfl rfl rfl hc i [] s5 ed H5 _ I5 (stat fr5) st5 stop) λ r s6 ⟨hr,I6⟩=>?_
   subst hr
   obtain⟨m',hm',_⟩:=I6.loc
   exact hRR _ _ H5 s6 m' (I3.outC I6 hf3) qn hm' (I3.fpOk (Nat.le_refl _) I6.free)
  ·refine cW (T.item (w6 X N' scope cl fp s3 (upd H s.heap.objs.size (.lst []))) rfl rfl rfl hc i [] s5 ed H5 _ I5 (stat fr5) st5 go) λ r s6 ⟨u,hr,h6⟩=>?_
   subst hr
   refine cW h6 λ _ s7 ⟨x,H7,I7,r7,y7,st7,fr7⟩=>?_
   have I7':=I7.pinned (stat fr7) (T.obj _ _ st7)
   refine wpAny_mono (hg fp s3 _ _ s7 ed H7 x u _ I7' r7 (step x H7 y7)) (λ _ s8 ⟨cn,H8,I8,q8⟩=>?_) λ e s' z=>(hx e s' z).elim
   refine wpAny_mono (ht fp s3 _ _ s8 cn H8 _ I8 q8) (λ ok s9 ⟨H9,I9,q9⟩=>?_) λ e s' z=>(hx e s' z).elim
   have again:∀ {s10:Shared}{H10:Hp}{ys':List V},Inv (w6 X N' scope cl fp s3 (upd H s.heap.objs.size (.lst []))) ([]++qS fp s7.heap) cn H10 s10->N ys' cn H10->
     ∃ m,m < n/\∃ i ys Z H',Inv (w6 X N' scope cl fp s3 (upd H s.heap.objs.size (.lst []))) [] Z H' s10/\tn i s10.heap/\(∀ b∈fp,H' b=none)/\W i m ys Z H':=λ {s10 H10 ys'} I10 n10=>by
    obtain⟨m',hm,w10⟩:=hN ys' cn H10 n10
    refine⟨m',hm,i+1,ys',cn,H10,I10.unpinned,T.keep _ _ _ st7 λ b hb o e=>(I10.pin (b,o) (abm _ (abm _ (j7 hb e)))).1,λ b hb=>?_,w10⟩
    obtain⟨o,e,d⟩:=T.obj _ _ st7 b hb
    exact (I10.pin (b,o) (abm _ (abm _ (j7 hb e)))).2.1
   cases ok with
   | false=>
    rw[if_neg aal] at q9 ⊢
    exact again I9 q9
   | true=>
    rw[if_pos rfl] at q9 ⊢
    refine wpAny_mono (he fp s3 _ _ s9 cn H9 _ I9 q9) (λ y s10 ⟨yv,H10,I10,r10,hD,hlen,q10⟩=>?_) λ e s' z=>(hx e s' z).elim
    refine wpAny_mono (cE (X:=w6 X N' scope cl fp s3 (upd H s.heap.objs.size (.lst []))) _ s10 cn H10 (.ref s.heap.objs.size) [yv] (.ref s.heap.objs.size) [y] (λ _ H11=>H11=upd H10 s.heap.objs.size (.lst (ys++[yv]))) I10 rfl (.cons r10 .nil)
     ⟨_,ys,yv,rfl,rfl,hD,hlen,rfl⟩) (λ _ s11 ⟨_,H11,I11,_,e11⟩=>?_) λ e s' z=>(hx e s' z).elim
    subst e11
    exact again I11 q10
 exact codeAny_compStart_list (loop _ (by rw[<- e3s];rfl)) (T.self X.A 0 _ _ _ (T.keep _ _ _ st λ b _ o e=>old3 b o (old b o e)) (loop _ (by rw[<- e3s];rfl)))
theorem fZ {elt tg iter:Expr}{ifs:List Expr}{scope:Scope}{pos:Pos}{N':List Str}{fr:List (Option Nat)}{cl:List (Str×Addr)}{wi:TI}{g:TG}{tc:TT}{te:TE}
  (hx:∀ e s,¬ X.xe e s) (hc:X.calm=true) (S:LcOk X scope cl N' fr) (hi:PI X tg iter wi)
  (hg:∀ fp s H,PG (w6 X N' scope cl fp s H) tg g) (ht:∀ fp s H,NJ (w6 X N' scope cl fp s H) ifs tc) (he:∀ fp s H,PE (w6 X N' scope cl fp s H) elt te)
  (hs:∀ x,foldedSetIterable iter X.env x=pure x:=by intro _;rfl):PE X (.ListComp elt [⟨tg,iter,ifs,0⟩] scope pos) (tLC wi fr g tc te):=by
 intro pins s σ H Q I h
 have hloc:=S.locs
 rw[abu] at hloc
 rw[eval_ListComp]
 refine wpAny_comprehension_free (use:=none) rfl hs S.clos S.kind (λ x hx' hl=>by have:=hloc x hx';rw[hl] at this;simpa using this) (cW (hi pins s σ H _ I h) λ v s1 h1=>cW h1 λ itv s2 h2=>?_)
 obtain⟨it,fp,tn,J,H2,e,I2,T,st2,f2,rest⟩:=h2
 subst e
 refine xM (RR:=λ acc C=>compPost (model X.prog X.w) X.A X.xe none (EP X pins σ Q) acc C) hx hc S hg ht he I2 T st2 f2 rest ?_
 intro D C H' s' m' I' q hn f
 exact⟨m',hn,λ h' hsb=>⟨.ref D,H',I'.letgo f hsb,rfl,q⟩⟩
theorem kI {i:Nat}{y:Str}{py:Pos}{spos:Pos}{elt tg iter:Expr}{ifs:List Expr}{scope:Scope}{pos:Pos}{N':List Str}{fr:List (Option Nat)}{cl:List (Str×Addr)}{wi:TI}{g:TG}{tc:TT}{te:TE}
  (hN:X.N.Nodup) (hy:X.N[i]? = some y) (hk:X.env.scope.names.lookup y=some .local)
  (hx:∀ e s,¬ X.xe e s) (hc:X.calm=true) (S:LcOk X scope cl N' fr) (hi:PI X tg iter wi)
  (hg:∀ fp s H,PG (w6 X N' scope cl fp s H) tg g) (ht:∀ fp s H,NJ (w6 X N' scope cl fp s H) ifs tc) (he:∀ fp s H,PE (w6 X N' scope cl fp s H) elt te)
  (hsw:swapsWith (.ListComp elt [⟨tg,iter,ifs,0⟩] scope pos) (some (.Name y py)) spos.line X.env=pure true:=by rfl)
  (hs:∀ x,foldedSetIterable iter X.env x=pure x:=by intro _;rfl):PS X (.Assign [.Name y py] (.ListComp elt [⟨tg,iter,ifs,0⟩] scope pos) spos) (jN (tLC wi fr g tc te) (eK i)):=by
 intro pins s σ H D I h
 have hloc:=S.locs
 rw[abu] at hloc
 rw[exec_Assign_Name_used _ _ _ _ hsw]
 refine wpAny_bind (wpAny_standAt (wpAny_bind ?_))
 show wpAny _ X.A (do let _ <- comprehension (.ListComp elt [⟨tg,iter,ifs,0⟩] scope pos) scope X.env _ (newList []) false (eval iter X.env) (some (assign (.Name y py) X.env))) _ _ s
 refine wpAny_bind (wpAny_mono (wpAny_comprehension_free (use:=some (assign (.Name y py) X.env)) (Q:=λ _ s'=>SP X pins D .next s') rfl hs S.clos S.kind (λ x hx' hl=>by have:=hloc x hx';rw[hl] at this;simpa using this)
  (cW (hi pins s σ H _ I h) λ v s1 h1=>cW h1 λ itv s2 h2=>?_)) (λ _ s' hq=>wpAny_pure (wpAny_pure hq)) λ _ _ e=>e)
 obtain⟨it,fp,tn,J,H2,e,I2,T,st2,f2,rest⟩:=h2
 subst e
 refine xM (RR:=λ acc C=>compPost (model X.prog X.w) X.A X.xe (some (assign (.Name y py) X.env)) (λ _ s'=>SP X pins D .next s') acc C) hx hc S hg ht he I2 T st2 f2 rest ?_
 intro Da C H' s' m' I' q hn f
 show wpAny _ X.A (assign (.Name y py) X.env (.ref Da)) _ _ _
 refine wpAny_assign_Name (sY I' hN hy (.inl hk) (v:=.ref Da) rfl (λ s'' I'' hch=>?_) (.inr hk))
 obtain⟨a,hsb,ha⟩:=hch
 have haC:a≠C:=by
  rcases ha with e | e
  ·rw[e];exact Ne.symm f.2.1
  ·exact f.2.2.2.2.1 _ _ e
 exact⟨m',hn.sameBut hsb (Ne.symm haC),λ h' hs'=>⟨_,H',I''.letgo f hs',q⟩⟩
end
end L2
namespace TwZ
open PySem
open Sem (wp)
noncomputable def d7 (h:Heap) (t:Bool) (it a:Addr) (i:Nat):Prop:=if t=true then h.IsTupleIter it a i else h.IsListIter it a i
noncomputable def bT (h:Heap) (t:Bool) (a:Addr) (items:Array Value):Prop:=if t=true then h.IsTuple a items else h.IsList a items
theorem d7.at {h h':Heap}{t:Bool}{it a:Addr}{i:Nat} (x:d7 h t it a i) (k:∀ o,h.get? it=some o->h'.get? it=some o):d7 h' t it a i:=by
 cases t <;> (obtain⟨o,ho,r⟩:=x;exact⟨o,k o ho,r⟩)
theorem ex {h h':Heap}{b c:Addr}{o:Obj} (hs:Heap.SameBut b h h') (hc:@Ne Nat c b) (e:h.get? c=some o):h'.get? c=some o:=hs.extBut _ _ hc e
theorem d7.ext {h h':Heap}{t:Bool}{it a b:Addr}{i:Nat} (x:d7 h t it a i) (hs:Heap.SameBut b h h') (hab:@Ne Nat it b):d7 h' t it a i:=x.at λ o e=>hs.extBut _ _ hab e
theorem bT.at {h h':Heap}{t:Bool}{a:Addr}{xs:Array Value} (x:bT h t a xs) (k:∀ o,h.get? a=some o->h'.get? a=some o):bT h' t a xs:=by
 cases t <;> (obtain⟨o,ho,r⟩:=x;exact⟨o,k o ho,r⟩)
theorem bT.ext {h h':Heap}{t:Bool}{a b:Addr}{xs:Array Value} (x:bT h t a xs) (hs:Heap.SameBut b h h') (hab:@Ne Nat a b):bT h' t a xs:=x.at λ o e=>hs.extBut _ _ hab e
theorem bT.lt {h:Heap}{t:Bool}{a:Addr}{xs:Array Value} (x:bT h t a xs):a < h.objs.size:=by
 cases t <;> (obtain⟨o,ho,r⟩:=x;exact aan ho)
theorem d7.obj {h:Heap}{t:Bool}{it a:Addr}{i:Nat} (x:d7 h t it a i):∃ o,h.get? it=some o/\∀ v,o.data≠.cell v:=by
 cases t <;> (obtain⟨o,ho,_,d⟩:=x;exact⟨o,ho,λ v z=>by rw[d] at z;cases z⟩)
section
variable {prog:Program}{w:World}{M:Model}{A:Around}{E:Value->Shared->Prop}{s:Shared}
theorem oF {a:Addr}{Q:Option Obj->Shared->Prop} (h:Q (s.heap.get? a) s):wpAny M A (loadIfAlive a) Q E s:=λ Γ p _=>by
 unfold loadIfAlive
 rw[Sem.wp_loadIfAlive]
 exact h
theorem mW {it l:Addr}{i:Nat}{items}{x:Value}{Q:Value->Shared->Prop} (hit:s.heap.IsTupleIter it l i)
  (hl:s.heap.IsTuple l items) (hx:items[i]? = some x)
  (hQ:∀ h',h'.IsTupleIter it l (i+1)->Heap.SameBut it s.heap h'->Q x { s with heap:=h' }) :
  wpAny (model prog w) A (Builtin.SmallTypes.nextOf (.ref it)) Q E s:=by
 obtain⟨o,ho,hc,hd⟩:=id hit
 obtain⟨ol,hol,_,nl,hdl⟩:=hl
 unfold Builtin.SmallTypes.nextOf
 refine wpAny_bind (wpAny_callSpecial?_slot (name:=Str.ofString "__next__") hit.typeIs F.slot_tuple_iterator_next
  (wpAny_call_entry F.slot_tuple_iterator_next hit.typeIs F.entry_tuple_iterator_next ?_ (F.args_tuple_iterator_next_1 _)))
 show wpAny _ _ (field (.ref it) 0 >>= _) _ _ s
 refine wpAny_bind (wpAny_field ho hd (x:=.ref l) rfl ?_)
 show wpAny _ _ (if (Value.ref l == Value.none)=true then _ else _) _ _ s
 rw[if_neg (show ¬ ((Value.ref l == Value.none)=true) from aal)]
 show wpAny _ _ (field (.ref it) 1 >>= _) _ _ s
 refine wpAny_bind (wpAny_field ho hd (x:=.int i 0) rfl ?_)
 show wpAny _ _ (seqItems? (.ref l) >>= _) _ _ s
 refine wpAny_bind (wpAny_seqItems hol hdl ?_)
 simp only [aav,hx]
 refine wpAny_bind (wpAny_setField ho hd (by simp) (wpAny_pure ⟨x,rfl,wpAny_pure (hQ _ ?_ (Heap.SameBut.update ..))⟩))
 exact⟨_,acf _ ho (Obj.isFreed_of_fields (Obj.data_mapFields hd _)),(Obj.cls_mapFields ..).trans hc,by
  rw[Obj.data_mapFields hd];simp [rawInt]⟩
theorem nY {it l:Addr}{i:Nat}{items}{Q:Value->Shared->Prop} (hh:A.handled=none)
  (hit:s.heap.IsTupleIter it l i) (hl:s.heap.IsTuple l items) (hx:items[i]? = none)
  (hE:∀ h' e,Heap.ExtBut it s.heap h'->(∃ o,h'.get? e=some o/\o.cls=.type "StopIteration")->E (.ref e) { s with heap:=h' }) :
  wpAny (model prog w) A (Builtin.SmallTypes.nextOf (.ref it)) Q E s:=by
 obtain⟨o,ho,hc,hd⟩:=id hit
 obtain⟨ol,hol,_,nl,hdl⟩:=hl
 unfold Builtin.SmallTypes.nextOf
 refine wpAny_bind (wpAny_callSpecial?_slot (name:=Str.ofString "__next__") hit.typeIs F.slot_tuple_iterator_next
  (wpAny_call_entry F.slot_tuple_iterator_next hit.typeIs F.entry_tuple_iterator_next ?_ (F.args_tuple_iterator_next_1 _)))
 show wpAny _ _ (field (.ref it) 0 >>= _) _ _ s
 refine wpAny_bind (wpAny_field ho hd (x:=.ref l) rfl ?_)
 show wpAny _ _ (if (Value.ref l == Value.none)=true then _ else _) _ _ s
 rw[if_neg (show ¬ ((Value.ref l == Value.none)=true) from aal)]
 show wpAny _ _ (field (.ref it) 1 >>= _) _ _ s
 refine wpAny_bind (wpAny_field ho hd (x:=.int i 0) rfl ?_)
 show wpAny _ _ (seqItems? (.ref l) >>= _) _ _ s
 refine wpAny_bind (wpAny_seqItems hol hdl ?_)
 simp only [aav,hx]
 refine wpAny_bind (wpAny_rule (wpAny_bind (wpAny_setField ho hd (by simp) ?_)))
 show wpAny _ _ (newExc (.type "StopIteration") [] >>= _) _ _ _
 refine wpAny_bind ?_
 simp only [newExc,newTuple]
 refine wpAny_bind (wpAny_newObj_type ?_ (by size_fits))
 refine wpAny_bind (m:=firstArgMember _ _) (wpAny_of_eq (a:=Value.none) (by first | rfl | (simp only [firstArgMember];rfl)) ?_)
 refine wpAny_newObj_type ?_ (by size_fits)
 simp only [raiseNew]
 refine wpAny_bind (wpAny_handled ?_)
 first | rw[show A.in1.handled=none from hh] | rw[hh]
 refine wpAny_bind (wpAny_pure (wpAny_throw ?_))
 exact hE _ _ (((Heap.SameBut.update ..).extBut.push _).push _) ⟨_,aag _ rfl,rfl⟩
theorem bI {t:Bool}{it l:Addr}{i:Nat}{items}{x:Value}{Q:Value->Shared->Prop} (hit:d7 s.heap t it l i)
  (hl:bT s.heap t l items) (hx:items[i]? = some x)
  (hQ:∀ h',d7 h' t it l (i+1)->Heap.SameBut it s.heap h'->Q x { s with heap:=h' }) :
  wpAny (model prog w) A (Builtin.SmallTypes.nextOf (.ref it)) Q E s:=by
 cases t with
 | true=>exact mW hit hl hx hQ
 | false=>exact wpAny_nextOf_list_item hit hl hx hQ
theorem cS {t:Bool}{it l:Addr}{i:Nat}{items}{Q:Value->Shared->Prop} (hh:A.handled=none)
  (hit:d7 s.heap t it l i) (hl:bT s.heap t l items) (hx:items[i]? = none)
  (hE:∀ h' e,Heap.ExtBut it s.heap h'->(∃ o,h'.get? e=some o/\o.cls=.type "StopIteration")->E (.ref e) { s with heap:=h' }) :
  wpAny (model prog w) A (Builtin.SmallTypes.nextOf (.ref it)) Q E s:=by
 cases t with
 | true=>exact nY hh hit hl hx hE
 | false=>exact wpAny_nextOf_list_end hh hit hl hx hE
noncomputable abbrev lX (h:Heap) (z TI TO:Addr) (f0:Value) (f1:Bool):Prop:=
 h.get? z=some { cls:=.type "zip",dict:=none,data:=.fields #[f0,.bool f1,.bool false,.ref TI,.ref TO],slots:=#[] }
noncomputable abbrev cY (h:Heap) (T:Addr) (vs:Array Value):Prop:=h.get? T=some { cls:=.type "tuple",data:=.seq vs }
noncomputable def fW (f0:Value):Prop:=f0=.none\/∃ a:Int,f0=.int a 0
theorem j6 {z TI TO:Addr}{f0:Value}{f1:Bool}{Q:Bool->Shared->Prop} (hz:lX s.heap z TI TO f0 f1) (hf:fW f0) (yes:Q true s)
  (no:∀ h',lX h' z TI TO f0 true->Heap.SameBut z s.heap h'->Q false { s with heap:=h' }):wpAny (model prog w) A (Builtin.SmallTypes.ownedTupleIsFree (.ref z)) Q E s:=by
 unfold Builtin.SmallTypes.ownedTupleIsFree
 refine wpAny_bind (wpAny_field hz rfl (x:=f0) rfl ?_)
 rcases hf with rfl | ⟨a,rfl⟩
 ·exact wpAny_pure yes
 ·refine wpAny_bind (oF ?_)
  cases h:s.heap.get? a.toNat with
  | none=>exact wpAny_pure yes
  | some o=>
   show wpAny _ _ (field (.ref z) 1 >>= _) _ _ _
   refine wpAny_bind (wpAny_field hz rfl (x:=.bool f1) rfl ?_)
   cases f1 with
   | true=>exact wpAny_pure (no s.heap hz (Heap.SameBut.refl ..))
   | false=>
    show wpAny _ _ (setField (.ref z) 1 (.bool true) >>= _) _ _ _
    refine wpAny_bind (wpAny_setField_rec hz (by simp) λ h₁ ao ad=>wpAny_pure (no h₁ ao ad))
theorem BF {z TI TO:Addr}{f0:Value}{f1:Bool}{T:Addr}{Q:Unit->Shared->Prop} (hz:lX s.heap z TI TO f0 f1)
  (h:∀ h',lX h' z TI TO (rawInt T) false->Heap.SameBut z s.heap h'->Q () { s with heap:=h' }):wpAny (model prog w) A (Builtin.SmallTypes.ownedTupleHandOut (.ref z) (.ref T)) Q E s:=by
 unfold Builtin.SmallTypes.ownedTupleHandOut
 refine wpAny_bind (wpAny_setField_rec hz (by simp) λ h₁ ao ad=>?_)
 replace ao:lX h₁ z TI TO (rawInt T) f1:=ao
 refine wpAny_setField_rec ao (by simp) λ aq bz ae=>?_
 exact h aq bz (Heap.SameBut.trans ad ae)
theorem gX {T:Addr}{vs:Array Value}{x:Value}{k:Nat}{Q:Unit->Shared->Prop} (hT:cY s.heap T vs) (h3:vs.size<=3)
  (h:∀ h',cY h' T (vs.setIfInBounds k x)->Heap.SameBut T s.heap h'->Q () { s with heap:=h' }):wpAny (model prog w) A (updateSeq T (·.setIfInBounds k x)) Q E s:=by
 have hl:vs.size<=sizeLine:=abq h3 (by decide)
 refine wpAny_updateSeq (hz:=hl) (_hz':=by rw[Array.size_setIfInBounds];omega) hT rfl (h _ ?_ (Heap.SameBut.update ..))
 show Heap.get? _ _=_
 rw[acf _ hT rfl]
 simp [Obj.mapSeq]
theorem nn {n i j:Nat} (h:i≠j):n+i≠n+j:=λ e=>h (Nat.add_left_cancel e)
theorem n0 {n j:Nat} (h:0 < j):n≠n+j:=λ e=>absurd e (aay (Nat.lt_add_of_pos_right h))
theorem aR {n j:Nat} (h:0 < j):n+j≠n:=Ne.symm (n0 h)
theorem al {a n:Nat} (h:a < n) (j:Nat):a≠n+j:=aay (aau h (Nat.le_add_right n j))
theorem aI {a n:Nat} (h:a < n):a≠n:=aay h
theorem co {c n m k:Nat} (h:c < n\/n+m < c) (hk:k<=m):c≠n+k:=λ e=>h.elim (λ h=>absurd e (al h k)) λ h=>absurd (Nat.lt_of_le_of_lt (Nat.add_le_add_left hk n) h) (by rw[e];exact abx _)
theorem aS {c n m:Nat} (h:c < n\/n+m < c):c≠n:=co (k:=0) h (Nat.zero_le m)
theorem BW {n a1 a2 a3:Nat}{t1 t2 t3:Bool}{k:Nat}{xs ys zs:Array Value}{x y z c1 c2 c3 f0:Value}{f1:Bool}{Q:Value->Shared->Prop} (hf:fW f0)
  (hz:lX s.heap (n+5) (n+3) (n+4) f0 f1) (hTI:cY s.heap (n+3) #[.ref n,.ref (n+1),.ref (n+2)]) (hTO:cY s.heap (n+4) #[c1,c2,c3])
  (i1:d7 s.heap t1 n a1 k) (i2:d7 s.heap t2 (n+1) a2 k) (i3:d7 s.heap t3 (n+2) a3 k) (s1:bT s.heap t1 a1 xs) (s2:bT s.heap t2 a2 ys) (s3:bT s.heap t3 a3 zs)
  (l1:a1 < n) (l2:a2 < n) (l3:a3 < n) (hx:xs[k]? = some x) (hy:ys[k]? = some y) (hw:zs[k]? = some z)
  (hQ:∀ (T:Nat) h' f0' f1' d1 d2 d3,s.heap.objs.size<=T->fW f0'->lX h' (n+5) (n+3) (n+4) f0' f1'->cY h' (n+3) #[.ref n,.ref (n+1),.ref (n+2)]->cY h' (n+4) #[d1,d2,d3]->
   d7 h' t1 n a1 (k+1)->d7 h' t2 (n+1) a2 (k+1)->d7 h' t3 (n+2) a3 (k+1)->cY h' T #[x,y,z]->
   (∀ (c:Nat) o,(c < n\/n+5 < c)->s.heap.get? c=some o->h'.get? c=some o)->Q (.ref T) { s with heap:=h' }) :
  wpAny (model prog w) A (Builtin.«zip.__next__» ⟨[.ref (n+5)],[]⟩) (λ fin s'=>∃ v,fin=.done (.ret v)/\Q v s') E s:=by
 have hzlt:n+5 < s.heap.objs.size:=aan hz
 show wpAny _ _ (field (.ref (n+5)) 2 >>= _) _ _ _
 refine wpAny_bind (wpAny_field hz rfl (x:=.bool false) rfl ?_)
 show wpAny _ _ (field (.ref (n+5)) 3 >>= _) _ _ _
 refine wpAny_bind (wpAny_field hz rfl (x:=.ref (n+3)) rfl ?_)
 refine wpAny_bind (wpAny_seqItems hTI rfl ?_)
 show wpAny _ _ (Builtin.SmallTypes.ownedTupleIsFree (.ref (n+5)) >>= _) _ _ _
 refine wpAny_bind (j6 hz hf ?_ ?_)
 ·simp only [if_true]
  refine wpAny_bind (wpAny_rule ?_)
  refine wpAny_bind (wpAny_field hz rfl (x:=.ref (n+4)) rfl ?_)
  refine wpAny_bind (wpAny_setField_rec hz (by simp) λ h₁ ao ad=>?_)
  replace ao:lX h₁ (n+5) (n+3) (n+4) .ellipsis f1:=ao
  refine wpAny_bind ?_
  simp only [List.zipIdx_cons,List.zipIdx_nil,List.forIn_cons,List.forIn_nil]
  refine wpAny_bind (wpAny_bind (wpAny_onRaise ?_))
  show wpAny _ _ (Builtin.SmallTypes.nextOf (.ref n) >>= _) _ _ _
  refine wpAny_bind (bI (i1.ext ad (by first | exact nn (by decide) | exact n0 (by decide) | exact aR (by decide) | exact al l1 _ | exact al l2 _ | exact al l3 _ | exact aI l1 | exact aI l2 | exact aI l3 | exact co hc (by decide) | exact aS hc | omega)) (s1.ext ad (by first | exact nn (by decide) | exact n0 (by decide) | exact aR (by decide) | exact al l1 _ | exact al l2 _ | exact al l3 _ | exact aI l1 | exact aI l2 | exact aI l3 | exact co hc (by decide) | exact aS hc | omega)) hx λ aq bq ae=>wpAny_pure ?_)
  have bp:cY aq (n+4) #[c1,c2,c3]:=ex ae (by first | exact nn (by decide) | exact n0 (by decide) | exact aR (by decide) | exact al l1 _ | exact al l2 _ | exact al l3 _ | exact aI l1 | exact aI l2 | exact aI l3 | exact co hc (by decide) | exact aS hc | omega) (ex ad (by first | exact nn (by decide) | exact n0 (by decide) | exact aR (by decide) | exact al l1 _ | exact al l2 _ | exact al l3 _ | exact aI l1 | exact aI l2 | exact aI l3 | exact co hc (by decide) | exact aS hc | omega) hTO)
  refine wpAny_bind (wpAny_seqItems bp rfl ?_)
  refine wpAny_bind (gX bp (by simp) λ ak be af=>?_)
  replace be:cY ak (n+4) #[x,c2,c3]:=be
  refine wpAny_bind (wpAny_letGo (wpAny_pure ?_))
  refine wpAny_bind (wpAny_bind (wpAny_onRaise ?_))
  show wpAny _ _ (Builtin.SmallTypes.nextOf (.ref (n+1)) >>= _) _ _ _
  refine wpAny_bind (bI (((i2.ext ad (by first | exact nn (by decide) | exact n0 (by decide) | exact aR (by decide) | exact al l1 _ | exact al l2 _ | exact al l3 _ | exact aI l1 | exact aI l2 | exact aI l3 | exact co hc (by decide) | exact aS hc | omega)).ext ae (by first | exact nn (by decide) | exact n0 (by decide) | exact aR (by decide) | exact al l1 _ | exact al l2 _ | exact al l3 _ | exact aI l1 | exact aI l2 | exact aI l3 | exact co hc (by decide) | exact aS hc | omega)).ext af (by first | exact nn (by decide) | exact n0 (by decide) | exact aR (by decide) | exact al l1 _ | exact al l2 _ | exact al l3 _ | exact aI l1 | exact aI l2 | exact aI l3 | exact co hc (by decide) | exact aS hc | omega)) (((s2.ext ad (by first | exact nn (by decide) | exact n0 (by decide) | exact aR (by decide) | exact al l1 _ | exact al l2 _ | exact al l3 _ | exact aI l1 | exact aI l2 | exact aI l3 | exact co hc (by decide) | exact aS hc | omega)).ext ae (by first | exact nn (by decide) | exact n0 (by decide) | exact aR (by decide) | exact al l1 _ | exact al l2 _ | exact al l3 _ | exact aI l1 | exact aI l2 | exact aI l3 | exact co hc (by decide) | exact aS hc | omega)).ext af (by first | exact nn (by decide) | exact n0 (by decide) | exact aR (by decide) | exact al l1 _ | exact al l2 _ | exact al l3 _ | exact aI l1 | exact aI l2 | exact aI l3 | exact co hc (by decide) | exact aS hc | omega)) hy λ au cf ag=>wpAny_pure ?_)
  have bw:cY au (n+4) #[x,c2,c3]:=ex ag (by first | exact nn (by decide) | exact n0 (by decide) | exact aR (by decide) | exact al l1 _ | exact al l2 _ | exact al l3 _ | exact aI l1 | exact aI l2 | exact aI l3 | exact co hc (by decide) | exact aS hc | omega) be
  refine wpAny_bind (wpAny_seqItems bw rfl ?_)
  refine wpAny_bind (gX bw (by simp) λ bn cp az=>?_)
  replace cp:cY bn (n+4) #[x,y,c3]:=cp
  refine wpAny_bind (wpAny_letGo (wpAny_pure ?_))
  refine wpAny_bind (wpAny_bind (wpAny_onRaise ?_))
  show wpAny _ _ (Builtin.SmallTypes.nextOf (.ref (n+2)) >>= _) _ _ _
  refine wpAny_bind (bI (((((i3.ext ad (by first | exact nn (by decide) | exact n0 (by decide) | exact aR (by decide) | exact al l1 _ | exact al l2 _ | exact al l3 _ | exact aI l1 | exact aI l2 | exact aI l3 | exact co hc (by decide) | exact aS hc | omega)).ext ae (by first | exact nn (by decide) | exact n0 (by decide) | exact aR (by decide) | exact al l1 _ | exact al l2 _ | exact al l3 _ | exact aI l1 | exact aI l2 | exact aI l3 | exact co hc (by decide) | exact aS hc | omega)).ext af (by first | exact nn (by decide) | exact n0 (by decide) | exact aR (by decide) | exact al l1 _ | exact al l2 _ | exact al l3 _ | exact aI l1 | exact aI l2 | exact aI l3 | exact co hc (by decide) | exact aS hc | omega)).ext ag (by first | exact nn (by decide) | exact n0 (by decide) | exact aR (by decide) | exact al l1 _ | exact al l2 _ | exact al l3 _ | exact aI l1 | exact aI l2 | exact aI l3 | exact co hc (by decide) | exact aS hc | omega)).ext az (by first | exact nn (by decide) | exact n0 (by decide) | exact aR (by decide) | exact al l1 _ | exact al l2 _ | exact al l3 _ | exact aI l1 | exact aI l2 | exact aI l3 | exact co hc (by decide) | exact aS hc | omega))
   (((((s3.ext ad (by first | exact nn (by decide) | exact n0 (by decide) | exact aR (by decide) | exact al l1 _ | exact al l2 _ | exact al l3 _ | exact aI l1 | exact aI l2 | exact aI l3 | exact co hc (by decide) | exact aS hc | omega)).ext ae (by first | exact nn (by decide) | exact n0 (by decide) | exact aR (by decide) | exact al l1 _ | exact al l2 _ | exact al l3 _ | exact aI l1 | exact aI l2 | exact aI l3 | exact co hc (by decide) | exact aS hc | omega)).ext af (by first | exact nn (by decide) | exact n0 (by decide) | exact aR (by decide) | exact al l1 _ | exact al l2 _ | exact al l3 _ | exact aI l1 | exact aI l2 | exact aI l3 | exact co hc (by decide) | exact aS hc | omega)).ext ag (by first | exact nn (by decide) | exact n0 (by decide) | exact aR (by decide) | exact al l1 _ | exact al l2 _ | exact al l3 _ | exact aI l1 | exact aI l2 | exact aI l3 | exact co hc (by decide) | exact aS hc | omega)).ext az (by first | exact nn (by decide) | exact n0 (by decide) | exact aR (by decide) | exact al l1 _ | exact al l2 _ | exact al l3 _ | exact aI l1 | exact aI l2 | exact aI l3 | exact co hc (by decide) | exact aS hc | omega)) hw λ ce i3₆ bc=>wpAny_pure ?_)
  have er:cY ce (n+4) #[x,y,c3]:=ex bc (by first | exact nn (by decide) | exact n0 (by decide) | exact aR (by decide) | exact al l1 _ | exact al l2 _ | exact al l3 _ | exact aI l1 | exact aI l2 | exact aI l3 | exact co hc (by decide) | exact aS hc | omega) cp
  refine wpAny_bind (wpAny_seqItems er rfl ?_)
  refine wpAny_bind (gX er (by simp) λ ba bu bf=>?_)
  replace bu:cY ba (n+4) #[x,y,z]:=bu
  refine wpAny_bind (wpAny_letGo (wpAny_pure (wpAny_pure ?_)))
  refine wpAny_bind (wpAny_seqItems bu rfl ?_)
  refine wpAny_bind (wpAny_newTuple ?_)
  have hsz:ba.objs.size=s.heap.objs.size:=by rw[bf.1,bc.1,az.1,ag.1,af.1,ae.1,ad.1]
  have keep:∀ (c:Nat) o,(c < n\/n+5 < c)->s.heap.get? c=some o->ba.get? c=some o:=λ c o hc e=>
   ex bf (by first | exact nn (by decide) | exact n0 (by decide) | exact aR (by decide) | exact al l1 _ | exact al l2 _ | exact al l3 _ | exact aI l1 | exact aI l2 | exact aI l3 | exact co hc (by decide) | exact aS hc | omega) (ex bc (by first | exact nn (by decide) | exact n0 (by decide) | exact aR (by decide) | exact al l1 _ | exact al l2 _ | exact al l3 _ | exact aI l1 | exact aI l2 | exact aI l3 | exact co hc (by decide) | exact aS hc | omega) (ex az (by first | exact nn (by decide) | exact n0 (by decide) | exact aR (by decide) | exact al l1 _ | exact al l2 _ | exact al l3 _ | exact aI l1 | exact aI l2 | exact aI l3 | exact co hc (by decide) | exact aS hc | omega) (ex ag (by first | exact nn (by decide) | exact n0 (by decide) | exact aR (by decide) | exact al l1 _ | exact al l2 _ | exact al l3 _ | exact aI l1 | exact aI l2 | exact aI l3 | exact co hc (by decide) | exact aS hc | omega) (ex af (by first | exact nn (by decide) | exact n0 (by decide) | exact aR (by decide) | exact al l1 _ | exact al l2 _ | exact al l3 _ | exact aI l1 | exact aI l2 | exact aI l3 | exact co hc (by decide) | exact aS hc | omega) (ex ae (by first | exact nn (by decide) | exact n0 (by decide) | exact aR (by decide) | exact al l1 _ | exact al l2 _ | exact al l3 _ | exact aI l1 | exact aI l2 | exact aI l3 | exact co hc (by decide) | exact aS hc | omega) (ex ad (by first | exact nn (by decide) | exact n0 (by decide) | exact aR (by decide) | exact al l1 _ | exact al l2 _ | exact al l3 _ | exact aI l1 | exact aI l2 | exact aI l3 | exact co hc (by decide) | exact aS hc | omega) e))))))
  have df:lX ba (n+5) (n+3) (n+4) .ellipsis f1:=ex bf (by first | exact nn (by decide) | exact n0 (by decide) | exact aR (by decide) | exact al l1 _ | exact al l2 _ | exact al l3 _ | exact aI l1 | exact aI l2 | exact aI l3 | exact co hc (by decide) | exact aS hc | omega) (ex bc (by first | exact nn (by decide) | exact n0 (by decide) | exact aR (by decide) | exact al l1 _ | exact al l2 _ | exact al l3 _ | exact aI l1 | exact aI l2 | exact aI l3 | exact co hc (by decide) | exact aS hc | omega) (ex az (by first | exact nn (by decide) | exact n0 (by decide) | exact aR (by decide) | exact al l1 _ | exact al l2 _ | exact al l3 _ | exact aI l1 | exact aI l2 | exact aI l3 | exact co hc (by decide) | exact aS hc | omega) (ex ag (by first | exact nn (by decide) | exact n0 (by decide) | exact aR (by decide) | exact al l1 _ | exact al l2 _ | exact al l3 _ | exact aI l1 | exact aI l2 | exact aI l3 | exact co hc (by decide) | exact aS hc | omega) (ex af (by first | exact nn (by decide) | exact n0 (by decide) | exact aR (by decide) | exact al l1 _ | exact al l2 _ | exact al l3 _ | exact aI l1 | exact aI l2 | exact aI l3 | exact co hc (by decide) | exact aS hc | omega) (ex ae (by first | exact nn (by decide) | exact n0 (by decide) | exact aR (by decide) | exact al l1 _ | exact al l2 _ | exact al l3 _ | exact aI l1 | exact aI l2 | exact aI l3 | exact co hc (by decide) | exact aS hc | omega) ao)))))
  have cy:cY ba (n+3) #[.ref n,.ref (n+1),.ref (n+2)]:=ex bf (by first | exact nn (by decide) | exact n0 (by decide) | exact aR (by decide) | exact al l1 _ | exact al l2 _ | exact al l3 _ | exact aI l1 | exact aI l2 | exact aI l3 | exact co hc (by decide) | exact aS hc | omega) (ex bc (by first | exact nn (by decide) | exact n0 (by decide) | exact aR (by decide) | exact al l1 _ | exact al l2 _ | exact al l3 _ | exact aI l1 | exact aI l2 | exact aI l3 | exact co hc (by decide) | exact aS hc | omega) (ex az (by first | exact nn (by decide) | exact n0 (by decide) | exact aR (by decide) | exact al l1 _ | exact al l2 _ | exact al l3 _ | exact aI l1 | exact aI l2 | exact aI l3 | exact co hc (by decide) | exact aS hc | omega) (ex ag (by first | exact nn (by decide) | exact n0 (by decide) | exact aR (by decide) | exact al l1 _ | exact al l2 _ | exact al l3 _ | exact aI l1 | exact aI l2 | exact aI l3 | exact co hc (by decide) | exact aS hc | omega) (ex af (by first | exact nn (by decide) | exact n0 (by decide) | exact aR (by decide) | exact al l1 _ | exact al l2 _ | exact al l3 _ | exact aI l1 | exact aI l2 | exact aI l3 | exact co hc (by decide) | exact aS hc | omega) (ex ae (by first | exact nn (by decide) | exact n0 (by decide) | exact aR (by decide) | exact al l1 _ | exact al l2 _ | exact al l3 _ | exact aI l1 | exact aI l2 | exact aI l3 | exact co hc (by decide) | exact aS hc | omega) (ex ad (by first | exact nn (by decide) | exact n0 (by decide) | exact aR (by decide) | exact al l1 _ | exact al l2 _ | exact al l3 _ | exact aI l1 | exact aI l2 | exact aI l3 | exact co hc (by decide) | exact aS hc | omega) hTI))))))
  have dh:=((((bq.ext af (by first | exact nn (by decide) | exact n0 (by decide) | exact aR (by decide) | exact al l1 _ | exact al l2 _ | exact al l3 _ | exact aI l1 | exact aI l2 | exact aI l3 | exact co hc (by decide) | exact aS hc | omega)).ext ag (by first | exact nn (by decide) | exact n0 (by decide) | exact aR (by decide) | exact al l1 _ | exact al l2 _ | exact al l3 _ | exact aI l1 | exact aI l2 | exact aI l3 | exact co hc (by decide) | exact aS hc | omega)).ext az (by first | exact nn (by decide) | exact n0 (by decide) | exact aR (by decide) | exact al l1 _ | exact al l2 _ | exact al l3 _ | exact aI l1 | exact aI l2 | exact aI l3 | exact co hc (by decide) | exact aS hc | omega)).ext bc (by first | exact nn (by decide) | exact n0 (by decide) | exact aR (by decide) | exact al l1 _ | exact al l2 _ | exact al l3 _ | exact aI l1 | exact aI l2 | exact aI l3 | exact co hc (by decide) | exact aS hc | omega)).ext bf (by first | exact nn (by decide) | exact n0 (by decide) | exact aR (by decide) | exact al l1 _ | exact al l2 _ | exact al l3 _ | exact aI l1 | exact aI l2 | exact aI l3 | exact co hc (by decide) | exact aS hc | omega)
  have di:=((cf.ext az (by first | exact nn (by decide) | exact n0 (by decide) | exact aR (by decide) | exact al l1 _ | exact al l2 _ | exact al l3 _ | exact aI l1 | exact aI l2 | exact aI l3 | exact co hc (by decide) | exact aS hc | omega)).ext bc (by first | exact nn (by decide) | exact n0 (by decide) | exact aR (by decide) | exact al l1 _ | exact al l2 _ | exact al l3 _ | exact aI l1 | exact aI l2 | exact aI l3 | exact co hc (by decide) | exact aS hc | omega)).ext bf (by first | exact nn (by decide) | exact n0 (by decide) | exact aR (by decide) | exact al l1 _ | exact al l2 _ | exact al l3 _ | exact aI l1 | exact aI l2 | exact aI l3 | exact co hc (by decide) | exact aS hc | omega)
  have i3₇:=i3₆.ext bf (by first | exact nn (by decide) | exact n0 (by decide) | exact aR (by decide) | exact al l1 _ | exact al l2 _ | exact al l3 _ | exact aI l1 | exact aI l2 | exact aI l3 | exact co hc (by decide) | exact aS hc | omega)
  have fk:n+5 < ba.objs.size:=by rw[hsz];exact hzlt
  have up:∀ {c o},ba.get? c=some o->(ba.push { cls:=.type "tuple",data:=.seq #[x,y,z] }).get? c=some o:=λ e=>aab _ e
  refine wpAny_bind (BF (z:=n+5) (TI:=n+3) (TO:=n+4) (f0:=.ellipsis) (f1:=f1) (up df) λ cz dj cq=>?_)
  have up8:∀ {c:Nat}{o},c≠n+5->ba.get? c=some o->cz.get? c=some o:=λ hc e=>ex cq hc (up e)
  refine wpAny_pure ⟨_,rfl,hQ ba.objs.size cz (rawInt ba.objs.size) false x y z (by rw[hsz];exact Nat.le_refl _) (.inr ⟨_,rfl⟩) dj (up8 (by first | exact nn (by decide) | exact n0 (by decide) | exact aR (by decide) | exact al l1 _ | exact al l2 _ | exact al l3 _ | exact aI l1 | exact aI l2 | exact aI l3 | exact co hc (by decide) | exact aS hc | omega) cy) (up8 (by first | exact nn (by decide) | exact n0 (by decide) | exact aR (by decide) | exact al l1 _ | exact al l2 _ | exact al l3 _ | exact aI l1 | exact aI l2 | exact aI l3 | exact co hc (by decide) | exact aS hc | omega) bu) (dh.at λ o e=>up8 (by first | exact nn (by decide) | exact n0 (by decide) | exact aR (by decide) | exact al l1 _ | exact al l2 _ | exact al l3 _ | exact aI l1 | exact aI l2 | exact aI l3 | exact co hc (by decide) | exact aS hc | omega) e) (di.at λ o e=>up8 (by first | exact nn (by decide) | exact n0 (by decide) | exact aR (by decide) | exact al l1 _ | exact al l2 _ | exact al l3 _ | exact aI l1 | exact aI l2 | exact aI l3 | exact co hc (by decide) | exact aS hc | omega) e) (i3₇.at λ o e=>up8 (by first | exact nn (by decide) | exact n0 (by decide) | exact aR (by decide) | exact al l1 _ | exact al l2 _ | exact al l3 _ | exact aI l1 | exact aI l2 | exact aI l3 | exact co hc (by decide) | exact aS hc | omega) e)
   (ex cq (by first | exact nn (by decide) | exact n0 (by decide) | exact aR (by decide) | exact al l1 _ | exact al l2 _ | exact al l3 _ | exact aI l1 | exact aI l2 | exact aI l3 | exact co hc (by decide) | exact aS hc | omega) (aag _ rfl)) λ c o hc e=>up8 (by first | exact nn (by decide) | exact n0 (by decide) | exact aR (by decide) | exact al l1 _ | exact al l2 _ | exact al l3 _ | exact aI l1 | exact aI l2 | exact aI l3 | exact co hc (by decide) | exact aS hc | omega) (keep c o hc e)⟩
 ·intro h₁ ao ad
  simp only [Bool.false_eq_true,if_false]
  refine wpAny_bind ?_
  rw[<- Array.forIn_toList]
  simp only [List.forIn_cons,List.forIn_nil]
  refine wpAny_bind (wpAny_bind (wpAny_holding ?_))
  show wpAny _ _ (Builtin.SmallTypes.nextOf (.ref n) >>= _) _ _ _
  refine wpAny_bind (bI (i1.ext ad (by first | exact nn (by decide) | exact n0 (by decide) | exact aR (by decide) | exact al l1 _ | exact al l2 _ | exact al l3 _ | exact aI l1 | exact aI l2 | exact aI l3 | exact co hc (by decide) | exact aS hc | omega)) (s1.ext ad (by first | exact nn (by decide) | exact n0 (by decide) | exact aR (by decide) | exact al l1 _ | exact al l2 _ | exact al l3 _ | exact aI l1 | exact aI l2 | exact aI l3 | exact co hc (by decide) | exact aS hc | omega)) hx λ aq bq ae=>wpAny_pure (wpAny_pure ?_))
  refine wpAny_bind (wpAny_bind (wpAny_holding ?_))
  show wpAny _ _ (Builtin.SmallTypes.nextOf (.ref (n+1)) >>= _) _ _ _
  refine wpAny_bind (bI ((i2.ext ad (by first | exact nn (by decide) | exact n0 (by decide) | exact aR (by decide) | exact al l1 _ | exact al l2 _ | exact al l3 _ | exact aI l1 | exact aI l2 | exact aI l3 | exact co hc (by decide) | exact aS hc | omega)).ext ae (by first | exact nn (by decide) | exact n0 (by decide) | exact aR (by decide) | exact al l1 _ | exact al l2 _ | exact al l3 _ | exact aI l1 | exact aI l2 | exact aI l3 | exact co hc (by decide) | exact aS hc | omega)) ((s2.ext ad (by first | exact nn (by decide) | exact n0 (by decide) | exact aR (by decide) | exact al l1 _ | exact al l2 _ | exact al l3 _ | exact aI l1 | exact aI l2 | exact aI l3 | exact co hc (by decide) | exact aS hc | omega)).ext ae (by first | exact nn (by decide) | exact n0 (by decide) | exact aR (by decide) | exact al l1 _ | exact al l2 _ | exact al l3 _ | exact aI l1 | exact aI l2 | exact aI l3 | exact co hc (by decide) | exact aS hc | omega)) hy λ ak fg af=>wpAny_pure (wpAny_pure ?_))
  refine wpAny_bind (wpAny_bind (wpAny_holding ?_))
  show wpAny _ _ (Builtin.SmallTypes.nextOf (.ref (n+2)) >>= _) _ _ _
  refine wpAny_bind (bI (((i3.ext ad (by first | exact nn (by decide) | exact n0 (by decide) | exact aR (by decide) | exact al l1 _ | exact al l2 _ | exact al l3 _ | exact aI l1 | exact aI l2 | exact aI l3 | exact co hc (by decide) | exact aS hc | omega)).ext ae (by first | exact nn (by decide) | exact n0 (by decide) | exact aR (by decide) | exact al l1 _ | exact al l2 _ | exact al l3 _ | exact aI l1 | exact aI l2 | exact aI l3 | exact co hc (by decide) | exact aS hc | omega)).ext af (by first | exact nn (by decide) | exact n0 (by decide) | exact aR (by decide) | exact al l1 _ | exact al l2 _ | exact al l3 _ | exact aI l1 | exact aI l2 | exact aI l3 | exact co hc (by decide) | exact aS hc | omega)) (((s3.ext ad (by first | exact nn (by decide) | exact n0 (by decide) | exact aR (by decide) | exact al l1 _ | exact al l2 _ | exact al l3 _ | exact aI l1 | exact aI l2 | exact aI l3 | exact co hc (by decide) | exact aS hc | omega)).ext ae (by first | exact nn (by decide) | exact n0 (by decide) | exact aR (by decide) | exact al l1 _ | exact al l2 _ | exact al l3 _ | exact aI l1 | exact aI l2 | exact aI l3 | exact co hc (by decide) | exact aS hc | omega)).ext af (by first | exact nn (by decide) | exact n0 (by decide) | exact aR (by decide) | exact al l1 _ | exact al l2 _ | exact al l3 _ | exact aI l1 | exact aI l2 | exact aI l3 | exact co hc (by decide) | exact aS hc | omega)) hw λ au i3₄ ag=>wpAny_pure (wpAny_pure (wpAny_pure ?_)))
  refine wpAny_bind (wpAny_newTuple (hsz:=by show 3<=sizeLine;decide) (wpAny_pure ⟨_,rfl,?_⟩))
  have hsz:au.objs.size=s.heap.objs.size:=by rw[ag.1,af.1,ae.1,ad.1]
  have up:∀ {c o},au.get? c=some o->(au.push { cls:=.type "tuple",data:=.seq #[x,y,z] }).get? c=some o:=λ e=>aab _ e
  have keep:∀ (c:Nat) o,(c < n\/n+5 < c)->s.heap.get? c=some o->au.get? c=some o:=λ c o hc e=>ex ag (by first | exact nn (by decide) | exact n0 (by decide) | exact aR (by decide) | exact al l1 _ | exact al l2 _ | exact al l3 _ | exact aI l1 | exact aI l2 | exact aI l3 | exact co hc (by decide) | exact aS hc | omega) (ex af (by first | exact nn (by decide) | exact n0 (by decide) | exact aR (by decide) | exact al l1 _ | exact al l2 _ | exact al l3 _ | exact aI l1 | exact aI l2 | exact aI l3 | exact co hc (by decide) | exact aS hc | omega) (ex ae (by first | exact nn (by decide) | exact n0 (by decide) | exact aR (by decide) | exact al l1 _ | exact al l2 _ | exact al l3 _ | exact aI l1 | exact aI l2 | exact aI l3 | exact co hc (by decide) | exact aS hc | omega) (ex ad (by first | exact nn (by decide) | exact n0 (by decide) | exact aR (by decide) | exact al l1 _ | exact al l2 _ | exact al l3 _ | exact aI l1 | exact aI l2 | exact aI l3 | exact co hc (by decide) | exact aS hc | omega) e)))
  refine hQ au.objs.size (au.push { cls:=.type "tuple",data:=.seq #[x,y,z] }) f0 true c1 c2 c3 (by rw[hsz];exact Nat.le_refl _) hf (up (ex ag (by first | exact nn (by decide) | exact n0 (by decide) | exact aR (by decide) | exact al l1 _ | exact al l2 _ | exact al l3 _ | exact aI l1 | exact aI l2 | exact aI l3 | exact co hc (by decide) | exact aS hc | omega) (ex af (by first | exact nn (by decide) | exact n0 (by decide) | exact aR (by decide) | exact al l1 _ | exact al l2 _ | exact al l3 _ | exact aI l1 | exact aI l2 | exact aI l3 | exact co hc (by decide) | exact aS hc | omega) (ex ae (by first | exact nn (by decide) | exact n0 (by decide) | exact aR (by decide) | exact al l1 _ | exact al l2 _ | exact al l3 _ | exact aI l1 | exact aI l2 | exact aI l3 | exact co hc (by decide) | exact aS hc | omega) ao))))
   (up (ex ag (by first | exact nn (by decide) | exact n0 (by decide) | exact aR (by decide) | exact al l1 _ | exact al l2 _ | exact al l3 _ | exact aI l1 | exact aI l2 | exact aI l3 | exact co hc (by decide) | exact aS hc | omega) (ex af (by first | exact nn (by decide) | exact n0 (by decide) | exact aR (by decide) | exact al l1 _ | exact al l2 _ | exact al l3 _ | exact aI l1 | exact aI l2 | exact aI l3 | exact co hc (by decide) | exact aS hc | omega) (ex ae (by first | exact nn (by decide) | exact n0 (by decide) | exact aR (by decide) | exact al l1 _ | exact al l2 _ | exact al l3 _ | exact aI l1 | exact aI l2 | exact aI l3 | exact co hc (by decide) | exact aS hc | omega) (ex ad (by first | exact nn (by decide) | exact n0 (by decide) | exact aR (by decide) | exact al l1 _ | exact al l2 _ | exact al l3 _ | exact aI l1 | exact aI l2 | exact aI l3 | exact co hc (by decide) | exact aS hc | omega) hTI))))) (up (ex ag (by first | exact nn (by decide) | exact n0 (by decide) | exact aR (by decide) | exact al l1 _ | exact al l2 _ | exact al l3 _ | exact aI l1 | exact aI l2 | exact aI l3 | exact co hc (by decide) | exact aS hc | omega) (ex af (by first | exact nn (by decide) | exact n0 (by decide) | exact aR (by decide) | exact al l1 _ | exact al l2 _ | exact al l3 _ | exact aI l1 | exact aI l2 | exact aI l3 | exact co hc (by decide) | exact aS hc | omega) (ex ae (by first | exact nn (by decide) | exact n0 (by decide) | exact aR (by decide) | exact al l1 _ | exact al l2 _ | exact al l3 _ | exact aI l1 | exact aI l2 | exact aI l3 | exact co hc (by decide) | exact aS hc | omega) (ex ad (by first | exact nn (by decide) | exact n0 (by decide) | exact aR (by decide) | exact al l1 _ | exact al l2 _ | exact al l3 _ | exact aI l1 | exact aI l2 | exact aI l3 | exact co hc (by decide) | exact aS hc | omega) hTO)))))
   (((bq.ext af (by first | exact nn (by decide) | exact n0 (by decide) | exact aR (by decide) | exact al l1 _ | exact al l2 _ | exact al l3 _ | exact aI l1 | exact aI l2 | exact aI l3 | exact co hc (by decide) | exact aS hc | omega)).ext ag (by first | exact nn (by decide) | exact n0 (by decide) | exact aR (by decide) | exact al l1 _ | exact al l2 _ | exact al l3 _ | exact aI l1 | exact aI l2 | exact aI l3 | exact co hc (by decide) | exact aS hc | omega)).at λ o e=>up e) ((fg.ext ag (by first | exact nn (by decide) | exact n0 (by decide) | exact aR (by decide) | exact al l1 _ | exact al l2 _ | exact al l3 _ | exact aI l1 | exact aI l2 | exact aI l3 | exact co hc (by decide) | exact aS hc | omega)).at λ o e=>up e) (i3₄.at λ o e=>up e) (aag _ rfl) λ c o hc e=>up (keep c o hc e)
theorem E3 {n a1 a2 a3:Nat}{t1 t2 t3:Bool}{k:Nat}{xs ys zs:Array Value}{c1 c2 c3 f0:Value}{f1:Bool}{Q:Fin->Shared->Prop} (hh:A.handled=none) (hf:fW f0)
  (hz:lX s.heap (n+5) (n+3) (n+4) f0 f1) (hTI:cY s.heap (n+3) #[.ref n,.ref (n+1),.ref (n+2)]) (hTO:cY s.heap (n+4) #[c1,c2,c3])
  (i1:d7 s.heap t1 n a1 k) (i2:d7 s.heap t2 (n+1) a2 k) (i3:d7 s.heap t3 (n+2) a3 k) (s1:bT s.heap t1 a1 xs) (s2:bT s.heap t2 a2 ys) (s3:bT s.heap t3 a3 zs)
  (l1:a1 < n) (l2:a2 < n) (l3:a3 < n) (hend:xs[k]? = none\/ys[k]? = none\/zs[k]? = none)
  (hE:∀ h' e,(∀ (c:Nat) o,(c < n\/n+5 < c)->s.heap.get? c=some o->h'.get? c=some o)->(∃ o,h'.get? e=some o/\o.cls=.type "StopIteration")->E (.ref e) { s with heap:=h' }) :
  wpAny (model prog w) A (Builtin.«zip.__next__» ⟨[.ref (n+5)],[]⟩) Q E s:=by
 show wpAny _ _ (field (.ref (n+5)) 2 >>= _) _ _ _
 refine wpAny_bind (wpAny_field hz rfl (x:=.bool false) rfl ?_)
 show wpAny _ _ (field (.ref (n+5)) 3 >>= _) _ _ _
 refine wpAny_bind (wpAny_field hz rfl (x:=.ref (n+3)) rfl ?_)
 refine wpAny_bind (wpAny_seqItems hTI rfl ?_)
 show wpAny _ _ (Builtin.SmallTypes.ownedTupleIsFree (.ref (n+5)) >>= _) _ _ _
 refine wpAny_bind (j6 hz hf ?_ ?_)
 ·simp only [if_true]
  refine wpAny_bind (wpAny_rule ?_)
  refine wpAny_bind (wpAny_field hz rfl (x:=.ref (n+4)) rfl ?_)
  refine wpAny_bind (wpAny_setField_rec hz (by simp) λ h₁ ao ad=>?_)
  replace ao:lX h₁ (n+5) (n+3) (n+4) .ellipsis f1:=ao
  refine wpAny_bind ?_
  simp only [List.zipIdx_cons,List.zipIdx_nil,List.forIn_cons,List.forIn_nil]
  have fin:∀ {aq ak:Heap}{e j:Nat}{oe:Obj},lX aq (n+5) (n+3) (n+4) .ellipsis f1->Heap.ExtBut j aq ak->@Ne Nat (n+5) j->(n<=j/\j<=n+5)->(∀ (c:Nat) o,(c < n\/n+5 < c)->s.heap.get? c=some o->aq.get? c=some o)->ak.get? e=some oe->oe.cls=.type "StopIteration" ->
    wpAny (model prog w) A (setField (.ref (n+5)) 0 .none) (λ _ s'=>E (.ref e) s') E { s with heap:=ak }:=λ {aq ak e j oe} bz hx hj hr hk hoe hce=>by
   have bv:lX ak (n+5) (n+3) (n+4) .ellipsis f1:=hx _ _ hj bz
   have hez:e≠n+5:=λ q=>by subst q;rw[bv] at hoe;cases hoe;simp at hce
   refine wpAny_setField_rec bv (by simp) λ au _ ag=>hE au e (λ c o hc q=>ex ag (by first | exact nn (by decide) | exact n0 (by decide) | exact aR (by decide) | exact al l1 _ | exact al l2 _ | exact al l3 _ | exact aI l1 | exact aI l2 | exact aI l3 | exact co hc (by decide) | exact aS hc | omega) (hx c o (show @Ne Nat c j by omega) (hk c o hc q))) ⟨oe,ag.extBut _ _ hez hoe,hce⟩
  refine wpAny_bind (wpAny_bind (wpAny_onRaise ?_))
  show wpAny _ _ (Builtin.SmallTypes.nextOf (.ref n) >>= _) _ _ _
  cases hx:xs[k]? with
  | none=>
   refine wpAny_bind (cS hh (i1.ext ad (by first | exact nn (by decide) | exact n0 (by decide) | exact aR (by decide) | exact al l1 _ | exact al l2 _ | exact al l3 _ | exact aI l1 | exact aI l2 | exact aI l3 | exact co hc (by decide) | exact aS hc | omega)) (s1.ext ad (by first | exact nn (by decide) | exact n0 (by decide) | exact aR (by decide) | exact al l1 _ | exact al l2 _ | exact al l3 _ | exact aI l1 | exact aI l2 | exact aI l3 | exact co hc (by decide) | exact aS hc | omega)) hx λ aq e ae he=>?_)
   obtain⟨oe,hoe,hce⟩:=he
   exact fin ao ae (by first | exact nn (by decide) | exact n0 (by decide) | exact aR (by decide) | exact al l1 _ | exact al l2 _ | exact al l3 _ | exact aI l1 | exact aI l2 | exact aI l3 | exact co hc (by decide) | exact aS hc | omega) (by first | exact nn (by decide) | exact n0 (by decide) | exact aR (by decide) | exact al l1 _ | exact al l2 _ | exact al l3 _ | exact aI l1 | exact aI l2 | exact aI l3 | exact co hc (by decide) | exact aS hc | omega) (λ c o hc q=>ex ad (by first | exact nn (by decide) | exact n0 (by decide) | exact aR (by decide) | exact al l1 _ | exact al l2 _ | exact al l3 _ | exact aI l1 | exact aI l2 | exact aI l3 | exact co hc (by decide) | exact aS hc | omega) q) hoe hce
  | some x=>
   refine wpAny_bind (bI (i1.ext ad (by first | exact nn (by decide) | exact n0 (by decide) | exact aR (by decide) | exact al l1 _ | exact al l2 _ | exact al l3 _ | exact aI l1 | exact aI l2 | exact aI l3 | exact co hc (by decide) | exact aS hc | omega)) (s1.ext ad (by first | exact nn (by decide) | exact n0 (by decide) | exact aR (by decide) | exact al l1 _ | exact al l2 _ | exact al l3 _ | exact aI l1 | exact aI l2 | exact aI l3 | exact co hc (by decide) | exact aS hc | omega)) hx λ aq bq ae=>wpAny_pure ?_)
   have bp:cY aq (n+4) #[c1,c2,c3]:=ex ae (by first | exact nn (by decide) | exact n0 (by decide) | exact aR (by decide) | exact al l1 _ | exact al l2 _ | exact al l3 _ | exact aI l1 | exact aI l2 | exact aI l3 | exact co hc (by decide) | exact aS hc | omega) (ex ad (by first | exact nn (by decide) | exact n0 (by decide) | exact aR (by decide) | exact al l1 _ | exact al l2 _ | exact al l3 _ | exact aI l1 | exact aI l2 | exact aI l3 | exact co hc (by decide) | exact aS hc | omega) hTO)
   refine wpAny_bind (wpAny_seqItems bp rfl ?_)
   refine wpAny_bind (gX bp (by simp) λ ak be af=>?_)
   replace be:cY ak (n+4) #[x,c2,c3]:=be
   refine wpAny_bind (wpAny_letGo (wpAny_pure ?_))
   have bv:lX ak (n+5) (n+3) (n+4) .ellipsis f1:=ex af (by first | exact nn (by decide) | exact n0 (by decide) | exact aR (by decide) | exact al l1 _ | exact al l2 _ | exact al l3 _ | exact aI l1 | exact aI l2 | exact aI l3 | exact co hc (by decide) | exact aS hc | omega) (ex ae (by first | exact nn (by decide) | exact n0 (by decide) | exact aR (by decide) | exact al l1 _ | exact al l2 _ | exact al l3 _ | exact aI l1 | exact aI l2 | exact aI l3 | exact co hc (by decide) | exact aS hc | omega) ao)
   have dk:∀ (c:Nat) o,(c < n\/n+5 < c)->s.heap.get? c=some o->ak.get? c=some o:=λ c o hc e=>ex af (by first | exact nn (by decide) | exact n0 (by decide) | exact aR (by decide) | exact al l1 _ | exact al l2 _ | exact al l3 _ | exact aI l1 | exact aI l2 | exact aI l3 | exact co hc (by decide) | exact aS hc | omega) (ex ae (by first | exact nn (by decide) | exact n0 (by decide) | exact aR (by decide) | exact al l1 _ | exact al l2 _ | exact al l3 _ | exact aI l1 | exact aI l2 | exact aI l3 | exact co hc (by decide) | exact aS hc | omega) (ex ad (by first | exact nn (by decide) | exact n0 (by decide) | exact aR (by decide) | exact al l1 _ | exact al l2 _ | exact al l3 _ | exact aI l1 | exact aI l2 | exact aI l3 | exact co hc (by decide) | exact aS hc | omega) e))
   refine wpAny_bind (wpAny_bind (wpAny_onRaise ?_))
   show wpAny _ _ (Builtin.SmallTypes.nextOf (.ref (n+1)) >>= _) _ _ _
   cases hy:ys[k]? with
   | none=>
    refine wpAny_bind (cS hh (((i2.ext ad (by first | exact nn (by decide) | exact n0 (by decide) | exact aR (by decide) | exact al l1 _ | exact al l2 _ | exact al l3 _ | exact aI l1 | exact aI l2 | exact aI l3 | exact co hc (by decide) | exact aS hc | omega)).ext ae (by first | exact nn (by decide) | exact n0 (by decide) | exact aR (by decide) | exact al l1 _ | exact al l2 _ | exact al l3 _ | exact aI l1 | exact aI l2 | exact aI l3 | exact co hc (by decide) | exact aS hc | omega)).ext af (by first | exact nn (by decide) | exact n0 (by decide) | exact aR (by decide) | exact al l1 _ | exact al l2 _ | exact al l3 _ | exact aI l1 | exact aI l2 | exact aI l3 | exact co hc (by decide) | exact aS hc | omega)) (((s2.ext ad (by first | exact nn (by decide) | exact n0 (by decide) | exact aR (by decide) | exact al l1 _ | exact al l2 _ | exact al l3 _ | exact aI l1 | exact aI l2 | exact aI l3 | exact co hc (by decide) | exact aS hc | omega)).ext ae (by first | exact nn (by decide) | exact n0 (by decide) | exact aR (by decide) | exact al l1 _ | exact al l2 _ | exact al l3 _ | exact aI l1 | exact aI l2 | exact aI l3 | exact co hc (by decide) | exact aS hc | omega)).ext af (by first | exact nn (by decide) | exact n0 (by decide) | exact aR (by decide) | exact al l1 _ | exact al l2 _ | exact al l3 _ | exact aI l1 | exact aI l2 | exact aI l3 | exact co hc (by decide) | exact aS hc | omega)) hy λ au e ag he=>?_)
    obtain⟨oe,hoe,hce⟩:=he
    exact fin bv ag (by first | exact nn (by decide) | exact n0 (by decide) | exact aR (by decide) | exact al l1 _ | exact al l2 _ | exact al l3 _ | exact aI l1 | exact aI l2 | exact aI l3 | exact co hc (by decide) | exact aS hc | omega) (by first | exact nn (by decide) | exact n0 (by decide) | exact aR (by decide) | exact al l1 _ | exact al l2 _ | exact al l3 _ | exact aI l1 | exact aI l2 | exact aI l3 | exact co hc (by decide) | exact aS hc | omega) dk hoe hce
   | some y=>
    have hw:zs[k]? = none:=by rcases hend with h | h | h;rw[hx] at h;cases h;rw[hy] at h;cases h;exact h
    refine wpAny_bind (bI (((i2.ext ad (by first | exact nn (by decide) | exact n0 (by decide) | exact aR (by decide) | exact al l1 _ | exact al l2 _ | exact al l3 _ | exact aI l1 | exact aI l2 | exact aI l3 | exact co hc (by decide) | exact aS hc | omega)).ext ae (by first | exact nn (by decide) | exact n0 (by decide) | exact aR (by decide) | exact al l1 _ | exact al l2 _ | exact al l3 _ | exact aI l1 | exact aI l2 | exact aI l3 | exact co hc (by decide) | exact aS hc | omega)).ext af (by first | exact nn (by decide) | exact n0 (by decide) | exact aR (by decide) | exact al l1 _ | exact al l2 _ | exact al l3 _ | exact aI l1 | exact aI l2 | exact aI l3 | exact co hc (by decide) | exact aS hc | omega)) (((s2.ext ad (by first | exact nn (by decide) | exact n0 (by decide) | exact aR (by decide) | exact al l1 _ | exact al l2 _ | exact al l3 _ | exact aI l1 | exact aI l2 | exact aI l3 | exact co hc (by decide) | exact aS hc | omega)).ext ae (by first | exact nn (by decide) | exact n0 (by decide) | exact aR (by decide) | exact al l1 _ | exact al l2 _ | exact al l3 _ | exact aI l1 | exact aI l2 | exact aI l3 | exact co hc (by decide) | exact aS hc | omega)).ext af (by first | exact nn (by decide) | exact n0 (by decide) | exact aR (by decide) | exact al l1 _ | exact al l2 _ | exact al l3 _ | exact aI l1 | exact aI l2 | exact aI l3 | exact co hc (by decide) | exact aS hc | omega)) hy λ au cf ag=>wpAny_pure ?_)
    have bw:cY au (n+4) #[x,c2,c3]:=ex ag (by first | exact nn (by decide) | exact n0 (by decide) | exact aR (by decide) | exact al l1 _ | exact al l2 _ | exact al l3 _ | exact aI l1 | exact aI l2 | exact aI l3 | exact co hc (by decide) | exact aS hc | omega) be
    refine wpAny_bind (wpAny_seqItems bw rfl ?_)
    refine wpAny_bind (gX bw (by simp) λ bn cp az=>?_)
    refine wpAny_bind (wpAny_letGo (wpAny_pure ?_))
    refine wpAny_bind (wpAny_bind (wpAny_onRaise ?_))
    show wpAny _ _ (Builtin.SmallTypes.nextOf (.ref (n+2)) >>= _) _ _ _
    refine wpAny_bind (cS hh (((((i3.ext ad (by first | exact nn (by decide) | exact n0 (by decide) | exact aR (by decide) | exact al l1 _ | exact al l2 _ | exact al l3 _ | exact aI l1 | exact aI l2 | exact aI l3 | exact co hc (by decide) | exact aS hc | omega)).ext ae (by first | exact nn (by decide) | exact n0 (by decide) | exact aR (by decide) | exact al l1 _ | exact al l2 _ | exact al l3 _ | exact aI l1 | exact aI l2 | exact aI l3 | exact co hc (by decide) | exact aS hc | omega)).ext af (by first | exact nn (by decide) | exact n0 (by decide) | exact aR (by decide) | exact al l1 _ | exact al l2 _ | exact al l3 _ | exact aI l1 | exact aI l2 | exact aI l3 | exact co hc (by decide) | exact aS hc | omega)).ext ag (by first | exact nn (by decide) | exact n0 (by decide) | exact aR (by decide) | exact al l1 _ | exact al l2 _ | exact al l3 _ | exact aI l1 | exact aI l2 | exact aI l3 | exact co hc (by decide) | exact aS hc | omega)).ext az (by first | exact nn (by decide) | exact n0 (by decide) | exact aR (by decide) | exact al l1 _ | exact al l2 _ | exact al l3 _ | exact aI l1 | exact aI l2 | exact aI l3 | exact co hc (by decide) | exact aS hc | omega))
     (((((s3.ext ad (by first | exact nn (by decide) | exact n0 (by decide) | exact aR (by decide) | exact al l1 _ | exact al l2 _ | exact al l3 _ | exact aI l1 | exact aI l2 | exact aI l3 | exact co hc (by decide) | exact aS hc | omega)).ext ae (by first | exact nn (by decide) | exact n0 (by decide) | exact aR (by decide) | exact al l1 _ | exact al l2 _ | exact al l3 _ | exact aI l1 | exact aI l2 | exact aI l3 | exact co hc (by decide) | exact aS hc | omega)).ext af (by first | exact nn (by decide) | exact n0 (by decide) | exact aR (by decide) | exact al l1 _ | exact al l2 _ | exact al l3 _ | exact aI l1 | exact aI l2 | exact aI l3 | exact co hc (by decide) | exact aS hc | omega)).ext ag (by first | exact nn (by decide) | exact n0 (by decide) | exact aR (by decide) | exact al l1 _ | exact al l2 _ | exact al l3 _ | exact aI l1 | exact aI l2 | exact aI l3 | exact co hc (by decide) | exact aS hc | omega)).ext az (by first | exact nn (by decide) | exact n0 (by decide) | exact aR (by decide) | exact al l1 _ | exact al l2 _ | exact al l3 _ | exact aI l1 | exact aI l2 | exact aI l3 | exact co hc (by decide) | exact aS hc | omega)) hw λ ce e bc he=>?_)
    obtain⟨oe,hoe,hce⟩:=he
    exact fin (ex az (by first | exact nn (by decide) | exact n0 (by decide) | exact aR (by decide) | exact al l1 _ | exact al l2 _ | exact al l3 _ | exact aI l1 | exact aI l2 | exact aI l3 | exact co hc (by decide) | exact aS hc | omega) (ex ag (by first | exact nn (by decide) | exact n0 (by decide) | exact aR (by decide) | exact al l1 _ | exact al l2 _ | exact al l3 _ | exact aI l1 | exact aI l2 | exact aI l3 | exact co hc (by decide) | exact aS hc | omega) bv)) bc (by first | exact nn (by decide) | exact n0 (by decide) | exact aR (by decide) | exact al l1 _ | exact al l2 _ | exact al l3 _ | exact aI l1 | exact aI l2 | exact aI l3 | exact co hc (by decide) | exact aS hc | omega) (by first | exact nn (by decide) | exact n0 (by decide) | exact aR (by decide) | exact al l1 _ | exact al l2 _ | exact al l3 _ | exact aI l1 | exact aI l2 | exact aI l3 | exact co hc (by decide) | exact aS hc | omega) (λ c o hc q=>ex az (by first | exact nn (by decide) | exact n0 (by decide) | exact aR (by decide) | exact al l1 _ | exact al l2 _ | exact al l3 _ | exact aI l1 | exact aI l2 | exact aI l3 | exact co hc (by decide) | exact aS hc | omega) (ex ag (by first | exact nn (by decide) | exact n0 (by decide) | exact aR (by decide) | exact al l1 _ | exact al l2 _ | exact al l3 _ | exact aI l1 | exact aI l2 | exact aI l3 | exact co hc (by decide) | exact aS hc | omega) (dk c o hc q))) hoe hce
 ·intro h₁ ao ad
  simp only [Bool.false_eq_true,if_false]
  refine wpAny_bind ?_
  rw[<- Array.forIn_toList]
  simp only [List.forIn_cons,List.forIn_nil]
  refine wpAny_bind (wpAny_bind (wpAny_holding ?_))
  show wpAny _ _ (Builtin.SmallTypes.nextOf (.ref n) >>= _) _ _ _
  cases hx:xs[k]? with
  | none=>
   refine wpAny_bind (cS hh (i1.ext ad (by first | exact nn (by decide) | exact n0 (by decide) | exact aR (by decide) | exact al l1 _ | exact al l2 _ | exact al l3 _ | exact aI l1 | exact aI l2 | exact aI l3 | exact co hc (by decide) | exact aS hc | omega)) (s1.ext ad (by first | exact nn (by decide) | exact n0 (by decide) | exact aR (by decide) | exact al l1 _ | exact al l2 _ | exact al l3 _ | exact aI l1 | exact aI l2 | exact aI l3 | exact co hc (by decide) | exact aS hc | omega)) hx λ aq e ae he=>?_)
   exact hE aq e (λ c o hc q=>ae c o (show @Ne Nat c n by omega) (ex ad (by first | exact nn (by decide) | exact n0 (by decide) | exact aR (by decide) | exact al l1 _ | exact al l2 _ | exact al l3 _ | exact aI l1 | exact aI l2 | exact aI l3 | exact co hc (by decide) | exact aS hc | omega) q)) he
  | some x=>
   refine wpAny_bind (bI (i1.ext ad (by first | exact nn (by decide) | exact n0 (by decide) | exact aR (by decide) | exact al l1 _ | exact al l2 _ | exact al l3 _ | exact aI l1 | exact aI l2 | exact aI l3 | exact co hc (by decide) | exact aS hc | omega)) (s1.ext ad (by first | exact nn (by decide) | exact n0 (by decide) | exact aR (by decide) | exact al l1 _ | exact al l2 _ | exact al l3 _ | exact aI l1 | exact aI l2 | exact aI l3 | exact co hc (by decide) | exact aS hc | omega)) hx λ aq bq ae=>wpAny_pure (wpAny_pure ?_))
   refine wpAny_bind (wpAny_bind (wpAny_holding ?_))
   show wpAny _ _ (Builtin.SmallTypes.nextOf (.ref (n+1)) >>= _) _ _ _
   cases hy:ys[k]? with
   | none=>
    refine wpAny_bind (cS hh ((i2.ext ad (by first | exact nn (by decide) | exact n0 (by decide) | exact aR (by decide) | exact al l1 _ | exact al l2 _ | exact al l3 _ | exact aI l1 | exact aI l2 | exact aI l3 | exact co hc (by decide) | exact aS hc | omega)).ext ae (by first | exact nn (by decide) | exact n0 (by decide) | exact aR (by decide) | exact al l1 _ | exact al l2 _ | exact al l3 _ | exact aI l1 | exact aI l2 | exact aI l3 | exact co hc (by decide) | exact aS hc | omega)) ((s2.ext ad (by first | exact nn (by decide) | exact n0 (by decide) | exact aR (by decide) | exact al l1 _ | exact al l2 _ | exact al l3 _ | exact aI l1 | exact aI l2 | exact aI l3 | exact co hc (by decide) | exact aS hc | omega)).ext ae (by first | exact nn (by decide) | exact n0 (by decide) | exact aR (by decide) | exact al l1 _ | exact al l2 _ | exact al l3 _ | exact aI l1 | exact aI l2 | exact aI l3 | exact co hc (by decide) | exact aS hc | omega)) hy λ ak e af he=>?_)
    exact hE ak e (λ c o hc q=>af c o (show @Ne Nat c (n+1) by omega) (ex ae (by first | exact nn (by decide) | exact n0 (by decide) | exact aR (by decide) | exact al l1 _ | exact al l2 _ | exact al l3 _ | exact aI l1 | exact aI l2 | exact aI l3 | exact co hc (by decide) | exact aS hc | omega) (ex ad (by first | exact nn (by decide) | exact n0 (by decide) | exact aR (by decide) | exact al l1 _ | exact al l2 _ | exact al l3 _ | exact aI l1 | exact aI l2 | exact aI l3 | exact co hc (by decide) | exact aS hc | omega) q))) he
   | some y=>
    have hw:zs[k]? = none:=by rcases hend with h | h | h;rw[hx] at h;cases h;rw[hy] at h;cases h;exact h
    refine wpAny_bind (bI ((i2.ext ad (by first | exact nn (by decide) | exact n0 (by decide) | exact aR (by decide) | exact al l1 _ | exact al l2 _ | exact al l3 _ | exact aI l1 | exact aI l2 | exact aI l3 | exact co hc (by decide) | exact aS hc | omega)).ext ae (by first | exact nn (by decide) | exact n0 (by decide) | exact aR (by decide) | exact al l1 _ | exact al l2 _ | exact al l3 _ | exact aI l1 | exact aI l2 | exact aI l3 | exact co hc (by decide) | exact aS hc | omega)) ((s2.ext ad (by first | exact nn (by decide) | exact n0 (by decide) | exact aR (by decide) | exact al l1 _ | exact al l2 _ | exact al l3 _ | exact aI l1 | exact aI l2 | exact aI l3 | exact co hc (by decide) | exact aS hc | omega)).ext ae (by first | exact nn (by decide) | exact n0 (by decide) | exact aR (by decide) | exact al l1 _ | exact al l2 _ | exact al l3 _ | exact aI l1 | exact aI l2 | exact aI l3 | exact co hc (by decide) | exact aS hc | omega)) hy λ ak fg af=>wpAny_pure (wpAny_pure ?_))
    refine wpAny_bind (wpAny_bind (wpAny_holding ?_))
    show wpAny _ _ (Builtin.SmallTypes.nextOf (.ref (n+2)) >>= _) _ _ _
    refine wpAny_bind (cS hh (((i3.ext ad (by first | exact nn (by decide) | exact n0 (by decide) | exact aR (by decide) | exact al l1 _ | exact al l2 _ | exact al l3 _ | exact aI l1 | exact aI l2 | exact aI l3 | exact co hc (by decide) | exact aS hc | omega)).ext ae (by first | exact nn (by decide) | exact n0 (by decide) | exact aR (by decide) | exact al l1 _ | exact al l2 _ | exact al l3 _ | exact aI l1 | exact aI l2 | exact aI l3 | exact co hc (by decide) | exact aS hc | omega)).ext af (by first | exact nn (by decide) | exact n0 (by decide) | exact aR (by decide) | exact al l1 _ | exact al l2 _ | exact al l3 _ | exact aI l1 | exact aI l2 | exact aI l3 | exact co hc (by decide) | exact aS hc | omega)) (((s3.ext ad (by first | exact nn (by decide) | exact n0 (by decide) | exact aR (by decide) | exact al l1 _ | exact al l2 _ | exact al l3 _ | exact aI l1 | exact aI l2 | exact aI l3 | exact co hc (by decide) | exact aS hc | omega)).ext ae (by first | exact nn (by decide) | exact n0 (by decide) | exact aR (by decide) | exact al l1 _ | exact al l2 _ | exact al l3 _ | exact aI l1 | exact aI l2 | exact aI l3 | exact co hc (by decide) | exact aS hc | omega)).ext af (by first | exact nn (by decide) | exact n0 (by decide) | exact aR (by decide) | exact al l1 _ | exact al l2 _ | exact al l3 _ | exact aI l1 | exact aI l2 | exact aI l3 | exact co hc (by decide) | exact aS hc | omega)) hw λ au e ag he=>?_)
    exact hE au e (λ c o hc q=>ag c o (show @Ne Nat c (n+2) by omega) (ex af (by first | exact nn (by decide) | exact n0 (by decide) | exact aR (by decide) | exact al l1 _ | exact al l2 _ | exact al l3 _ | exact aI l1 | exact aI l2 | exact aI l3 | exact co hc (by decide) | exact aS hc | omega) (ex ae (by first | exact nn (by decide) | exact n0 (by decide) | exact aR (by decide) | exact al l1 _ | exact al l2 _ | exact al l3 _ | exact aI l1 | exact aI l2 | exact aI l3 | exact co hc (by decide) | exact aS hc | omega) (ex ad (by first | exact nn (by decide) | exact n0 (by decide) | exact aR (by decide) | exact al l1 _ | exact al l2 _ | exact al l3 _ | exact aI l1 | exact aI l2 | exact aI l3 | exact co hc (by decide) | exact aS hc | omega) q)))) he
theorem BX {n a1 a2:Nat}{t1 t2:Bool}{k:Nat}{xs ys:Array Value}{x y c1 c2 f0:Value}{f1:Bool}{Q:Value->Shared->Prop} (hf:fW f0)
  (hz:lX s.heap (n+4) (n+2) (n+3) f0 f1) (hTI:cY s.heap (n+2) #[.ref n,.ref (n+1)]) (hTO:cY s.heap (n+3) #[c1,c2])
  (i1:d7 s.heap t1 n a1 k) (i2:d7 s.heap t2 (n+1) a2 k) (s1:bT s.heap t1 a1 xs) (s2:bT s.heap t2 a2 ys)
  (l1:a1 < n) (l2:a2 < n) (hx:xs[k]? = some x) (hy:ys[k]? = some y)
  (hQ:∀ (T:Nat) h' f0' f1' d1 d2,s.heap.objs.size<=T->fW f0'->lX h' (n+4) (n+2) (n+3) f0' f1'->cY h' (n+2) #[.ref n,.ref (n+1)]->cY h' (n+3) #[d1,d2]->
   d7 h' t1 n a1 (k+1)->d7 h' t2 (n+1) a2 (k+1)->cY h' T #[x,y]->
   (∀ (c:Nat) o,(c < n\/n+4 < c)->s.heap.get? c=some o->h'.get? c=some o)->Q (.ref T) { s with heap:=h' }) :
  wpAny (model prog w) A (Builtin.«zip.__next__» ⟨[.ref (n+4)],[]⟩) (λ fin s'=>∃ v,fin=.done (.ret v)/\Q v s') E s:=by
 have hzlt:n+4 < s.heap.objs.size:=aan hz
 show wpAny _ _ (field (.ref (n+4)) 2 >>= _) _ _ _
 refine wpAny_bind (wpAny_field hz rfl (x:=.bool false) rfl ?_)
 show wpAny _ _ (field (.ref (n+4)) 3 >>= _) _ _ _
 refine wpAny_bind (wpAny_field hz rfl (x:=.ref (n+2)) rfl ?_)
 refine wpAny_bind (wpAny_seqItems hTI rfl ?_)
 show wpAny _ _ (Builtin.SmallTypes.ownedTupleIsFree (.ref (n+4)) >>= _) _ _ _
 refine wpAny_bind (j6 hz hf ?_ ?_)
 ·simp only [if_true]
  refine wpAny_bind (wpAny_rule ?_)
  refine wpAny_bind (wpAny_field hz rfl (x:=.ref (n+3)) rfl ?_)
  refine wpAny_bind (wpAny_setField_rec hz (by simp) λ h₁ ao ad=>?_)
  replace ao:lX h₁ (n+4) (n+2) (n+3) .ellipsis f1:=ao
  refine wpAny_bind ?_
  simp only [List.zipIdx_cons,List.zipIdx_nil,List.forIn_cons,List.forIn_nil]
  refine wpAny_bind (wpAny_bind (wpAny_onRaise ?_))
  show wpAny _ _ (Builtin.SmallTypes.nextOf (.ref n) >>= _) _ _ _
  refine wpAny_bind (bI (i1.ext ad (by first | exact nn (by decide) | exact n0 (by decide) | exact aR (by decide) | exact al l1 _ | exact al l2 _ | exact aI l1 | exact aI l2 | exact co hc (by decide) | exact aS hc | omega)) (s1.ext ad (by first | exact nn (by decide) | exact n0 (by decide) | exact aR (by decide) | exact al l1 _ | exact al l2 _ | exact aI l1 | exact aI l2 | exact co hc (by decide) | exact aS hc | omega)) hx λ aq bq ae=>wpAny_pure ?_)
  have bp:cY aq (n+3) #[c1,c2]:=ex ae (by first | exact nn (by decide) | exact n0 (by decide) | exact aR (by decide) | exact al l1 _ | exact al l2 _ | exact aI l1 | exact aI l2 | exact co hc (by decide) | exact aS hc | omega) (ex ad (by first | exact nn (by decide) | exact n0 (by decide) | exact aR (by decide) | exact al l1 _ | exact al l2 _ | exact aI l1 | exact aI l2 | exact co hc (by decide) | exact aS hc | omega) hTO)
  refine wpAny_bind (wpAny_seqItems bp rfl ?_)
  refine wpAny_bind (gX bp (by simp) λ ak be af=>?_)
  replace be:cY ak (n+3) #[x,c2]:=be
  refine wpAny_bind (wpAny_letGo (wpAny_pure ?_))
  refine wpAny_bind (wpAny_bind (wpAny_onRaise ?_))
  show wpAny _ _ (Builtin.SmallTypes.nextOf (.ref (n+1)) >>= _) _ _ _
  refine wpAny_bind (bI (((i2.ext ad (by first | exact nn (by decide) | exact n0 (by decide) | exact aR (by decide) | exact al l1 _ | exact al l2 _ | exact aI l1 | exact aI l2 | exact co hc (by decide) | exact aS hc | omega)).ext ae (by first | exact nn (by decide) | exact n0 (by decide) | exact aR (by decide) | exact al l1 _ | exact al l2 _ | exact aI l1 | exact aI l2 | exact co hc (by decide) | exact aS hc | omega)).ext af (by first | exact nn (by decide) | exact n0 (by decide) | exact aR (by decide) | exact al l1 _ | exact al l2 _ | exact aI l1 | exact aI l2 | exact co hc (by decide) | exact aS hc | omega)) (((s2.ext ad (by first | exact nn (by decide) | exact n0 (by decide) | exact aR (by decide) | exact al l1 _ | exact al l2 _ | exact aI l1 | exact aI l2 | exact co hc (by decide) | exact aS hc | omega)).ext ae (by first | exact nn (by decide) | exact n0 (by decide) | exact aR (by decide) | exact al l1 _ | exact al l2 _ | exact aI l1 | exact aI l2 | exact co hc (by decide) | exact aS hc | omega)).ext af (by first | exact nn (by decide) | exact n0 (by decide) | exact aR (by decide) | exact al l1 _ | exact al l2 _ | exact aI l1 | exact aI l2 | exact co hc (by decide) | exact aS hc | omega)) hy λ au cf ag=>wpAny_pure ?_)
  have bw:cY au (n+3) #[x,c2]:=ex ag (by first | exact nn (by decide) | exact n0 (by decide) | exact aR (by decide) | exact al l1 _ | exact al l2 _ | exact aI l1 | exact aI l2 | exact co hc (by decide) | exact aS hc | omega) be
  refine wpAny_bind (wpAny_seqItems bw rfl ?_)
  refine wpAny_bind (gX bw (by simp) λ ba bu bf=>?_)
  replace bu:cY ba (n+3) #[x,y]:=bu
  refine wpAny_bind (wpAny_letGo (wpAny_pure (wpAny_pure ?_)))
  refine wpAny_bind (wpAny_seqItems bu rfl ?_)
  refine wpAny_bind (wpAny_newTuple ?_)
  have hsz:ba.objs.size=s.heap.objs.size:=by rw[bf.1,ag.1,af.1,ae.1,ad.1]
  have keep:∀ (c:Nat) o,(c < n\/n+4 < c)->s.heap.get? c=some o->ba.get? c=some o:=λ c o hc e=>
   ex bf (by first | exact nn (by decide) | exact n0 (by decide) | exact aR (by decide) | exact al l1 _ | exact al l2 _ | exact aI l1 | exact aI l2 | exact co hc (by decide) | exact aS hc | omega) (ex ag (by first | exact nn (by decide) | exact n0 (by decide) | exact aR (by decide) | exact al l1 _ | exact al l2 _ | exact aI l1 | exact aI l2 | exact co hc (by decide) | exact aS hc | omega) (ex af (by first | exact nn (by decide) | exact n0 (by decide) | exact aR (by decide) | exact al l1 _ | exact al l2 _ | exact aI l1 | exact aI l2 | exact co hc (by decide) | exact aS hc | omega) (ex ae (by first | exact nn (by decide) | exact n0 (by decide) | exact aR (by decide) | exact al l1 _ | exact al l2 _ | exact aI l1 | exact aI l2 | exact co hc (by decide) | exact aS hc | omega) (ex ad (by first | exact nn (by decide) | exact n0 (by decide) | exact aR (by decide) | exact al l1 _ | exact al l2 _ | exact aI l1 | exact aI l2 | exact co hc (by decide) | exact aS hc | omega) e))))
  have df:lX ba (n+4) (n+2) (n+3) .ellipsis f1:=ex bf (by first | exact nn (by decide) | exact n0 (by decide) | exact aR (by decide) | exact al l1 _ | exact al l2 _ | exact aI l1 | exact aI l2 | exact co hc (by decide) | exact aS hc | omega) (ex ag (by first | exact nn (by decide) | exact n0 (by decide) | exact aR (by decide) | exact al l1 _ | exact al l2 _ | exact aI l1 | exact aI l2 | exact co hc (by decide) | exact aS hc | omega) (ex af (by first | exact nn (by decide) | exact n0 (by decide) | exact aR (by decide) | exact al l1 _ | exact al l2 _ | exact aI l1 | exact aI l2 | exact co hc (by decide) | exact aS hc | omega) (ex ae (by first | exact nn (by decide) | exact n0 (by decide) | exact aR (by decide) | exact al l1 _ | exact al l2 _ | exact aI l1 | exact aI l2 | exact co hc (by decide) | exact aS hc | omega) ao)))
  have cy:cY ba (n+2) #[.ref n,.ref (n+1)]:=ex bf (by first | exact nn (by decide) | exact n0 (by decide) | exact aR (by decide) | exact al l1 _ | exact al l2 _ | exact aI l1 | exact aI l2 | exact co hc (by decide) | exact aS hc | omega) (ex ag (by first | exact nn (by decide) | exact n0 (by decide) | exact aR (by decide) | exact al l1 _ | exact al l2 _ | exact aI l1 | exact aI l2 | exact co hc (by decide) | exact aS hc | omega) (ex af (by first | exact nn (by decide) | exact n0 (by decide) | exact aR (by decide) | exact al l1 _ | exact al l2 _ | exact aI l1 | exact aI l2 | exact co hc (by decide) | exact aS hc | omega) (ex ae (by first | exact nn (by decide) | exact n0 (by decide) | exact aR (by decide) | exact al l1 _ | exact al l2 _ | exact aI l1 | exact aI l2 | exact co hc (by decide) | exact aS hc | omega) (ex ad (by first | exact nn (by decide) | exact n0 (by decide) | exact aR (by decide) | exact al l1 _ | exact al l2 _ | exact aI l1 | exact aI l2 | exact co hc (by decide) | exact aS hc | omega) hTI))))
  have dh:=((bq.ext af (by first | exact nn (by decide) | exact n0 (by decide) | exact aR (by decide) | exact al l1 _ | exact al l2 _ | exact aI l1 | exact aI l2 | exact co hc (by decide) | exact aS hc | omega)).ext ag (by first | exact nn (by decide) | exact n0 (by decide) | exact aR (by decide) | exact al l1 _ | exact al l2 _ | exact aI l1 | exact aI l2 | exact co hc (by decide) | exact aS hc | omega)).ext bf (by first | exact nn (by decide) | exact n0 (by decide) | exact aR (by decide) | exact al l1 _ | exact al l2 _ | exact aI l1 | exact aI l2 | exact co hc (by decide) | exact aS hc | omega)
  have di:=cf.ext bf (by first | exact nn (by decide) | exact n0 (by decide) | exact aR (by decide) | exact al l1 _ | exact al l2 _ | exact aI l1 | exact aI l2 | exact co hc (by decide) | exact aS hc | omega)
  have fk:n+4 < ba.objs.size:=by rw[hsz];exact hzlt
  have up:∀ {c o},ba.get? c=some o->(ba.push { cls:=.type "tuple",data:=.seq #[x,y] }).get? c=some o:=λ e=>aab _ e
  refine wpAny_bind (BF (z:=n+4) (TI:=n+2) (TO:=n+3) (f0:=.ellipsis) (f1:=f1) (up df) λ cz dj cq=>?_)
  have up8:∀ {c:Nat}{o},c≠n+4->ba.get? c=some o->cz.get? c=some o:=λ hc e=>ex cq hc (up e)
  refine wpAny_pure ⟨_,rfl,hQ ba.objs.size cz (rawInt ba.objs.size) false x y (by rw[hsz];exact Nat.le_refl _) (.inr ⟨_,rfl⟩) dj (up8 (by first | exact nn (by decide) | exact n0 (by decide) | exact aR (by decide) | exact al l1 _ | exact al l2 _ | exact aI l1 | exact aI l2 | exact co hc (by decide) | exact aS hc | omega) cy) (up8 (by first | exact nn (by decide) | exact n0 (by decide) | exact aR (by decide) | exact al l1 _ | exact al l2 _ | exact aI l1 | exact aI l2 | exact co hc (by decide) | exact aS hc | omega) bu) (dh.at λ o e=>up8 (by first | exact nn (by decide) | exact n0 (by decide) | exact aR (by decide) | exact al l1 _ | exact al l2 _ | exact aI l1 | exact aI l2 | exact co hc (by decide) | exact aS hc | omega) e) (di.at λ o e=>up8 (by first | exact nn (by decide) | exact n0 (by decide) | exact aR (by decide) | exact al l1 _ | exact al l2 _ | exact aI l1 | exact aI l2 | exact co hc (by decide) | exact aS hc | omega) e)
   (ex cq (by first | exact nn (by decide) | exact n0 (by decide) | exact aR (by decide) | exact al l1 _ | exact al l2 _ | exact aI l1 | exact aI l2 | exact co hc (by decide) | exact aS hc | omega) (aag _ rfl)) λ c o hc e=>up8 (by first | exact nn (by decide) | exact n0 (by decide) | exact aR (by decide) | exact al l1 _ | exact al l2 _ | exact aI l1 | exact aI l2 | exact co hc (by decide) | exact aS hc | omega) (keep c o hc e)⟩
 ·intro h₁ ao ad
  simp only [Bool.false_eq_true,if_false]
  refine wpAny_bind ?_
  rw[<- Array.forIn_toList]
  simp only [List.forIn_cons,List.forIn_nil]
  refine wpAny_bind (wpAny_bind (wpAny_holding ?_))
  show wpAny _ _ (Builtin.SmallTypes.nextOf (.ref n) >>= _) _ _ _
  refine wpAny_bind (bI (i1.ext ad (by first | exact nn (by decide) | exact n0 (by decide) | exact aR (by decide) | exact al l1 _ | exact al l2 _ | exact aI l1 | exact aI l2 | exact co hc (by decide) | exact aS hc | omega)) (s1.ext ad (by first | exact nn (by decide) | exact n0 (by decide) | exact aR (by decide) | exact al l1 _ | exact al l2 _ | exact aI l1 | exact aI l2 | exact co hc (by decide) | exact aS hc | omega)) hx λ aq bq ae=>wpAny_pure (wpAny_pure ?_))
  refine wpAny_bind (wpAny_bind (wpAny_holding ?_))
  show wpAny _ _ (Builtin.SmallTypes.nextOf (.ref (n+1)) >>= _) _ _ _
  refine wpAny_bind (bI ((i2.ext ad (by first | exact nn (by decide) | exact n0 (by decide) | exact aR (by decide) | exact al l1 _ | exact al l2 _ | exact aI l1 | exact aI l2 | exact co hc (by decide) | exact aS hc | omega)).ext ae (by first | exact nn (by decide) | exact n0 (by decide) | exact aR (by decide) | exact al l1 _ | exact al l2 _ | exact aI l1 | exact aI l2 | exact co hc (by decide) | exact aS hc | omega)) ((s2.ext ad (by first | exact nn (by decide) | exact n0 (by decide) | exact aR (by decide) | exact al l1 _ | exact al l2 _ | exact aI l1 | exact aI l2 | exact co hc (by decide) | exact aS hc | omega)).ext ae (by first | exact nn (by decide) | exact n0 (by decide) | exact aR (by decide) | exact al l1 _ | exact al l2 _ | exact aI l1 | exact aI l2 | exact co hc (by decide) | exact aS hc | omega)) hy λ au cf ag=>wpAny_pure (wpAny_pure (wpAny_pure ?_)))
  refine wpAny_bind (wpAny_newTuple (hsz:=by show 2<=sizeLine;decide) (wpAny_pure ⟨_,rfl,?_⟩))
  have hsz:au.objs.size=s.heap.objs.size:=by rw[ag.1,ae.1,ad.1]
  have up:∀ {c o},au.get? c=some o->(au.push { cls:=.type "tuple",data:=.seq #[x,y] }).get? c=some o:=λ e=>aab _ e
  have keep:∀ (c:Nat) o,(c < n\/n+4 < c)->s.heap.get? c=some o->au.get? c=some o:=λ c o hc e=>ex ag (by first | exact nn (by decide) | exact n0 (by decide) | exact aR (by decide) | exact al l1 _ | exact al l2 _ | exact aI l1 | exact aI l2 | exact co hc (by decide) | exact aS hc | omega) (ex ae (by first | exact nn (by decide) | exact n0 (by decide) | exact aR (by decide) | exact al l1 _ | exact al l2 _ | exact aI l1 | exact aI l2 | exact co hc (by decide) | exact aS hc | omega) (ex ad (by first | exact nn (by decide) | exact n0 (by decide) | exact aR (by decide) | exact al l1 _ | exact al l2 _ | exact aI l1 | exact aI l2 | exact co hc (by decide) | exact aS hc | omega) e))
  refine hQ au.objs.size (au.push { cls:=.type "tuple",data:=.seq #[x,y] }) f0 true c1 c2 (by rw[hsz];exact Nat.le_refl _) hf (up (ex ag (by first | exact nn (by decide) | exact n0 (by decide) | exact aR (by decide) | exact al l1 _ | exact al l2 _ | exact aI l1 | exact aI l2 | exact co hc (by decide) | exact aS hc | omega) (ex ae (by first | exact nn (by decide) | exact n0 (by decide) | exact aR (by decide) | exact al l1 _ | exact al l2 _ | exact aI l1 | exact aI l2 | exact co hc (by decide) | exact aS hc | omega) ao)))
   (up (ex ag (by first | exact nn (by decide) | exact n0 (by decide) | exact aR (by decide) | exact al l1 _ | exact al l2 _ | exact aI l1 | exact aI l2 | exact co hc (by decide) | exact aS hc | omega) (ex ae (by first | exact nn (by decide) | exact n0 (by decide) | exact aR (by decide) | exact al l1 _ | exact al l2 _ | exact aI l1 | exact aI l2 | exact co hc (by decide) | exact aS hc | omega) (ex ad (by first | exact nn (by decide) | exact n0 (by decide) | exact aR (by decide) | exact al l1 _ | exact al l2 _ | exact aI l1 | exact aI l2 | exact co hc (by decide) | exact aS hc | omega) hTI)))) (up (ex ag (by first | exact nn (by decide) | exact n0 (by decide) | exact aR (by decide) | exact al l1 _ | exact al l2 _ | exact aI l1 | exact aI l2 | exact co hc (by decide) | exact aS hc | omega) (ex ae (by first | exact nn (by decide) | exact n0 (by decide) | exact aR (by decide) | exact al l1 _ | exact al l2 _ | exact aI l1 | exact aI l2 | exact co hc (by decide) | exact aS hc | omega) (ex ad (by first | exact nn (by decide) | exact n0 (by decide) | exact aR (by decide) | exact al l1 _ | exact al l2 _ | exact aI l1 | exact aI l2 | exact co hc (by decide) | exact aS hc | omega) hTO))))
   ((bq.ext ag (by first | exact nn (by decide) | exact n0 (by decide) | exact aR (by decide) | exact al l1 _ | exact al l2 _ | exact aI l1 | exact aI l2 | exact co hc (by decide) | exact aS hc | omega)).at λ o e=>up e) (cf.at λ o e=>up e) (aag _ rfl) λ c o hc e=>up (keep c o hc e)
theorem E4 {n a1 a2:Nat}{t1 t2:Bool}{k:Nat}{xs ys:Array Value}{c1 c2 f0:Value}{f1:Bool}{Q:Fin->Shared->Prop} (hh:A.handled=none) (hf:fW f0)
  (hz:lX s.heap (n+4) (n+2) (n+3) f0 f1) (hTI:cY s.heap (n+2) #[.ref n,.ref (n+1)]) (hTO:cY s.heap (n+3) #[c1,c2])
  (i1:d7 s.heap t1 n a1 k) (i2:d7 s.heap t2 (n+1) a2 k) (s1:bT s.heap t1 a1 xs) (s2:bT s.heap t2 a2 ys)
  (l1:a1 < n) (l2:a2 < n) (hend:xs[k]? = none\/ys[k]? = none)
  (hE:∀ h' e,(∀ (c:Nat) o,(c < n\/n+4 < c)->s.heap.get? c=some o->h'.get? c=some o)->(∃ o,h'.get? e=some o/\o.cls=.type "StopIteration")->E (.ref e) { s with heap:=h' }) :
  wpAny (model prog w) A (Builtin.«zip.__next__» ⟨[.ref (n+4)],[]⟩) Q E s:=by
 show wpAny _ _ (field (.ref (n+4)) 2 >>= _) _ _ _
 refine wpAny_bind (wpAny_field hz rfl (x:=.bool false) rfl ?_)
 show wpAny _ _ (field (.ref (n+4)) 3 >>= _) _ _ _
 refine wpAny_bind (wpAny_field hz rfl (x:=.ref (n+2)) rfl ?_)
 refine wpAny_bind (wpAny_seqItems hTI rfl ?_)
 show wpAny _ _ (Builtin.SmallTypes.ownedTupleIsFree (.ref (n+4)) >>= _) _ _ _
 refine wpAny_bind (j6 hz hf ?_ ?_)
 ·simp only [if_true]
  refine wpAny_bind (wpAny_rule ?_)
  refine wpAny_bind (wpAny_field hz rfl (x:=.ref (n+3)) rfl ?_)
  refine wpAny_bind (wpAny_setField_rec hz (by simp) λ h₁ ao ad=>?_)
  replace ao:lX h₁ (n+4) (n+2) (n+3) .ellipsis f1:=ao
  refine wpAny_bind ?_
  simp only [List.zipIdx_cons,List.zipIdx_nil,List.forIn_cons,List.forIn_nil]
  have fin:∀ {aq ak:Heap}{e j:Nat}{oe:Obj},lX aq (n+4) (n+2) (n+3) .ellipsis f1->Heap.ExtBut j aq ak->@Ne Nat (n+4) j->(n<=j/\j<=n+4)->(∀ (c:Nat) o,(c < n\/n+4 < c)->s.heap.get? c=some o->aq.get? c=some o)->ak.get? e=some oe->oe.cls=.type "StopIteration" ->
    wpAny (model prog w) A (setField (.ref (n+4)) 0 .none) (λ _ s'=>E (.ref e) s') E { s with heap:=ak }:=λ {aq ak e j oe} bz hx hj hr hk hoe hce=>by
   have bv:lX ak (n+4) (n+2) (n+3) .ellipsis f1:=hx _ _ hj bz
   have hez:e≠n+4:=λ q=>by subst q;rw[bv] at hoe;cases hoe;simp at hce
   refine wpAny_setField_rec bv (by simp) λ au _ ag=>hE au e (λ c o hc q=>ex ag (by first | exact nn (by decide) | exact n0 (by decide) | exact aR (by decide) | exact al l1 _ | exact al l2 _ | exact aI l1 | exact aI l2 | exact co hc (by decide) | exact aS hc | omega) (hx c o (show @Ne Nat c j by omega) (hk c o hc q))) ⟨oe,ag.extBut _ _ hez hoe,hce⟩
  refine wpAny_bind (wpAny_bind (wpAny_onRaise ?_))
  show wpAny _ _ (Builtin.SmallTypes.nextOf (.ref n) >>= _) _ _ _
  cases hx:xs[k]? with
  | none=>
   refine wpAny_bind (cS hh (i1.ext ad (by first | exact nn (by decide) | exact n0 (by decide) | exact aR (by decide) | exact al l1 _ | exact al l2 _ | exact aI l1 | exact aI l2 | exact co hc (by decide) | exact aS hc | omega)) (s1.ext ad (by first | exact nn (by decide) | exact n0 (by decide) | exact aR (by decide) | exact al l1 _ | exact al l2 _ | exact aI l1 | exact aI l2 | exact co hc (by decide) | exact aS hc | omega)) hx λ aq e ae he=>?_)
   obtain⟨oe,hoe,hce⟩:=he
   exact fin ao ae (by first | exact nn (by decide) | exact n0 (by decide) | exact aR (by decide) | exact al l1 _ | exact al l2 _ | exact aI l1 | exact aI l2 | exact co hc (by decide) | exact aS hc | omega) (by first | exact nn (by decide) | exact n0 (by decide) | exact aR (by decide) | exact al l1 _ | exact al l2 _ | exact aI l1 | exact aI l2 | exact co hc (by decide) | exact aS hc | omega) (λ c o hc q=>ex ad (by first | exact nn (by decide) | exact n0 (by decide) | exact aR (by decide) | exact al l1 _ | exact al l2 _ | exact aI l1 | exact aI l2 | exact co hc (by decide) | exact aS hc | omega) q) hoe hce
  | some x=>
   have hy:ys[k]? = none:=by rcases hend with h | h;rw[hx] at h;cases h;exact h
   refine wpAny_bind (bI (i1.ext ad (by first | exact nn (by decide) | exact n0 (by decide) | exact aR (by decide) | exact al l1 _ | exact al l2 _ | exact aI l1 | exact aI l2 | exact co hc (by decide) | exact aS hc | omega)) (s1.ext ad (by first | exact nn (by decide) | exact n0 (by decide) | exact aR (by decide) | exact al l1 _ | exact al l2 _ | exact aI l1 | exact aI l2 | exact co hc (by decide) | exact aS hc | omega)) hx λ aq bq ae=>wpAny_pure ?_)
   have bp:cY aq (n+3) #[c1,c2]:=ex ae (by first | exact nn (by decide) | exact n0 (by decide) | exact aR (by decide) | exact al l1 _ | exact al l2 _ | exact aI l1 | exact aI l2 | exact co hc (by decide) | exact aS hc | omega) (ex ad (by first | exact nn (by decide) | exact n0 (by decide) | exact aR (by decide) | exact al l1 _ | exact al l2 _ | exact aI l1 | exact aI l2 | exact co hc (by decide) | exact aS hc | omega) hTO)
   refine wpAny_bind (wpAny_seqItems bp rfl ?_)
   refine wpAny_bind (gX bp (by simp) λ ak be af=>?_)
   refine wpAny_bind (wpAny_letGo (wpAny_pure ?_))
   have bv:lX ak (n+4) (n+2) (n+3) .ellipsis f1:=ex af (by first | exact nn (by decide) | exact n0 (by decide) | exact aR (by decide) | exact al l1 _ | exact al l2 _ | exact aI l1 | exact aI l2 | exact co hc (by decide) | exact aS hc | omega) (ex ae (by first | exact nn (by decide) | exact n0 (by decide) | exact aR (by decide) | exact al l1 _ | exact al l2 _ | exact aI l1 | exact aI l2 | exact co hc (by decide) | exact aS hc | omega) ao)
   have dk:∀ (c:Nat) o,(c < n\/n+4 < c)->s.heap.get? c=some o->ak.get? c=some o:=λ c o hc e=>ex af (by first | exact nn (by decide) | exact n0 (by decide) | exact aR (by decide) | exact al l1 _ | exact al l2 _ | exact aI l1 | exact aI l2 | exact co hc (by decide) | exact aS hc | omega) (ex ae (by first | exact nn (by decide) | exact n0 (by decide) | exact aR (by decide) | exact al l1 _ | exact al l2 _ | exact aI l1 | exact aI l2 | exact co hc (by decide) | exact aS hc | omega) (ex ad (by first | exact nn (by decide) | exact n0 (by decide) | exact aR (by decide) | exact al l1 _ | exact al l2 _ | exact aI l1 | exact aI l2 | exact co hc (by decide) | exact aS hc | omega) e))
   refine wpAny_bind (wpAny_bind (wpAny_onRaise ?_))
   show wpAny _ _ (Builtin.SmallTypes.nextOf (.ref (n+1)) >>= _) _ _ _
   refine wpAny_bind (cS hh (((i2.ext ad (by first | exact nn (by decide) | exact n0 (by decide) | exact aR (by decide) | exact al l1 _ | exact al l2 _ | exact aI l1 | exact aI l2 | exact co hc (by decide) | exact aS hc | omega)).ext ae (by first | exact nn (by decide) | exact n0 (by decide) | exact aR (by decide) | exact al l1 _ | exact al l2 _ | exact aI l1 | exact aI l2 | exact co hc (by decide) | exact aS hc | omega)).ext af (by first | exact nn (by decide) | exact n0 (by decide) | exact aR (by decide) | exact al l1 _ | exact al l2 _ | exact aI l1 | exact aI l2 | exact co hc (by decide) | exact aS hc | omega)) (((s2.ext ad (by first | exact nn (by decide) | exact n0 (by decide) | exact aR (by decide) | exact al l1 _ | exact al l2 _ | exact aI l1 | exact aI l2 | exact co hc (by decide) | exact aS hc | omega)).ext ae (by first | exact nn (by decide) | exact n0 (by decide) | exact aR (by decide) | exact al l1 _ | exact al l2 _ | exact aI l1 | exact aI l2 | exact co hc (by decide) | exact aS hc | omega)).ext af (by first | exact nn (by decide) | exact n0 (by decide) | exact aR (by decide) | exact al l1 _ | exact al l2 _ | exact aI l1 | exact aI l2 | exact co hc (by decide) | exact aS hc | omega)) hy λ au e ag he=>?_)
   obtain⟨oe,hoe,hce⟩:=he
   exact fin bv ag (by first | exact nn (by decide) | exact n0 (by decide) | exact aR (by decide) | exact al l1 _ | exact al l2 _ | exact aI l1 | exact aI l2 | exact co hc (by decide) | exact aS hc | omega) (by first | exact nn (by decide) | exact n0 (by decide) | exact aR (by decide) | exact al l1 _ | exact al l2 _ | exact aI l1 | exact aI l2 | exact co hc (by decide) | exact aS hc | omega) dk hoe hce
 ·intro h₁ ao ad
  simp only [Bool.false_eq_true,if_false]
  refine wpAny_bind ?_
  rw[<- Array.forIn_toList]
  simp only [List.forIn_cons,List.forIn_nil]
  refine wpAny_bind (wpAny_bind (wpAny_holding ?_))
  show wpAny _ _ (Builtin.SmallTypes.nextOf (.ref n) >>= _) _ _ _
  cases hx:xs[k]? with
  | none=>
   refine wpAny_bind (cS hh (i1.ext ad (by first | exact nn (by decide) | exact n0 (by decide) | exact aR (by decide) | exact al l1 _ | exact al l2 _ | exact aI l1 | exact aI l2 | exact co hc (by decide) | exact aS hc | omega)) (s1.ext ad (by first | exact nn (by decide) | exact n0 (by decide) | exact aR (by decide) | exact al l1 _ | exact al l2 _ | exact aI l1 | exact aI l2 | exact co hc (by decide) | exact aS hc | omega)) hx λ aq e ae he=>?_)
   exact hE aq e (λ c o hc q=>ae c o (show @Ne Nat c n by omega) (ex ad (by first | exact nn (by decide) | exact n0 (by decide) | exact aR (by decide) | exact al l1 _ | exact al l2 _ | exact aI l1 | exact aI l2 | exact co hc (by decide) | exact aS hc | omega) q)) he
  | some x=>
   have hy:ys[k]? = none:=by rcases hend with h | h;rw[hx] at h;cases h;exact h
   refine wpAny_bind (bI (i1.ext ad (by first | exact nn (by decide) | exact n0 (by decide) | exact aR (by decide) | exact al l1 _ | exact al l2 _ | exact aI l1 | exact aI l2 | exact co hc (by decide) | exact aS hc | omega)) (s1.ext ad (by first | exact nn (by decide) | exact n0 (by decide) | exact aR (by decide) | exact al l1 _ | exact al l2 _ | exact aI l1 | exact aI l2 | exact co hc (by decide) | exact aS hc | omega)) hx λ aq bq ae=>wpAny_pure (wpAny_pure ?_))
   refine wpAny_bind (wpAny_bind (wpAny_holding ?_))
   show wpAny _ _ (Builtin.SmallTypes.nextOf (.ref (n+1)) >>= _) _ _ _
   refine wpAny_bind (cS hh ((i2.ext ad (by first | exact nn (by decide) | exact n0 (by decide) | exact aR (by decide) | exact al l1 _ | exact al l2 _ | exact aI l1 | exact aI l2 | exact co hc (by decide) | exact aS hc | omega)).ext ae (by first | exact nn (by decide) | exact n0 (by decide) | exact aR (by decide) | exact al l1 _ | exact al l2 _ | exact aI l1 | exact aI l2 | exact co hc (by decide) | exact aS hc | omega)) ((s2.ext ad (by first | exact nn (by decide) | exact n0 (by decide) | exact aR (by decide) | exact al l1 _ | exact al l2 _ | exact aI l1 | exact aI l2 | exact co hc (by decide) | exact aS hc | omega)).ext ae (by first | exact nn (by decide) | exact n0 (by decide) | exact aR (by decide) | exact al l1 _ | exact al l2 _ | exact aI l1 | exact aI l2 | exact co hc (by decide) | exact aS hc | omega)) hy λ ak e af he=>?_)
   exact hE ak e (λ c o hc q=>af c o (show @Ne Nat c (n+1) by omega) (ex ae (by first | exact nn (by decide) | exact n0 (by decide) | exact aR (by decide) | exact al l1 _ | exact al l2 _ | exact aI l1 | exact aI l2 | exact co hc (by decide) | exact aS hc | omega) (ex ad (by first | exact nn (by decide) | exact n0 (by decide) | exact aR (by decide) | exact al l1 _ | exact al l2 _ | exact aI l1 | exact aI l2 | exact co hc (by decide) | exact aS hc | omega) q))) he
theorem iZ {z TI TO:Addr}{f0:Value}{f1:Bool}{Q:Option Value->Shared->Prop} (hz:lX s.heap z TI TO f0 f1)
  (h:wpAny (model prog w) A.in1 (Builtin.«zip.__next__» ⟨[.ref z],[]⟩) (λ fin s'=>∃ v,fin=.done (.ret v)/\Q (some v) s') (λ e s'=>(∃ a o,e=.ref a/\s'.heap.get? a=some o/\o.cls=.type "StopIteration")/\Q none s') s) :
  wpAny (model prog w) A (pyNext (.ref z)) Q E s:=by
 have hT:s.TypeIs (.ref z) "zip" := ⟨_,hz,rfl⟩
 unfold pyNext
 refine wpAny_bind (wpAny_attempt (wpAny_callSpecial?_slot (name:=Str.ofString "__next__") hT F.slot_zip_next
  (wpAny_call_entry F.slot_zip_next hT F.entry_zip_next (wpAny_mono h (λ fin s' h'=>?_) λ e s' h'=>?_) (F.args_zip_next_1 _))))
 ·obtain⟨v,rfl,q⟩:=h'
  exact⟨v,rfl,wpAny_pure q⟩
 ·obtain⟨⟨a,o,rfl,ho,hc⟩,q⟩:=h'
  exact wpAny_bind (wpAny_isInstance (T := "StopIteration") (b:=true) ⟨o,ho,hc⟩ isSubtype_stop (wpAny_pure q))
theorem tH {tg:Expr}{z TI TO T:Addr}{f0:Value}{f1:Bool}{Q:Unit->Shared->Prop} (hf:fW f0) (hz:lX s.heap z TI TO f0 f1)
  (hQ:∀ h' f0',fW f0'->lX h' z TI TO f0' f1->Heap.SameBut z s.heap h'->Q () { s with heap:=h' }):wpAny (model prog w) A (letOwnedTupleGo tg (.ref z) (.ref T)) Q E s:=by
 have same:Q () s:=hQ s.heap f0 hf hz (Heap.SameBut.refl ..)
 have core:wpAny (model prog w) A (do
   let o <- load z
   match o.cls,o.data with
   | .type n,.fields vs=>
    if ["enumerate","zip","dict_itemiterator","dict_reverseitemiterator","odict_iterator","itertools.zip_longest","itertools.pairwise"].contains n && vs[0]? == some (rawInt T) then
     rule "for.unpacks-the-owned-tuple"
     updateField z 0 .none
   | _,_=>pure ()) Q E s:=by
  refine wpAny_bind (wpAny_load hz ?_)
  show wpAny _ _ (if (["enumerate","zip","dict_itemiterator","dict_reverseitemiterator","odict_iterator","itertools.zip_longest","itertools.pairwise"].contains "zip" &&
   (#[f0,.bool f1,.bool false,.ref TI,.ref TO]:Array Value)[0]? == some (rawInt T))=true then _ else _) Q E s
  split
  ·refine wpAny_bind (wpAny_rule ?_)
   show wpAny _ _ (setField (.ref z) 0 .none) Q E s
   exact wpAny_setField_rec hz (by simp) λ h' hz' hs'=>hQ h' .none (.inl rfl) hz' hs'
  ·exact wpAny_pure same
 unfold letOwnedTupleGo
 cases tg <;> first
  | exact wpAny_pure same
  | exact core
theorem j4 {z TI TO:Addr}{f0:Value}{f1:Bool}{Q:Value->Shared->Prop} (hz:lX s.heap z TI TO f0 f1) (h:Q (.ref z) s):wpAny (model prog w) A (pyIter (.ref z)) Q E s:=by
 have hT:s.TypeIs (.ref z) "zip" := ⟨_,hz,rfl⟩
 refine wpAny_pyIter_slot hT F.slot_zip_iter (wpAny_call_entry F.slot_zip_iter hT F.entry_zip_iter ?_ (F.args_zip_iter_1 _))
 show wpAny _ _ (ret (.ref z)) _ _ s
 exact wpAny_pure ⟨_,rfl,"zip",_,hT,F.slot_zip_next.lookup,h⟩
noncomputable def rJ (t:Bool) (a:Addr):Obj:={ cls:=.type (if t=true then "tuple_iterator" else "list_iterator"),data:=.fields #[.ref a,.int 0 0] }
theorem eD {t:Bool}{a:Addr}{items:Array Value}{Q:Value->Shared->Prop} (hs:bT s.heap t a items) (hQ:Q (.ref s.heap.objs.size) { s with heap:=s.heap.push (rJ t a) }) :
  wpAny (model prog w) A (pyIter (.ref a)) Q E s:=by
 cases t with
 | true=>exact wpAny_pyIter_tuple hs hQ
 | false=>exact wpAny_pyIter_list hs hQ
theorem iO {h:Heap}{t:Bool}{a it:Addr} (e:h.get? it=some (rJ t a)):d7 h t it a 0:=by
 cases t <;> exact⟨_,e,rfl,rfl⟩
noncomputable abbrev zA (h:Heap) (t:Bool) (a:Addr):Heap:=h.push (rJ t a)
noncomputable abbrev HS (h:Heap) (vs:List Value):Heap:=h.push { cls:=.type "tuple",data:=.seq vs.toArray }
noncomputable abbrev z2B (h:Heap) (t1 t2:Bool) (l1 l2:Addr):Heap:=HS (zA (zA h t1 l1) t2 l2) [.ref h.objs.size,.ref (zA h t1 l1).objs.size]
noncomputable abbrev z2H (h:Heap) (t1 t2:Bool) (l1 l2:Addr):Heap:=HS (z2B h t1 t2 l1 l2) [.none,.none]
noncomputable abbrev M3 (h:Heap) (t1 t2:Bool) (l1 l2:Addr):Heap:=(z2H h t1 t2 l1 l2).push { cls:=.type "zip",data:=.fields #[.none,.bool false,.bool false,.ref (zA (zA h t1 l1) t2 l2).objs.size,.ref (z2B h t1 t2 l1 l2).objs.size] }
noncomputable abbrev z3B (h:Heap) (t1 t2 t3:Bool) (l1 l2 l3:Addr):Heap:=HS (zA (zA (zA h t1 l1) t2 l2) t3 l3) [.ref h.objs.size,.ref (zA h t1 l1).objs.size,.ref (zA (zA h t1 l1) t2 l2).objs.size]
noncomputable abbrev z3H (h:Heap) (t1 t2 t3:Bool) (l1 l2 l3:Addr):Heap:=HS (z3B h t1 t2 t3 l1 l2 l3) [.none,.none,.none]
noncomputable abbrev KH (h:Heap) (t1 t2 t3:Bool) (l1 l2 l3:Addr):Heap:=(z3H h t1 t2 t3 l1 l2 l3).push { cls:=.type "zip",data:=.fields #[.none,.bool false,.bool false,.ref (zA (zA (zA h t1 l1) t2 l2) t3 l3).objs.size,.ref (z3B h t1 t2 t3 l1 l2 l3).objs.size] }
theorem zN (t1 t2:Bool) (l1 l2:Addr) (xs ys:Array Value) :
  Meets (Builtin.«zip.__new__» ⟨[.type "zip",.ref l1,.ref l2],[]⟩) (λ _ R s=>bT s.heap t1 l1 xs/\bT s.heap t2 l2 ys/\
   R (.ok (.ret (.ref (z2H s.heap t1 t2 l1 l2).objs.size))) { s with heap:=M3 s.heap t1 t2 l1 l2 }):=
 .of_wp λ prog w A R s h=>by
  obtain⟨hp,g,d,tk,os⟩:=s;obtain⟨hl1,hl2,h⟩:=h
  have hsub:=sub_zip
  have hL1:bT (Shared.heap ⟨hp,g,d,tk,os⟩) t1 l1 xs:=hl1
  have hL2:bT (Shared.heap ⟨hp.push (rJ t1 l1),g,d,tk,os⟩) t2 l2 ys:=hl2.at λ o e=>aab _ e
  wp_walk using eD hL1,eD hL2
  exact⟨_,rfl,h⟩
theorem zM (t1 t2 t3:Bool) (l1 l2 l3:Addr) (xs ys zs:Array Value) :
  Meets (Builtin.«zip.__new__» ⟨[.type "zip",.ref l1,.ref l2,.ref l3],[]⟩) (λ _ R s=>bT s.heap t1 l1 xs/\bT s.heap t2 l2 ys/\bT s.heap t3 l3 zs/\
   R (.ok (.ret (.ref (z3H s.heap t1 t2 t3 l1 l2 l3).objs.size))) { s with heap:=KH s.heap t1 t2 t3 l1 l2 l3 }):=
 .of_wp λ prog w A R s h=>by
  obtain⟨hp,g,d,tk,os⟩:=s;obtain⟨hl1,hl2,hl3,h⟩:=h
  have hsub:=sub_zip
  have hL1:bT (Shared.heap ⟨hp,g,d,tk,os⟩) t1 l1 xs:=hl1
  have hL2:bT (Shared.heap ⟨hp.push (rJ t1 l1),g,d,tk,os⟩) t2 l2 ys:=hl2.at λ o e=>aab _ e
  have hL3:bT (Shared.heap ⟨(hp.push (rJ t1 l1)).push (rJ t2 l2),g,d,tk,os⟩) t3 l3 zs:=hl3.at λ o e=>aab _ (aab _ e)
  wp_walk using eD hL1,eD hL2,eD hL3
  exact⟨_,rfl,h⟩
theorem pR (a b c:Value):checkTypeCall "zip" ⟨[a,b,c],[]⟩=pure ():=by kernel_rfl
theorem sM (a b c:Value):checkBuiltinCall "zip.__new__" ⟨[.type "zip",a,b,c],[]⟩=pure ():=by kernel_rfl
theorem lU (a b c d:Value):argsOk "object.__init__" ⟨[a,b,c,d],[]⟩:=by
 unfold argsOk;rw[signature?_of (id := "object.__init__") (n:=['_','_','t','i','n','i','_','_']) (o:=['t','c','e','j','b','o']) (by kernel_rfl) F.owner_object];kernel_rfl
theorem DS {t1 t2:Bool}{l1 l2:Addr}{xs ys:Array Value}{Q:Value->Shared->Prop} (hl1:bT s.heap t1 l1 xs) (hl2:bT s.heap t2 l2 ys)
  (h:∀ h',lX h' (s.heap.objs.size+4) (s.heap.objs.size+2) (s.heap.objs.size+3) .none false->cY h' (s.heap.objs.size+2) #[.ref s.heap.objs.size,.ref (s.heap.objs.size+1)]->
   cY h' (s.heap.objs.size+3) #[.none,.none]->d7 h' t1 s.heap.objs.size l1 0->d7 h' t2 (s.heap.objs.size+1) l2 0->
   (∀ c o,s.heap.get? c=some o->h'.get? c=some o)->Q (.ref (s.heap.objs.size+4)) { s with heap:=h' }):wpAny (model prog w) A (call (.type "zip") [.ref l1,.ref l2]) Q E s:=by
 refine callType_new F.called_zip (by decide) (F.typeCall_zip_2 _ _) (F.newCall_zip_2 _ _) (λ obj=>F.args_object_init_3 obj _ _) F.entry_zip_new (zN t1 t2 l1 l2 xs ys) ⟨hl1,hl2,?_⟩
 generalize s.heap=h0 at *
 have z1:(zA h0 t1 l1).objs.size=h0.objs.size+1:=abo ..
 have z2:(zA (zA h0 t1 l1) t2 l2).objs.size=h0.objs.size+2:=by rw[abo,z1]
 have z3:(z2B h0 t1 t2 l1 l2).objs.size=h0.objs.size+3:=by rw[abo,z2]
 have z4:(z2H h0 t1 t2 l1 l2).objs.size=h0.objs.size+4:=by rw[abo,z3]
 have g5:(M3 h0 t1 t2 l1 l2).get? (z2H h0 t1 t2 l1 l2).objs.size=some _:=aag _ rfl
 have g4:(M3 h0 t1 t2 l1 l2).get? (z2B h0 t1 t2 l1 l2).objs.size=some _:=aab _ (aag _ rfl)
 have g3:(M3 h0 t1 t2 l1 l2).get? (zA (zA h0 t1 l1) t2 l2).objs.size=some _:=aab _ (aab _ (aag _ rfl))
 have g2:(M3 h0 t1 t2 l1 l2).get? (zA h0 t1 l1).objs.size=some _:=aab _ (aab _ (aab _ (aag _ rfl)))
 have g1:(M3 h0 t1 t2 l1 l2).get? h0.objs.size=some _:=aab _ (aab _ (aab _ (aab _ (aag _ rfl))))
 show _/\_
 rw[z2,z3,z4] at g5
 rw[z1,z2] at g3
 rw[z3] at g4
 rw[z1] at g2
 rw[z4]
 exact⟨⟨_,g5,rfl⟩,h _ g5 g3 g4 (iO g1) (iO g2) λ c o x=>aab _ (aab _ (aab _ (aab _ (aab _ x))))⟩
theorem DR {t1 t2 t3:Bool}{l1 l2 l3:Addr}{xs ys zs:Array Value}{Q:Value->Shared->Prop} (hl1:bT s.heap t1 l1 xs) (hl2:bT s.heap t2 l2 ys) (hl3:bT s.heap t3 l3 zs)
  (h:∀ h',lX h' (s.heap.objs.size+5) (s.heap.objs.size+3) (s.heap.objs.size+4) .none false->cY h' (s.heap.objs.size+3) #[.ref s.heap.objs.size,.ref (s.heap.objs.size+1),.ref (s.heap.objs.size+2)]->
   cY h' (s.heap.objs.size+4) #[.none,.none,.none]->d7 h' t1 s.heap.objs.size l1 0->d7 h' t2 (s.heap.objs.size+1) l2 0->d7 h' t3 (s.heap.objs.size+2) l3 0->
   (∀ c o,s.heap.get? c=some o->h'.get? c=some o)->Q (.ref (s.heap.objs.size+5)) { s with heap:=h' }):wpAny (model prog w) A (call (.type "zip") [.ref l1,.ref l2,.ref l3]) Q E s:=by
 refine callType_new F.called_zip (by decide) (pR _ _ _) (sM _ _ _) (λ obj=>lU obj _ _ _) F.entry_zip_new (zM t1 t2 t3 l1 l2 l3 xs ys zs) ⟨hl1,hl2,hl3,?_⟩
 generalize s.heap=h0 at *
 have z1:(zA h0 t1 l1).objs.size=h0.objs.size+1:=abo ..
 have z2:(zA (zA h0 t1 l1) t2 l2).objs.size=h0.objs.size+2:=by rw[abo,z1]
 have z2':(zA (zA (zA h0 t1 l1) t2 l2) t3 l3).objs.size=h0.objs.size+3:=by rw[abo,z2]
 have z3:(z3B h0 t1 t2 t3 l1 l2 l3).objs.size=h0.objs.size+4:=by rw[abo,z2']
 have z4:(z3H h0 t1 t2 t3 l1 l2 l3).objs.size=h0.objs.size+5:=by rw[abo,z3]
 have g5:(KH h0 t1 t2 t3 l1 l2 l3).get? (z3H h0 t1 t2 t3 l1 l2 l3).objs.size=some _:=aag _ rfl
 have g4:(KH h0 t1 t2 t3 l1 l2 l3).get? (z3B h0 t1 t2 t3 l1 l2 l3).objs.size=some _:=aab _ (aag _ rfl)
 have g3:(KH h0 t1 t2 t3 l1 l2 l3).get? (zA (zA (zA h0 t1 l1) t2 l2) t3 l3).objs.size=some _:=aab _ (aab _ (aag _ rfl))
 have g2':(KH h0 t1 t2 t3 l1 l2 l3).get? (zA (zA h0 t1 l1) t2 l2).objs.size=some _:=aab _ (aab _ (aab _ (aag _ rfl)))
 have g2:(KH h0 t1 t2 t3 l1 l2 l3).get? (zA h0 t1 l1).objs.size=some _:=aab _ (aab _ (aab _ (aab _ (aag _ rfl))))
 have g1:(KH h0 t1 t2 t3 l1 l2 l3).get? h0.objs.size=some _:=aab _ (aab _ (aab _ (aab _ (aab _ (aag _ rfl)))))
 show _/\_
 rw[z2',z3,z4] at g5
 rw[z1,z2,z2'] at g3
 rw[z3] at g4
 rw[z2] at g2'
 rw[z1] at g2
 rw[z4]
 exact⟨⟨_,g5,rfl⟩,h _ g5 g3 g4 (iO g1) (iO g2) (iO g2') λ c o x=>aab _ (aab _ (aab _ (aab _ (aab _ (aab _ x)))))⟩
end
end TwZ
namespace TwZ
open PySem
open Sem (wp)
open AutoSeq1 (wpAny_loadPart')
section
variable {prog:Program}{w:World}{M:Model}{A:Around}{E:Value->Shared->Prop}{s:Shared}
noncomputable abbrev i4 (h:Heap) (e it:Addr) (f0:Value) (f1:Bool) (i:Int) (old:Value):Prop:=
 h.get? e=some { cls:=.type "enumerate",dict:=none,data:=.fields #[f0,.bool f1,.ref it,rawInt i,.none,old],slots:=#[] }
theorem wY {e it:Addr}{f0:Value}{f1:Bool}{i:Int}{old:Value}{Q:Bool->Shared->Prop} (hz:i4 s.heap e it f0 f1 i old) (hf:fW f0) (yes:Q true s)
  (no:∀ h',i4 h' e it f0 true i old->Heap.SameBut e s.heap h'->Q false { s with heap:=h' }):wpAny (model prog w) A (Builtin.SmallTypes.ownedTupleIsFree (.ref e)) Q E s:=by
 unfold Builtin.SmallTypes.ownedTupleIsFree
 refine wpAny_bind (wpAny_field hz rfl (x:=f0) rfl ?_)
 rcases hf with rfl | ⟨a,rfl⟩
 ·exact wpAny_pure yes
 ·refine wpAny_bind (oF ?_)
  cases h:s.heap.get? a.toNat with
  | none=>exact wpAny_pure yes
  | some o=>
   show wpAny _ _ (field (.ref e) 1 >>= _) _ _ _
   refine wpAny_bind (wpAny_field hz rfl (x:=.bool f1) rfl ?_)
   cases f1 with
   | true=>exact wpAny_pure (no s.heap hz (Heap.SameBut.refl ..))
   | false=>
    show wpAny _ _ (setField (.ref e) 1 (.bool true) >>= _) _ _ _
    refine wpAny_bind (wpAny_setField_rec hz (by simp) λ h₁ ao ad=>wpAny_pure (no h₁ ao ad))
theorem GM {e it:Addr}{f0:Value}{f1:Bool}{i:Int}{old:Value}{T:Addr}{Q:Unit->Shared->Prop} (hz:i4 s.heap e it f0 f1 i old)
  (h:∀ h',i4 h' e it (rawInt T) false i old->Heap.SameBut e s.heap h'->Q () { s with heap:=h' }):wpAny (model prog w) A (Builtin.SmallTypes.ownedTupleHandOut (.ref e) (.ref T)) Q E s:=by
 unfold Builtin.SmallTypes.ownedTupleHandOut
 refine wpAny_bind (wpAny_setField_rec hz (by simp) λ h₁ ao ad=>?_)
 replace ao:i4 h₁ e it (rawInt T) f1 i old:=ao
 refine wpAny_setField_rec ao (by simp) λ aq bz ae=>?_
 exact h aq bz (Heap.SameBut.trans ad ae)
theorem DL {n a:Nat}{t:Bool}{k:Nat}{xs:Array Value}{x old f0:Value}{f1:Bool}{Q:Value->Shared->Prop} (hf:fW f0)
  (he:i4 s.heap (n+1) n f0 f1 k old) (i1:d7 s.heap t n a k) (s1:bT s.heap t a xs) (l1:a < n) (hx:xs[k]? = some x)
  (hQ:∀ (T:Nat) h' f0' f1' old',s.heap.objs.size<=T->fW f0'->i4 h' (n+1) n f0' f1' ((k:Int)+1) old'->d7 h' t n a (k+1)->cY h' T #[.int k s.toks,x]->
   (∀ (c:Nat) o,(c < n\/n+1 < c)->s.heap.get? c=some o->h'.get? c=some o)->Q (.ref T) { s with heap:=h',toks:=s.toks+1 }) :
  wpAny (model prog w) A (Builtin.«enumerate.__next__» ⟨[.ref (n+1)],[]⟩) (λ fin s'=>∃ v,fin=.done (.ret v)/\Q v s') E s:=by
 obtain⟨hp,g,d,tk,os⟩:=s
 have helt:n+1 < hp.objs.size:=aan he
 show wpAny _ _ (field (.ref (n+1)) 2 >>= _) _ _ _
 refine wpAny_bind (wpAny_field he rfl (x:=.ref n) rfl ?_)
 refine wpAny_bind (bI i1 s1 hx λ h₁ i1₁ ad=>?_)
 replace ad:Heap.SameBut n hp h₁:=ad
 have dn:i4 h₁ (n+1) n f0 f1 k old:=ex ad (by omega) he
 show wpAny _ _ (field (.ref (n+1)) 3 >>= _) _ _ ⟨h₁,g,d,tk,os⟩
 refine wpAny_bind (wpAny_field dn rfl (x:=rawInt k) rfl ?_)
 show wpAny _ _ (field (.ref (n+1)) 4 >>= _) _ _ ⟨h₁,g,d,tk,os⟩
 refine wpAny_bind (wpAny_field dn rfl (x:=.none) rfl ?_)
 show wpAny _ _ (mkInt k >>= _) _ _ ⟨h₁,g,d,tk,os⟩
 refine wpAny_bind (wpAny_mkInt ?_)
 show wpAny _ _ (setField (.ref (n+1)) 3 (rawInt ((k:Int)+1)) >>= _) _ _ ⟨h₁,g,d,tk+1,os⟩
 refine wpAny_bind (wpAny_setField_rec dn (by simp) λ aq dq ae=>?_)
 replace ae:Heap.SameBut (n+1) h₁ aq:=ae
 replace dq:i4 aq (n+1) n f0 f1 ((k:Int)+1) old:=dq
 show wpAny _ _ (setField (.ref (n+1)) 4 .none >>= _) _ _ ⟨aq,g,d,tk+1,os⟩
 refine wpAny_bind (wpAny_setField_rec dq (by simp) λ ak dt af=>?_)
 replace af:Heap.SameBut (n+1) aq ak:=af
 replace dt:i4 ak (n+1) n f0 f1 ((k:Int)+1) old:=dt
 show wpAny _ _ (newTuple [.int k tk,x] >>= _) _ _ ⟨ak,g,d,tk+1,os⟩
 refine wpAny_bind (wpAny_newTuple ?_)
 have cv:i4 (ak.push { cls:=.type "tuple",data:=.seq #[.int k tk,x] }) (n+1) n f0 f1 ((k:Int)+1) old:=aab _ dt
 have hsz:ak.objs.size=hp.objs.size:=by rw[af.1,ae.1,ad.1]
 have du:cY (ak.push { cls:=.type "tuple",data:=.seq #[.int k tk,x] }) ak.objs.size #[.int k tk,x]:=aag _ rfl
 have fc:∀ (c:Nat) o,(c < n\/n+1 < c)->hp.get? c=some o->(ak.push { cls:=.type "tuple",data:=.seq #[.int k tk,x] }).get? c=some o:=λ c o hc e=>
  aab _ (ex af (by omega) (ex ae (by omega) (ex ad (by omega) e)))
 have dw:d7 (ak.push { cls:=.type "tuple",data:=.seq #[.int k tk,x] }) t n a (k+1):=((i1₁.ext ae (by omega)).ext af (by omega)).at λ o e=>aab _ e
 have hlt₃:n+1 < ak.objs.size:=by rw[hsz];exact helt
 generalize hh₄:ak.push { cls:=.type "tuple",data:=.seq #[.int k tk,x] }=au at cv du fc dw
 have hTle:hp.objs.size<=ak.objs.size:=Nat.le_of_eq hsz.symm
 show wpAny _ _ (Builtin.SmallTypes.ownedTupleIsFree (.ref (n+1)) >>= _) _ _ ⟨au,g,d,tk+1,os⟩
 refine wpAny_bind (wY cv hf ?_ ?_)
 ·simp only [if_true]
  refine wpAny_bind (wpAny_rule ?_)
  refine wpAny_bind (wpAny_field cv rfl (x:=old) rfl ?_)
  refine wpAny_bind (wpAny_setField_rec cv (by simp) λ bn cr az=>?_)
  replace az:Heap.SameBut (n+1) au bn:=az
  replace cr:i4 bn (n+1) n f0 f1 ((k:Int)+1) x:=cr
  refine wpAny_bind (GM (s:=⟨bn,g,d,tk+1,os⟩) cr λ ce he₆ bc=>?_)
  replace bc:Heap.SameBut (n+1) bn ce:=bc
  refine wpAny_bind (wpAny_letGo (wpAny_pure ⟨_,rfl,?_⟩))
  exact hQ ak.objs.size ce _ _ _ hTle (.inr ⟨_,rfl⟩) he₆ ((dw.ext az (by omega)).ext bc (by omega)) (ex bc (by omega) (ex az (by omega) du)) λ c o hc e=>ex bc (by omega) (ex az (by omega) (fc c o hc e))
 ·intro bn cr az
  replace az:Heap.SameBut (n+1) au bn:=az
  simp only [Bool.false_eq_true,if_false]
  refine wpAny_pure ⟨_,rfl,?_⟩
  exact hQ ak.objs.size bn _ _ _ hTle hf cr (dw.ext az (by omega)) (ex az (by omega) du) λ c o hc e=>ex az (by omega) (fc c o hc e)
theorem GW {n a:Nat}{t:Bool}{k:Nat}{xs:Array Value}{old f0:Value}{f1:Bool}{Q:Fin->Shared->Prop} (hh:A.handled=none)
  (he:i4 s.heap (n+1) n f0 f1 k old) (i1:d7 s.heap t n a k) (s1:bT s.heap t a xs) (hx:xs[k]? = none)
  (hE:∀ h' e,(∀ (c:Nat) o,(c < n\/n+1 < c)->s.heap.get? c=some o->h'.get? c=some o)->(∃ o,h'.get? e=some o/\o.cls=.type "StopIteration")->E (.ref e) { s with heap:=h' }) :
  wpAny (model prog w) A (Builtin.«enumerate.__next__» ⟨[.ref (n+1)],[]⟩) Q E s:=by
 show wpAny _ _ (field (.ref (n+1)) 2 >>= _) _ _ _
 refine wpAny_bind (wpAny_field he rfl (x:=.ref n) rfl ?_)
 refine wpAny_bind (cS hh i1 s1 hx λ h' e hk he'=>hE h' e (λ c o hc q=>hk c o (show @Ne Nat c n by omega) q) he')
theorem oT {e it:Addr}{f0:Value}{f1:Bool}{i:Int}{old:Value}{Q:Option Value->Shared->Prop} (he:i4 s.heap e it f0 f1 i old)
  (h:wpAny (model prog w) A.in1 (Builtin.«enumerate.__next__» ⟨[.ref e],[]⟩) (λ fin s'=>∃ v,fin=.done (.ret v)/\Q (some v) s') (λ e s'=>(∃ a o,e=.ref a/\s'.heap.get? a=some o/\o.cls=.type "StopIteration")/\Q none s') s) :
  wpAny (model prog w) A (pyNext (.ref e)) Q E s:=by
 have hT:s.TypeIs (.ref e) "enumerate" := ⟨_,he,rfl⟩
 unfold pyNext
 refine wpAny_bind (wpAny_attempt (wpAny_callSpecial?_slot (name:=Str.ofString "__next__") hT F.slot_enumerate_next
  (wpAny_call_entry F.slot_enumerate_next hT F.entry_enumerate_next (wpAny_mono h (λ fin s' h'=>?_) λ e s' h'=>?_) (F.args_enumerate_next_1 _))))
 ·obtain⟨v,rfl,q⟩:=h'
  exact⟨v,rfl,wpAny_pure q⟩
 ·obtain⟨⟨a,o,rfl,ho,hc⟩,q⟩:=h'
  exact wpAny_bind (wpAny_isInstance (T := "StopIteration") (b:=true) ⟨o,ho,hc⟩ isSubtype_stop (wpAny_pure q))
theorem zT {tg:Expr}{e it T:Addr}{f0:Value}{f1:Bool}{i:Int}{old:Value}{Q:Unit->Shared->Prop} (hf:fW f0) (hz:i4 s.heap e it f0 f1 i old)
  (hQ:∀ h' f0',fW f0'->i4 h' e it f0' f1 i old->Heap.SameBut e s.heap h'->Q () { s with heap:=h' }):wpAny (model prog w) A (letOwnedTupleGo tg (.ref e) (.ref T)) Q E s:=by
 have same:Q () s:=hQ s.heap f0 hf hz (Heap.SameBut.refl ..)
 have core:wpAny (model prog w) A (do
   let o <- load e
   match o.cls,o.data with
   | .type n,.fields vs=>
    if ["enumerate","zip","dict_itemiterator","dict_reverseitemiterator","odict_iterator","itertools.zip_longest","itertools.pairwise"].contains n && vs[0]? == some (rawInt T) then
     rule "for.unpacks-the-owned-tuple"
     updateField e 0 .none
   | _,_=>pure ()) Q E s:=by
  refine wpAny_bind (wpAny_load hz ?_)
  show wpAny _ _ (if (["enumerate","zip","dict_itemiterator","dict_reverseitemiterator","odict_iterator","itertools.zip_longest","itertools.pairwise"].contains "enumerate" &&
   (#[f0,.bool f1,.ref it,rawInt i,.none,old]:Array Value)[0]? == some (rawInt T))=true then _ else _) Q E s
  split
  ·refine wpAny_bind (wpAny_rule ?_)
   show wpAny _ _ (setField (.ref e) 0 .none) Q E s
   exact wpAny_setField_rec hz (by simp) λ h' hz' hs'=>hQ h' .none (.inl rfl) hz' hs'
  ·exact wpAny_pure same
 unfold letOwnedTupleGo
 cases tg <;> first
  | exact wpAny_pure same
  | exact core
theorem oU {e it:Addr}{f0:Value}{f1:Bool}{i:Int}{old:Value}{Q:Value->Shared->Prop} (he:i4 s.heap e it f0 f1 i old) (h:Q (.ref e) s):wpAny (model prog w) A (pyIter (.ref e)) Q E s:=by
 have hT:s.TypeIs (.ref e) "enumerate" := ⟨_,he,rfl⟩
 refine wpAny_pyIter_slot hT F.slot_enumerate_iter (wpAny_call_entry F.slot_enumerate_iter hT F.entry_enumerate_iter ?_ (F.args_enumerate_iter_1 _))
 show wpAny _ _ (ret (.ref e)) _ _ s
 exact wpAny_pure ⟨_,rfl,"enumerate",_,hT,F.slot_enumerate_next.lookup,h⟩
theorem zO (t:Bool) (l:Addr) (xs:Array Value) :
  Meets (Builtin.«enumerate.__new__» ⟨[.type "enumerate",.ref l],[]⟩) (λ _ R s=>bT s.heap t l xs/\
   R (.ok (.ret (.ref (zA s.heap t l).objs.size))) { s with heap:=(zA s.heap t l).push { cls:=.type "enumerate",data:=.fields #[.none,.bool false,.ref s.heap.objs.size,rawInt 0,.none,.none] } }):=
 .of_wp λ prog w A R s h=>by
  obtain⟨hp,g,d,tk,os⟩:=s;obtain⟨hl,h⟩:=h
  have hsub:=sub_enumerate
  have hL:bT (Shared.heap ⟨hp,g,d,tk,os⟩) t l xs:=hl
  wp_walk
  refine wpAny_stack_any λ st=>wpAny_pure ?_
  split
  ·rename_i c _ _ _ _ _
   cases (c == Value.type "enumerate")
   ·wp_walk using eD hL
    exact⟨_,rfl,h⟩
   ·wp_walk using eD hL
    exact⟨_,rfl,h⟩
  ·wp_walk using eD hL
   exact⟨_,rfl,h⟩
theorem DW {t:Bool}{l:Addr}{xs:Array Value}{Q:Value->Shared->Prop} (hL:bT s.heap t l xs)
  (h:∀ h',i4 h' (s.heap.objs.size+1) s.heap.objs.size .none false 0 .none->d7 h' t s.heap.objs.size l 0->(∀ b o,s.heap.get? b=some o->h'.get? b=some o)->Q (.ref (s.heap.objs.size+1)) { s with heap:=h' }) :
  wpAny (model prog w) A (call (.type "enumerate") [.ref l]) Q E s:=by
 refine callType_new F.called_enumerate (by decide) (F.typeCall_enumerate_1 _) (F.newCall_enumerate_1 _) (λ obj=>F.args_object_init_2 obj _) F.entry_enumerate_new (zO t l xs) ⟨hL,?_⟩
 have hz:(zA s.heap t l).objs.size=s.heap.objs.size+1:=abo ..
 show _/\_
 rw[hz]
 have he:i4 ((zA s.heap t l).push { cls:=.type "enumerate",data:=.fields #[.none,.bool false,.ref s.heap.objs.size,rawInt 0,.none,.none] }) (s.heap.objs.size+1) s.heap.objs.size .none false 0 .none:=by
  have:=aag (zA s.heap t l) (o:={ cls:=.type "enumerate",data:=.fields #[.none,.bool false,.ref s.heap.objs.size,rawInt 0,.none,.none] }) rfl
  rw[hz] at this;exact this
 exact⟨⟨_,he,rfl⟩,h _ he (iO (aab _ (aag _ rfl))) λ b o x=>aab _ (aab _ x)⟩
end
end TwZ
namespace L2
open PySem PySem.Spec PyProof.Rows TwZ
noncomputable def jH (K:aaa) (H:Hp) (t:Bool) (a:Addr) (xs:List V):Prop:=if t=true then bN K H a xs else bO K H a xs
section
variable {X:Cx}{pins:List (Addr×Obj)}{σ:St}{H:Hp}{s:Shared}
theorem Inv.src {t:Bool}{a:Addr}{xs:List V} (I:Inv X pins σ H s) (h:jH X.K H t a xs):∃ its:List Value,bG xs its/\bT s.heap t a its.toArray/\xs.length<=sizeLine:=by
 cases t with
 | true=>
  obtain⟨its,r,p,z⟩:=I.tuple h
  exact⟨its,r,(show s.heap.IsTuple a its.toArray from p),z⟩
 | false=>
  obtain⟨its,r,p,z⟩:=I.list h
  exact⟨its,r,p.isList,z⟩
theorem Inv.src_inj {t:Bool}{a:Addr}{xs ys:List V} (I:Inv X pins σ H s) (h:jH X.K H t a xs) (h':jH X.K H t a ys):xs=ys:=by
 cases t with
 | true=>exact I.tuple_inj h h'
 | false=>exact I.list_inj h h'
theorem Inv.turnedT {fp:List Addr}{h':Heap}{t':Nat}{T:Addr}{xs:List V}{its:List Value} (I:Inv X pins σ H s) (hf:∀ b∈fp,lZ X pins H b) (k:∀ b o,b∉fp->s.heap.get? b=some o->h'.get? b=some o)
  (hT:s.heap.objs.size<=T) (hv:bG xs its) (hz:xs.length<=sizeLine) (ht:IsTup h' T its.toArray):Inv X pins σ (upd H T (.tup xs)) { s with heap:=h',toks:=t' }:=by
 have hn:H T=none:=I.hok.fresh hT
 have nT:∀ b u,H b=some u->b≠T:=λ b u e=>aN e hn
 have nfp:∀ b u,H b=some u->b∉fp:=λ b u e hb=>by rw[(hf b hb).1] at e;cases e
 have nTh:∀ b o,s.heap.get? b=some o->b≠T:=λ b o e z=>by rw[z] at e;exact absurd (aau (aan e) hT) (abx _)
 refine I.step (g':=s.gens) (d':=s.drawn) (ch:=fp) (λ b hb=>?_) (λ b o _ _ hc e _=>k b o hc e) (λ b o _ _ hc e _=>⟨o.slots,k b o hc e⟩) (λ b o hc e n=>by rw[aM (nTh b o e)];exact n)
  (λ b o hc e=>⟨o,k b o hc e⟩) (λ b ys e=>by rw[aM (nT b _ e)];exact e) (λ b o u e=>by rw[aM (nT b _ e)];exact e) (λ b ps e=>⟨#[],by rw[aM (nT b _ e),e];simp⟩) (λ m hm=>?_) (λ b u e=>?_) I.bare
 ·obtain⟨_,f1,_,f3,f4,f5⟩:=hf b hb
  exact⟨f3,f1,f4,f5⟩
 ·obtain⟨o,es,ep,ho,r⟩:=hm
  exact⟨o,es,ep,k _ o (λ hb=>(hf _ hb).2.1 rfl) ho,r⟩
 ·by_cases hb:b=T
  ·subst hb
   rw[aB] at e
   cases e
   exact⟨hz,its,hv,ht⟩
  ·rw[aM hb] at e
   refine (I.hok b u e).stay (λ c v hc q=>k c v ?_ q) (λ c q=>by rw[aM (nT c _ q)];exact q) λ c ys q=>by rw[aM (nT c _ q)];exact q
   rcases hc with z | z
   ·rw[z];exact nfp b u e
   ·exact nfp c _ z
theorem Inv.turnedL {fp:List Addr}{h':Heap}{t':Nat} (I:Inv X pins σ H s) (hf:∀ b∈fp,lZ X pins H b) (k:∀ b o,b∉fp->s.heap.get? b=some o->h'.get? b=some o):Inv X pins σ H { s with heap:=h',toks:=t' }:=by
 have nfp:∀ b u,H b=some u->b∉fp:=λ b u e hb=>by rw[(hf b hb).1] at e;cases e
 refine I.step (g':=s.gens) (d':=s.drawn) (ch:=fp) (λ b hb=>?_) (λ b o _ _ hc e _=>k b o hc e) (λ b o _ _ hc e _=>⟨o.slots,k b o hc e⟩) (λ b o hc e n=>n)
  (λ b o hc e=>⟨o,k b o hc e⟩) (λ b ys e=>e) (λ b o u e=>e) (λ b ps e=>⟨#[],by rw[e];simp⟩) (λ m hm=>?_) (λ b u e=>?_) I.bare
 ·obtain⟨_,f1,_,f3,f4,f5⟩:=hf b hb
  exact⟨f3,f1,f4,f5⟩
 ·obtain⟨o,es,ep,ho,r⟩:=hm
  exact⟨o,es,ep,k _ o (λ hb=>(hf _ hb).2.1 rfl) ho,r⟩
 ·refine (I.hok b u e).stay (λ c v hc q=>k c v ?_ q) (λ c q=>q) λ c ys q=>q
  rcases hc with z | z
  ·rw[z];exact nfp b u e
  ·exact nfp c _ z
end
noncomputable def LZ (K:aaa) (t1 t2 t3:Bool) (a1 a2 a3:Addr):It:=
 ⟨λ i H=>∃ xs ys zs x y z,jH K H t1 a1 xs/\jH K H t2 a2 ys/\jH K H t3 a3 zs/\xs[i]? = some x/\ys[i]? = some y/\zs[i]? = some z,
  λ i H v H'=>∃ T x y z,H T=none/\v=.ref T/\(∀ xs,jH K H t1 a1 xs->xs[i]? = some x)/\(∀ xs,jH K H t2 a2 xs->xs[i]? = some y)/\(∀ xs,jH K H t3 a3 xs->xs[i]? = some z)/\H'=upd H T (.tup [x,y,z]),
  λ i H=>∃ xs ys zs,jH K H t1 a1 xs/\jH K H t2 a2 ys/\jH K H t3 a3 zs/\(xs.length<=i\/ys.length<=i\/zs.length<=i)⟩
noncomputable def M8 (n a1 a2 a3:Nat) (t1 t2 t3:Bool) (i:Nat) (h:Heap):Prop:=
 ∃ f0 f1 c1 c2 c3,fW f0/\lX h (n+5) (n+3) (n+4) f0 f1/\cY h (n+3) #[.ref n,.ref (n+1),.ref (n+2)]/\cY h (n+4) #[c1,c2,c3]/\
  d7 h t1 n a1 i/\d7 h t2 (n+1) a2 i/\d7 h t3 (n+2) a3 i/\a1 < n/\a2 < n/\a3 < n
noncomputable def zY (n:Nat) (m:Nat):List Addr:=(List.range m).map λ k=>(n+k:Nat)
theorem dB {n m:Nat}{b:Addr}:b∈zY n m↔∃ k,k < m/\b=n+k:=by
 unfold zY
 rw[aaz]
 constructor
 ·rintro⟨k,hk,e⟩;exact⟨k,abk.mp hk,e.symm⟩
 ·rintro⟨k,hk,e⟩;exact⟨k,abk.mpr hk,e.symm⟩
theorem g9 {n m:Nat}{b:Nat} (h:(b:Addr)∉zY n m) (hm:0 < m):b < n\/n+(m - 1) < b:=by
 by_cases h1:b < n
 ·exact .inl h1
 ·by_cases h2:n+(m - 1) < b
  ·exact .inr h2
  ·exact absurd (dB.mpr ⟨b - n,by omega,by show (b:Nat)=n+(b - n);omega⟩) h
theorem CC {P:Program}{w:World}{K:aaa}{tg:Expr} (n a1 a2 a3:Nat) (t1 t2 t3:Bool):Turn P w K tg (LZ K t1 t2 t3 a1 a2 a3) (zY n 6) (n+5) (M8 n a1 a2 a3 t1 t2 t3) where
 mem:=dB.mpr ⟨5,by decide,rfl⟩
 obj:=λ i h st b hb=>by
  obtain⟨f0,f1,c1,c2,c3,hf,hz,hTI,hTO,i1,i2,i3,_⟩:=st
  obtain⟨k,hk,rfl⟩:=dB.mp hb
  have hk':k=0\/k=1\/k=2\/k=3\/k=4\/k=5:=by omega
  rcases hk' with rfl | rfl | rfl | rfl | rfl | rfl
  ·exact i1.obj
  ·exact i2.obj
  ·exact i3.obj
  ·exact⟨_,hTI,λ v z=>by cases z⟩
  ·exact⟨_,hTO,λ v z=>by cases z⟩
  ·exact⟨_,hz,λ v z=>by cases z⟩
 keep:=λ i h h' st k=>by
  obtain⟨f0,f1,c1,c2,c3,hf,hz,hTI,hTO,i1,i2,i3,l⟩:=st
  have m:∀ j,j < 6->((n+j:Nat):Addr)∈zY n 6:=λ j hj=>dB.mpr ⟨j,hj,rfl⟩
  exact⟨f0,f1,c1,c2,c3,hf,k _ (m 5 (by decide)) _ hz,k _ (m 3 (by decide)) _ hTI,k _ (m 4 (by decide)) _ hTO,i1.at λ o e=>k _ (m 0 (by decide)) _ e,i2.at λ o e=>k _ (m 1 (by decide)) _ e,i3.at λ o e=>k _ (m 2 (by decide)) _ e,l⟩
 item:=by
  intro X hP hw hK hc i pins s σ H E I hf st hg
  subst hP hw hK
  obtain⟨f0,f1,c1,c2,c3,f,hz,hTI,hTO,i1,i2,i3,l1,l2,l3⟩:=st
  obtain⟨xs,ys,zs,x,y,z,q1,q2,q3,hx,hy,hw⟩:=hg
  obtain⟨us,r1,p1,_⟩:=I.src q1
  obtain⟨vs,r2,p2,_⟩:=I.src q2
  obtain⟨ws,r3,p3,_⟩:=I.src q3
  obtain⟨u,hu,ru⟩:=r1.get hx
  obtain⟨v,hv,rv⟩:=r2.get hy
  obtain⟨w',hw',rw'⟩:=r3.get hw
  refine iZ hz (BW f hz hTI hTO i1 i2 i3 p1 p2 p3 l1 l2 l3 (by simpa using hu) (by simpa using hv) (by simpa using hw') λ T h' f0' f1' d1 d2 d3 hT f' hz' hTI' hTO' i1' i2' i3' hTp hk=>?_)
  refine⟨_,rfl,tH (s:={ s with heap:=h' }) f' hz' λ h'' f0'' f'' hz'' hs=>?_⟩
  replace hs:Heap.SameBut (n+5) h' h'':=hs
  have hTn:n+5 < T:=aau (aan hz) hT
  have hTp':cY h'' T #[u,v,w']:=ex hs (by omega) hTp
  have IT:Inv X pins σ (upd H T (.tup [x,y,z])) { s with heap:=h'',toks:=s.toks }:=I.turnedT (fp:=zY n 6) hf (λ b o hb e=>ex (c:=b) hs (by have:=g9 (b:=b) hb (by decide);have:n+(6 - 1)=n+5:=rfl;omega) (hk b o (g9 (b:=b) hb (by decide)) e)) hT (its:=[u,v,w']) (.cons ru (.cons rv (.cons rw' .nil))) (by show 3<=sizeLine;decide) ⟨_,hTp',rfl,_,rfl⟩
  refine⟨.ref T,upd H T (.tup [x,y,z]),IT,rfl,
   ⟨T,x,y,z,I.hok.fresh hT,rfl,λ as q=>by rw[I.src_inj q q1];exact hx,λ as q=>by rw[I.src_inj q q2];exact hy,λ as q=>by rw[I.src_inj q q3];exact hw,rfl⟩,
   ⟨f0'',f1',d1,d2,d3,f'',hz'',ex hs (by omega) hTI',ex hs (by omega) hTO',i1'.ext hs (by omega),i2'.ext hs (by omega),i3'.ext hs (by omega),l1,l2,l3⟩,λ b hb=>?_⟩
  ·obtain⟨j,hj,rfl⟩:=dB.mp hb
   rw[aM (show ((n+j:Nat):Addr)≠T from (show @Ne Nat (n+j) T by omega))]
   exact (hf _ hb).1
 done:=by
  intro X hP hw hK hc i pins s σ H E I hf st hg
  subst hP hw hK
  obtain⟨f0,f1,c1,c2,c3,f,hz,hTI,hTO,i1,i2,i3,l1,l2,l3⟩:=st
  obtain⟨xs,ys,zs,q1,q2,q3,hend⟩:=hg
  obtain⟨us,r1,p1,_⟩:=I.src q1
  obtain⟨vs,r2,p2,_⟩:=I.src q2
  obtain⟨ws,r3,p3,_⟩:=I.src q3
  have e1:=r1.length
  have e2:=r2.length
  have e3:=r3.length
  refine iZ hz (E3 (I.ok.hd hc) f hz hTI hTO i1 i2 i3 p1 p2 p3 l1 l2 l3 (by
   rcases hend with h | h | h
   ·exact .inl (by simp;omega)
   ·exact .inr (.inl (by simp;omega))
   ·exact .inr (.inr (by simp;omega))) λ h' e hk he=>?_)
  obtain⟨o,ho,hcl⟩:=he
  exact⟨⟨e,o,rfl,ho,hcl⟩,rfl,I.turnedL (t':=s.toks) hf λ b o hb q=>hk b o (g9 (b:=b) hb (by decide)) q⟩
 self:=λ _ _ _ _ _ st h=>by
  obtain⟨f0,f1,c1,c2,c3,f,hz,_⟩:=st
  exact j4 hz h
noncomputable def JQ (K:aaa) (t1 t2:Bool) (a1 a2:Addr):It:=
 ⟨λ i H=>∃ xs ys x y,jH K H t1 a1 xs/\jH K H t2 a2 ys/\xs[i]? = some x/\ys[i]? = some y,
  λ i H v H'=>∃ T x y,H T=none/\v=.ref T/\(∀ xs,jH K H t1 a1 xs->xs[i]? = some x)/\(∀ xs,jH K H t2 a2 xs->xs[i]? = some y)/\H'=upd H T (.tup [x,y]),
  λ i H=>∃ xs ys,jH K H t1 a1 xs/\jH K H t2 a2 ys/\(xs.length<=i\/ys.length<=i)⟩
noncomputable def M9 (n a1 a2:Nat) (t1 t2:Bool) (i:Nat) (h:Heap):Prop:=
 ∃ f0 f1 c1 c2,fW f0/\lX h (n+4) (n+2) (n+3) f0 f1/\cY h (n+2) #[.ref n,.ref (n+1)]/\cY h (n+3) #[c1,c2]/\d7 h t1 n a1 i/\d7 h t2 (n+1) a2 i/\a1 < n/\a2 < n
theorem CD {P:Program}{w:World}{K:aaa}{tg:Expr} (n a1 a2:Nat) (t1 t2:Bool):Turn P w K tg (JQ K t1 t2 a1 a2) (zY n 5) (n+4) (M9 n a1 a2 t1 t2) where
 mem:=dB.mpr ⟨4,by decide,rfl⟩
 obj:=λ i h st b hb=>by
  obtain⟨f0,f1,c1,c2,hf,hz,hTI,hTO,i1,i2,_⟩:=st
  obtain⟨k,hk,rfl⟩:=dB.mp hb
  have hk':k=0\/k=1\/k=2\/k=3\/k=4:=by omega
  rcases hk' with rfl | rfl | rfl | rfl | rfl
  ·exact i1.obj
  ·exact i2.obj
  ·exact⟨_,hTI,λ v z=>by cases z⟩
  ·exact⟨_,hTO,λ v z=>by cases z⟩
  ·exact⟨_,hz,λ v z=>by cases z⟩
 keep:=λ i h h' st k=>by
  obtain⟨f0,f1,c1,c2,hf,hz,hTI,hTO,i1,i2,l⟩:=st
  have m:∀ j,j < 5->((n+j:Nat):Addr)∈zY n 5:=λ j hj=>dB.mpr ⟨j,hj,rfl⟩
  exact⟨f0,f1,c1,c2,hf,k _ (m 4 (by decide)) _ hz,k _ (m 2 (by decide)) _ hTI,k _ (m 3 (by decide)) _ hTO,i1.at λ o e=>k _ (m 0 (by decide)) _ e,i2.at λ o e=>k _ (m 1 (by decide)) _ e,l⟩
 item:=by
  intro X hP hw hK hc i pins s σ H E I hf st hg
  subst hP hw hK
  obtain⟨f0,f1,c1,c2,f,hz,hTI,hTO,i1,i2,l1,l2⟩:=st
  obtain⟨xs,ys,x,y,q1,q2,hx,hy⟩:=hg
  obtain⟨us,r1,p1,_⟩:=I.src q1
  obtain⟨vs,r2,p2,_⟩:=I.src q2
  obtain⟨u,hu,ru⟩:=r1.get hx
  obtain⟨v,hv,rv⟩:=r2.get hy
  refine iZ hz (BX f hz hTI hTO i1 i2 p1 p2 l1 l2 (by simpa using hu) (by simpa using hv) λ T h' f0' f1' d1 d2 hT f' hz' hTI' hTO' i1' i2' hTp hk=>?_)
  refine⟨_,rfl,tH (s:={ s with heap:=h' }) f' hz' λ h'' f0'' f'' hz'' hs=>?_⟩
  replace hs:Heap.SameBut (n+4) h' h'':=hs
  have hTn:n+4 < T:=aau (aan hz) hT
  have hTp':cY h'' T #[u,v]:=ex hs (by omega) hTp
  have IT:Inv X pins σ (upd H T (.tup [x,y])) { s with heap:=h'',toks:=s.toks }:=I.turnedT (fp:=zY n 5) hf (λ b o hb e=>ex (c:=b) hs (by have:=g9 (b:=b) hb (by decide);have:n+(5 - 1)=n+4:=rfl;omega) (hk b o (g9 (b:=b) hb (by decide)) e)) hT (its:=[u,v]) (.cons ru (.cons rv .nil)) (by show 2<=sizeLine;decide) ⟨_,hTp',rfl,_,rfl⟩
  refine⟨.ref T,upd H T (.tup [x,y]),IT,rfl,
   ⟨T,x,y,I.hok.fresh hT,rfl,λ as q=>by rw[I.src_inj q q1];exact hx,λ as q=>by rw[I.src_inj q q2];exact hy,rfl⟩,
   ⟨f0'',f1',d1,d2,f'',hz'',ex hs (by omega) hTI',ex hs (by omega) hTO',i1'.ext hs (by omega),i2'.ext hs (by omega),l1,l2⟩,λ b hb=>?_⟩
  ·obtain⟨j,hj,rfl⟩:=dB.mp hb
   rw[aM (show ((n+j:Nat):Addr)≠T from (show @Ne Nat (n+j) T by omega))]
   exact (hf _ hb).1
 done:=by
  intro X hP hw hK hc i pins s σ H E I hf st hg
  subst hP hw hK
  obtain⟨f0,f1,c1,c2,f,hz,hTI,hTO,i1,i2,l1,l2⟩:=st
  obtain⟨xs,ys,q1,q2,hend⟩:=hg
  obtain⟨us,r1,p1,_⟩:=I.src q1
  obtain⟨vs,r2,p2,_⟩:=I.src q2
  have e1:=r1.length
  have e2:=r2.length
  refine iZ hz (E4 (I.ok.hd hc) f hz hTI hTO i1 i2 p1 p2 l1 l2 (by
   rcases hend with h | h
   ·exact .inl (by simp;omega)
   ·exact .inr (by simp;omega)) λ h' e hk he=>?_)
  obtain⟨o,ho,hcl⟩:=he
  exact⟨⟨e,o,rfl,ho,hcl⟩,rfl,I.turnedL (t':=s.toks) hf λ b o hb q=>hk b o (g9 (b:=b) hb (by decide)) q⟩
 self:=λ _ _ _ _ _ st h=>by
  obtain⟨f0,f1,c1,c2,f,hz,_⟩:=st
  exact j4 hz h
noncomputable def Ite (K:aaa) (t:Bool) (a:Addr):It:=
 ⟨λ i H=>∃ xs x,jH K H t a xs/\xs[i]? = some x,
  λ i H v H'=>∃ T x,H T=none/\v=.ref T/\(∀ xs,jH K H t a xs->xs[i]? = some x)/\H'=upd H T (.tup [.int i,x]),
  λ i H=>∃ xs,jH K H t a xs/\xs.length<=i⟩
noncomputable def tne (n a:Nat) (t:Bool) (i:Nat) (h:Heap):Prop:=∃ f0 f1 old,fW f0/\i4 h (n+1) n f0 f1 i old/\d7 h t n a i/\a < n
theorem CG {P:Program}{w:World}{K:aaa}{tg:Expr} (n a:Nat) (t:Bool):Turn P w K tg (Ite K t a) (zY n 2) (n+1) (tne n a t) where
 mem:=dB.mpr ⟨1,by decide,rfl⟩
 obj:=λ i h st b hb=>by
  obtain⟨f0,f1,old,hf,he,i1,_⟩:=st
  obtain⟨k,hk,rfl⟩:=dB.mp hb
  have hk':k=0\/k=1:=by omega
  rcases hk' with rfl | rfl
  ·exact i1.obj
  ·exact⟨_,he,λ v z=>by cases z⟩
 keep:=λ i h h' st k=>by
  obtain⟨f0,f1,old,hf,he,i1,l⟩:=st
  have m:∀ j,j < 2->((n+j:Nat):Addr)∈zY n 2:=λ j hj=>dB.mpr ⟨j,hj,rfl⟩
  exact⟨f0,f1,old,hf,k _ (m 1 (by decide)) _ he,i1.at λ o e=>k _ (m 0 (by decide)) _ e,l⟩
 item:=by
  intro X hP hw hK hc i pins s σ H E I hf st hg
  subst hP hw hK
  obtain⟨f0,f1,old,f,he,i1,l1⟩:=st
  obtain⟨xs,x,q1,hx⟩:=hg
  obtain⟨us,r1,p1,_⟩:=I.src q1
  obtain⟨u,hu,ru⟩:=r1.get hx
  refine oT he (DL f he i1 p1 l1 (by simpa using hu) λ T h' f0' f1' old' hT f' he' i1' hTp hk=>?_)
  refine⟨_,rfl,zT (s:={ s with heap:=h',toks:=s.toks+1 }) f' he' λ h'' f0'' f'' he'' hs=>?_⟩
  replace hs:Heap.SameBut (n+1) h' h'':=hs
  have hTn:n+1 < T:=aau (aan he) hT
  have hTp':cY h'' T #[.int i s.toks,u]:=ex hs (by omega) hTp
  have IT:Inv X pins σ (upd H T (.tup [.int i,x])) { s with heap:=h'',toks:=s.toks+1 }:=I.turnedT (fp:=zY n 2) hf (λ b o hb e=>ex (c:=b) hs (by have:=g9 (b:=b) hb (by decide);have:n+(2 - 1)=n+1:=rfl;omega) (hk b o (g9 (b:=b) hb (by decide)) e)) hT (its:=[.int i s.toks,u]) (.cons ⟨_,rfl⟩ (.cons ru .nil)) (by show 2<=sizeLine;decide) ⟨_,hTp',rfl,_,rfl⟩
  have he2:i4 h'' (n+1) n f0'' f1' ((i+1:Nat):Int) old':=by
   have:((i+1:Nat):Int)=(i:Int)+1:=by push_cast;rfl
   rw[this];exact he''
  refine⟨.ref T,upd H T (.tup [.int i,x]),IT,rfl,⟨T,x,I.hok.fresh hT,rfl,λ as q=>by rw[I.src_inj q q1];exact hx,rfl⟩,⟨f0'',f1',old',f'',he2,i1'.ext hs (by omega),l1⟩,λ b hb=>?_⟩
  ·obtain⟨j,hj,rfl⟩:=dB.mp hb
   rw[aM (show ((n+j:Nat):Addr)≠T from (show @Ne Nat (n+j) T by omega))]
   exact (hf _ hb).1
 done:=by
  intro X hP hw hK hc i pins s σ H E I hf st hg
  subst hP hw hK
  obtain⟨f0,f1,old,f,he,i1,l1⟩:=st
  obtain⟨xs,q1,hend⟩:=hg
  obtain⟨us,r1,p1,_⟩:=I.src q1
  have e1:=r1.length
  refine oT he (GW (I.ok.hd hc) he i1 p1 (by simp;omega) λ h' e hk he=>?_)
  obtain⟨o,ho,hcl⟩:=he
  exact⟨⟨e,o,rfl,ho,hcl⟩,rfl,I.turnedL (t':=s.toks) hf λ b o hb q=>hk b o (g9 (b:=b) hb (by decide)) q⟩
 self:=λ _ _ _ _ _ st h=>by
  obtain⟨f0,f1,old,f,he,_⟩:=st
  exact oU he h
section
variable {X:Cx}{tg:Expr}
theorem y4:bootBuiltins "zip" = some (.type "zip"):=by decide +kernel
theorem DY:bootBuiltins "enumerate" = some (.type "enumerate"):=by decide +kernel
noncomputable def K5 (K:aaa) (ta:TA):TI:=λ σ H R=>ta σ H λ vs H1=>∃ t1 t2 a1 a2,vs=[.ref a1,.ref a2]/\(∃ xs,jH K H1 t1 a1 xs)/\(∃ xs,jH K H1 t2 a2 xs)/\R (JQ K t1 t2 a1 a2) H1
noncomputable def K4 (K:aaa) (ta:TA):TI:=λ σ H R=>ta σ H λ vs H1=>∃ t1 t2 t3 a1 a2 a3,vs=[.ref a1,.ref a2,.ref a3]/\(∃ xs,jH K H1 t1 a1 xs)/\(∃ xs,jH K H1 t2 a2 xs)/\(∃ xs,jH K H1 t3 a3 xs)/\R (LZ K t1 t2 t3 a1 a2 a3) H1
noncomputable def K7 (K:aaa) (ta:TA):TI:=λ σ H R=>ta σ H λ vs H1=>∃ t a,vs=[.ref a]/\(∃ xs,jH K H1 t a xs)/\R (Ite K t a) H1
theorem IO {a:Expr}{ta:TA}{p pos:Pos} (hg:Gl X "enumerate") (hm:X.mg "enumerate" = none) (ha:PA X [a] ta) (hs:starEach [a] X.env=[(false,eval a X.env)]:=by rfl):PI X tg (.Call (.Name "enumerate" p) [a] [] pos) (K7 X.K ta):=by
 intro pins s σ H R I h
 refine Call_ (j8 I hg hm DY (PyProof.Rows.callWith_type1 (cW (ha pos pins s σ H _ I h) λ us s1 ⟨vs,H1,I1,r1,q1⟩=>?_) hs rfl))
 obtain⟨t,a1,e,⟨xs,hq⟩,q⟩:=q1
 subst e
 cases r1 with
 | cons r rr=>
  cases rr
  cases r
  obtain⟨its,rv,p,hz⟩:=I1.src hq
  refine DW p λ h' he i1 hk=>?_
  refine oU (s:={ s1 with heap:=h' }) he ?_
  refine⟨_,zY s1.heap.objs.size 2,tne s1.heap.objs.size a1 t,_,H1,rfl,I1.kept (t':=s1.toks) hk,CG _ _ _,⟨.none,false,.none,.inl rfl,he,i1,p.lt⟩,λ b hb=>?_,q⟩
  obtain⟨k,_,rfl⟩:=dB.mp hb
  exact I1.fpOk (Nat.le_add_right _ _) (I1.hok.fresh (Nat.le_add_right _ _))
theorem IM {a b:Expr}{ta:TA}{p pos:Pos} (hg:Gl X "zip") (hm:X.mg "zip" = none) (ha:PA X [a,b] ta) (hs:starEach [a,b] X.env=[(false,eval a X.env),(false,eval b X.env)]:=by rfl) (hs2:starEach [b] X.env=[(false,eval b X.env)]:=by rfl) :
  PI X tg (.Call (.Name "zip" p) [a,b] [] pos) (K5 X.K ta):=by
 intro pins s σ H R I h
 refine Call_ (j8 I hg hm y4 (PyProof.Rows.callWith_type1 (cW (ha pos pins s σ H _ I h) λ us s1 ⟨vs,H1,I1,r1,q1⟩=>?_) (by rw[hs,hs2]) (by rw[hs2];rfl)))
 obtain⟨t1,t2,a1,a2,e,⟨xs,hq1⟩,⟨ys,hq2⟩,q⟩:=q1
 subst e
 cases r1 with
 | cons r rr=>
  cases rr with
  | cons r' rr=>
   cases rr
   cases r
   cases r'
   obtain⟨its,rv,p1,hz⟩:=I1.src hq1
   obtain⟨its2,rv2,p2,hz2⟩:=I1.src hq2
   refine DS p1 p2 λ h' hz' hTI hTO i1 i2 hk=>?_
   refine j4 (s:={ s1 with heap:=h' }) hz' ?_
   refine⟨_,zY s1.heap.objs.size 5,M9 s1.heap.objs.size a1 a2 t1 t2,_,H1,rfl,I1.kept (t':=s1.toks) hk,CD _ _ _ _ _,⟨.none,false,_,_,.inl rfl,hz',hTI,hTO,i1,i2,p1.lt,p2.lt⟩,λ b hb=>?_,q⟩
   obtain⟨k,_,rfl⟩:=dB.mp hb
   exact I1.fpOk (Nat.le_add_right _ _) (I1.hok.fresh (Nat.le_add_right _ _))
theorem IL {a b c:Expr}{ta:TA}{p pos:Pos} (hg:Gl X "zip") (hm:X.mg "zip" = none) (ha:PA X [a,b,c] ta) (hs:starEach [a,b,c] X.env=[(false,eval a X.env),(false,eval b X.env),(false,eval c X.env)]:=by rfl)
  (hs2:starEach [b,c] X.env=[(false,eval b X.env),(false,eval c X.env)]:=by rfl) :
  PI X tg (.Call (.Name "zip" p) [a,b,c] [] pos) (K4 X.K ta):=by
 intro pins s σ H R I h
 refine Call_ (j8 I hg hm y4 (PyProof.Rows.callWith_type1 (cW (ha pos pins s σ H _ I h) λ us s1 ⟨vs,H1,I1,r1,q1⟩=>?_) (by rw[hs,hs2]) (by rw[hs2];rfl)))
 obtain⟨t1,t2,t3,a1,a2,a3,e,⟨xs,hq1⟩,⟨ys,hq2⟩,⟨zs,hq3⟩,q⟩:=q1
 subst e
 cases r1 with
 | cons r rr=>
  cases rr with
  | cons r' rr=>
   cases rr with
   | cons r'' rr=>
    cases rr
    cases r
    cases r'
    cases r''
    obtain⟨its,rv,p1,hz⟩:=I1.src hq1
    obtain⟨its2,rv2,p2,hz2⟩:=I1.src hq2
    obtain⟨its3,rv3,p3,hz3⟩:=I1.src hq3
    refine DR p1 p2 p3 λ h' hz' hTI hTO i1 i2 i3 hk=>?_
    refine j4 (s:={ s1 with heap:=h' }) hz' ?_
    refine⟨_,zY s1.heap.objs.size 6,M8 s1.heap.objs.size a1 a2 a3 t1 t2 t3,_,H1,rfl,I1.kept (t':=s1.toks) hk,CC _ _ _ _ _ _ _,⟨.none,false,_,_,_,.inl rfl,hz',hTI,hTO,i1,i2,i3,p1.lt,p2.lt,p3.lt⟩,λ b hb=>?_,q⟩
    obtain⟨k,_,rfl⟩:=dB.mp hb
    exact I1.fpOk (Nat.le_add_right _ _) (I1.hok.fresh (Nat.le_add_right _ _))
end
end L2
namespace L2
open PySem PySem.Spec PyProof.Rows TwZ
section
variable {prog:Program}{w:World}{A:Around}{E:Value->Shared->Prop}{s:Shared}{l:Addr}{xs:Array (Int×Tok)}
theorem yN {Q:Value->Shared->Prop} (hh:A.handled=none) (hl:s.heap.IsTuple l (intItems xs))
  (h:∀ h' tk t',(∀ b o,s.heap.get? b=some o->h'.get? b=some o)->Q (.int (preSum (numAt xs) xs.size) t') { s with heap:=h',toks:=tk }) :
  wpAny (model prog w) A (call (.builtin "sum") [.ref l]) Q E s:=by
 have hlt:l < s.heap.objs.size:=by obtain⟨_,e,_⟩:=hl;exact aan e
 refine call_sum_walkG (wpAny_pyIter_tuple hl ?_)
 refine⟨_,_,_,_,_,_,numAt xs,rfl,Walks.tuple (A:=A.in1) hh _ l (aay hlt) (intItems xs),⟨⟨_,aag _ rfl,rfl,rfl⟩,hl.push _⟩,λ b hb=>?_,(λ _ _=>intItems_at),λ h' tk t' hk=>?_⟩
 ·show b < (s.heap.push _).objs.size
  rw[abo]
  rcases List.mem_cons.mp hb with rfl | hb
  ·exact Nat.lt_succ_self _
  ·rcases List.mem_cons.mp hb with rfl | hb
   ·exact Nat.lt_succ_of_lt hlt
   ·cases hb
 ·have:=h h' tk t' (λ b o e=>hk b o (λ hm=>by rw[aaq.mp hm] at e;exact abx _ (aan e)) (aab _ e))
  simpa [intItems] using this
theorem yO {t:Bool}{vs:List Value}{ns:List Int}{Q:Value->Shared->Prop} (hh:A.handled=none) (hl:bT s.heap t l vs.toArray) (hi:IntsAre vs ns)
  (h:∀ h' tk t',(∀ b o,s.heap.get? b=some o->h'.get? b=some o)->Q (.int ns.sum t') { s with heap:=h',toks:=tk }) :
  wpAny (model prog w) A (call (.builtin "sum") [.ref l]) Q E s:=by
 obtain⟨xs,hx⟩:=hi.allInts.items
 have hn:numsOf vs.toArray.toList=ns:=by rw[show vs.toArray.toList=vs from rfl,hi.numsOf]
 rw[hx] at hl hn
 rw[nums_intItems] at hn
 have e:preSum (numAt xs) xs.size=ns.sum:=by rw[preSum_eq,List.take_of_length_le (by simp),hn]
 cases t with
 | true=>exact yN hh hl λ h' tk t' hk=>by rw[e];exact h h' tk t' hk
 | false=>exact sum_intListG hh hl λ h' tk t' hk=>by rw[e];exact h h' tk t' hk
theorem JO {t:Bool}{vs:List Value}{bs:List Bool}{Q:Value->Shared->Prop} (hh:A.handled=none) (hl:bT s.heap t l vs.toArray) (hb:bG (bs.map V.bl) vs)
  (h:∀ h' tk,(∀ b o,s.heap.get? b=some o->h'.get? b=some o)->Q (.bool (bs.all id)) { s with heap:=h',toks:=tk }):wpAny (model prog w) A (call (.builtin "all") [.ref l]) Q E s:=by
 have hlt:l < s.heap.objs.size:=hl.lt
 have hlen:=hb.length
 rw[aac] at hlen
 have key:∀ (P:Nat->Value->Prop),(∀ i v,P i v->vs[i]? = some v)->TruthOf prog w A.in1 P (λ i=>(bs[i]?).getD true):=λ P hP i v s' Q' E' hp hQ=>by
  have hv:=hP i v hp
  have hi:i < vs.length:=(aad.mp hv).1
  have hb':(bs.map V.bl)[i]? = some (V.bl bs[i]):=by simp [show i < bs.length by omega]
  obtain⟨u,hu,ru⟩:=hb.get hb'
  rw[hv] at hu
  cases hu
  cases ru
  have e:(bs[i]?).getD true=bs[i]:=by simp [show i < bs.length by omega]
  have hQ2:Q' ((bs[i]?).getD true) s':=hQ
  rw[e] at hQ2
  exact wpAny_truthy_bool hQ2
 have rng:((List.range vs.toArray.size).all λ i=>(bs[i]?).getD true)=bs.all id:=by
  rw[aao,<- hlen,Bool.eq_iff_iff,abu,abu]
  constructor
  ·intro hq b hb'
   obtain⟨i,hi,rfl⟩:=List.getElem_of_mem hb'
   have:=hq i (abk.mpr hi)
   simpa [hi] using this
  ·intro hq i hi
   have hi':=abk.mp hi
   have:=hq bs[i] (abf hi')
   simpa [hi'] using this
 have kept:∀ {h':Heap}{o:Obj},(∀ b x,b∉[s.heap.objs.size]->(s.heap.push o).get? b=some x->h'.get? b=some x)->∀ b x,s.heap.get? b=some x->h'.get? b=some x:=λ hk b x e=>
  hk b x (λ hm=>by rw[aaq.mp hm] at e;exact abx _ (aan e)) (aab _ e)
 cases t with
 | true=>
  refine call_all_walk (wpAny_pyIter_tuple hl ?_)
  refine⟨s.heap.objs.size,[s.heap.objs.size,l],[s.heap.objs.size],vs.toArray.size,_,_,λ i=>(bs[i]?).getD true,rfl,Walks.tuple (A:=A.in1) hh _ l (aay hlt) vs.toArray,
   ⟨⟨_,aag _ rfl,rfl,rfl⟩,Heap.IsTuple.push hl _⟩,key _ (λ i v hp=>by simpa using hp),λ h' tk hk=>?_⟩
  rw[rng]
  exact h h' tk (kept hk)
 | false=>
  refine call_all_walk (wpAny_pyIter_list hl ?_)
  refine⟨s.heap.objs.size,[s.heap.objs.size,l],[s.heap.objs.size],vs.toArray.size,_,_,λ i=>(bs[i]?).getD true,rfl,Walks.list (A:=A.in1) hh _ l (aay hlt) vs.toArray,
   ⟨⟨_,aag _ rfl,rfl,rfl⟩,Heap.IsList.push hl _⟩,key _ (λ i v hp=>by simpa using hp),λ h' tk hk=>?_⟩
  rw[rng]
  exact h h' tk (kept hk)
end
section
variable {X:Cx}
noncomputable def MP (K:aaa):List V->Hp->VK->Prop:=λ xs H Q=>∃ (t:Bool) (p:Addr) (ns:List Int),xs=[.ref p]/\jH K H t p (ns.map V.int)/\Q (.int ns.sum) H
theorem DT (hc:X.calm=true):eS X (.builtin "sum") (MP X.K):=by
 intro pins s σ H xs us Q I r h
 obtain⟨t,p,ns,rfl,hq,q⟩:=h
 obtain⟨u,rfl,ru⟩:=r.one
 cases ru
 obtain⟨its,rv,p1,hz⟩:=I.src hq
 refine yO (I.ok.hd hc) p1 (rK rv) λ h' tk t' hk=>⟨.int ns.sum,H,I.kept hk,⟨t',rfl⟩,q⟩
noncomputable def N0 (K:aaa):List V->Hp->VK->Prop:=λ xs H Q=>∃ (t:Bool) (p:Addr) (bs:List Bool),xs=[.ref p]/\jH K H t p (bs.map V.bl)/\Q (.bl (bs.all id)) H
theorem DX (hc:X.calm=true):eS X (.builtin "all") (N0 X.K):=by
 intro pins s σ H xs us Q I r h
 obtain⟨t,p,bs,rfl,hq,q⟩:=h
 obtain⟨u,rfl,ru⟩:=r.one
 cases ru
 obtain⟨its,rv,p1,hz⟩:=I.src hq
 refine JO (I.ok.hd hc) p1 rv λ h' tk hk=>⟨.bl (bs.all id),H,I.kept hk,rfl,q⟩
noncomputable def TyS (K:aaa) (H:Hp) (x:V) (t:Value):Prop:=TyOf K H x t\/∃ a ys,x=.ref a/\bN K H a ys/\t=.type "tuple"
noncomputable def MY (K:aaa):List V->Hp->VK->Prop:=λ xs H Q=>∃ x T t b,xs=[x,.ty T]/\TyS K H x t/\PySem.W.kitOne K t (.type T)=some b/\Q (.bl b) H
theorem HI:eS X (.builtin "isinstance") (MY X.K):=by
 intro pins s σ H xs us Q I r h
 obtain⟨x,T,t,b,rfl,ty,e,q⟩:=h
 obtain⟨u,v,rfl,ru,rv⟩:=r.two
 cases rv
 rcases ty with ty | ⟨a,ys,rfl,hq,rfl⟩
 ·exact DD I ru ty e λ tk=>⟨.bl b,H,I.tok tk,rfl,q⟩
 ·cases (show u=Value.ref a from ru)
  obtain⟨its,rv',⟨o,h1,h2,_⟩,_⟩:=I.tuple hq
  exact PySem.W.kia_one PySem.W.kitx_tuple I.kIn ⟨o,h1,h2⟩ e (λ z=>nomatch z) λ tk=>⟨.bl b,H,I.tok tk,rfl,q⟩
end
theorem iL:fillsNumberSlot (.type "tuple") "mul" = pure false:=
 PySem.fillsNumberSlot_seq (id := "tuple.__mul__") (r:=some (.builtin "tuple.__rmul__")) F.slot_tuple_mul.lookup (by decide +kernel) F.slot_tuple_rmul.lookup (by decide +kernel)
theorem mM:seqRepeat? (.type "tuple")=pure (some (.builtin "tuple.__mul__")):=by
 unfold seqRepeat?
 rw[PySem.seqSlot_of (T := "tuple") (name := "__mul__") (id := "tuple.__mul__") F.slot_tuple_mul.lookup (by decide +kernel),PySem.seqSlot_of (T := "tuple") (name := "__rmul__") (id := "tuple.__rmul__") F.slot_tuple_rmul.lookup (by decide +kernel)]
 rfl
theorem jY (a:Int) (t:Tok) (l:Addr) (items:Array Value) (n:Nat) (dd:Option Addr) (sl:Array (Option Value)) :
  Meets (Builtin.«int.__rmul__» ⟨[.int a t,.ref l],[]⟩) (λ _ R s=>s.heap.get? l=some { cls:=.type "tuple",dict:=dd,data:=.seq items n,slots:=sl }/\R (.ok (.ret Value.notImplemented)) s):=
 .of_wp λ prog w A R s h=>by obtain⟨hp,g,d,tk,os⟩:=s;obtain⟨hl,h⟩:=h;wp_walk;exact⟨_,rfl,h⟩
theorem sF (l:Addr) (items:Array Value) (n:Nat) (u:Tok) (dd:Option Addr) (sl:Array (Option Value)) :
  Meets (Builtin.«tuple.__mul__» ⟨[.ref l,.int 1 u],[]⟩) (λ _ R s=>s.heap.get? l=some { cls:=.type "tuple",dict:=dd,data:=.seq items n,slots:=sl }/\R (.ok (.ret (.ref l))) s):=
 .of_wp λ prog w A R s h=>by
  obtain⟨hp,g,d,tk,os⟩:=s;obtain⟨hl,h⟩:=h
  have c1:(items.isEmpty || (1:Int) == 1)=true:=by simp
  wp_walk
  exact⟨_,rfl,h⟩
theorem pT (l:Addr) (items:Array Value) (n:Nat) (x:Int) (u:Tok) (dd:Option Addr) (sl:Array (Option Value)) (c0:¬ (decide (x < -(2 ^ 63)) || decide (x ≥ 2 ^ 63))=true) (c1:¬ (items.isEmpty || x == 1)=true)
  (c2:¬ (decide (x<=0) || items.isEmpty)=true) (c3:¬ (items.size:Int) * x > (2 ^ 63 - 1) / 8) (c4:¬ Builtin.Tuple.tupleTooMany ((items.size:Int) * x)=true) (hsz:(List.foldl (λ x1 x2=>x1++x2) #[] (List.replicate x.toNat items)).size<=sizeLine) :
  Meets (Builtin.«tuple.__mul__» ⟨[.ref l,.int x u],[]⟩) (λ _ R s=>s.heap.get? l=some { cls:=.type "tuple",dict:=dd,data:=.seq items n,slots:=sl }/\
   R (.ok (.ret (.ref s.heap.objs.size))) { s with heap:=s.heap.push { cls:=.type "tuple",data:=.seq (List.foldl (λ x1 x2=>x1++x2) #[] (List.replicate x.toNat items)) } }):=
 .of_wp λ prog w A R s h=>by
  obtain⟨hp,g,d,tk,os⟩:=s;obtain⟨hl,h⟩:=h
  wp_walk
  rw[if_neg c0]
  wp_walk
  all_goals (try rw[if_neg c1])
  wp_walk
  all_goals (try rw[if_neg c2])
  wp_walk
  all_goals (try rw[if_neg c3])
  wp_walk
  all_goals (try rw[if_neg c4])
  wp_walk
  exact⟨_,rfl,h⟩
theorem aK.tup {K:aaa}{H H':Hp}{a:Addr}{xs:List V} (e:aK H H') (h:bN K H a xs):bN K H' a xs:=by
 rcases h with (h | ⟨o,h⟩) | h
 ·exact .inl (.inl (e _ _ h))
 ·exact .inl (.inr ⟨o,e _ _ h⟩)
 ·exact .inr h
theorem aK.new {H:Hp}{p:Addr}{o:HO} (h:H p=none):aK H (upd H p o):=λ b u e=>by rw[aM (aN e h)];exact e
section
variable {X:Cx}
noncomputable def JY (K:aaa):R2:=λ x y H Q=>∃ (l:Addr) (k:Int) (xs:List V),x=.ref l/\y=.int k/\bN K H l xs/\1<=k/\k < 1000000/\xs≠[]/\xs.length<=10/\
 ∀ p H',aK H H'->bN K H' p (List.replicate k.toNat xs).flatten->Q (.ref p) H'
theorem B0:g7 X (binaryOp .Mult) (JY X.K):=by
 intro pins s σ H x y v u Q I rx ry h
 obtain⟨l,k,xs,rfl,rfl,hq,h1,h2,hne,hl10,q⟩:=h
 cases rx
 obtain⟨t,rfl⟩:=ry
 obtain⟨its,r,ht,z⟩:=I.tuple hq
 have hlen:=r.length
 obtain⟨⟨cls,dd,data,sl⟩,e,hc,n,hd⟩:=id ht
 simp only at hc hd
 subst hc hd
 refine wpAny_binaryOp_repeat_ref (T := "tuple") (U := "int") (by decide) ⟨_,e,rfl⟩ (λ s'=>typeIs_int s' k t) iL F.fills_int_mul F.slot_int_rmul mM F.slot_int_index.lookup
  (call_meets F.slot_int_rmul (typeIs_int s k t) F.entry_int_rmul (F.args_int_rmul_2 _ _) (jY k t l its.toArray n dd sl) ⟨e,rfl,⟨_,e,rfl⟩,?_⟩)
 by_cases hk:k=1
 ·subst hk
  refine call_meets F.slot_tuple_mul ⟨_,e,rfl⟩ F.entry_tuple_mul (F.args_tuple_mul_2 _ _) (sF l its.toArray n t dd sl) ⟨e,?_⟩
  refine⟨.ref l,H,I,rfl,q l H (aK.refl H) ?_⟩
  have e1:(List.replicate (1:Int).toNat xs).flatten=xs:=by simp
  rw[e1];exact hq
 ·have hne':its≠[]:=λ z=>by rw[z] at hlen;exact hne (List.eq_nil_of_length_eq_zero hlen)
  have f0:List.foldl (λ x1 x2=>x1++x2) #[] (List.replicate k.toNat its.toArray)=(List.replicate k.toNat its).flatten.toArray:=by
   have:=tO its k.toNat []
   rw[List.nil_append] at this
   exact this
  have hemp:its.toArray.isEmpty=false:=by cases its with
   | nil=>exact absurd rfl hne'
   | cons a r=>rfl
  have hszN:k.toNat * its.length<=sizeLine:=by
   have a1:its.length<=10:=by omega
   have a2:k.toNat<=1000000:=by omega
   have:=Nat.mul_le_mul a2 a1
   rw[sizeLine_eq];omega
  have hprod:((its.toArray.size:Nat):Int) * k<=16777216:=by
   have a1:((its.toArray.size:Nat):Int)<=10:=by rw[aao];omega
   have:=Int.mul_le_mul a1 (show k<=1000000 by omega) (by omega) (by omega)
   omega
  refine call_meets F.slot_tuple_mul ⟨_,e,rfl⟩ F.entry_tuple_mul (F.args_tuple_mul_2 _ _) (pT l its.toArray n k t dd sl (by simp;omega) (by rw[hemp];simp;exact hk) (by rw[hemp];simp;omega) (by omega) (by
    unfold Builtin.Tuple.tupleTooMany
    rw[decide_eq_true_iff]
    rw[sizeLine_eq]
    omega) (by rw[f0,aao,B8];exact hszN)) ⟨e,?_⟩
  have I1:=I.laid (a:=s.heap.objs.size) (o:=.tup (List.replicate k.toNat xs).flatten) (h':=s.heap.push { cls:=.type "tuple",data:=.seq (List.foldl (λ x1 x2=>x1++x2) #[] (List.replicate k.toNat its.toArray)) }) (t':=s.toks)
   (λ _ _ q=>aab _ q) (Nat.le_refl _) ⟨by rw[B8,hlen];exact hszN,(List.replicate k.toNat its).flatten,r.rep k.toNat,⟨_,aag _ rfl,rfl,0,by simp only [f0]⟩⟩
  exact⟨.ref _,_,I1,rfl,q _ _ (aK.new I.fresh) (bN.of aB)⟩
end
open MeetsSeq in
theorem yK (l b:Addr) (items items2:Array Value) (n n2:Nat) (dd dd2:Option Addr) (sl sl2:Array (Option Value)) (hsz:items.size=items2.size) :
  Meets (Builtin.«tuple.__ne__» ⟨[.ref l,.ref b],[]⟩)
   (λ A R s=>s.heap.get? l=some { cls:=.type "tuple",dict:=dd,data:=.seq items n,slots:=sl }/\s.heap.get? b=some { cls:=.type "tuple",dict:=dd2,data:=.seq items2 n2,slots:=sl2 }/\
    (∀ j (h1:j < items.size) (h2:j < items2.size),SeqAt.EqAt A.in1 s items[j] items2[j] true)/\
    R (.ok (.ret (.bool false))) s):=
 .of_wp λ prog w A R s h=>by
  obtain⟨hp,g,d,tk,os⟩:=s;obtain⟨hl,hb,he,h⟩:=h
  have f2:=AutoSeq1.sub_tuple_tuple
  have hZ:(items.toList.zip items2.toList).length=min items.size items2.size:=by simp
  wp_walk using AutoSeq1.wpAny_loadPart' hl,AutoSeq1.wpAny_loadPart' hb,wpAny_forIn_list _ (λ rest b s'=>b.1=none/\s'=⟨hp,g,d,tk,os⟩/\∃ i,rest=(items.toList.zip items2.toList).drop i) _
  case turn=>
   rintro⟨y,x⟩ rest b s' ⟨hb',rfl,i,hz⟩
   have hlt:i < (items.toList.zip items2.toList).length:=by
    rcases Nat.lt_or_ge i (items.toList.zip items2.toList).length with h' | h'
    ·exact h'
    ·rw[List.drop_of_length_le h'] at hz;cases hz
   have hm:i < min items.size items2.size:=hZ ▸ hlt
   have h1:i < items.size:=aau hm (Nat.min_le_left _ _)
   have h2:i < items2.size:=aau hm (Nat.min_le_right _ _)
   rw[List.drop_eq_getElem_cons hlt] at hz
   injection hz with hyx hrest
   have hy:y=items[i]:=by have:=congrArg Prod.fst hyx;simpa using this
   have hx:x=items2[i]:=by have:=congrArg Prod.snd hyx;simpa using this
   subst hy hx
   refine wpAny_bind (he i h1 h2 prog w _ _ ?_)
   wp_walk
   exact⟨rfl,rfl,i+1,hrest⟩
  case fin=>
   rintro⟨b1,b2⟩ s' ⟨hb',rfl,i,hz⟩
   simp only at hb'
   subst hb'
   wp_walk
   exact⟨_,rfl,by simpa [Builtin.Tuple.tupleCompareSizes,hsz] using h⟩
  case h=>
   exact⟨rfl,rfl,0,rfl⟩
inductive D where
 | non | bl (b:Bool) | int (i:Int) | str (x:Str) | tup (ds:List D)
mutual
noncomputable def Is (K:aaa) (H:Hp):D->V->Prop
 | .non,v=>v=.non
 | .bl b,v=>v=.bl b
 | .int i,v=>v=.int i
 | .str x,v=>v=.str x
 | .tup ds,v=>∃ a xs,v=.ref a/\bN K H a xs/\IsL K H ds xs
noncomputable def IsL (K:aaa) (H:Hp):List D->List V->Prop
 | [],xs=>xs=[]
 | d::ds,xs=>∃ x r,xs=x::r/\Is K H d x/\IsL K H ds r
end
noncomputable def bM (K:aaa) (H H':Hp):Prop:=∀ a xs,bN K H a xs->bN K H' a xs
theorem bM.refl {K:aaa} (H:Hp):bM K H H:=λ _ _ h=>h
theorem bM.trans {K:aaa}{H H1 H2:Hp} (a:bM K H H1) (b:bM K H1 H2):bM K H H2:=λ c xs h=>b c xs (a c xs h)
theorem aK.ts {K:aaa}{H H':Hp} (e:aK H H'):bM K H H':=λ _ _ h=>e.tup h
mutual
theorem Is.mono {K:aaa}{H H':Hp} (t:bM K H H'):∀ (d:D) (v:V),Is K H d v->Is K H' d v
 | .non,_,h=>h
 | .bl _,_,h=>h
 | .int _,_,h=>h
 | .str _,_,h=>h
 | .tup ds,v,h=>by
  rw[Is] at h ⊢
  obtain⟨a,xs,e,q,l⟩:=h
  exact⟨a,xs,e,t a xs q,IsL.mono t ds xs l⟩
theorem IsL.mono {K:aaa}{H H':Hp} (t:bM K H H'):∀ (ds:List D) (xs:List V),IsL K H ds xs->IsL K H' ds xs
 | [],xs,h=>h
 | d::ds,xs,h=>by
  rw[IsL] at h ⊢
  obtain⟨x,r,e,hx,hr⟩:=h
  exact⟨x,r,e,Is.mono t d x hx,IsL.mono t ds r hr⟩
end
theorem IsL.length {K:aaa}{H:Hp}:∀ {ds:List D}{xs:List V},IsL K H ds xs->xs.length=ds.length
 | [],xs,h=>by rw[IsL] at h;subst h;rfl
 | d::ds,xs,h=>by
  rw[IsL] at h
  obtain⟨x,r,rfl,_,hr⟩:=h
  rw[aax,aax,IsL.length hr]
theorem IsL.get {K:aaa}{H:Hp}:∀ {ds:List D}{xs:List V}{i:Nat}{d:D},IsL K H ds xs->ds[i]? = some d->∃ x,xs[i]? = some x/\Is K H d x
 | [],_,_,_,_,e=>by simp at e
 | d::ds,xs,0,d',h,e=>by
  rw[IsL] at h
  obtain⟨x,r,rfl,hx,hr⟩:=h
  simp at e
  subst e
  exact⟨x,rfl,hx⟩
 | d::ds,xs,i+1,d',h,e=>by
  rw[IsL] at h
  obtain⟨x,r,rfl,hx,hr⟩:=h
  obtain⟨y,h1,h2⟩:=IsL.get hr (i:=i) (by simpa using e)
  exact⟨y,by simpa using h1,h2⟩
theorem IsL.get' {K:aaa}{H:Hp}{ds:List D}{xs:List V}{i:Nat}{x:V} (h:IsL K H ds xs) (e:xs[i]? = some x):∃ d,ds[i]? = some d/\Is K H d x:=by
 have hl:=h.length
 have hi:i < ds.length:=by rw[<- hl];exact (aad.mp e).1
 obtain⟨y,h1,h2⟩:=h.get (i:=i) (d:=ds[i]) (by simp [hi])
 rw[e] at h1
 cases h1
 exact⟨ds[i],by simp [hi],h2⟩
theorem IsL.snoc {K:aaa}{H:Hp}{d:D}{x:V} (hd:Is K H d x):∀ {ds:List D}{xs:List V},IsL K H ds xs->IsL K H (ds++[d]) (xs++[x])
 | [],xs,h=>by
  rw[IsL] at h
  subst h
  show IsL K H [d] [x]
  rw[IsL]
  exact⟨x,[],rfl,hd,by rw[IsL]⟩
 | d'::ds,xs,h=>by
  rw[IsL] at h
  obtain⟨y,r,rfl,hy,hr⟩:=h
  show IsL K H (d'::(ds++[d])) (y::(r++[x]))
  rw[IsL]
  exact⟨y,r++[x],rfl,hy,IsL.snoc hd hr⟩
theorem IsL.ints {K:aaa}{H:Hp}:∀ {ns:List Int}{xs:List V},IsL K H (ns.map D.int) xs->xs=ns.map V.int
 | [],xs,h=>by rw[List.map_nil,IsL] at h;exact h
 | n::ns,xs,h=>by
  rw[aaw,IsL] at h
  obtain⟨x,r,rfl,hx,hr⟩:=h
  rw[Is] at hx
  rw[hx,IsL.ints hr,aaw]
theorem IsL.of_ints {K:aaa}{H:Hp}:∀ (ns:List Int),IsL K H (ns.map D.int) (ns.map V.int)
 | []=>by rw[List.map_nil,List.map_nil,IsL]
 | n::ns=>by
  rw[aaw,aaw,IsL]
  exact⟨_,_,rfl,by rw[Is],IsL.of_ints ns⟩
theorem IsL.bools {K:aaa}{H:Hp}:∀ {ns:List Bool}{xs:List V},IsL K H (ns.map D.bl) xs->xs=ns.map V.bl
 | [],xs,h=>by rw[List.map_nil,IsL] at h;exact h
 | n::ns,xs,h=>by
  rw[aaw,IsL] at h
  obtain⟨x,r,rfl,hx,hr⟩:=h
  rw[Is] at hx
  rw[hx,IsL.bools hr,aaw]
theorem IsL.of_bools {K:aaa}{H:Hp}:∀ (ns:List Bool),IsL K H (ns.map D.bl) (ns.map V.bl)
 | []=>by rw[List.map_nil,List.map_nil,IsL]
 | n::ns=>by
  rw[aaw,aaw,IsL]
  exact⟨_,_,rfl,by rw[Is],IsL.of_bools ns⟩
mutual
noncomputable def D.depth:D->Nat
 | .tup ds=>bK ds+1
 | _=>0
noncomputable def bK:List D->Nat
 | []=>0
 | d::ds=>max d.depth (bK ds)
end
section
variable {X:Cx}{pins:List (Addr×Obj)}{σ:St}{H:Hp}{s:Shared}
mutual
theorem Is.eqAt (I:Inv X pins σ H s):∀ (d:D) (A:Around) (x y:V) (u v:Value),A.units+d.depth < cLine->Is X.K H d x->Is X.K H d y->bE x u->bE y v->SeqAt.EqAt A s u v true
 | .non,A,x,y,u,v,_,hx,hy,rx,ry=>by
  rw[Is] at hx hy;subst hx hy;cases rx;cases ry;exact SeqAt.EqAt.same _
 | .bl b,A,x,y,u,v,_,hx,hy,rx,ry=>by
  rw[Is] at hx hy;subst hx hy;cases rx;cases ry;exact SeqAt.EqAt.same _
 | .int i,A,x,y,u,v,_,hx,hy,rx,ry=>by
  rw[Is] at hx hy;subst hx hy;obtain⟨t,rfl⟩:=rx;obtain⟨t',rfl⟩:=ry
  have:=SeqAt.EqAt.int_int (A:=A) (s:=s) i t i t'
  simpa using this
 | .str z,A,x,y,u,v,_,hx,hy,rx,ry=>by
  rw[Is] at hx hy;subst hx hy;obtain⟨t,rfl⟩:=rx;obtain⟨t',rfl⟩:=ry
  have:=SeqAt.EqAt.str_str (A:=A) (s:=s) z t z t'
  simpa using this
 | .tup ds,A,x,y,u,v,hu,hx,hy,rx,ry=>by
  rw[Is] at hx hy
  obtain⟨a,xs,rfl,q1,l1⟩:=hx
  obtain⟨b,ys,rfl,q2,l2⟩:=hy
  cases rx
  cases ry
  by_cases hab:a=b
  ·subst hab;exact SeqAt.EqAt.same _
  ·obtain⟨us,r1,p1,_⟩:=I.tuple q1
   obtain⟨vs,r2,p2,_⟩:=I.tuple q2
   have hdep:D.depth (.tup ds)=bK ds+1:=by rw[D.depth]
   rw[hdep] at hu
   have e1:=r1.length
   have e2:=r2.length
   have e3:=l1.length
   have e4:=l2.length
   have hu2:A.in1.units+bK ds < cLine:=by
    have:A.in1.units<=A.units+1:=by show A.units+1<=A.units+1;exact Nat.le_refl _
    omega
   have all:=IsL.eqAt I ds A.in1 xs ys us vs hu2 l1 l2 r1 r2
   have hsz:us.toArray.size=vs.toArray.size:=by simp;omega
   have:=SeqAt.RcAt.tuples (A:=A) (s:=s) (e:=λ _=>true) (show s.heap.IsTuple a us.toArray from p1) (show s.heap.IsTuple b vs.toArray from p2) (by omega) λ j h1 h2=>all j us.toArray[j] vs.toArray[j] (by simp) (by simp)
   have e5:((List.range (min us.toArray.size vs.toArray.size)).all (λ _=>true) && us.toArray.size == vs.toArray.size)=true:=by
    rw[hsz];simp
   rw[e5] at this
   exact SeqAt.EqAt.of_refs hab this
theorem IsL.eqAt (I:Inv X pins σ H s):∀ (ds:List D) (A:Around) (xs ys:List V) (us vs:List Value),A.units+bK ds < cLine->IsL X.K H ds xs->IsL X.K H ds ys->bG xs us->bG ys vs->∀ (j:Nat) (u v:Value),us[j]? = some u->vs[j]? = some v->SeqAt.EqAt A s u v true
 | [],A,xs,ys,us,vs,_,hx,hy,rx,ry,j,u,v,eu,ev=>by
  rw[IsL] at hx
  subst hx
  cases rx
  simp at eu
 | d::ds,A,xs,ys,us,vs,hu,hx,hy,rx,ry,j,u,v,eu,ev=>by
  rw[IsL] at hx hy
  obtain⟨x,xr,rfl,hx,hxr⟩:=hx
  obtain⟨y,yr,rfl,hy,hyr⟩:=hy
  have hd:bK (d::ds)=max d.depth (bK ds):=by rw[bK]
  rw[hd] at hu
  cases rx with
  | cons rx rxr=>
   cases ry with
   | cons ry ryr=>
    cases j with
    | zero=>
     simp at eu ev
     subst eu ev
     exact Is.eqAt I d A x y _ _ (by omega) hx hy rx ry
    | succ j=>exact IsL.eqAt I ds A xr yr _ _ (by omega) hxr hyr rxr ryr j u v (by simpa using eu) (by simpa using ev)
end
end
section
variable {X:Cx}
noncomputable def AN (K:aaa):R2:=λ x y H Q=>∃ ds,ds.length<=1000/\bK ds<=20/\Is K H (.tup ds) x/\Is K H (.tup ds) y/\Q (.bl false) H
theorem CQ (hu:X.A.units+64 < cLine):g7 X (compareOp .NotEq) (AN X.K):=by
 intro pins s σ H x y v u Q I rx ry h
 obtain⟨ds,hl,hdep,hx,hy,q⟩:=h
 rw[Is] at hx hy
 obtain⟨a,xs,rfl,q1,l1⟩:=hx
 obtain⟨b,ys,rfl,q2,l2⟩:=hy
 cases rx
 cases ry
 obtain⟨us,r1,p1,_⟩:=I.tuple q1
 obtain⟨vs,r2,p2,_⟩:=I.tuple q2
 have e1:=r1.length
 have e2:=r2.length
 have e3:=l1.length
 have e4:=l2.length
 obtain⟨⟨cls,dd,data,sl⟩,ho,hc,n,hd⟩:=id p1
 obtain⟨⟨cls2,dd2,data2,sl2⟩,ho2,hc2,n2,hd2⟩:=id p2
 simp only at hc hd hc2 hd2
 subst hc hd hc2 hd2
 have hin:∀ A:Around,A.in1.units=A.units+1:=λ A=>rfl
 refine richCompare_meets_room (op:=.NotEq) ⟨_,ho,rfl⟩ ⟨_,ho2,rfl⟩ F.slot_tuple_ne F.entry_tuple_ne (F.args_tuple_ne_2 _ _) (yK a b us.toArray vs.toArray n n2 dd dd2 sl sl2 (by simp;omega))
  ⟨ho,ho2,λ j h1 h2=>IsL.eqAt I ds _ xs ys us vs (by rw[hin];omega) l1 l2 r1 r2 j _ _ (by simp) (by simp),show Value.bool false≠Value.notImplemented/\EP X pins σ Q (.bool false) s from ⟨(λ x=>nomatch x),.bl false,H,I,rfl,q⟩⟩ (by omega)
noncomputable def L4:V->List V->Hp->VK->Prop:=λ x vs H Q=>∃ (l:Addr) (xs:List V) (y:V) (j:Nat),x=.ref l/\vs=[y]/\H l=some (.lst xs)/\iQ y=true/\xs.all iQ=true/\j < xs.length/\(∀ z,xs[j]? = some z->zZ z y=true)/\(∀ i z,i < j->xs[i]? = some z->zZ z y=false)/\Q (.int j) H
theorem rD:MtM X "list.index" L4:=by
 intro pins s σ H x vs v us Q I rx rv h
 obtain⟨l,xs,y,j,rfl,rfl,hH,fy,fx,hj,h1,h2,q⟩:=h
 cases rx
 obtain⟨u,rfl,ru⟩:=rv.one
 obtain⟨z,its,n,r,hl,e⟩:=I.lstM hH
 have key:∀ i (hi:i < its.length),∃ x,xs[i]? = some x/\bE x its[i]/\iQ x=true:=λ i hi=>by
  have hx:xs[i]? = some xs[i]:=by simp [show i < xs.length by omega]
  obtain⟨w',h1,h2⟩:=r.get hx
  have:its[i]? = some its[i]:=by simp [hi]
  rw[this] at h1
  cases h1
  exact⟨_,hx,h2,(abu.mp fx) _ (abf _)⟩
 refine call_meets F.slot_list_index ⟨_,e,rfl⟩ F.entry_list_index (F.args_list_index_2 _ _)
  (SeqAt.list_indexAt l its.toArray n none #[] u (w4 y) j (by rw[aao];omega) (by rw[sizeLine_eq] at z;omega) ?_ ?_) ⟨e,λ w' hw=>?_,⟨.int j,H,I.tok _,⟨_,rfl⟩,q⟩⟩
 ·obtain⟨x,hx,rx,fx'⟩:=key j (by omega)
  have:=vN (x:=y) rx fx'
  show w4 y its[j]=true
  rw[this]
  exact h1 x hx
 ·intro i hi hlt
  have hi':i < its.length:=by simpa using hi
  obtain⟨x,hx,rx,fx'⟩:=key i hi'
  have:=vN (x:=y) rx fx'
  show w4 y its[i]=false
  rw[this]
  exact h2 i x hlt hx
 ·exact iN ru fy r fx w' (by simpa using hw)
end
end L2
namespace L2
open PySem PySem.Spec PyProof.Rows TwZ
structure Callee (P:Program) (w:World) (K:aaa) (mg:Str->Option Value) (base:Heap) (x:Str) (ps:List Str) (k:Nat) (sp:Sp) (f:Addr) (fd:FuncData):Prop where
 ok:FnOk P w K mg base gC k f fd ps sp
 mg:mg x=some (.ref f)
 kp:PySem.W.keepIn K (.ref f)=true
 bd:iU K fd ps []
theorem cU {X:Cx}{x:Str}{ps:List Str}{k n:Nat}{sp:Sp}{f:Addr}{fd:FuncData}{e:Expr}{es:List Expr}{t:TA}{p pos:Pos} (G:Callee X.prog X.w X.K X.mg X.base x ps k sp f fd) (hr:Room n X.A) (ha:PA X (e::es) t) (hg:Gl X x:=by rfl) (hle:k<=n:=by decide)
  (hdb:(x == ("__debug__" : Str))=false:=by decide) (he:starEach (e::es) X.env=(false,eval e X.env)::starEach es X.env:=by rfl) (hpl:(backTo pos (starEach es X.env)).any (·.1)=false:=by rfl) :
  PE X (.Call (.Name x p) (e::es) [] pos) (pZ sp [] E0 t):=kJ G.ok (hr.mono hle) hg G.mg G.kp G.bd .nil jD ha hdb he hpl
theorem gQ:bootBuiltins "isinstance" = some (.builtin "isinstance"):=by decide +kernel
noncomputable def cA (t:Addr) (H H':Hp):Prop:=∀ b o,b≠t->H b=some o->H' b=some o
theorem cA.refl {t:Addr} (H:Hp):cA t H H:=λ _ _ _ h=>h
theorem cA.trans {t:Addr}{H H1 H2:Hp} (a:cA t H H1) (b:cA t H1 H2):cA t H H2:=λ c o hc h=>b c o hc (a c o hc h)
theorem aK.but {t:Addr}{H H':Hp} (a:aK H H'):cA t H H':=λ b o _ h=>a b o h
theorem cA.upd {t:Addr}{H:Hp}{o:HO}:cA t H (upd H t o):=λ b u hb h=>by rw[aM hb];exact h
theorem cA.ts {K:aaa}{t:Addr}{H H':Hp} (a:cA t H H') (hm:iF (H t)):bM K H H':=by
 intro b xs h
 have ne:∀ {o:HO},H b=some o->¬ iF (some o)->b≠t:=λ e n z=>by rw[<- z,e] at hm;exact n hm
 rcases h with (h | ⟨o,h⟩) | h
 ·exact .inl (.inl (a _ _ (ne h (λ z=>z)) h))
 ·exact .inl (.inr ⟨o,a _ _ (ne h (λ z=>z)) h⟩)
 ·exact .inr h
theorem cA.free {t l:Addr}{H H':Hp} (a:cA t H H') (hl:l≠t) (h:H' l=none):H l=none:=by
 cases q:H l with
 | none=>rfl
 | some o=>rw[a l o hl q] at h;cases h
noncomputable def K0 (K:aaa):V->V->Hp->VK->Prop:=λ o i H Q=>∃ (p:Addr) (xs:List V) (k:Int) (v:V),o=.ref p/\i=.int k/\bO K H p xs/\0<=k/\k < 2 ^ 63/\xs[k.toNat]? = some v/\Q v H
theorem GS {X:Cx}:LX X (K0 X.K):=by
 intro pins s σ H o i ov iv Q I ro ri h
 obtain⟨p,xs,k,v,rfl,rfl,hq,h0,h1,hx,q⟩:=h
 cases ro
 obtain⟨t,rfl⟩:=ri
 obtain⟨its,r,pl,hz⟩:=I.list hq
 obtain⟨w',ew,rw'⟩:=r.get hx
 exact wpAny_getItem_list pl.isList h0 h1 (by simpa using ew) ⟨v,H,I,rw',q⟩
theorem vG {n:Nat}{k:Int} (h0:0<=k) (h1:k < n):G9 n k=some k.toNat:=by
 unfold G9
 rw[if_pos h0,if_pos h1]
theorem vU {ar:Type}{xs:List ar}{k:Int}{v:ar} (h0:0<=k) (h:xs[k.toNat]? = some v):BR xs k=some v:=by
 obtain⟨j,rfl⟩:=Int.eq_ofNat_of_zero_le h0
 exact dO (by simpa using h)
theorem Is.tupOf {K:aaa}{H:Hp}{ds:List D}{a:Addr}{xs:List V} (q:bN K H a xs) (l:IsL K H ds xs):Is K H (.tup ds) (.ref a):=by
 rw[Is];exact⟨a,xs,rfl,q,l⟩
theorem Is.un {K:aaa}{H:Hp}{ds:List D}{v:V} (h:Is K H (.tup ds) v):∃ a xs,v=.ref a/\bN K H a xs/\IsL K H ds xs:=by
 rw[Is] at h;exact h
theorem IsL.un {K:aaa}{H:Hp}{d:D}{ds:List D}{xs:List V} (h:IsL K H (d::ds) xs):∃ x r,xs=x::r/\Is K H d x/\IsL K H ds r:=by
 rw[IsL] at h;exact h
theorem IsL.un0 {K:aaa}{H:Hp}{xs:List V} (h:IsL K H [] xs):xs=[]:=by
 rw[IsL] at h;exact h
theorem IsL.cons {K:aaa}{H:Hp}{d:D}{ds:List D}{x:V}{xs:List V} (hd:Is K H d x) (h:IsL K H ds xs):IsL K H (d::ds) (x::xs):=by
 rw[IsL];exact⟨x,xs,rfl,hd,h⟩
theorem IsL.nil {K:aaa}{H:Hp}:IsL K H [] []:=by rw[IsL]
theorem Is.i {K:aaa}{H:Hp} (i:Int):Is K H (.int i) (.int i):=by rw[Is]
theorem Is.b {K:aaa}{H:Hp} (i:Bool):Is K H (.bl i) (.bl i):=by rw[Is]
theorem Is.s {K:aaa}{H:Hp} (i:Str):Is K H (.str i) (.str i):=by rw[Is]
theorem Is.n {K:aaa}{H:Hp}:Is K H .non .non:=by rw[Is]
theorem Is.ui {K:aaa}{H:Hp}{i:Int}{v:V} (h:Is K H (.int i) v):v=.int i:=by rw[Is] at h;exact h
theorem Is.ub {K:aaa}{H:Hp}{i:Bool}{v:V} (h:Is K H (.bl i) v):v=.bl i:=by rw[Is] at h;exact h
theorem Is.us {K:aaa}{H:Hp}{i:Str}{v:V} (h:Is K H (.str i) v):v=.str i:=by rw[Is] at h;exact h
theorem Is.u0 {K:aaa}{H:Hp}{v:V} (h:Is K H .non v):v=.non:=by rw[Is] at h;exact h
end L2
namespace Tw
open PySem L2
structure Vs where
 size:Int
 brim:Int
 outs:List (Option Int×Int)
 holds:Bool
 spill:Option Int
 acts:List (Str×Int)
noncomputable abbrev sE:=Int×Int×Bool
structure Net where
 vs:List Vs
 sps:List sE
noncomputable def HR:Option Int->D
 | none=>.non
 | some i=>.int i
noncomputable def gU:Option Int->V
 | none=>.non
 | some i=>.int i
noncomputable def oZ (o:Option Int×Int):D:=.tup [HR o.1,.int o.2]
noncomputable def nE (a:Str×Int):D:=.tup [.str a.1,.int a.2]
noncomputable def pM (v:Vs):D:=.tup [.int v.size,.int v.brim,.tup (v.outs.map oZ),.bl v.holds,HR v.spill,.tup (v.acts.map nE)]
noncomputable def AE (s:sE):D:=.tup [.int s.1,.int s.2.1,.bl s.2.2]
noncomputable def fC (n:Net):D:=.tup [.tup (n.vs.map pM),.tup (n.sps.map AE)]
noncomputable def AC (held coming:List Int) (doors:List Bool):D:=.tup [.tup (held.map D.int),.tup (coming.map D.int),.tup (doors.map D.bl)]
theorem Is.tg {K:aaa}{H:Hp}{t:Option Int}{v:V} (h:Is K H (HR t) v):v=gU t:=by
 cases t with
 | none=>exact h.u0
 | some i=>exact h.ui
theorem Is.tgOf {K:aaa}{H:Hp} (t:Option Int):Is K H (HR t) (gU t):=by
 cases t with
 | none=>exact Is.n
 | some i=>exact Is.i i
structure OutOk (n:Nat) (o:Option Int×Int):Prop where
 tg:∀ t,o.1=some t->0<=t/\t < n
 lo:1<=o.2
 hi:o.2<=60
structure ActOk (m:Nat) (a:Str×Int):Prop where
 word:a.1 = "open" \/ a.1 = "shut" \/ a.1 = "turn"
 lo:0<=a.2
 hi:a.2 < m
structure VOk (n m:Nat) (v:Vs):Prop where
 size:1<=v.size
 ne:v.outs≠[]
 o3:v.outs.length<=3
 outs:∀ o∈v.outs,OutOk n o
 spill:∀ t,v.spill=some t->0<=t/\t < n
 a3:v.acts.length<=3
 acts:∀ a∈v.acts,ActOk m a
structure NetOk (net:Net):Prop where
 lo:1<=net.vs.length
 hi:net.vs.length<=12
 sp:net.sps.length<=12
 vs:∀ v∈net.vs,VOk net.vs.length net.sps.length v
 sps:∀ s∈net.sps,0<=s.1/\s.1 < net.vs.length
noncomputable def whole (outs:List (Option Int×Int)):Int:=(outs.map (·.2)).sum
theorem BY {n:Nat}:∀ {outs:List (Option Int×Int)},outs≠[]->(∀ o∈outs,OutOk n o)->1<=whole outs
 | [],h,_=>absurd rfl h
 | o::r,_,h=>by
  have h1:=(h o aas).lo
  have h2:0<=whole r:=by
   clear h1
   have:∀ (r:List (Option Int×Int)),(∀ o∈r,OutOk n o)->0<=whole r:=by
    intro r
    induction r with
    | nil=>intro _;exact Int.le_refl _
    | cons o r ih=>
     intro h
     have h1:=(h o aas).lo
     have h2:=ih λ o ho=>h o (aam _ ho)
     show 0<=o.2+whole r
     omega
   exact this r λ o ho=>h o (aam _ ho)
  show 1<=o.2+whole r
  omega
theorem w9 {n:Nat}:∀ {outs:List (Option Int×Int)},(∀ o∈outs,OutOk n o)->whole outs<=60 * outs.length
 | [],_=>Int.le_refl _
 | o::r,h=>by
  have h1:=(h o aas).hi
  have h2:=w9 λ o ho=>h o (aam _ ho)
  show o.2+whole r<=_
  rw[aax]
  omega
noncomputable def bQ (k:Option Int):List (Option Int×Int)->Int
 | []=>0
 | g::r=>(if g.1=k then g.2 else 0)+bQ k r
theorem hG (k:Option Int):∀ (a b:List (Option Int×Int)),bQ k (a++b)=bQ k a+bQ k b
 | [],b=>by simp [bQ]
 | g::r,b=>by
  show (if g.1=k then g.2 else 0)+bQ k (r++b)=(if g.1=k then g.2 else 0)+bQ k r+bQ k b
  rw[hG k r b];omega
noncomputable def cK (v:Vs) (has:Int):Int:=min has v.brim
noncomputable def dD (v:Vs) (has:Int):Bool:=decide (v.size<=cK v has)
noncomputable def iY (v:Vs) (here:Int):List (Option Int×Int):=v.outs.map λ o=>(o.1,here / whole v.outs * o.2)
noncomputable def dZ (v:Vs) (has:Int):List (Option Int×Int):=
 (v.spill,has - cK v has)::(if dD v has=true then iY v (cK v has)++(if v.holds=true then [] else [(none,cK v has % whole v.outs)]) else [])
noncomputable def gI (v:Vs) (has:Int):Int:=if dD v has=true then (if v.holds=true then cK v has % whole v.outs else 0) else cK v has
theorem CB {n m:Nat}{v:Vs} (ok:VOk n m v) (has:Int):(dZ v has).length<=5:=by
 unfold dZ iY
 have:=ok.o3
 split
 ·split <;> simp <;> omega
 ·simp
noncomputable def lD (has:List Int) (s:sE) (d:Bool):List Int:=if d=true then has.set s.1.toNat (has.getD s.1.toNat 0+s.2.1) else has
noncomputable def fE:List Int->List sE->List Bool->List Int
 | has,s::ss,d::ds=>fE (lD has s d) ss ds
 | has,_,_=>has
noncomputable def jG:List Int->List Int->List Int->List Int
 | a::as,b::bs,c::cs=>(a+b+c)::jG as bs cs
 | _,_,_=>[]
noncomputable def bC (net:Net) (held coming poured:List Int) (doors:List Bool):List Int:=fE (jG held coming poured) net.sps doors
noncomputable def dI:List Vs->List Int->List (Option Int×Int)
 | v::vs,h::hs=>dZ v h++dI vs hs
 | _,_=>[]
noncomputable def eN:List Vs->List Int->List Int
 | v::vs,h::hs=>gI v h::eN vs hs
 | _,_=>[]
noncomputable def cQ:Nat->List Vs->List Int->List Nat
 | i,v::vs,h::hs=>if dD v h=true then i::cQ (i+1) vs hs else cQ (i+1) vs hs
 | _,_,_=>[]
noncomputable def pA (doors:List Bool) (a:Str×Int):List Bool:=doors.set a.2.toNat (if a.1 = "open" then true else if a.1 = "turn" then !(doors.getD a.2.toNat false) else false)
noncomputable def dS (doors:List Bool) (as:List (Str×Int)):List Bool:=as.foldl pA doors
noncomputable def cJ (vs:List Vs) (doors:List Bool) (tip:List Nat):List Bool:=tip.foldl (λ ds i=>match vs[i]? with | some v=>dS ds v.acts | none=>ds) doors
noncomputable def eQ (n:Nat) (goes:List (Option Int×Int)):List Int:=(List.range n).map λ (k:Nat)=>bQ (some (k:Int)) goes
structure Tick where
 held:List Int
 coming:List Int
 doors:List Bool
 tip:List Nat
 ground:Int
noncomputable def cO (net:Net) (held coming poured:List Int) (doors:List Bool):Tick:=
 let hs:=bC net held coming poured doors
 ⟨eN net.vs hs,eQ net.vs.length (dI net.vs hs),cJ net.vs doors (cQ 0 net.vs hs),cQ 0 net.vs hs,bQ none (dI net.vs hs)⟩
noncomputable def EA (t:Tick):D:=.tup [AC t.held t.coming t.doors,.tup (t.tip.map λ (i:Nat)=>D.int (i:Int)),.int t.ground]
end Tw
namespace L2
open PySem PySem.Spec PyProof.Rows TwZ
section
variable {K:aaa}{g:TG}{tc:TT}{te:TE}{fr:List (Option Nat)}{σ:St}{H1:Hp}{Q:Addr->Hp->Prop}
theorem eZ {a:Addr}{xs:List V} (Pv:Addr->Nat->List V->St->Hp->Prop) (hq:∀ D i ys σ H,Pv D i ys σ H->bN K H a xs)
  (h0:∀ D,H1 D=none->Pv D 0 [] (BI fr σ) (upd H1 D (.lst []))) (hstop:∀ D ys Z H',Pv D xs.length ys Z H'->Q D H')
  (hgo:∀ D i x ys Z H',xs[i]? = some x->Pv D i ys Z H'->g x Z H' λ ap H3=>tc ap H3 λ b H4=>
    if b=true then te ap H4 λ y H5=>H5 D=some (.lst ys)/\ys.length < sizeLine/\Pv D (i+1) (ys++[y]) ap (upd H5 D (.lst (ys++[y])))
    else Pv D (i+1) ys ap H4):hV (M7 K a) g tc te fr σ H1 Q:=by
 refine rH (n:=xs.length) Pv h0 (λ D ys Z H' p=>⟨⟨xs,hq D _ ys Z H' p,Nat.le_refl _⟩,hstop D ys Z H' p⟩) λ D i ys Z H' hi p=>⟨⟨xs,xs[i],hq D _ ys Z H' p,by simp [hi]⟩,λ x H2 y=>?_⟩
 obtain⟨e,y⟩:=y
 subst e
 exact hgo D i x ys Z _ (y xs (hq D _ ys Z _ p)) p
theorem BA {a:Addr}{xs:List V} (Pv:Addr->Nat->List V->St->Hp->Prop) (hq:∀ D i ys σ H,Pv D i ys σ H->bO K H a xs)
  (h0:∀ D,H1 D=none->Pv D 0 [] (BI fr σ) (upd H1 D (.lst []))) (hstop:∀ D ys Z H',Pv D xs.length ys Z H'->Q D H')
  (hgo:∀ D i x ys Z H',xs[i]? = some x->Pv D i ys Z H'->g x Z H' λ ap H3=>tc ap H3 λ b H4=>
    if b=true then te ap H4 λ y H5=>H5 D=some (.lst ys)/\ys.length < sizeLine/\Pv D (i+1) (ys++[y]) ap (upd H5 D (.lst (ys++[y])))
    else Pv D (i+1) ys ap H4):hV (M0 K a) g tc te fr σ H1 Q:=by
 refine rH (n:=xs.length) Pv h0 (λ D ys Z H' p=>⟨⟨xs,hq D _ ys Z H' p,Nat.le_refl _⟩,hstop D ys Z H' p⟩) λ D i ys Z H' hi p=>⟨⟨xs,xs[i],hq D _ ys Z H' p,by simp [hi]⟩,λ x H2 y=>?_⟩
 obtain⟨e,y⟩:=y
 subst e
 exact hgo D i x ys Z _ (y xs (hq D _ ys Z _ p)) p
theorem rG {n:Nat} (Pv:Addr->Nat->List V->St->Hp->Prop)
  (h0:∀ D,H1 D=none->Pv D 0 [] (BI fr σ) (upd H1 D (.lst []))) (hstop:∀ D ys Z H',Pv D n ys Z H'->Q D H')
  (hgo:∀ D i ys Z H',i < n->Pv D i ys Z H'->g (.int (i:Int)) Z H' λ ap H3=>tc ap H3 λ b H4=>
    if b=true then te ap H4 λ y H5=>H5 D=some (.lst ys)/\ys.length < sizeLine/\Pv D (i+1) (ys++[y]) ap (upd H5 D (.lst (ys++[y])))
    else Pv D (i+1) ys ap H4):hV (KF 0 n) g tc te fr σ H1 Q:=by
 refine rH (n:=n) Pv h0 (λ D ys Z H' p=>⟨Nat.le_refl _,hstop D ys Z H' p⟩) λ D i ys Z H' hi p=>⟨hi,λ x H2 y=>?_⟩
 obtain⟨e,y⟩:=y
 subst e y
 rw[Int.zero_add]
 exact hgo D i ys Z _ hi p
theorem JC {t1 t2 t3:Bool}{a1 a2 a3:Addr}{xs ys zs:List V}{n:Nat} (h1:xs.length=n) (h2:ys.length=n) (h3:zs.length=n) (Pv:Addr->Nat->List V->St->Hp->Prop)
  (hq:∀ D i r σ H,Pv D i r σ H->jH K H t1 a1 xs/\jH K H t2 a2 ys/\jH K H t3 a3 zs)
  (h0:∀ D,H1 D=none->Pv D 0 [] (BI fr σ) (upd H1 D (.lst []))) (hstop:∀ D r Z H',Pv D n r Z H'->Q D H')
  (hgo:∀ D i x y z r Z H' T,xs[i]? = some x->ys[i]? = some y->zs[i]? = some z->Pv D i r Z H'->H' T=none->g (.ref T) Z (upd H' T (.tup [x,y,z])) λ ap H3=>tc ap H3 λ b H4=>
    if b=true then te ap H4 λ y H5=>H5 D=some (.lst r)/\r.length < sizeLine/\Pv D (i+1) (r++[y]) ap (upd H5 D (.lst (r++[y])))
    else Pv D (i+1) r ap H4):hV (LZ K t1 t2 t3 a1 a2 a3) g tc te fr σ H1 Q:=by
 refine rH (n:=n) Pv h0 (λ D r Z H' p=>?_) λ D i r Z H' hi p=>?_
 ·obtain⟨q1,q2,q3⟩:=hq D _ r Z H' p
  exact⟨⟨xs,ys,zs,q1,q2,q3,.inl (by omega)⟩,hstop D r Z H' p⟩
 ·obtain⟨q1,q2,q3⟩:=hq D _ r Z H' p
  refine⟨⟨xs,ys,zs,xs[i]'(by omega),ys[i]'(by omega),zs[i]'(by omega),q1,q2,q3,by simp,by simp,by simp⟩,?_⟩
  rintro v H2 ⟨T,x,y,z,hT,rfl,e1,e2,e3,rfl⟩
  exact hgo D i x y z r Z H' T (e1 xs q1) (e2 ys q2) (e3 zs q3) p hT
end
section
variable {K:aaa}{g:TG}{tb:TS}{D:Ends}{σ:St}{H:Hp}
noncomputable abbrev BU (J:It) (g:TG) (tb:TS) (D:Ends) (σ:St) (H:Hp):Prop:=
 ∃ W:Nat->Nat->St->Hp->Prop,(∃ m,W 0 m σ H)/\∀ i m σ H,W i m σ H->
   (J.stop i H/\D.nx σ H)\/(J.go i H/\∃ N:St->Hp->Prop,(∀ Z H',N Z H'->∃ m',m' < m/\W (i+1) m' Z H')/\∀ x H',J.yld i H x H'->g x σ H' λ bg H2=>tb { D with nx:=N,ct:=N,bk:=D.nx } bg H2)
theorem GU {t1 t2:Bool}{a1 a2:Addr}{xs ys:List V}{n:Nat} (h1:xs.length=n) (h2:ys.length=n) (Pv:Nat->St->Hp->Prop) (hq:∀ i σ H,Pv i σ H->jH K H t1 a1 xs/\jH K H t2 a2 ys)
  (h0:Pv 0 σ H) (hstop:∀ σ H,Pv n σ H->D.nx σ H)
  (hgo:∀ i x y σ H T,xs[i]? = some x->ys[i]? = some y->Pv i σ H->H T=none->g (.ref T) σ (upd H T (.tup [x,y])) λ bg H2=>tb { D with nx:=Pv (i+1),ct:=Pv (i+1),bk:=D.nx } bg H2):BU (JQ K t1 t2 a1 a2) g tb D σ H:=by
 refine BJ (n:=n) Pv h0 (λ σ H p=>?_) λ i σ H hi p=>?_
 ·obtain⟨q1,q2⟩:=hq _ σ H p
  exact⟨⟨xs,ys,q1,q2,.inl (by omega)⟩,hstop σ H p⟩
 ·obtain⟨q1,q2⟩:=hq _ σ H p
  refine⟨⟨xs,ys,xs[i]'(by omega),ys[i]'(by omega),q1,q2,by simp,by simp⟩,?_⟩
  rintro v H2 ⟨T,x,y,hT,rfl,e1,e2,rfl⟩
  exact hgo i x y σ H T (e1 xs q1) (e2 ys q2) p hT
theorem rT {t:Bool}{a:Addr}{xs:List V} (Pv:Nat->St->Hp->Prop) (hq:∀ i σ H,Pv i σ H->jH K H t a xs)
  (h0:Pv 0 σ H) (hstop:∀ σ H,Pv xs.length σ H->D.nx σ H)
  (hgo:∀ i x σ H T,xs[i]? = some x->Pv i σ H->H T=none->g (.ref T) σ (upd H T (.tup [.int (i:Int),x])) λ bg H2=>tb { D with nx:=Pv (i+1),ct:=Pv (i+1),bk:=D.nx } bg H2):BU (Ite K t a) g tb D σ H:=by
 refine BJ (n:=xs.length) Pv h0 (λ σ H p=>?_) λ i σ H hi p=>?_
 ·exact⟨⟨xs,hq _ σ H p,Nat.le_refl _⟩,hstop σ H p⟩
 ·refine⟨⟨xs,xs[i],hq _ σ H p,by simp [hi]⟩,?_⟩
  rintro v H2 ⟨T,x,hT,rfl,e1,rfl⟩
  exact hgo i x σ H T (e1 xs (hq _ σ H p)) p hT
end
theorem nF {σ:St}{H:Hp}{A B:Hp->Prop} (h:A H):EB σ H λ b H4=>if b=true then A H4 else B H4:=by
 show if true=true then A H else B H
 rw[if_pos rfl];exact h
theorem dH {i:Nat}{v:V}{σ:St}{H:Hp}{A B:St->Hp->Prop} (h:A (σ.set i (some v)) H):eK i v σ H λ ap H3=>EB ap H3 λ b H4=>if b=true then A ap H4 else B ap H4:=nF (σ:=σ.set i (some v)) (A:=A (σ.set i (some v))) (B:=B (σ.set i (some v))) h
theorem aK.put {H H':Hp}{p:Addr}{o:HO} (a:aK H H') (h:H p=none):aK H (upd H' p o):=λ b u e=>by rw[aM (aN e h)];exact a b u e
theorem bM.put {K:aaa}{H H':Hp}{p:Addr}{o:HO} (a:bM K H H') (h:H' p=none\/iF (H' p)):bM K H (upd H' p o):=a.trans (by
 rcases h with h | h
 ·exact (aK.new h).ts
 ·exact cA.ts cA.upd h)
noncomputable def KG (i j:Int):Prop:=0 < j/\j < 2 ^ 200
theorem FN {X:Cx}:g7 X (binaryOp .FloorDiv) (rI KG λ i j=>.int (i / j)):=N7 λ i j _ _ _ _ _ hc q=>by
 have h1:(0:Int) < j:=hc.1
 have h2:j < 2 ^ 200:=hc.2
 refine floordiv_int (by omega) (by rw[Int.fdiv_eq_ediv_of_nonneg i (by omega)];exact q) (.inl (PyProof.noPylong_of_log2 ?_))
 have h0:j.natAbs≠0:=by omega
 have h3:j.natAbs < 2 ^ 200:=by omega
 have:=(Nat.log2_lt h0).mpr h3
 omega
theorem lT:bootBuiltins "int" = some (.type "int"):=by decide +kernel
theorem cD:bootBuiltins "tuple" = some (.type "tuple"):=by decide +kernel
theorem kQ:bootBuiltins "list" = some (.type "list"):=by decide +kernel
theorem pL:bootBuiltins "bool" = some (.type "bool"):=by decide +kernel
section
variable {X:Cx}{K:aaa}{tg:Expr}{pos:Pos}
theorem aX {es:List Expr}{k:Nat}{t:KC}{n:Nat} (hK:X.K=K) (hc:X.calm=true) (h:NK X es t)
  (hn:(assignEach es X.env).length=n:=by rfl) (hst:(assignEach es X.env).findIdx? (·.1)=none:=by rfl):PG X (.Tuple es k pos) (NE K n t):=by
 subst hK;exact L9 hc h hn hst
theorem aO (hK:X.K=K):E2 X (wP K):=by subst hK;exact LM
noncomputable def MT (K:aaa):List V->Hp->VK->Prop:=λ xs H Q=>∃ p ys,xs=[.ref p]/\(bO K H p ys\/bN K H p ys)/\Q (.int ys.length) H
theorem bL (hK:X.K=K):eS X (.builtin "len") (MT K):=by subst hK;exact vT
theorem kO (hK:X.K=K) (hc:X.calm=true):eS X (.builtin "sum") (MP K):=by subst hK;exact DT hc
theorem oB (hK:X.K=K) (hc:X.calm=true):eS X (.builtin "all") (N0 K):=by subst hK;exact DX hc
theorem fP (hK:X.K=K):eS X (.builtin "isinstance") (MY K):=by subst hK;exact HI
noncomputable def L0 (K:aaa):List V->Hp->VK->Prop:=λ xs H Q=>∃ p ys,xs=[.ref p]/\((bO K H p ys/\∀ l,H l=none->Q (.ref l) (upd H l (.tup ys)))\/(bN K H p ys/\Q (.ref p) H))
theorem bU (hK:X.K=K):eS X (.type "tuple") (L0 K):=by subst hK;exact sQ
noncomputable def L3 (K:aaa):List V->Hp->VK->Prop:=λ xs H Q=>∃ p ys,xs=[.ref p]/\(bO K H p ys\/bN K H p ys)/\∀ l,H l=none->Q (.ref l) (upd H l (.lst ys))
theorem iS (hK:X.K=K):eS X (.type "list") (L3 K):=by subst hK;exact vS
theorem jW {l:Expr}{tl:TE} (hK:X.K=K) (hl:PE X l tl):PI X tg l (K6 K tl):=by subst hK;exact IN hl
theorem d6 {l:Expr}{tl:TE} (hK:X.K=K) (hl:PE X l tl):PI X tg l (NB K tl):=by subst hK;exact L8 hl
theorem qT {a:Expr}{ta:TA}{p:Pos} (hK:X.K=K) (hg:Gl X "enumerate") (hm:X.mg "enumerate" = none) (ha:PA X [a] ta) (hs:starEach [a] X.env=[(false,eval a X.env)]:=by rfl):PI X tg (.Call (.Name "enumerate" p) [a] [] pos) (K7 K ta):=by
 subst hK;exact IO hg hm ha hs
theorem wU {a b:Expr}{ta:TA}{p:Pos} (hK:X.K=K) (hg:Gl X "zip") (hm:X.mg "zip" = none) (ha:PA X [a,b] ta) (hs:starEach [a,b] X.env=[(false,eval a X.env),(false,eval b X.env)]:=by rfl) (hs2:starEach [b] X.env=[(false,eval b X.env)]:=by rfl) :
  PI X tg (.Call (.Name "zip" p) [a,b] [] pos) (K5 K ta):=by subst hK;exact IM hg hm ha hs hs2
theorem FC {a b c:Expr}{ta:TA}{p:Pos} (hK:X.K=K) (hg:Gl X "zip") (hm:X.mg "zip" = none) (ha:PA X [a,b,c] ta) (hs:starEach [a,b,c] X.env=[(false,eval a X.env),(false,eval b X.env),(false,eval c X.env)]:=by rfl)
  (hs2:starEach [b,c] X.env=[(false,eval b X.env),(false,eval c X.env)]:=by rfl):PI X tg (.Call (.Name "zip" p) [a,b,c] [] pos) (K4 K ta):=by subst hK;exact IL hg hm ha hs hs2
theorem FJ (hK:X.K=K):g7 X (binaryOp .Mult) (JY K):=by subst hK;exact B0
theorem zF (hK:X.K=K) (hu:X.A.units+64 < cLine):g7 X (compareOp .NotEq) (AN K):=by subst hK;exact CQ hu
theorem tM (hK:X.K=K):LX X (K0 K):=by subst hK;exact GS
theorem dF {o e:Expr}{es:List Expr}{to:TE}{t:TA}{name:Str}{apos cpos:Pos}{T id:String}{r:V->List V->Hp->VK->Prop} (hK:X.K=K)
  (pa:PlainAttrs T) (slot:Slot T name id) (hty:typeOf (.builtin id)=pure (.type "method_descriptor")) (hm:MtR X id r) (ho:PE X o to) (ha:PA X (e::es) t)
  (hbase:attributeBase o name X.env (eval o X.env)=eval o X.env:=by rfl)
  (hfew:((backTo cpos (starEach (e::es) X.env)).all (λ x=>!x.1) && (backToKw cpos (keywordEach [] X.env)).all (λ x=>x.1.isSome)
   && decide ((e::es).length+([]:List Keyword).length+(if ([]:List Keyword).isEmpty then 0 else 1) < 30))=true:=by rfl)
  (hline:(apos.endLine == cpos.line)=true:=by rfl) (hs:starEach (e::es) X.env=(false,eval e X.env)::starEach es X.env:=by rfl) (hplain:(backTo cpos (starEach es X.env)).any (·.1)=false:=by rfl) :
  PE X (.Call (.Attribute o name apos) (e::es) [] cpos) (tBM K T r to t):=by subst hK;exact N3 pa slot hty hm ho ha hbase hfew hline hs hplain
end
end L2
namespace L2
open PySem PySem.Spec PyProof.Rows TwZ
section
variable {X:Cx}{tg:Expr}
end
section
variable {prog:Program}{w:World}{A:Around}{R:Result->Shared->Prop}{s:Shared}
end
section
variable {X:Cx}{pins:List (Addr×Obj)}{σ:St}{H:Hp}{s:Shared}{a:Addr}{v:V}{u r:Value}{A:Around}{E:Value->Shared->Prop}{kvs:List (fQ×V)}{k:fQ}
end
section
variable {X:Cx}
end
end L2
namespace Tw
open PySem L2
noncomputable def aQ (i:Nat):Stmt:=PySem.Challenge.pw_tipwell_k35_whole_vessels_renumbered.main.body.getD i (.Pass ⟨0,0,0,0⟩)
structure Txt (mg:Str->Option Value):Prop where
 b_len:mg "len" = none
 b_sum:mg "sum" = none
 b_all:mg "all" = none
 b_max:mg "max" = none
 b_min:mg "min" = none
 b_int:mg "int" = none
 b_tuple:mg "tuple" = none
 b_list:mg "list" = none
 b_bool:mg "bool" = none
 b_range:mg "range" = none
 b_zip:mg "zip" = none
 b_enumerate:mg "enumerate" = none
 b_isinstance:mg "isinstance" = none
 b_divmod:mg "divmod" = none
 b_set:mg "set" = none
 b_sorted:mg "sorted" = none
noncomputable def n4:Option Int->fQ
 | none=>.inr none
 | some i=>.inl i
theorem G7 (k:Option Int):kV (n4 k)=gU k:=by cases k <;> rfl
theorem G6 {a b:Option Int} (h:n4 a=n4 b):a=b:=by
 cases a <;> cases b <;> simp_all [n4]
noncomputable def jE (H:Hp) (d:Addr) (gs:List (Option Int×Int)):Prop:=
 ∃ kvs:List (fQ×V),H d=some (.dK kvs)/\kvs.length<=gs.length/\∀ k:Option Int,(eC kvs (n4 k)).getD (.int 0)=.int (bQ k gs)
theorem jE.mut {H:Hp}{d:Addr}{gs:List (Option Int×Int)} (h:jE H d gs):iF (H d):=by
 obtain⟨kvs,e,_⟩:=h;rw[e];exact trivial
section
variable {P:Program}{w:World}{K:aaa}{mg:Str->Option Value}{base:Heap}
noncomputable def u9:Sp:=λ vs H Q _=>∃ (d:Addr) (t:Option Int) (a:Int) (gs:List (Option Int×Int)),vs=[.ref d,gU t,.int a]/\jE H d gs/\gs.length<=1000/\
 ∀ H',cA d H H'->jE H' d (gs++[(t,a)])->Q .non H'
theorem AH:FnScope ["sent","target","amount"] ["sent","target","amount"] (aJ (aQ 15)):=⟨rfl,rfl,rfl,by decide +kernel,rfl,by decide +kernel,by decide +kernel⟩
theorem IZ {f:Addr}{fd:FuncData} (F:Fun K "send" "send" (aQ 15) f fd) (T:Txt mg):FnOk P w K mg base gC 1 f fd ["sent","target","amount"] u9:=by
 refine F.ok AH (λ vs H Q E h=>?_) (λ cdv A outer s H vs Q E hr h=>?_)
 ·obtain⟨d,t,a,gs,rfl,_⟩:=h;rfl
 ·obtain⟨d,t,a,gs,rfl,⟨kvs,hd,hl,hv⟩,hg,k⟩:=h
  have sc:=AH
  have hu:=K8 hr
  refine⟨_,(aL (IH hu (pv 0) (pv 1) (bA dG (qU hu (pv 0) (pv 1) aH ⟨rfl,rfl,rfl,rfl⟩) (pv 2)) rfl)),?_⟩
  have hget:=A6.k (k:=n4 t) hd
  rw[G7] at hget
  have hput:=HN.k (k:=n4 t) (v:=V.int (bQ t gs+a)) hd (aP (by omega))
  rw[G7] at hput
  refine⟨_,rfl,d,rfl,.inl ⟨kvs,.inl hd⟩,_,rfl,eC kvs (n4 t),hget,_,rfl,_,_,hv t,rfl,_,rfl,_,rfl,d,_,rfl,hput,?_⟩
  refine k _ cA.upd ⟨_,aB,?_,λ k'=>?_⟩
  ·have:=fU kvs (n4 t) (V.int (bQ t gs+a))
   rw[aat];simp;omega
  ·rw[jK,hG]
   by_cases e:k'=t
   ·subst e
    rw[if_pos rfl]
    show V.int _=V.int _
    simp [bQ]
   ·rw[if_neg (λ z=>e (G6 z)),hv k']
    have:¬ t=k':=λ z=>e z.symm
    simp [bQ,this]
end
end Tw
namespace Tw
open PySem L2
section
variable {P:Program}{w:World}{K:aaa}{mg:Str->Option Value}{base:Heap}
theorem cF {ar:Type}{xs:List ar}{i:Nat}{x:ar} (h:xs[i]? = some x):xs.take (i+1)=xs.take i++[x]:=by
 rw[acg,h];rfl
theorem mR {H:Hp}{outs:List (Option Int×Int)}{xs:List V}{i:Nat}{x:V} (l:IsL K H (outs.map oZ) xs) (h:xs[i]? = some x) :
  ∃ o,outs[i]? = some o/\∃ a,x=.ref a/\bN K H a [gU o.1,.int o.2]:=by
 obtain⟨d,hd,hx⟩:=l.get' h
 rw[aah] at hd
 cases e:outs[i]? with
 | none=>rw[e] at hd;cases hd
 | some o=>
  rw[e] at hd
  cases hd
  refine⟨o,rfl,?_⟩
  obtain⟨a,ys,rfl,q,l⟩:=(show Is K H (.tup [HR o.1,.int o.2]) x from hx).un
  obtain⟨y,r,rfl,hy,l⟩:=l.un
  obtain⟨z,r,rfl,hz,l⟩:=l.un
  have:=l.un0
  subst this
  rw[Is.tg hy,hz.ui] at q
  exact⟨a,rfl,q⟩
noncomputable def u8 (K:aaa):Sp:=λ vs H Q _=>∃ (o d:Addr) (has:Int) (outs gs:List (Option Int×Int)) (n:Nat),vs=[.ref o,.int has,.ref d]/\Is K H (.tup (outs.map oZ)) (.ref o)/\jE H d gs/\gs.length+3<=1000/\
 outs≠[]/\outs.length<=3/\(∀ x∈outs,OutOk n x)/\∀ H',cA d H H'->jE H' d (gs++outs.map λ x=>(x.1,has / whole outs * x.2))->Q (.int (has % whole outs)) H'
theorem mH:FnScope ["outs","has","sent","whole","times","target","parts"] ["outs","has","sent"] (aJ (aQ 14)):=⟨rfl,rfl,rfl,by decide +kernel,rfl,by decide +kernel,by decide +kernel⟩
theorem uX {f fS:Addr}{fd fdS:FuncData} (F:Fun K "share_out" "share_out" (aQ 14) f fd) (T:Txt mg) (G_send:Callee P w K mg base "send" ["sent","target","amount"] 1 u9 fS fdS):FnOk P w K mg base gC 2 f fd ["outs","has","sent"] (u8 K):=by
 refine F.ok mH (λ vs H Q E h=>?_) (λ cdv A outer s H vs Q E hr h=>?_)
 ·obtain⟨o,d,has,outs,gs,n,rfl,_⟩:=h;rfl
 ·obtain⟨o,d,has,outs,gs,n,rfl,ho,hd,hg,hne,h3,hok,k⟩:=h
  have sc:=mH
  refine⟨_,(aE (b9 (i:=3) sc.nd rfl (Or.inl rfl) (aU (kO (K:=K) rfl rfl) rfl T.b_sum PyProof.Rows.boot_sum (aA (fZ (λ _ _ h=>h) rfl (LcOk.mk (N':=["target","parts"]) (fr:=[none,none]) rfl trivial rfl rfl rfl rfl rfl trivial) (d6 (K:=K) rfl (pv 0)) (λ _ _ _=>(aX (K:=K) (n:=2) rfl rfl (aF (aG (i:=0) (show (["target","parts"]:List Str).Nodup by decide +kernel) rfl (Or.inl rfl) (Or.inr rfl)) (aF (aG (i:=1) (show (["target","parts"]:List Str).Nodup by decide +kernel) rfl (Or.inl rfl) (Or.inr rfl)) aW)))) (λ _ _ _=>cP) (λ _ _ _=>(pv 1))) aD)))
   (aE (b9 (i:=4) sc.nd rfl (Or.inl rfl) (bA kK (pv 1) (aU (tT rfl) rfl T.b_max PyProof.Rows.boot_max (aA aH (aA (pv 3) aD)))))
   (aE (dY PassesOwn.never rfl (d6 (K:=K) rfl (pv 0)) (aX (K:=K) (n:=2) rfl rfl (aF (aG (i:=5) sc.nd rfl (Or.inl rfl)) (aF (aG (i:=6) sc.nd rfl (Or.inl rfl)) aW))) (aL (bW (cU G_send hr (aA (pv 2) (aA (pv 5) (aA (bA lL (pv 6) (pv 4)) aD)))))))
   (aL (aZ (bA fJ (pv 1) (bA lL (pv 3) (pv 4)))))))),?_⟩
  have hw1:=BY hne hok
  have hw2:=w9 hok
  obtain⟨o',xs,e,hq,hl⟩:=ho.un
  cases e
  have hxl:xs.length=outs.length:=by rw[hl.length,aac]
  refine⟨_,rfl,o,rfl,⟨_,hq⟩,eZ (K:=K) (a:=o) (xs:=xs) (λ D i ys Z H'=>H D=none/\aK H H'/\H' D=some (.lst ys)/\ys=(outs.take i).map (λ x=>V.int x.2)/\∃ x y,Z=[x,y])
   (λ D i ys Z H' p=>p.2.1.tup hq) (λ D hD=>⟨hD,aK.new hD,aB,by simp,none,none,rfl⟩) ?_ ?_⟩
  rotate_left
  ·rintro D i x ys Z H' hx ⟨hD,sm,hDl,rfl,v1,v2,rfl⟩
   obtain⟨ot,hot,a,rfl,qa⟩:=mR hl hx
   have hil:=(aad.mp hot).1
   refine⟨a,_,rfl,sm.tup qa,rfl,_,_,rfl,_,_,rfl,rfl,?_⟩
   refine nF ⟨_,rfl,hDl,aP (by simp;omega),hD,sm.put hD,aB,?_,_,_,rfl⟩
   rw[cF hot];simp
  ·rintro D ys Z H1 ⟨hD,sm,hDl,rfl,_⟩
   rw[hxl,abe] at hDl
   refine⟨false,D,outs.map (·.2),rfl,bO.of (by rw[abv];exact hDl),?_⟩
   refine⟨_,rfl,_,rfl,_,_,rfl,_,_,rfl,rfl,?_,?_⟩
   ·show 0 < (if whole outs > 1 then whole outs else 1)/\(if whole outs > 1 then whole outs else 1) < 1073741824
    split <;> omega
   have hm:(if whole outs > 1 then whole outs else 1)=whole outs:=by split <;> omega
   show iG _ _ _ [some (V.ref o),some (V.int has),some (V.ref d),some (V.int (whole outs)),some (V.int (has / (if whole outs > 1 then whole outs else 1))),none,none] _
   rw[hm]
   have hd1:jE H1 d gs:=by obtain⟨kvs,e,r⟩:=hd;exact⟨kvs,sm _ _ e,r⟩
   have tsH:bM K H H1:=sm.ts
   refine⟨_,rfl,o,rfl,⟨_,sm.tup hq⟩,pK (K:=K) (a:=o) (xs:=xs) (λ i Z H'=>cA d H1 H'/\jE H' d (gs++(outs.take i).map λ x=>(x.1,has / whole outs * x.2))/\
    ∃ x y,Z=[some (V.ref o),some (V.int has),some (V.ref d),some (V.int (whole outs)),some (V.int (has / whole outs)),x,y]) ⟨cA.refl _,by simpa using hd1,none,none,rfl⟩
    (λ i Z H' _ p=>(p.1.ts hd1.mut) _ _ (sm.tup hq)) ?_ ?_⟩
   ·rintro i x Z H2 hx ⟨bt,dg,v1,v2,rfl⟩
    obtain⟨ot,hot,a,rfl,qa⟩:=mR hl hx
    have hil:=(aad.mp hot).1
    have hom:=hok ot (aaj hot)
    refine⟨a,_,rfl,(bt.ts hd1.mut) _ _ (sm.tup qa),rfl,_,_,rfl,_,_,rfl,rfl,?_⟩
    refine⟨_,rfl,_,rfl,_,rfl,_,rfl,_,_,rfl,rfl,.inl ⟨by have:=hom.lo;omega,by have:=hom.hi;omega⟩,d,ot.1,ot.2 * (has / whole outs),_,rfl,dg,by simp;omega,λ H' bt' dg'=>?_⟩
    refine⟨bt.trans bt',?_,_,_,rfl⟩
    rw[cF hot,aai,<- ach]
    rw[Int.mul_comm] at dg'
    exact dg'
   ·rintro Z H2 ⟨bt,dg,v1,v2,rfl⟩
    rw[hxl,abe] at dg
    refine⟨_,rfl,_,rfl,_,rfl,_,_,rfl,rfl,.inl ⟨by omega,by omega⟩,_,_,rfl,rfl,?_⟩
    have e:has - whole outs * (has / whole outs)=has % whole outs:=by
     have:=Int.emod_add_mul_ediv has (whole outs);omega
    show Q (V.int (has - whole outs * (has / whole outs))) H2
    rw[e]
    exact k H2 (sm.but.trans bt) dg
theorem sU {H:Hp}{v:Vs}{x:V} (h:Is K H (pM v) x):∃ (a:Addr) (o c:V),x=.ref a/\bN K H a [.int v.size,.int v.brim,o,.bl v.holds,gU v.spill,c]/\Is K H (.tup (v.outs.map oZ)) o/\Is K H (.tup (v.acts.map nE)) c:=by
 obtain⟨a,xs,rfl,q,l⟩:=(show Is K H (.tup [.int v.size,.int v.brim,.tup (v.outs.map oZ),.bl v.holds,HR v.spill,.tup (v.acts.map nE)]) x from h).un
 obtain⟨x1,r,rfl,h1,l⟩:=l.un
 obtain⟨x2,r,rfl,h2,l⟩:=l.un
 obtain⟨x3,r,rfl,h3,l⟩:=l.un
 obtain⟨x4,r,rfl,h4,l⟩:=l.un
 obtain⟨x5,r,rfl,h5,l⟩:=l.un
 obtain⟨x6,r,rfl,h6,l⟩:=l.un
 have:=l.un0
 subst this
 rw[h1.ui,h2.ui,h4.ub,Is.tg h5] at q
 exact⟨a,x3,x6,rfl,q,h3,h6⟩
noncomputable def qC (K:aaa):Sp:=λ vs H Q _=>∃ (x:V) (d:Addr) (has:Int) (v:Vs) (gs:List (Option Int×Int)) (n m:Nat),vs=[x,.int has,.ref d]/\Is K H (pM v) x/\jE H d gs/\gs.length+5<=1000/\VOk n m v/\
 ∀ p H',cA d H H'->jE H' d (gs++dZ v has)->bN K H' p [.int (gI v has),.bl (dD v has)]->Q (.ref p) H'
theorem sZ:FnScope ["vessel","has","sent","size","brim","outs","holds","spill","acts","over","left"] ["vessel","has","sent"] (aJ (aQ 13)):=⟨rfl,rfl,rfl,by decide +kernel,rfl,by decide +kernel,by decide +kernel⟩
theorem CV {f fS fO:Addr}{fd fdS fdO:FuncData} (F:Fun K "settle" "settle" (aQ 13) f fd) (T:Txt mg) (G_send:Callee P w K mg base "send" ["sent","target","amount"] 1 u9 fS fdS)
  (G_share_out:Callee P w K mg base "share_out" ["outs","has","sent"] 2 (u8 K) fO fdO):FnOk P w K mg base gC 3 f fd ["vessel","has","sent"] (qC K):=by
 refine F.ok sZ (λ vs H Q E h=>?_) (λ cdv A outer s H vs Q E hr h=>?_)
 ·obtain⟨x,d,has,v,gs,n,m,rfl,_⟩:=h;rfl
 ·obtain⟨x,d,has,v,gs,n,m,rfl,hx,hd,hg,ok,k⟩:=h
  have sc:=sZ
  refine⟨_,(aE (bZ (pv 0) (aX (K:=K) (n:=6) rfl rfl (aF (aG (i:=3) sc.nd rfl (Or.inl rfl)) (aF (aG (i:=4) sc.nd rfl (Or.inl rfl)) (aF (aG (i:=5) sc.nd rfl (Or.inl rfl)) (aF (aG (i:=6) sc.nd rfl (Or.inl rfl)) (aF (aG (i:=7) sc.nd rfl (Or.inl rfl)) (aF (aG (i:=8) sc.nd rfl (Or.inl rfl)) aW))))))))
   (aE (b9 (i:=9) sc.nd rfl (Or.inl rfl) (aU (tT rfl) rfl T.b_max PyProof.Rows.boot_max (aA aH (aA (bA fJ (pv 1) (pv 4)) aD))))
   (aE (bW (cU G_send hr (aA (pv 2) (aA (pv 7) (aA (pv 9) aD)))))
   (aE (zB (i:=1) sc.nd rfl (Or.inl rfl) (pv 9) LO)
   (aE (d8 (cT wZ (pv 1) (pv 3) (cR _)) (aL (aZ (bS (aA (pv 1) (aA gN aD))))) bJ)
   (aE (b9 (i:=10) sc.nd rfl (Or.inl rfl) (cU G_share_out hr (aA (pv 5) (aA (pv 1) (aA (pv 2) aD)))))
   (aE (d8 (dL (pv 6)) (aL (aZ (bS (aA (pv 10) (aA gN aD))))) bJ)
   (aE (bW (cU G_send hr (aA (pv 2) (aA gM (aA (pv 10) aD)))))
   (aL (aZ (bS (aA aH (aA gN aD))))))))))))),?_⟩
  obtain⟨a,o,c,rfl,q,ho,hc⟩:=sU hx
  refine⟨_,rfl,a,_,rfl,q,rfl,_,_,rfl,_,_,rfl,_,_,rfl,_,_,rfl,_,_,rfl,_,_,rfl,rfl,?_⟩
  refine⟨_,rfl,_,rfl,_,_,rfl,rfl,_,_,rfl,?_⟩
  have eo:(if has - v.brim > 0 then has - v.brim else 0)=has - cK v has:=by unfold cK;split <;> omega
  show iG _ _ _ [some (V.ref a),some (V.int has),some (V.ref d),some (V.int v.size),some (V.int v.brim),some o,some (V.bl v.holds),some (gU v.spill),some c,some (V.int (if has - v.brim > 0 then has - v.brim else 0)),none] _
  rw[eo]
  refine⟨_,rfl,_,rfl,_,rfl,d,v.spill,has - cK v has,gs,rfl,hd,by omega,λ H1 b1 d1=>?_⟩
  have ts1:bM K H H1:=b1.ts hd.mut
  refine⟨_,rfl,_,rfl,_,_,rfl,rfl,?_⟩
  have eh:has - (has - cK v has)=cK v has:=by omega
  show iG _ _ _ [some (V.ref a),some (V.int (has - (has - cK v has))),some (V.ref d),some (V.int v.size),some (V.int v.brim),some o,some (V.bl v.holds),some (gU v.spill),some c,some (V.int (has - cK v has)),none] _
  rw[eh]
  refine⟨_,rfl,_,rfl,_,_,rfl,rfl,_,rfl,?_⟩
  refine n6 (λ hlt=>?_) (λ hge=>?_)
  ·have hlt':cK v has < v.size:=of_decide_eq_true hlt
   have ht:dD v has=false:=decide_eq_false (by omega)
   refine⟨_,rfl,(show 2<=sizeLine by decide),λ p hp=>?_⟩
   refine k p _ (b1.trans (aK.new hp).but) ?_ ?_
   ·have:dZ v has=[(v.spill,has - cK v has)]:=by unfold dZ;rw[ht];rfl
    rw[this]
    obtain⟨kvs,e,r⟩:=d1
    exact⟨kvs,aK.new hp _ _ e,r⟩
   ·have:gI v has=cK v has:=by unfold gI;rw[ht];rfl
    rw[this,ht]
    exact bN.of aB
  ·have hge':v.size<=cK v has:=by simpa using hge
   have ht:dD v has=true:=decide_eq_true hge'
   obtain⟨oa,os,rfl,_,_⟩:=ho.un
   refine⟨_,rfl,_,rfl,_,rfl,oa,d,cK v has,v.outs,_,n,rfl,Is.mono ts1 _ _ ho,d1,by simp;omega,ok.ne,ok.o3,ok.outs,λ H2 b2 d2=>?_⟩
   refine⟨_,rfl,_,rfl,?_⟩
   cases hh:v.holds with
   | true=>
    refine gA ?_
    refine⟨_,rfl,(show 2<=sizeLine by decide),λ p hp=>?_⟩
    refine k p _ (b1.trans (b2.trans (aK.new hp).but)) ?_ ?_
    ·have:gs++dZ v has=(gs++[(v.spill,has - cK v has)])++v.outs.map λ x=>(x.1,cK v has / whole v.outs * x.2):=by
      unfold dZ iY;rw[ht,hh];simp
     rw[this]
     obtain⟨kvs,e,r⟩:=d2
     exact⟨kvs,aK.new hp _ _ e,r⟩
    ·have:gI v has=cK v has % whole v.outs:=by unfold gI;rw[ht,hh];rfl
     rw[this,ht]
     exact bN.of aB
   | false=>
    refine eU ?_
    refine⟨_,rfl,_,rfl,d,none,cK v has % whole v.outs,_,rfl,d2,by simp;have:=ok.o3;omega,λ H3 b3 d3=>?_⟩
    refine⟨(show 2<=sizeLine by decide),λ p hp=>?_⟩
    refine k p _ (b1.trans (b2.trans (b3.trans (aK.new hp).but))) ?_ ?_
    ·have:gs++dZ v has=((gs++[(v.spill,has - cK v has)])++v.outs.map λ x=>(x.1,cK v has / whole v.outs * x.2))++[(none,cK v has % whole v.outs)]:=by
      unfold dZ iY;rw[ht,hh];simp
     rw[this]
     obtain⟨kvs,e,r⟩:=d3
     exact⟨kvs,aK.new hp _ _ e,r⟩
    ·have:gI v has=0:=by unfold gI;rw[ht,hh];rfl
     rw[this,ht]
     exact bN.of aB
end
end Tw
namespace Tw
open PySem L2
section
variable {P:Program}{w:World}{K:aaa}{mg:Str->Option Value}{base:Heap}
theorem kS {H:Hp}{acts:List (Str×Int)}{xs:List V}{i:Nat}{x:V} (l:IsL K H (acts.map nE) xs) (h:xs[i]? = some x) :
  ∃ o,acts[i]? = some o/\∃ a,x=.ref a/\bN K H a [.str o.1,.int o.2]:=by
 obtain⟨d,hd,hx⟩:=l.get' h
 rw[aah] at hd
 cases e:acts[i]? with
 | none=>rw[e] at hd;cases hd
 | some o=>
  rw[e] at hd
  cases hd
  refine⟨o,rfl,?_⟩
  obtain⟨a,ys,rfl,q,l⟩:=(show Is K H (.tup [.str o.1,.int o.2]) x from hx).un
  obtain⟨y,r,rfl,hy,l⟩:=l.un
  obtain⟨z,r,rfl,hz,l⟩:=l.un
  have:=l.un0
  subst this
  rw[hy.us,hz.ui] at q
  exact⟨a,rfl,q⟩
theorem HK (ds:List Bool) (a:Str×Int):(pA ds a).length=ds.length:=by unfold pA;simp
theorem oE:∀ (as:List (Str×Int)) (ds:List Bool),(dS ds as).length=ds.length
 | [],ds=>rfl
 | a::as,ds=>by
  show (dS (pA ds a) as).length=_
  rw[oE as,HK]
theorem j9 (vs:List Vs):∀ (tip:List Nat) (ds:List Bool),(cJ vs ds tip).length=ds.length
 | [],ds=>rfl
 | i::r,ds=>by
  show (cJ vs (match vs[i]? with | some v=>dS ds v.acts | none=>ds) r).length=_
  rw[j9 vs r]
  cases vs[i]? with
  | none=>rfl
  | some v=>exact oE _ _
theorem A5 (ds:List Bool) (as:List (Str×Int)) (a:Str×Int):dS ds (as++[a])=pA (dS ds as) a:=by
 unfold dS;rw[List.foldl_append];rfl
theorem xU (vs:List Vs) (ds:List Bool) (tip:List Nat) (i:Nat) (v:Vs) (h:vs[i]? = some v):cJ vs ds (tip++[i])=dS (cJ vs ds tip) v.acts:=by
 unfold cJ;rw[List.foldl_append]
 show (match vs[i]? with | some v=>_ | none=>_)=_
 rw[h]
noncomputable def uL (K:aaa):Sp:=λ args H Q _=>∃ (x y:V) (t:Addr) (vs:List Vs) (doors:List Bool) (tip:List Nat) (n:Nat),args=[x,y,.ref t]/\Is K H (.tup (vs.map pM)) x/\Is K H (.tup (doors.map D.bl)) y/\
 bO K H t (tip.map λ (i:Nat)=>V.int (i:Int))/\(∀ i∈tip,i < vs.length)/\(∀ v∈vs,VOk n doors.length v)/\doors.length<=12/\
 ∀ p H',aK H H'->Is K H' (.tup ((cJ vs doors tip).map D.bl)) p->Q p H'
theorem jC:FnScope ["vessels","doors","tipped","behind","number","size","brim","outs","holds","spill","acts","word","spout"] ["vessels","doors","tipped"] (aJ (aQ 16)):=⟨rfl,rfl,rfl,by decide +kernel,rfl,by decide +kernel,by decide +kernel⟩
theorem p8 {f:Addr}{fd:FuncData} (F:Fun K "doors_behind" "doors_behind" (aQ 16) f fd) (T:Txt mg):FnOk P w K mg base gC 1 f fd ["vessels","doors","tipped"] (uL K):=by
 refine F.ok jC (λ vs H Q E h=>?_) (λ cdv A outer s H vs Q E hr h=>?_)
 ·obtain⟨x,y,t,vs,doors,tip,n,rfl,_⟩:=h;rfl
 ·obtain⟨x,y,t,vs,doors,tip,n,rfl,hx,hy,ht,htip,hok,hm,k⟩:=h
  have sc:=jC
  refine⟨_,(aE (b9 (i:=3) sc.nd rfl (Or.inl rfl) (aY (iS (K:=K) rfl) rfl T.b_list kQ (aA (pv 1) aD)))
   (aE (dY PassesOwn.never rfl (jW (K:=K) rfl (pv 2)) (aG (i:=4) sc.nd rfl (Or.inl rfl)) (aE (bZ (b0 (aO (K:=K) rfl) (pv 0) (pv 4) (λ _ _=>rfl)) (aX (K:=K) (n:=6) rfl rfl (aF (aG (i:=5) sc.nd rfl (Or.inl rfl)) (aF (aG (i:=6) sc.nd rfl (Or.inl rfl)) (aF (aG (i:=7) sc.nd rfl (Or.inl rfl)) (aF (aG (i:=8) sc.nd rfl (Or.inl rfl)) (aF (aG (i:=9) sc.nd rfl (Or.inl rfl)) (aF (aG (i:=10) sc.nd rfl (Or.inl rfl)) aW))))))))
   (aL (dY PassesOwn.never rfl (d6 (K:=K) rfl (pv 10)) (aX (K:=K) (n:=2) rfl rfl (aF (aG (i:=11) sc.nd rfl (Or.inl rfl)) (aF (aG (i:=12) sc.nd rfl (Or.inl rfl)) aW))) (aL (bZ (FF (g8 tG (pv 11) hJ (cR _)) (gL (fI (g8 tG (pv 11) hJ (cR _)) (gL (uU (b0 (aO (K:=K) rfl) (pv 3) (pv 12) (λ _ _=>rfl))))))) (uT (pv 3) (pv 12) iI)))))))
   (aL (aZ (aY (bU (K:=K) rfl) rfl T.b_tuple cD (aA (pv 3) aD)))))),?_⟩
  obtain⟨ax,xs,rfl,qx,lx⟩:=hx.un
  obtain⟨ay,ys,rfl,qy,ly⟩:=hy.un
  have ey:=ly.bools
  subst ey
  have exl:xs.length=vs.length:=by rw[lx.length,aac]
  refine⟨_,rfl,ay,_,rfl,.inr qy,λ b hb=>?_⟩
  have nb:∀ {c:Addr}{o:HO},H c=some o->c≠b:=λ e=>aN e hb
  refine⟨_,rfl,t,rfl,⟨_,(aK.new hb).seq ht⟩,rS (K:=K) (a:=t) (xs:=tip.map λ (i:Nat)=>V.int (i:Int))
   (λ i Z H'=>aK H H'/\H' b=some (.lst ((cJ vs doors (tip.take i)).map V.bl))/\∃ v4 v5 v6 v7 v8 v9 v10 v11 v12,Z=[some (.ref ax),some (.ref ay),some (.ref t),some (.ref b),v4,v5,v6,v7,v8,v9,v10,v11,v12])
   ⟨aK.new hb,aB,none,none,none,none,none,none,none,none,none,rfl⟩ (λ i Z H' _ p=>p.1.seq ht) ?_ ?_⟩
  ·rintro i x Z H1 hi ⟨sm,hbl,v4,v5,v6,v7,v8,v9,v10,v11,v12,rfl⟩
   rw[aah] at hi
   obtain⟨j,hj,rfl⟩:=aap.mp hi
   have hjv:=htip j (aaj hj)
   have hv:vs[j]? = some vs[j]:=by simp [hjv]
   have hvok:=hok vs[j] (abf hjv)
   obtain⟨xv,hxv,ixv⟩:=lx.get (i:=j) (d:=pM vs[j]) (by rw[aah,hv];rfl)
   obtain⟨va,o,c,rfl,qv,ho,hc⟩:=sU ixv
   refine⟨_,rfl,_,rfl,.inr (.inl ⟨ax,xs,j,_,rfl,rfl,sm.tup qx,dO hxv,va,_,rfl,sm.tup qv,rfl,_,_,rfl,_,_,rfl,_,_,rfl,_,_,rfl,_,_,rfl,_,_,rfl,rfl,?_⟩)⟩
   obtain⟨ca,cs,rfl,qc,lc⟩:=hc.un
   have ecs:cs.length=vs[j].acts.length:=by rw[lc.length,aac]
   refine⟨_,rfl,ca,rfl,⟨_,sm.tup qc⟩,pK (K:=K) (a:=ca) (xs:=cs)
    (λ l Z H'=>aK H H'/\H' b=some (.lst ((dS (cJ vs doors (tip.take i)) (vs[j].acts.take l)).map V.bl))/\
     ∃ u11 u12,Z=[some (.ref ax),some (.ref ay),some (.ref t),some (.ref b),some (.int (j:Int)),some (.int vs[j].size),some (.int vs[j].brim),some o,some (.bl vs[j].holds),some (gU vs[j].spill),some (.ref ca),u11,u12])
    ⟨sm,hbl,v11,v12,rfl⟩ (λ l Z H' _ p=>p.1.tup qc) ?_ ?_⟩
   ·rintro l x Z H2 hl ⟨sm2,hb2,u11,u12,rfl⟩
    obtain⟨at',hat,aa,rfl,qa⟩:=kS lc hl
    have aok:=hvok.acts at' (aaj hat)
    refine⟨aa,_,rfl,sm2.tup qa,rfl,_,_,rfl,_,_,rfl,rfl,?_⟩
    have hdl:(dS (cJ vs doors (tip.take i)) (vs[j].acts.take l)).length=doors.length:=by rw[oE,j9]
    have hsp:at'.2.toNat < (dS (cJ vs doors (tip.take i)) (vs[j].acts.take l)).length:=by rw[hdl];have:=aok.lo;have:=aok.hi;omega
    have fin:∀ c:Bool,c=(if at'.1 = "open" then true else if at'.1 = "turn" then !((dS (cJ vs doors (tip.take i)) (vs[j].acts.take l)).getD at'.2.toNat false) else false)->
      aK H (upd H2 b (.lst (((dS (cJ vs doors (tip.take i)) (vs[j].acts.take l)).map V.bl).set at'.2.toNat (.bl c))))/\
      upd H2 b (.lst (((dS (cJ vs doors (tip.take i)) (vs[j].acts.take l)).map V.bl).set at'.2.toNat (.bl c))) b=some (.lst ((dS (cJ vs doors (tip.take i)) (vs[j].acts.take (l+1))).map V.bl)):=λ c hc=>by
     refine⟨sm2.put hb,?_⟩
     rw[aB,cF hat,A5,pA,<- hc,List.map_set]
    have set:∀ c:Bool,c=(if at'.1 = "open" then true else if at'.1 = "turn" then !((dS (cJ vs doors (tip.take i)) (vs[j].acts.take l)).getD at'.2.toNat false) else false)->
      GT (cZ 3) (cZ 12) wN (.bl c) [some (.ref ax),some (.ref ay),some (.ref t),some (.ref b),some (.int (j:Int)),some (.int vs[j].size),some (.int vs[j].brim),some o,some (.bl vs[j].holds),some (gU vs[j].spill),some (.ref ca),some (.str at'.1),some (.int at'.2)] H2
       λ Z H'=>aK H H'/\H' b=some (.lst ((dS (cJ vs doors (tip.take i)) (vs[j].acts.take (l+1))).map V.bl))/\
        ∃ u11 u12,Z=[some (.ref ax),some (.ref ay),some (.ref t),some (.ref b),some (.int (j:Int)),some (.int vs[j].size),some (.int vs[j].brim),some o,some (.bl vs[j].holds),some (gU vs[j].spill),some (.ref ca),u11,u12]:=λ c hc=>by
     obtain⟨f1,f2⟩:=fin c hc
     refine⟨_,rfl,_,rfl,b,_,at'.2,at'.2.toNat,rfl,rfl,hb2,vG aok.lo (by rw[aac];omega),f1,f2,_,_,rfl⟩
    refine⟨_,rfl,rfl,_,rfl,?_⟩
    refine n6 (λ h1=>?_) (λ h1=>?_)
    ·have e1:at'.1 = "open" := by have:=of_decide_eq_true h1;injection this
     exact set true (by rw[if_pos e1])
    ·have e1:¬ at'.1 = "open" := λ z=>h1 (decide_eq_true (by rw[z]))
     refine⟨_,rfl,rfl,_,rfl,?_⟩
     refine n6 (λ h2=>?_) (λ h2=>?_)
     ·have e2:at'.1 = "turn" := by have:=of_decide_eq_true h2;injection this
      have hg:((dS (cJ vs doors (tip.take i)) (vs[j].acts.take l)).map V.bl)[at'.2.toNat]? = some (.bl ((dS (cJ vs doors (tip.take i)) (vs[j].acts.take l)).getD at'.2.toNat false)):=by
       rw[aah,aae];simp [hsp]
      refine⟨_,rfl,_,rfl,.inl ⟨b,_,at'.2,_,rfl,rfl,bO.of hb2,vU aok.lo hg,_,rfl,?_⟩⟩
      exact set _ (by rw[if_neg e1,if_pos e2])
     ·have e2:¬ at'.1 = "turn" := λ z=>h2 (decide_eq_true (by rw[z]))
      exact set false (by rw[if_neg e1,if_neg e2])
   ·rintro Z H2 ⟨sm2,hb2,u11,u12,rfl⟩
    rw[ecs,abe] at hb2
    refine⟨sm2,?_,_,_,_,_,_,_,_,_,_,rfl⟩
    rw[cF hj,xU vs doors _ j vs[j] hv]
    exact hb2
  ·rintro Z H1 ⟨sm,hbl,v4,v5,v6,v7,v8,v9,v10,v11,v12,rfl⟩
   rw[aac,abe] at hbl
   refine⟨_,rfl,b,_,rfl,.inl ⟨bO.of hbl,λ l hl=>?_⟩⟩
   exact k _ _ (sm.trans (aK.new hl)) (Is.tupOf (bN.of aB) (IsL.of_bools _))
end
end Tw
namespace Tw
open PySem L2
theorem gR:∀ {a b c:List Int}{n:Nat},a.length=n->b.length=n->c.length=n->(jG a b c).length=n
 | [],b,c,n,h,_,_=>by simp at h;subst h;rfl
 | x::a,[],c,n,h1,h2,_=>by simp at h1 h2;omega
 | x::a,y::b,[],n,h1,_,h3=>by simp at h1 h3;omega
 | x::a,y::b,z::c,n,h1,h2,h3=>by
  simp at h1 h2 h3
  show (jG a b c).length+1=n
  rw[gR (n:=n - 1) (by omega) (by omega) (by omega)];omega
theorem y6:∀ {a b c:List Int}{i:Nat}{x y z:Int},a[i]? = some x->b[i]? = some y->c[i]? = some z->(jG a b c)[i]? = some (x+y+z)
 | [],_,_,i,_,_,_,h,_,_=>by simp at h
 | _::_,[],_,i,_,_,_,_,h,_=>by simp at h
 | _::_,_::_,[],i,_,_,_,_,_,h=>by simp at h
 | a::as,b::bs,c::cs,0,x,y,z,h1,h2,h3=>by simp at h1 h2 h3;subst h1 h2 h3;rfl
 | a::as,b::bs,c::cs,i+1,x,y,z,h1,h2,h3=>by
  show (jG as bs cs)[i]? = _
  exact y6 (by simpa using h1) (by simpa using h2) (by simpa using h3)
theorem tP (has:List Int) (s:sE) (d:Bool):(lD has s d).length=has.length:=by unfold lD;split <;> simp
theorem gG:∀ (ss:List sE) (ds:List Bool) (has:List Int),(fE has ss ds).length=has.length
 | [],ds,has=>by cases ds <;> rfl
 | s::ss,[],has=>rfl
 | s::ss,d::ds,has=>by show (fE (lD has s d) ss ds).length=_;rw[gG ss ds,tP]
theorem rW:∀ (ss:List sE) (ds:List Bool) (i:Nat) (has:List Int) (s:sE) (d:Bool),ss[i]? = some s->ds[i]? = some d->fE has (ss.take (i+1)) (ds.take (i+1))=lD (fE has (ss.take i) (ds.take i)) s d
 | [],_,i,_,_,_,h,_=>by simp at h
 | _::_,[],i,_,_,_,_,h=>by simp at h
 | a::ss,b::ds,0,has,s,d,h1,h2=>by simp at h1 h2;subst h1 h2;simp [fE]
 | a::ss,b::ds,i+1,has,s,d,h1,h2=>by
  simp only [List.take_succ_cons,fE]
  exact rW ss ds i _ s d (by simpa using h1) (by simpa using h2)
theorem rO:∀ (vs:List Vs) (hs:List Int) (i:Nat) (v:Vs) (h:Int),vs[i]? = some v->hs[i]? = some h->dI (vs.take (i+1)) (hs.take (i+1))=dI (vs.take i) (hs.take i)++dZ v h
 | [],_,i,_,_,h,_=>by simp at h
 | _::_,[],i,_,_,_,h=>by simp at h
 | a::vs,b::hs,0,v,h,h1,h2=>by simp at h1 h2;subst h1 h2;simp [dI]
 | a::vs,b::hs,i+1,v,h,h1,h2=>by
  simp only [List.take_succ_cons,dI,ach]
  rw[rO vs hs i v h (by simpa using h1) (by simpa using h2)]
theorem oJ:∀ (vs:List Vs) (hs:List Int) (i:Nat) (v:Vs) (h:Int),vs[i]? = some v->hs[i]? = some h->eN (vs.take (i+1)) (hs.take (i+1))=eN (vs.take i) (hs.take i)++[gI v h]
 | [],_,i,_,_,h,_=>by simp at h
 | _::_,[],i,_,_,_,h=>by simp at h
 | a::vs,b::hs,0,v,h,h1,h2=>by simp at h1 h2;subst h1 h2;simp [eN]
 | a::vs,b::hs,i+1,v,h,h1,h2=>by
  simp only [List.take_succ_cons,eN,List.cons_append]
  rw[oJ vs hs i v h (by simpa using h1) (by simpa using h2)]
theorem pU:∀ (vs:List Vs) (hs:List Int) (i j:Nat) (v:Vs) (h:Int),vs[i]? = some v->hs[i]? = some h->cQ j (vs.take (i+1)) (hs.take (i+1))=cQ j (vs.take i) (hs.take i)++(if dD v h=true then [j+i] else [])
 | [],_,i,_,_,_,h,_=>by simp at h
 | _::_,[],i,_,_,_,_,h=>by simp at h
 | a::vs,b::hs,0,j,v,h,h1,h2=>by
  simp at h1 h2;subst h1 h2
  simp only [List.take_succ_cons,List.take_zero,cQ,Nat.add_zero,List.nil_append]
 | a::vs,b::hs,i+1,j,v,h,h1,h2=>by
  simp only [List.take_succ_cons,cQ]
  rw[pU vs hs i (j+1) v h (by simpa using h1) (by simpa using h2)]
  have e:j+1+i=j+(i+1):=by omega
  rw[e]
  split <;> simp
theorem pV:∀ (vs:List Vs) (hs:List Int) (j k:Nat),k∈cQ j vs hs->j<=k/\k < j+vs.length
 | [],_,_,k,h=>by simp [cQ] at h
 | _::_,[],_,k,h=>by simp [cQ] at h
 | a::vs,b::hs,j,k,h=>by
  simp only [cQ] at h
  have ih:=pV vs hs (j+1) k
  simp only [aax]
  split at h
  ·rcases List.mem_cons.mp h with rfl | h
   ·omega
   ·have:=ih h;omega
  ·have:=ih h;omega
theorem nG:∀ (vs:List Vs) (hs:List Int) (j:Nat),(cQ j vs hs).length<=vs.length
 | [],_,_=>by simp [cQ]
 | _::_,[],_=>by simp [cQ]
 | a::vs,b::hs,j=>by
  simp only [cQ,aax]
  have:=nG vs hs (j+1)
  split
  ·rw[aax];omega
  ·omega
theorem tL {n m:Nat}:∀ (vs:List Vs) (hs:List Int),(∀ v∈vs,VOk n m v)->(dI vs hs).length<=5 * vs.length
 | [],_,_=>by simp [dI]
 | _::_,[],_=>by simp [dI]
 | a::vs,b::hs,h=>by
  simp only [dI,aat,aax]
  have h1:=CB (h a aas) b
  have h2:=tL vs hs λ v hv=>h v (aam _ hv)
  omega
section
variable {P:Program}{w:World}{K:aaa}{mg:Str->Option Value}{base:Heap}
theorem q0 {H:Hp}{sps:List sE}{xs:List V}{i:Nat}{x:V} (l:IsL K H (sps.map AE) xs) (h:xs[i]? = some x) :
  ∃ s,sps[i]? = some s/\∃ a,x=.ref a/\bN K H a [.int s.1,.int s.2.1,.bl s.2.2]:=by
 obtain⟨d,hd,hx⟩:=l.get' h
 rw[aah] at hd
 cases e:sps[i]? with
 | none=>rw[e] at hd;cases hd
 | some o=>
  rw[e] at hd
  cases hd
  refine⟨o,rfl,?_⟩
  obtain⟨a,ys,rfl,q,l⟩:=(show Is K H (.tup [.int o.1,.int o.2.1,.bl o.2.2]) x from hx).un
  obtain⟨y,r,rfl,hy,l⟩:=l.un
  obtain⟨z,r,rfl,hz,l⟩:=l.un
  obtain⟨z2,r,rfl,hz2,l⟩:=l.un
  have:=l.un0
  subst this
  rw[hy.ui,hz.ui,hz2.ub] at q
  exact⟨a,rfl,q⟩
theorem EF {H:Hp}{held coming:List Int}{doors:List Bool}{y:V} (h:Is K H (AC held coming doors) y):∃ (a b c d:Addr),y=.ref a/\bN K H a [.ref b,.ref c,.ref d]/\bN K H b (held.map V.int)/\bN K H c (coming.map V.int)/\bN K H d (doors.map V.bl):=by
 obtain⟨a,xs,rfl,q,l⟩:=(show Is K H (.tup [.tup (held.map D.int),.tup (coming.map D.int),.tup (doors.map D.bl)]) y from h).un
 obtain⟨x1,r,rfl,h1,l⟩:=l.un
 obtain⟨x2,r,rfl,h2,l⟩:=l.un
 obtain⟨x3,r,rfl,h3,l⟩:=l.un
 have:=l.un0
 subst this
 obtain⟨b,ys,rfl,q1,l1⟩:=h1.un
 obtain⟨c,zs,rfl,q2,l2⟩:=h2.un
 obtain⟨d,us,rfl,q3,l3⟩:=h3.un
 rw[l1.ints] at q1
 rw[l2.ints] at q2
 rw[l3.bools] at q3
 exact⟨a,b,c,d,rfl,q,q1,q2,q3⟩
theorem JU {H:Hp}{held coming:List Int}{doors:List Bool}{a b c d:Addr} (q:bN K H a [.ref b,.ref c,.ref d]) (q1:bN K H b (held.map V.int)) (q2:bN K H c (coming.map V.int)) (q3:bN K H d (doors.map V.bl)):Is K H (AC held coming doors) (.ref a):=
 Is.tupOf q (.cons (Is.tupOf q1 (IsL.of_ints _)) (.cons (Is.tupOf q2 (IsL.of_ints _)) (.cons (Is.tupOf q3 (IsL.of_bools _)) .nil)))
noncomputable def qF (K:aaa):Sp:=λ args H Q _=>∃ (x y:V) (z:Addr) (sps:List sE) (held coming poured:List Int) (doors:List Bool) (n:Nat),args=[x,y,.ref z]/\Is K H (.tup (sps.map AE)) x/\Is K H (AC held coming doors) y/\bN K H z (poured.map V.int)/\
 held.length=n/\coming.length=n/\poured.length=n/\doors.length=sps.length/\n<=12/\(∀ s∈sps,0<=s.1/\s.1 < n)/\
 ∀ p H',aK H H'->H p=none->H' p=some (.lst ((fE (jG held coming poured) sps doors).map V.int))->Q (.ref p) H'
theorem tE:FnScope ["spouts","state","poured","held","coming","doors","has","target","flow","first_door","door"] ["spouts","state","poured"] (aJ (aQ 12)):=⟨rfl,rfl,rfl,by decide +kernel,rfl,by decide +kernel,by decide +kernel⟩
theorem D0 {f:Addr}{fd:FuncData} (F:Fun K "filled" "filled" (aQ 12) f fd) (T:Txt mg):FnOk P w K mg base gC 1 f fd ["spouts","state","poured"] (qF K):=by
 refine F.ok tE (λ vs H Q E h=>?_) (λ cdv A outer s H vs Q E hr h=>?_)
 ·obtain⟨x,y,z,sps,held,coming,poured,doors,n,rfl,_⟩:=h;rfl
 ·obtain⟨x,y,z,sps,held,coming,poured,doors,n,rfl,hx,hy,qz,l1,l2,l3,l4,hn,hsp,k⟩:=h
  have sc:=tE
  refine⟨_,(aE (bZ (pv 1) (aX (K:=K) (n:=3) rfl rfl (aF (aG (i:=3) sc.nd rfl (Or.inl rfl)) (aF (aG (i:=4) sc.nd rfl (Or.inl rfl)) (aF (aG (i:=5) sc.nd rfl (Or.inl rfl)) aW)))))
   (aE (kI (i:=6) sc.nd rfl rfl (λ _ _ h=>h) rfl (LcOk.mk (N':=["amounts"]) (fr:=[none]) rfl trivial rfl rfl rfl rfl rfl trivial) (FC (K:=K) rfl rfl T.b_zip (aA (pv 3) (aA (pv 4) (aA (pv 2) aD)))) (λ _ _ _=>(aG (i:=0) (show (["amounts"]:List Str).Nodup by decide +kernel) rfl (Or.inl rfl) (Or.inr rfl))) (λ _ _ _=>cP) (λ _ _ _=>(aU (kO (K:=K) rfl rfl) rfl T.b_sum PyProof.Rows.boot_sum (aA (pv 0) aD))))
   (aE (dY PassesOwn.never rfl (wU (K:=K) rfl rfl T.b_zip (aA (pv 0) (aA (pv 5) aD))) (aX (K:=K) (n:=2) rfl rfl (aF (aX (K:=K) (n:=3) rfl rfl (aF (aG (i:=7) sc.nd rfl (Or.inl rfl)) (aF (aG (i:=8) sc.nd rfl (Or.inl rfl)) (aF (aG (i:=9) sc.nd rfl (Or.inl rfl)) aW)))) (aF (aG (i:=10) sc.nd rfl (Or.inl rfl)) aW))) (aL (d8 (dL (pv 10)) (aL (AU (pv 6) (pv 7) (tM (K:=K) rfl) (pv 8) vH iI)) bJ)))
   (aL (aZ (pv 6)))))),?_⟩
  obtain⟨ax,xs,rfl,qx,lx⟩:=hx.un
  obtain⟨ay,a1,a2,a3,rfl,qy,q1,q2,q3⟩:=EF hy
  have exl:xs.length=sps.length:=by rw[lx.length,aac]
  refine⟨_,rfl,ay,_,rfl,qy,rfl,_,_,rfl,_,_,rfl,_,_,rfl,rfl,?_⟩
  have la:=gR l1 l2 l3
  refine⟨_,rfl,_,rfl,_,rfl,true,true,true,a1,a2,z,rfl,⟨_,q1⟩,⟨_,q2⟩,⟨_,qz⟩,JC (K:=K) (xs:=held.map V.int) (ys:=coming.map V.int) (zs:=poured.map V.int) (n:=n) (by simpa using l1) (by simpa using l2) (by simpa using l3)
   (λ D i r Z H'=>H D=none/\aK H H'/\H' D=some (.lst r)/\r=((jG held coming poured).take i).map V.int/\∃ v,Z=[v])
   (λ D i r Z H' p=>⟨p.2.1.tup q1,p.2.1.tup q2,p.2.1.tup qz⟩) (λ D hD=>⟨hD,aK.new hD,aB,by simp,none,rfl⟩) ?_ ?_⟩
  rotate_left
  ·rintro D i x0 y0 z0 r Z H' Tt hx0 hy0 hz0 ⟨hD,sm,hDl,rfl,v,rfl⟩ hT
   rw[aah] at hx0 hy0 hz0
   obtain⟨x,hx,rfl⟩:=aap.mp hx0
   obtain⟨y,hy,rfl⟩:=aap.mp hy0
   obtain⟨z',hz,rfl⟩:=aap.mp hz0
   have hi:=y6 hx hy hz
   have hil:=(aad.mp hi).1
   have nT:D≠Tt:=aN hDl hT
   refine dH ?_
   refine⟨_,rfl,true,Tt,[x,y,z'],rfl,bN.of aB,by rw[aM nT];exact hDl,aP (by simp;omega),hD,?_,aB,?_,_,rfl⟩
   ·intro b o e
    rw[aM (aN e hD)]
    exact aK.new hT b o (sm b o e)
   ·rw[cF hi,aai]
    have:[x,y,z'].sum=x+y+z':=by simp;omega
    rw[this];rfl
  ·rintro D r Z H1 ⟨hD,sm,hDl,rfl,_⟩
   rw[<- la,abe] at hDl
   refine⟨_,rfl,_,rfl,true,true,ax,a3,rfl,⟨_,sm.tup qx⟩,⟨_,sm.tup q3⟩,GU (K:=K) (xs:=xs) (ys:=doors.map V.bl) (n:=sps.length) exl (by rw[aac,l4])
    (λ i Z H'=>aK H H'/\H' D=some (.lst ((fE (jG held coming poured) (sps.take i) (doors.take i)).map V.int))/\
     ∃ v7 v8 v9 v10,Z=[some (.ref ax),some (.ref ay),some (.ref z),some (.ref a1),some (.ref a2),some (.ref a3),some (.ref D),v7,v8,v9,v10])
    (λ i Z H' p=>⟨p.1.tup qx,p.1.tup q3⟩) ⟨sm,by cases sps <;> exact hDl,none,none,none,none,rfl⟩ ?_ ?_⟩
   ·rintro Z H2 ⟨sm2,h2,v7,v8,v9,v10,rfl⟩
    rw[<- l4,abe] at h2
    rw[l4,abe] at h2
    refine⟨_,rfl,?_⟩
    exact k D H2 sm2 hD h2
   ·rintro i x y Z H2 Tt hx hy ⟨sm2,h2,v7,v8,v9,v10,rfl⟩ hT
    obtain⟨sp,hsi,sa,rfl,qs⟩:=q0 lx hx
    rw[aah] at hy
    obtain⟨dr,hdi,rfl⟩:=aap.mp hy
    have nT:D≠Tt:=aN h2 hT
    have sm3:aK H (upd H2 Tt (.tup [.ref sa,.bl dr])):=λ b o e=>aK.new hT b o (sm2 b o e)
    have h3:upd H2 Tt (.tup [.ref sa,.bl dr]) D=some (.lst ((fE (jG held coming poured) (sps.take i) (doors.take i)).map V.int)):=by rw[aM nT];exact h2
    refine⟨Tt,_,rfl,bN.of aB,rfl,_,_,rfl,⟨sa,_,rfl,sm3.tup qs,rfl,_,_,rfl,_,_,rfl,_,_,rfl,rfl,_,_,rfl,rfl,?_⟩⟩
    refine⟨_,rfl,_,rfl,?_⟩
    have snoc:=rW sps doors i (jG held coming poured) sp dr hsi hdi
    cases dr with
    | false=>
     refine eU ?_
     refine⟨sm3,?_,_,_,_,_,rfl⟩
     rw[snoc];exact h3
    | true=>
     refine gA ?_
     have hs:=hsp sp (aaj hsi)
     have hlen:(fE (jG held coming poured) (sps.take i) (doors.take i)).length=n:=by rw[gG,la]
     have hlt:sp.1.toNat < (fE (jG held coming poured) (sps.take i) (doors.take i)).length:=by rw[hlen];omega
     have hg:((fE (jG held coming poured) (sps.take i) (doors.take i)).map V.int)[sp.1.toNat]? = some (.int ((fE (jG held coming poured) (sps.take i) (doors.take i)).getD sp.1.toNat 0)):=by
      rw[aah,aae];simp [hlt]
     refine⟨_,rfl,_,rfl,D,_,sp.1,_,rfl,rfl,bO.of h3,hs.1,by omega,hg,_,rfl,_,_,rfl,rfl,D,_,sp.1,sp.1.toNat,rfl,rfl,h3,vG hs.1 (by rw[aac,hlen];omega),?_⟩
     refine⟨sm3.put hD,?_,_,_,_,_,rfl⟩
     rw[aB,snoc,lD,if_pos rfl,List.map_set]
end
end Tw
namespace Tw
open PySem L2
theorem iW:∀ (vs:List Vs) (hs:List Int),vs.length=hs.length->(eN vs hs).length=vs.length
 | [],_,_=>by simp [eN]
 | _::_,[],h=>by simp at h
 | a::vs,b::hs,h=>by simp only [eN,aax];rw[iW vs hs (by simpa using h)]
section
variable {P:Program}{w:World}{K:aaa}{mg:Str->Option Value}{base:Heap}
theorem fY {H:Hp}{net:Net}{x:V} (h:Is K H (fC net) x):∃ (a b c:Addr) (xs ys:List V),x=.ref a/\bN K H a [.ref b,.ref c]/\bN K H b xs/\IsL K H (net.vs.map pM) xs/\bN K H c ys/\IsL K H (net.sps.map AE) ys:=by
 obtain⟨a,zs,rfl,q,l⟩:=(show Is K H (.tup [.tup (net.vs.map pM),.tup (net.sps.map AE)]) x from h).un
 obtain⟨x1,r,rfl,h1,l⟩:=l.un
 obtain⟨x2,r,rfl,h2,l⟩:=l.un
 have:=l.un0
 subst this
 obtain⟨b,xs,rfl,q1,l1⟩:=h1.un
 obtain⟨c,ys,rfl,q2,l2⟩:=h2.un
 exact⟨a,b,c,xs,ys,rfl,q,q1,l1,q2,l2⟩
structure StOk (net:Net) (held coming:List Int) (doors:List Bool):Prop where
 h:held.length=net.vs.length
 c:coming.length=net.vs.length
 d:doors.length=net.sps.length
noncomputable def u7 (K:aaa):Sp:=λ args H Q _=>∃ (x y:V) (z:Addr) (net:Net) (held coming poured:List Int) (doors:List Bool),args=[x,y,.ref z]/\Is K H (fC net) x/\Is K H (AC held coming doors) y/\bN K H z (poured.map V.int)/\
 NetOk net/\StOk net held coming doors/\poured.length=net.vs.length/\∀ (p:Addr) (ys:List V) H',aK H H'->H' p=some (.tup ys)->Is K H' (EA (cO net held coming poured doors)) (.ref p)->Q (.ref p) H'
theorem jQ:FnScope ["net","state","poured","vessels","spouts","held","tipped","sent","number","has","left","tips","coming","doors"] ["net","state","poured"] (aJ (aQ 10)):=⟨rfl,rfl,rfl,by decide +kernel,rfl,by decide +kernel,by decide +kernel⟩
theorem qY {f fF fS fD:Addr}{fd fdF fdS fdD:FuncData} (F:Fun K "tick_behind" "tick_behind" (aQ 10) f fd) (T:Txt mg) (G_filled:Callee P w K mg base "filled" ["spouts","state","poured"] 1 (qF K) fF fdF)
  (G_settle:Callee P w K mg base "settle" ["vessel","has","sent"] 3 (qC K) fS fdS) (G_doors_behind:Callee P w K mg base "doors_behind" ["vessels","doors","tipped"] 1 (uL K) fD fdD):FnOk P w K mg base gC 4 f fd ["net","state","poured"] (u7 K):=by
 refine F.ok jQ (λ vs H Q E h=>?_) (λ cdv A outer s H vs Q E hr h=>?_)
 ·obtain⟨x,y,z,net,held,coming,poured,doors,rfl,_⟩:=h;rfl
 ·obtain⟨x,y,z,net,held,coming,poured,doors,rfl,hx,hy,qz,nok,sok,lp,k⟩:=h
  have sc:=jQ
  have hu:=K8 hr
  refine⟨_,(aE (bZ (pv 0) (aX (K:=K) (n:=2) rfl rfl (aF (aG (i:=3) sc.nd rfl (Or.inl rfl)) (aF (aG (i:=4) sc.nd rfl (Or.inl rfl)) aW))))
   (aE (bZ (bS (aA (bP aD) (aA (bP aD) (aA wX aD)))) (aX (K:=K) (n:=3) rfl rfl (aF (aG (i:=5) sc.nd rfl (Or.inl rfl)) (aF (aG (i:=6) sc.nd rfl (Or.inl rfl)) (aF (aG (i:=7) sc.nd rfl (Or.inr rfl)) aW)))))
   (aE (dY PassesOwn.never rfl (qT (K:=K) rfl rfl T.b_enumerate (aA (cU G_filled hr (aA (pv 4) (aA (pv 1) (aA (pv 2) aD)))) aD)) (aX (K:=K) (n:=2) rfl rfl (aF (aG (i:=8) sc.nd rfl (Or.inl rfl)) (aF (aG (i:=9) sc.nd rfl (Or.inl rfl)) aW))) (aE (bZ (cU G_settle hr (aA (b0 (aO (K:=K) rfl) (pv 3) (pv 8) (λ _ _=>rfl)) (aA (pv 9) (aA (pv 7) aD)))) (aX (K:=K) (n:=2) rfl rfl (aF (aG (i:=10) sc.nd rfl (Or.inl rfl)) (aF (aG (i:=11) sc.nd rfl (Or.inl rfl)) aW))))
   (aE (bW (dF (K:=K) rfl aar aba abb cE (pv 5) (aA (pv 10) aD)))
   (aL (d8 (dL (pv 11)) (aL (bW (dF (K:=K) rfl aar aba abb cE (pv 6) (aA (pv 8) aD)))) bJ)))))
   (aE (kI (i:=12) sc.nd rfl rfl (λ _ _ h=>h) rfl (LcOk.mk (N':=["number","sent"]) (fr:=[none,some 7]) rfl ⟨rfl,trivial⟩ rfl rfl rfl rfl rfl ⟨⟨_,rfl,rfl,rfl,rfl⟩,trivial⟩) (dX rfl T.b_range (aA (aU (bL (K:=K) rfl) rfl T.b_len abj (aA (pv 3) aD)) aD)) (λ _ _ _=>(aG (i:=0) (show (["number","sent"]:List Str).Nodup by decide +kernel) rfl (Or.inl rfl) (Or.inr rfl))) (λ _ _ _=>cP) (λ _ _ _=>(qU hu (pv 1) (pv 0) aH ⟨rfl,rfl,rfl,rfl⟩)))
   (aE (b9 (i:=13) sc.nd rfl (Or.inl rfl) (cU G_doors_behind hr (aA (pv 3) (aA (b0 (aO (K:=K) rfl) (pv 1) aH (λ _ _=>rfl)) (aA (pv 6) aD)))))
   (aL (aZ (bS (aA (bS (aA (aY (bU (K:=K) rfl) rfl T.b_tuple cD (aA (pv 5) aD)) (aA (aY (bU (K:=K) rfl) rfl T.b_tuple cD (aA (pv 12) aD)) (aA (pv 13) aD)))) (aA (aY (bU (K:=K) rfl) rfl T.b_tuple cD (aA (pv 6) aD)) (aA (qU hu (pv 7) gM aH ⟨rfl,rfl,rfl,rfl⟩) aD))))))))))),?_⟩
  obtain⟨ax,av,as,xs,ys,rfl,qx,qv,lv,qs,ls⟩:=fY hx
  obtain⟨ay,b1,b2,b3,rfl,qy,q1,q2,q3⟩:=EF hy
  have exl:xs.length=net.vs.length:=by rw[lv.length,aac]
  refine⟨_,rfl,ax,_,rfl,qx,rfl,_,_,rfl,_,_,rfl,rfl,?_⟩
  refine⟨Nat.zero_le _,λ hl hhl=>⟨Nat.zero_le _,λ tl htl=>λ sd hsd=>⟨(show 3<=sizeLine by decide),λ tp htp=>⟨tp,_,rfl,bN.of aB,rfl,_,_,rfl,_,_,rfl,_,_,rfl,rfl,?_⟩⟩⟩⟩
  have n1:hl≠tl:=aN (show upd H hl (.lst []) hl=_ from aB) htl
  have fh:H hl=none:=hhl
  have ft:H tl=none:=aK.free (aK.new hhl) htl
  have fs:H sd=none:=aK.free ((aK.new hhl).trans (aK.new htl)) hsd
  have n2:hl≠sd:=aN (by rw[aM n1];exact aB) hsd
  have n3:tl≠sd:=aN (show upd (upd H hl (.lst [])) tl (.lst []) tl=_ from aB) hsd
  have sm0:aK H (upd (upd (upd (upd H hl (.lst [])) tl (.lst [])) sd (.dK [])) tp (.tup [.ref hl,.ref tl,.ref sd])):=(((aK.new hhl).trans (aK.new htl)).trans (aK.new hsd)).trans (aK.new htp)
  have g1:upd (upd (upd (upd H hl (.lst [])) tl (.lst [])) sd (.dK [])) tp (.tup [.ref hl,.ref tl,.ref sd]) hl=some (.lst []):=aK.new htp _ _ (by rw[aM n2,aM n1];exact aB)
  have g2:upd (upd (upd (upd H hl (.lst [])) tl (.lst [])) sd (.dK [])) tp (.tup [.ref hl,.ref tl,.ref sd]) tl=some (.lst []):=aK.new htp _ _ (by rw[aM n3];exact aB)
  have g3:upd (upd (upd (upd H hl (.lst [])) tl (.lst [])) sd (.dK [])) tp (.tup [.ref hl,.ref tl,.ref sd]) sd=some (.dK []):=aK.new htp _ _ aB
  generalize upd (upd (upd (upd H hl (.lst [])) tl (.lst [])) sd (.dK [])) tp (.tup [.ref hl,.ref tl,.ref sd])=H0 at sm0 g1 g2 g3 ⊢
  refine⟨_,rfl,_,rfl,_,rfl,.ref as,.ref ay,z,net.sps,held,coming,poured,doors,net.vs.length,rfl,Is.tupOf (sm0.tup qs) (IsL.mono sm0.ts _ _ ls),Is.mono sm0.ts _ _ hy,sm0.tup qz,sok.h,sok.c,lp,sok.d,nok.hi,nok.sps,λ ha H1 sm1 fha hha=>?_⟩
  have hsl:(bC net held coming poured doors).length=net.vs.length:=by
   unfold bC;rw[gG,gR sok.h sok.c lp]
  have g1':=sm1 _ _ g1
  have g2':=sm1 _ _ g2
  have g3':=sm1 _ _ g3
  have na1:hl≠ha:=aN g1 fha
  have na2:tl≠ha:=aN g2 fha
  have na3:sd≠ha:=aN g3 fha
  have fa:H ha=none:=sm0.free fha
  refine⟨false,ha,rfl,⟨_,bO.of hha⟩,rT (K:=K) (t:=false) (a:=ha) (xs:=(bC net held coming poured doors).map V.int)
   (λ i Z H'=>aK H H'/\H' ha=some (.lst ((bC net held coming poured doors).map V.int))/\H' hl=some (.lst ((eN (net.vs.take i) ((bC net held coming poured doors).take i)).map V.int))/\
    H' tl=some (.lst ((cQ 0 (net.vs.take i) ((bC net held coming poured doors).take i)).map λ (j:Nat)=>V.int (j:Int)))/\jE H' sd (dI (net.vs.take i) ((bC net held coming poured doors).take i))/\
    ∃ v8 v9 v10 v11,Z=[some (.ref ax),some (.ref ay),some (.ref z),some (.ref av),some (.ref as),some (.ref hl),some (.ref tl),some (.ref sd),v8,v9,v10,v11,none,none])
   (λ i Z H' p=>bO.of p.2.1) ⟨sm0.trans sm1,hha,by simpa [eN] using g1',by simpa [cQ] using g2',⟨[],g3',by simp,λ k=>rfl⟩,none,none,none,none,rfl⟩ ?_ ?_⟩
  rotate_left
  ·rintro i x0 Z H2 Tt hx0 ⟨sm2,p1,p2,p3,p4,v8,v9,v10,v11,rfl⟩ hT
   rw[aah] at hx0
   obtain⟨hi,hhi,rfl⟩:=aap.mp hx0
   have hil:i < net.vs.length:=by rw[<- hsl];exact (aad.mp hhi).1
   have hv:net.vs[i]? = some net.vs[i]:=by simp [hil]
   have vok:=nok.vs _ (abf hil)
   obtain⟨xv,hxv,ixv⟩:=lv.get (i:=i) (d:=pM net.vs[i]) (by rw[aah,hv];rfl)
   have smT:=aK.new (o:=HO.tup [.int (i:Int),.int hi]) hT
   refine⟨Tt,_,rfl,bN.of aB,rfl,_,_,rfl,_,_,rfl,rfl,?_⟩
   have sm3:aK H (upd H2 Tt (.tup [.int (i:Int),.int hi])):=sm2.trans smT
   obtain⟨kvs,d1,d2,d3⟩:=p4
   have hgl:=tL (net.vs.take i) ((bC net held coming poured doors).take i) λ v hv'=>nok.vs v (List.mem_of_mem_take hv')
   have htk:(net.vs.take i).length<=12:=by rw[abl];have:=nok.hi;omega
   refine⟨_,rfl,_,rfl,.inr (.inl ⟨av,xs,i,_,rfl,rfl,sm3.tup qv,dO hxv,_,rfl,_,rfl,xv,sd,hi,net.vs[i],_,_,_,rfl,Is.mono sm3.ts _ _ ixv,⟨kvs,smT _ _ d1,d2,d3⟩,by omega,vok,λ p H3 bt dg qp=>?_⟩)⟩
   refine⟨p,_,rfl,qp,rfl,_,_,rfl,_,_,rfl,rfl,?_⟩
   have e1:=bt hl _ n2 (smT _ _ p2)
   have e2:=bt tl _ n3 (smT _ _ p3)
   have e3:=bt ha _ (Ne.symm na3) (smT _ _ p1)
   have sm4:aK H H3:=λ b o e=>bt b o (aN e fs) (sm3 b o e)
   have stl:(eN (net.vs.take i) ((bC net held coming poured doors).take i)).length<=12:=by
    rw[iW _ _ (by rw[abl,abl,hsl])];exact htk
   have tpl:=nG (net.vs.take i) ((bC net held coming poured doors).take i) 0
   refine⟨_,rfl,.inl ⟨rfl,_,bO.of e1⟩,_,rfl,hl,_,_,rfl,rfl,e1,aP (by simp;omega),?_⟩
   have f1:upd H3 hl (.lst ((eN (net.vs.take i) ((bC net held coming poured doors).take i)).map V.int++[.int (gI net.vs[i] hi)])) tl=some (.lst ((cQ 0 (net.vs.take i) ((bC net held coming poured doors).take i)).map λ (j:Nat)=>V.int (j:Int))):=by rw[aM (Ne.symm n1)];exact e2
   have s1:=oJ net.vs (bC net held coming poured doors) i _ _ hv hhi
   have s2:=pU net.vs (bC net held coming poured doors) i 0 _ _ hv hhi
   have s3:=rO net.vs (bC net held coming poured doors) i _ _ hv hhi
   have dgo:∀ {Hx:Hp},Hx sd=H3 sd->jE Hx sd (dI (net.vs.take (i+1)) ((bC net held coming poured doors).take (i+1))):=λ {Hx} e=>by
    obtain⟨kv,a1,a2,a3⟩:=dg
    rw[s3]
    exact⟨kv,e.trans a1,a2,a3⟩
   refine⟨_,rfl,_,rfl,?_⟩
   cases ht:dD net.vs[i] hi with
   | false=>
    refine eU ?_
    rw[ht] at s2
    refine⟨sm4.put fh,by rw[aM (Ne.symm na1)];exact e3,by rw[aB,s1,aai];rfl,by rw[s2];simpa using f1,dgo (by rw[aM (Ne.symm n2)]),_,_,_,_,rfl⟩
   | true=>
    refine gA ?_
    rw[ht] at s2
    refine⟨_,rfl,.inl ⟨rfl,_,bO.of f1⟩,_,rfl,tl,_,_,rfl,rfl,f1,aP (by simp;omega),?_⟩
    refine⟨(sm4.put fh).put ft,by rw[aM (Ne.symm na2),aM (Ne.symm na1)];exact e3,by rw[aM n1,aB,s1,aai];rfl,?_,dgo (by rw[aM (Ne.symm n3),aM (Ne.symm n2)]),_,_,_,_,rfl⟩
    rw[aB,s2]
    simp
  ·rintro Z H2 ⟨sm2,p1,p2,p3,p4,v8,v9,v10,v11,rfl⟩
   rw[aac,hsl] at p2 p3 p4
   have ek:net.vs.take net.vs.length=net.vs:=abe
   have ek2:(bC net held coming poured doors).take net.vs.length=bC net held coming poured doors:=by rw[<- hsl,abe]
   rw[ek,ek2] at p2 p3 p4
   obtain⟨kvs,d1,d2,d3⟩:=p4
   refine⟨_,rfl,av,xs,rfl,.inr (sm2.tup qv),_,rfl,by omega,by have:=nok.hi;omega,?_⟩
   have hn:((xs.length:Nat):Int).toNat=net.vs.length:=by rw[exl];simp
   rw[hn]
   refine rG (n:=net.vs.length) (λ D i r Z H'=>H2 D=none/\aK H2 H'/\H' D=some (.lst r)/\r=((eQ net.vs.length (dI net.vs (bC net held coming poured doors))).take i).map V.int/\∃ v,Z=[v,some (.ref sd)])
    (λ D hD=>⟨hD,aK.new hD,aB,by simp,none,rfl⟩) ?_ ?_
   rotate_left
   ·rintro D i r Z H' hi ⟨hD,sm,hDl,rfl,v,rfl⟩
    refine dH ?_
    have hg:=A6.k (k:=n4 (some (i:Int))) (sm _ _ d1)
    refine⟨_,rfl,sd,rfl,.inl ⟨kvs,.inl (sm _ _ d1)⟩,_,rfl,_,hg,hDl,aP (by simp [eQ];have:=nok.hi;omega),hD,sm.put hD,aB,?_,_,rfl⟩
    have e:(eQ net.vs.length (dI net.vs (bC net held coming poured doors)))[i]? = some (bQ (some (i:Int)) (dI net.vs (bC net held coming poured doors))):=by
     unfold eQ;simp [hi]
    rw[cF e,aai]
    show _++[(eC kvs (n4 (some (i:Int)))).getD (.int 0)]=_
    rw[d3];rfl
   ·rintro D r Z H3 ⟨hD,sm,hDl,rfl,_⟩
    have ll:(eQ net.vs.length (dI net.vs (bC net held coming poured doors))).length=net.vs.length:=by unfold eQ;simp
    rw[List.take_of_length_le (Nat.le_of_eq ll)] at hDl
    have sm3:aK H H3:=sm2.trans sm
    refine⟨_,rfl,_,rfl,.inr (.inl ⟨ay,_,2,_,rfl,rfl,sm3.tup qy,rfl,_,rfl,.ref av,.ref b3,tl,net.vs,doors,cQ 0 net.vs (bC net held coming poured doors),net.vs.length,rfl,Is.tupOf (sm3.tup qv) (IsL.mono sm3.ts _ _ lv),Is.tupOf (sm3.tup q3) (IsL.of_bools _),bO.of (sm _ _ p3),λ j hj=>by have:=pV _ _ _ _ hj;omega,λ v hv=>by rw[sok.d];exact nok.vs v hv,by rw[sok.d];exact nok.sp,λ dp H4 sm4 hdp=>?_⟩)⟩
    obtain⟨da,dxs,rfl,qd,ld⟩:=hdp.un
    have c1:=sm4 _ _ (sm _ _ p2)
    have c2:=sm4 _ _ hDl
    have c3:=sm4 _ _ (sm _ _ p3)
    have c4:=sm4 _ _ (sm _ _ d1)
    refine⟨_,rfl,hl,_,rfl,.inl ⟨bO.of c1,λ t1 ht1=>?_⟩⟩
    have m1:=aK.new (o:=HO.tup ((eN net.vs (bC net held coming poured doors)).map V.int)) ht1
    refine⟨_,rfl,D,_,rfl,.inl ⟨bO.of (m1 _ _ c2),λ t2 ht2=>?_⟩⟩
    have m2:=aK.new (o:=HO.tup ((eQ net.vs.length (dI net.vs (bC net held coming poured doors))).map V.int)) ht2
    refine⟨_,rfl,(show 3<=sizeLine by decide),λ t3 ht3=>?_⟩
    have m3:=aK.new (o:=HO.tup [.ref t1,.ref t2,.ref da]) ht3
    refine⟨_,rfl,tl,_,rfl,.inl ⟨bO.of (m3 _ _ (m2 _ _ (m1 _ _ c3))),λ t4 ht4=>?_⟩⟩
    have m4:=aK.new (o:=HO.tup ((cQ 0 net.vs (bC net held coming poured doors)).map λ (j:Nat)=>V.int (j:Int))) ht4
    have c4':=m4 _ _ (m3 _ _ (m2 _ _ (m1 _ _ c4)))
    have hg:=A6.k (k:=n4 none) c4'
    refine⟨_,rfl,sd,rfl,.inl ⟨kvs,.inl c4'⟩,_,hg,(show 3<=sizeLine by decide),λ t5 ht5=>?_⟩
    have m5:aK _ _:=aK.new (o:=HO.tup [.ref t3,.ref t4,(eC kvs (n4 none)).getD (.int 0)]) ht5
    have eg:(eC kvs (n4 none)).getD (.int 0)=.int (bQ none (dI net.vs (bC net held coming poured doors))):=d3 none
    refine k _ _ _ ((((((sm3.trans sm4).trans m1).trans m2).trans m3).trans m4).trans m5) aB ?_
    refine Is.tupOf (bN.of aB) (.cons ?_ (.cons ?_ (.cons ?_ .nil)))
    ·exact Is.mono m5.ts _ _ (Is.mono m4.ts _ _ (JU (bN.of aB) (m3.tup (m2.tup (bN.of aB))) (m3.tup (bN.of aB)) (by
      have:=ld.bools;rw[this] at qd;exact m3.tup (m2.tup (m1.tup qd)))))
    ·refine Is.mono m5.ts _ _ (Is.tupOf (bN.of aB) ?_)
     show L2.IsL K _ ((cQ 0 net.vs (bC net held coming poured doors)).map λ (i:Nat)=>L2.D.int (i:Int)) _
     have e1:((cQ 0 net.vs (bC net held coming poured doors)).map λ (i:Nat)=>L2.D.int (i:Int))=((cQ 0 net.vs (bC net held coming poured doors)).map λ (i:Nat)=>(i:Int)).map L2.D.int:=by rw[abv];rfl
     have e2:((cQ 0 net.vs (bC net held coming poured doors)).map λ (i:Nat)=>V.int (i:Int))=((cQ 0 net.vs (bC net held coming poured doors)).map λ (i:Nat)=>(i:Int)).map V.int:=by rw[abv];rfl
     rw[e1,e2]
     exact L2.IsL.of_ints _
    ·rw[eg];exact Is.i _
end
end Tw
namespace Tw
open PySem L2
section
variable {P:Program}{w:World}{K:aaa}{mg:Str->Option Value}{base:Heap}
noncomputable def dU (H:Hp) (t sl:Addr):Prop:=∃ (ns:List Int) (pos cell:Int),H t=some (.lst [.ref sl,.int pos,.int cell])/\H sl=some (.lst (ns.map V.int))/\ns.length<=1000
theorem dU.mut {H:Hp}{t sl:Addr} (h:dU H t sl):iF (H t):=by obtain⟨ns,pos,cell,e,_⟩:=h;rw[e];exact trivial
theorem dU.same {H H':Hp}{t sl:Addr} (h:dU H t sl) (s:aK H H'):dU H' t sl:=by
 obtain⟨ns,pos,cell,e,f,g⟩:=h;exact⟨ns,pos,cell,s _ _ e,s _ _ f,g⟩
noncomputable def fX:Sp:=λ vs H Q _=>∃ (t sl:Addr) (many:Int),vs=[.ref t,.int many]/\dU H t sl/\0 < many/\many < 1000000/\
 ∀ (r:Int) H',cA t H H'->dU H' t sl->0<=r->r < many->Q (.int r) H'
noncomputable def HZ:Sp:=λ vs H Q _=>∃ (t sl:Addr) (many:Int),vs=[.ref t,.int many]/\dU H t sl/\0 < many/\many < 2 ^ 200/\
 ∀ (r:Int) H',cA t H H'->dU H' t sl->0<=r->r < many->Q (.int r) H'
noncomputable abbrev uQ (K:aaa):TS:=iG (jN (iD (rI (λ _ j=>0 < j) λ i j=>.int (i % j)) (iD (wP K) (cZ 0) (tC (.int 2))) (cZ 1)) (eK 4)) (iG (jN (iD (rI KG λ i j=>.int (i / j)) (iD (wP K) (cZ 0) (tC (.int 2))) (cZ 1)) (GT (cZ 0) (tC (.int 2)) wN)) (MC (cZ 4)))
noncomputable abbrev EQ (K:aaa):TS:=iG (jN (iD (uR λ i j=>.int (i+j)) (iD (wP K) (cZ 0) (tC (.int 1))) (tC (.int 1))) (GT (cZ 0) (tC (.int 1)) wN)) (jN (cZ 3) (GT (cZ 0) (tC (.int 2)) wN))
noncomputable abbrev ER (K:aaa):TS:=iG (jN (iD (rI (λ _ j=>0 < j) λ i j=>.int (i % j)) (iD (uR λ i j=>.int (i+j)) (cZ 3) (iD (rI yA λ i j=>.int (i * j)) (tC (.int 1000003)) (iD (wP K) (cZ 0) (tC (.int 1))))) (cZ 2)) (eK 3)) (iG (jN (iD (rI (λ _ j=>0 < j) λ i j=>.int (i % j)) (iD (uR λ i j=>.int (i+j)) (iD (uR λ i j=>.int (i+j)) (iD (rI yA λ i j=>.int (i * j)) (cZ 3) (cZ 3)) (iD (rI yA λ i j=>.int (i * j)) (tC (.int 1181783497276652981)) (cZ 3))) (tC (.int 2049848353892358983))) (cZ 2)) (eK 3)) (jN (iD (rI (λ _ j=>0 < j) λ i j=>.int (i % j)) (iD (uR λ i j=>.int (i+j)) (iD (rI yA λ i j=>.int (i * j)) (cZ 3) (cZ 3)) (tC (.int 1442695040888963407))) (cZ 2)) (eK 3)))
noncomputable abbrev KZ (K:aaa):TT:=tOr (A9 (iD (uR λ i j=>.bl (decide (j<=i))) (iD (wP K) (cZ 0) (tC (.int 1))) (M4 (MT K) (dR (iD (wP K) (cZ 0) (tC (.int 0))) jF)))) (A9 (iD (uR λ i j=>.bl (decide (i < j))) (cZ 3) (iD (rI NN λ i j=>.int (i ^ j.toNat)) (tC (.int 10)) (tC (.int 18)))))
noncomputable abbrev dE (Q:VK):Ends:={ nx:=λ _ H'=>Q .non H',rt:=Q }
theorem mL:FnScope ["tape","many","prime","cell","found"] ["tape","many"] (aJ (aQ 50)):=⟨rfl,rfl,rfl,by decide +kernel,rfl,by decide +kernel,by decide +kernel⟩
theorem sL {f:Addr}{fd:FuncData} (F:Fun K "_law_draw" "_law_draw" (aQ 50) f fd) (T:Txt mg):FnOk P w K mg base gC 1 f fd ["tape","many"] HZ:=by
 refine F.ok mL (λ vs H Q E h=>?_) (λ cdv A outer s H vs Q E hr h=>?_)
 ·obtain⟨t,sl,many,rfl,_⟩:=h;rfl
 ·obtain⟨t,sl,many,rfl,⟨ns,pos,cell,ht,hsl,hns⟩,hm0,hm1,k⟩:=h
  have sc:=mL
  refine⟨_,(aE (b9 (i:=2) sc.nd rfl (Or.inl rfl) aH)
   (aE (d8 (cT wZ (b0 (aO (K:=K) rfl) (pv 0) aH (λ _ _=>rfl)) (pv 1) (cR _)) (aE (b9 (i:=3) sc.nd rfl (Or.inl rfl) aH)
   (aE (d8 (cT FM (aU (bL (K:=K) rfl) rfl T.b_len abj (aA (b0 (aO (K:=K) rfl) (pv 0) aH (λ _ _=>rfl)) aD)) aH (cR _)) (aL (b9 (i:=3) sc.nd rfl (Or.inl rfl) (b0 (aO (K:=K) rfl) (b0 (aO (K:=K) rfl) (pv 0) aH (λ _ _=>rfl)) (bA qW (b0 (aO (K:=K) rfl) (pv 0) aH (λ _ _=>rfl)) (aU (bL (K:=K) rfl) rfl T.b_len abj (aA (b0 (aO (K:=K) rfl) (pv 0) aH (λ _ _=>rfl)) aD))) (λ _ _=>rfl)))) bJ)
   (aE (d8 (PW.pt (AQ (cT N5 (b0 (aO (K:=K) rfl) (pv 0) aH (λ _ _=>rfl)) (aU (bL (K:=K) rfl) rfl T.b_len abj (aA (b0 (aO (K:=K) rfl) (pv 0) aH (λ _ _=>rfl)) aD)) (cR _)) (uS (cT wZ (pv 3) (bA LC aH aH) (cR _))))) (aE (b9 (i:=3) sc.nd rfl (Or.inl rfl) (bA qW (bA dG (pv 3) (bA lL aH (b0 (aO (K:=K) rfl) (pv 0) aH (λ _ _=>rfl)))) (pv 2)))
   (aE (b9 (i:=3) sc.nd rfl (Or.inl rfl) (bA qW (bA dG (bA dG (bA lL (pv 3) (pv 3)) (bA lL aH (pv 3))) aH) (pv 2)))
   (aL (b9 (i:=3) sc.nd rfl (Or.inl rfl) (bA qW (bA dG (bA lL (pv 3) (pv 3)) aH) (pv 2)))))) bJ)
   (aE (bZ (bA dG (b0 (aO (K:=K) rfl) (pv 0) aH (λ _ _=>rfl)) aH) (uT (pv 0) aH iI))
   (aL (bZ (pv 3) (uT (pv 0) aH iI))))))) bJ)
   (aE (b9 (i:=4) sc.nd rfl (Or.inl rfl) (bA qW (b0 (aO (K:=K) rfl) (pv 0) aH (λ _ _=>rfl)) (pv 1)))
   (aE (bZ (bA FN (b0 (aO (K:=K) rfl) (pv 0) aH (λ _ _=>rfl)) (pv 1)) (uT (pv 0) aH iI))
   (aL (aZ (pv 4))))))),?_⟩
  have nst:sl≠t:=K2 hsl ht (by intro z;injection z with z;cases ns <;> simp at z)
  have ix:∀ {H1:Hp}{p' c':Int}{Q:VK},H1 t=some (.lst [.ref sl,.int p',.int c'])->Q (.ref sl) H1->wP K (.ref t) (.int 0) H1 Q:=λ e q=>.inl ⟨t,_,0,_,rfl,rfl,bO.of e,rfl,q⟩
  have ix1:∀ {H1:Hp}{p' c':Int}{Q:VK},H1 t=some (.lst [.ref sl,.int p',.int c'])->Q (.int p') H1->wP K (.ref t) (.int 1) H1 Q:=λ e q=>.inl ⟨t,_,1,_,rfl,rfl,bO.of e,rfl,q⟩
  have ix2:∀ {H1:Hp}{p' c':Int}{Q:VK},H1 t=some (.lst [.ref sl,.int p',.int c'])->Q (.int c') H1->wP K (.ref t) (.int 2) H1 Q:=λ e q=>.inl ⟨t,_,2,_,rfl,rfl,bO.of e,rfl,q⟩
  have tail:∀ (v3:Option V) (H1:Hp) (p' c':Int),cA t H H1->H1 t=some (.lst [.ref sl,.int p',.int c'])->uQ K (dE Q) [some (.ref t),some (.int many),some (.int 2305843009213693951),v3,none] H1:=by
   intro v3 H1 p' c' bt e
   refine⟨_,rfl,ix2 e ⟨_,rfl,_,_,rfl,rfl,hm0,?_⟩⟩
   refine⟨_,rfl,ix2 e ⟨_,rfl,_,_,rfl,rfl,⟨hm0,hm1⟩,_,rfl,t,_,2,2,rfl,rfl,e,rfl,_,rfl,?_⟩⟩
   refine k _ _ (bt.trans cA.upd) ⟨ns,p',c' / many,aB,?_,hns⟩ (Int.emod_nonneg _ (by omega)) (Int.emod_lt_of_pos _ hm0)
   rw[aM nst];exact bt sl _ nst hsl
  refine⟨_,rfl,ix2 ht ⟨_,rfl,_,_,rfl,rfl,_,rfl,?_⟩⟩
  refine n6 (λ _=>?_) (λ _=>tail none H pos cell (cA.refl H) ht)
  have mid:∀ (c':Int),EQ K { nx:=uQ K (dE Q),rt:=Q } [some (.ref t),some (.int many),some (.int 2305843009213693951),some (.int c'),none] H:=by
   intro c'
   refine⟨_,rfl,ix1 ht ⟨_,_,rfl,rfl,_,rfl,t,_,1,1,rfl,rfl,ht,rfl,?_⟩⟩
   refine⟨_,rfl,_,rfl,t,_,2,2,rfl,rfl,aB,rfl,?_⟩
   exact tail (some (.int c')) _ (pos+1) c' (cA.upd.trans cA.upd) aB
  have big:∀ (c':Int),iG (ED (KZ K) (ER K) EC) (EQ K) { nx:=uQ K (dE Q),rt:=Q } [some (.ref t),some (.int many),some (.int 2305843009213693951),some (.int c'),none] H:=by
   intro c'
   have body:∀ σ,σ=[some (.ref t),some (.int many),some (.int 2305843009213693951),some (.int c'),none]->ER K { nx:=EQ K { nx:=uQ K (dE Q),rt:=Q },rt:=Q } σ H:=by
    rintro σ rfl
    have prime:(0:Int) < 2305843009213693951:=by decide
    refine⟨_,rfl,_,rfl,ix1 ht ⟨_,_,rfl,rfl,.inl ⟨by decide,by decide⟩,_,_,rfl,rfl,_,rfl,_,_,rfl,rfl,prime,?_⟩⟩
    have b1:=Int.emod_nonneg (c'+1000003 * pos) (show (2305843009213693951:Int)≠0 by decide)
    have b2:=Int.emod_lt_of_pos (c'+1000003 * pos) prime
    generalize (c'+1000003 * pos) % 2305843009213693951=c1 at b1 b2
    refine⟨_,rfl,_,rfl,_,_,rfl,rfl,.inl ⟨by omega,by omega⟩,_,rfl,_,_,rfl,rfl,.inl ⟨by decide,by decide⟩,_,_,rfl,rfl,_,_,rfl,rfl,_,rfl,_,_,rfl,rfl,prime,?_⟩
    have b3:=Int.emod_nonneg (c1 * c1+1181783497276652981 * c1+2049848353892358983) (show (2305843009213693951:Int)≠0 by decide)
    have b4:=Int.emod_lt_of_pos (c1 * c1+1181783497276652981 * c1+2049848353892358983) prime
    generalize (c1 * c1+1181783497276652981 * c1+2049848353892358983) % 2305843009213693951=c2 at b3 b4
    refine⟨_,rfl,_,rfl,_,_,rfl,rfl,.inl ⟨by omega,by omega⟩,_,_,rfl,rfl,_,rfl,_,_,rfl,rfl,prime,?_⟩
    exact mid _
   refine⟨_,rfl,ix1 ht ⟨_,rfl,ix ht ⟨sl,_,rfl,.inl (bO.of hsl),_,_,rfl,rfl,_,rfl,?_⟩⟩⟩
   refine n6 (λ _=>?_) (λ _=>?_)
   ·refine gA ?_
    exact body _ rfl
   ·refine⟨_,rfl,_,_,rfl,rfl,⟨by decide,by decide,by decide⟩,_,_,rfl,rfl,_,rfl,?_⟩
    refine n6 (λ _=>body _ rfl) (λ _=>mid _)
  refine⟨_,rfl,ix ht ⟨sl,_,rfl,.inl (bO.of hsl),_,_,rfl,rfl,_,rfl,?_⟩⟩
  refine n6 (λ hlen=>?_) (λ _=>big 0)
  have hpos:0 < ns.length:=by have:=of_decide_eq_true hlen;simpa using this
  refine⟨_,rfl,ix ht ⟨_,rfl,ix1 ht ⟨_,rfl,ix ht ⟨sl,_,rfl,.inl (bO.of hsl),_,_,rfl,rfl,(show (0:Int) < (((ns.map V.int).length:Nat):Int) by rw[aac];omega),?_⟩⟩⟩⟩
  have m1:=Int.emod_nonneg pos (show (((ns.map V.int).length:Nat):Int)≠0 by rw[aac];omega)
  have m2:=Int.emod_lt_of_pos pos (show (0:Int) < (((ns.map V.int).length:Nat):Int) by rw[aac];omega)
  rw[aac] at m1 m2
  have hix:(ns.map V.int)[(pos % ((ns.map V.int).length:Int)).toNat]? = some (.int (ns[(pos % (ns.length:Int)).toNat]'(by omega))):=by
   rw[aac,aah];simp [show (pos % (ns.length:Int)).toNat < ns.length by omega]
  refine .inl ⟨sl,_,_,_,rfl,rfl,bO.of hsl,vU (by rw[aac];exact m1) hix,?_⟩
  exact big _
theorem vE {f:Addr}{fd:FuncData} (F:Fun K "_law_draw" "_law_draw" (aQ 50) f fd) (T:Txt mg):FnOk P w K mg base gC 1 f fd ["tape","many"] fX:=
 (sL F T).imp λ vs H Q E ⟨t,sl,many,e,tp,h0,h1,k⟩=>⟨t,sl,many,e,tp,h0,Int.lt_of_lt_of_le h1 (by decide),k⟩
end
end Tw
namespace Tw
open PySem L2
structure Ext (t sl:Addr) (H H':Hp):Prop where
 bt:cA t H H'
 tp:dU H' t sl
theorem dU.some {H:Hp}{t sl:Addr} (h:dU H t sl):∃ o,H t=some o:=by obtain⟨ns,pos,cell,e,_⟩:=h;exact⟨_,e⟩
theorem dU.put {H:Hp}{t sl p:Addr}{o:HO} (h:dU H t sl) (h1:p≠t) (h2:p≠sl):dU (upd H p o) t sl:=by
 obtain⟨ns,pos,cell,e,f,g⟩:=h
 exact⟨ns,pos,cell,by rw[aM (Ne.symm h1)];exact e,by rw[aM (Ne.symm h2)];exact f,g⟩
theorem dU.ne_sl {H:Hp}{t sl p:Addr} (h:dU H t sl) (hp:H p=none):p≠sl:=by
 obtain⟨ns,pos,cell,e,f,g⟩:=h
 exact λ z=>by rw[z,f] at hp;cases hp
theorem Ext.new {t sl p:Addr}{H H':Hp}{o:HO} (e:Ext t sl H H') (hp:H' p=none):Ext t sl H (upd H' p o):=⟨e.bt.trans (aK.new hp).but,e.tp.same (aK.new hp)⟩
theorem Ext.ne {t sl p:Addr}{H H':Hp} (e:Ext t sl H H') (hp:H' p=none):p≠t:=by
 obtain⟨o,h⟩:=e.tp.some
 intro z;rw[z,h] at hp;cases hp
theorem Ext.ts {K:aaa}{t sl:Addr}{H H':Hp} (e:Ext t sl H H') (tp:dU H t sl):bM K H H':=e.bt.ts tp.mut
noncomputable def Gn (t sl:Addr) (σ:St) (H0:Hp) (P:V->Prop) (te:TE):Prop:=∀ H Q,Ext t sl H0 H->(∀ v H',Ext t sl H0 H'->cA t H H'->P v->Q v H')->te σ H Q
section
variable {K:aaa}{t sl:Addr}{σ:St}{H0:Hp}{P:V->Prop}{a b c d:TE}
noncomputable def d9 (lo hi:Int):V->Prop:=λ v=>∃ i,v=.int i/\lo<=i/\i < hi
theorem Gn.imp {P':V->Prop} (h:Gn t sl σ H0 P a) (f:∀ v,P v->P' v):Gn t sl σ H0 P' a:=λ H Q e k=>h H Q e λ v H' e' b p=>k v H' e' b (f v p)
theorem rP {v:V} (h:P v):Gn t sl σ H0 P (tC v):=λ H Q e k=>k v H e (cA.refl H) h
theorem ND {i:Nat}{v:V} (bx:σ[i]? = some (some v)) (h:P v):Gn t sl σ H0 P (cZ i):=λ H Q e k=>⟨v,bx,k v H e (cA.refl H) h⟩
theorem gP (ha:Gn t sl σ H0 P a) (hb:Gn t sl σ H0 P b) (hc:Gn t sl σ H0 (d9 0 2) c):Gn t sl σ H0 P (iD (wP K) (HX (dR a (dR b jF))) c):=by
 intro H Q e k
 refine ha H _ e λ v1 H1 e1 b1 p1=>hb H1 _ e1 λ v2 H2 e2 b2 p2=>⟨(show 2<=sizeLine by decide),λ p hp=>hc _ _ (e2.new hp) λ v H3 e3 b3 ⟨i,hi,h0,h1⟩=>?_⟩
 subst hi
 have hl:=b3 p _ (e2.ne hp) aB
 have hb:cA t H H3:=b1.trans (b2.trans ((aK.new hp).but.trans b3))
 rcases (show i=0\/i=1 by omega) with rfl | rfl
 ·exact .inl ⟨p,_,0,v1,rfl,rfl,bO.of hl,rfl,k v1 H3 e3 hb p1⟩
 ·exact .inl ⟨p,_,1,v2,rfl,rfl,bO.of hl,rfl,k v2 H3 e3 hb p2⟩
theorem xR (ha:Gn t sl σ H0 P a) (hb:Gn t sl σ H0 P b) (hd:Gn t sl σ H0 P d) (hc:Gn t sl σ H0 (d9 0 3) c):Gn t sl σ H0 P (iD (wP K) (HX (dR a (dR b (dR d jF)))) c):=by
 intro H Q e k
 refine ha H _ e λ v1 H1 e1 b1 p1=>hb H1 _ e1 λ v2 H2 e2 b2 p2=>hd H2 _ e2 λ v4 H4 e4 b4 p4=>⟨(show 3<=sizeLine by decide),λ p hp=>hc _ _ (e4.new hp) λ v H3 e3 b3 ⟨i,hi,h0,h1⟩=>?_⟩
 subst hi
 have hl:=b3 p _ (e4.ne hp) aB
 have hb:cA t H H3:=b1.trans (b2.trans (b4.trans ((aK.new hp).but.trans b3)))
 rcases (show i=0\/i=1\/i=2 by omega) with rfl | rfl | rfl
 ·exact .inl ⟨p,_,0,v1,rfl,rfl,bO.of hl,rfl,k v1 H3 e3 hb p1⟩
 ·exact .inl ⟨p,_,1,v2,rfl,rfl,bO.of hl,rfl,k v2 H3 e3 hb p2⟩
 ·exact .inl ⟨p,_,2,v4,rfl,rfl,bO.of hl,rfl,k v4 H3 e3 hb p4⟩
theorem vJ {i:Nat}{lo hi:Int} (bx:σ[i]? = some (some (.ref t))) (hlo:0 < lo) (hhi:hi<=1000000) (ha:Gn t sl σ H0 (d9 lo hi) a):Gn t sl σ H0 (λ v=>∃ r m,v=.int r/\0<=r/\r < m/\lo<=m/\m < hi) (pZ fX [] E0 (dR (cZ i) (dR a jF))):=by
 intro H Q e k
 refine⟨_,bx,ha H _ e λ v H1 e1 b1 ⟨m,hm,h0,h1⟩=>?_⟩
 subst hm
 exact⟨t,sl,m,rfl,e1.tp,by omega,by omega,λ r H2 b2 t2 r0 r1=>k _ H2 ⟨e1.bt.trans b2,t2⟩ (b1.trans b2) ⟨r,m,rfl,r0,r1,h0,h1⟩⟩
theorem bY {i:Nat}{m:Int} (bx:σ[i]? = some (some (.ref t))) (h0:0 < m) (h1:m < 1000000):Gn t sl σ H0 (d9 0 m) (pZ fX [] E0 (dR (cZ i) (dR (tC (.int m)) jF))):=
 (vJ (lo:=m) (hi:=m+1) bx h0 (by omega) (rP ⟨m,rfl,by omega,by omega⟩)).imp λ v ⟨r,m',e,a,b,c,d⟩=>⟨r,e,a,by omega⟩
theorem jZ {i j:Nat}{m:Int} (bx:σ[i]? = some (some (.ref t))) (hj:σ[j]? = some (some (.int m))) (h0:0 < m) (h1:m < 1000000):Gn t sl σ H0 (d9 0 m) (pZ fX [] E0 (dR (cZ i) (dR (cZ j) jF))):=
 (vJ (lo:=m) (hi:=m+1) bx h0 (by omega) (ND hj ⟨m,rfl,by omega,by omega⟩)).imp λ v ⟨r,m',e,a,b,c,d⟩=>⟨r,e,a,by omega⟩
theorem vK {x y l h:Int} (ha:Gn t sl σ H0 (d9 x y) a) (hb:Gn t sl σ H0 (d9 l h) b):Gn t sl σ H0 (d9 (x+l) (y+h - 1)) (iD (uR λ i j=>.int (i+j)) a b):=by
 intro H Q e k
 refine ha H _ e λ v1 H1 e1 b1 ⟨i,hi,i0,i1⟩=>hb H1 _ e1 λ v2 H2 e2 b2 ⟨j,hj,j0,j1⟩=>?_
 subst hi hj
 exact⟨i,j,rfl,rfl,k _ H2 e2 (b1.trans b2) ⟨_,rfl,by omega,by omega⟩⟩
theorem GQ {y m:Int} (hm:0 < m) (hm2:m < 1000000) (ha:Gn t sl σ H0 (d9 0 y) a):Gn t sl σ H0 (λ v=>∃ i,v=.int (i / m)/\0<=i/\i < y) (iD (rI M1 λ i j=>.int (i / j)) a (tC (.int m))):=by
 intro H Q e k
 refine ha H _ e λ v1 H1 e1 b1 ⟨i,hi,i0,i1⟩=>?_
 subst hi
 exact⟨i,m,rfl,rfl,⟨hm,by omega⟩,k _ H1 e1 b1 ⟨i,rfl,i0,i1⟩⟩
theorem zW {y c0:Int} (ha:Gn t sl σ H0 (d9 0 y) a):Gn t sl σ H0 (λ v=>∃ b:Bool,v=.bl b) (iD rEq a (tC (.int c0))):=by
 intro H Q e k
 refine ha H _ e λ v1 H1 e1 b1 ⟨i,hi,i0,i1⟩=>?_
 subst hi
 exact⟨rfl,k _ H1 e1 b1 ⟨_,rfl⟩⟩
theorem LP {y c0:Int} (ha:Gn t sl σ H0 (d9 0 y) a):Gn t sl σ H0 (λ v=>∃ b:Bool,v=.bl b) (iD (uR λ i j=>.bl (decide (j < i))) a (tC (.int c0))):=by
 intro H Q e k
 refine ha H _ e λ v1 H1 e1 b1 ⟨i,hi,i0,i1⟩=>?_
 subst hi
 exact⟨i,c0,rfl,rfl,k _ H1 e1 b1 ⟨_,rfl⟩⟩
noncomputable abbrev EU:List V->Hp->VK->Prop:=λ xs H Q=>(∃ i,xs=[.int i]/\Q (.int i) H)\/∃ k,xs=[.bl k]/\Q (.int (if k then 1 else 0)) H
theorem GP {i:Nat}{s:Bool} (bx:σ[i]? = some (some (.bl s))):Gn t sl σ H0 (d9 0 2) (M4 EU (dR (cZ i) jF)):=by
 intro H Q e k
 refine⟨_,bx,.inr ⟨s,rfl,k _ H e (cA.refl H) ?_⟩⟩
 cases s
 ·exact⟨0,rfl,by omega,by omega⟩
 ·exact⟨1,rfl,by omega,by omega⟩
theorem pI {i:Nat}{s:Bool}{x y lo hi:Int} (bx:σ[i]? = some (some (.bl s))) (h1:lo<=x/\x < hi) (h2:lo<=y/\y < hi):Gn t sl σ H0 (d9 lo hi) (iD (wP K) (HX (dR (tC (.int x)) (dR (tC (.int y)) jF))) (M4 EU (dR (cZ i) jF))):=
 gP (rP ⟨x,rfl,h1.1,h1.2⟩) (rP ⟨y,rfl,h2.1,h2.2⟩) (GP bx)
theorem pJ (ha:Gn t sl σ H0 (d9 0 4) a):Gn t sl σ H0 (d9 0 2) (iD (rI M1 λ i j=>.int (i / j)) a (tC (.int 3))):=
 (GQ (by decide) (by decide) ha).imp λ v ⟨i,e,a,b⟩=>⟨i / 3,e,by omega,by omega⟩
theorem lC {lo hi lo' hi':Int} (h:Gn t sl σ H0 (d9 lo hi) a) (h1:lo'<=lo) (h2:hi<=hi'):Gn t sl σ H0 (d9 lo' hi') a:=h.imp λ v ⟨i,e,a,b⟩=>⟨i,e,by omega,by omega⟩
theorem kA {i:Nat}{lo hi:Int} (bx:σ[i]? = some (some (.ref t))) (hlo:0 < lo) (hhi:hi<=1000000) (ha:Gn t sl σ H0 (d9 lo hi) a):Gn t sl σ H0 (d9 0 (hi - 1)) (pZ fX [] E0 (dR (cZ i) (dR a jF))):=
 (vJ bx hlo hhi ha).imp λ v ⟨r,m,e,a,b,c,d⟩=>⟨r,e,a,by omega⟩
end
section
variable {P:Program}{w:World}{K:aaa}{mg:Str->Option Value}{base:Heap}
noncomputable def yQ (K:aaa):Sp:=λ args H Q _=>∃ (t sl:Addr) (n:Nat) (small:Bool),args=[.ref t,.int (n:Int),.bl small]/\dU H t sl/\1<=n/\n<=12/\
 ∀ (outs:List (Option Int×Int)) p H',Ext t sl H H'->outs≠[]->outs.length<=3->(∀ o∈outs,OutOk n o)->Is K H' (.tup (outs.map oZ)) p->Q p H'
theorem mK:FnScope ["tape","many","small","outs","k","target","parts"] ["tape","many","small"] (aJ (aQ 51)):=⟨rfl,rfl,rfl,by decide +kernel,rfl,by decide +kernel,by decide +kernel⟩
theorem vC {f fD:Addr}{fd fdD:FuncData} (F:Fun K "_law_outs" "_law_outs" (aQ 51) f fd) (T:Txt mg) (G__law_draw:Callee P w K mg base "_law_draw" ["tape","many"] 1 fX fD fdD):FnOk P w K mg base gC 2 f fd ["tape","many","small"] (yQ K):=by
 refine F.ok mK (λ vs H Q E h=>?_) (λ cdv A outer s H vs Q E hr h=>?_)
 ·obtain⟨t,sl,n,small,rfl,_⟩:=h;rfl
 ·obtain⟨t,sl,n,small,rfl,tp,n1,n2,k⟩:=h
  have sc:=mK
  refine⟨_,(aE (b9 (i:=3) sc.nd rfl (Or.inl rfl) (bP aD))
   (aE (dY PassesOwn.never rfl (dX rfl T.b_range (aA (bA dG aH (b0 (aO (K:=K) rfl) (bP (aA (cU G__law_draw hr (aA (pv 0) (aA aH aD))) (aA (cU G__law_draw hr (aA (pv 0) (aA aH aD))) aD))) (cU G__law_draw hr (aA (pv 0) (aA aH aD))) (λ _ _=>rfl))) aD)) (aG (i:=4) sc.nd rfl (Or.inl rfl)) (aE (b9 (i:=5) sc.nd rfl (Or.inl rfl) (b0 (aO (K:=K) rfl) (bP (aA gM (aA (cU G__law_draw hr (aA (pv 0) (aA (pv 1) aD))) (aA (cU G__law_draw hr (aA (pv 0) (aA (pv 1) aD))) aD)))) (cU G__law_draw hr (aA (pv 0) (aA aH aD))) (λ _ _=>rfl)))
   (aE (b9 (i:=6) sc.nd rfl (Or.inl rfl) (b0 (aO (K:=K) rfl) (bP (aA (cU G__law_draw hr (aA (pv 0) (aA aH aD))) (aA (cU G__law_draw hr (aA (pv 0) (aA (b0 (aO (K:=K) rfl) (bP (aA aH (aA aH aD))) (aY iT rfl T.b_int lT (aA (pv 2) aD)) (λ _ _=>rfl)) aD))) aD))) (bA kK (cU G__law_draw hr (aA (pv 0) (aA aH aD))) aH) (λ _ _=>rfl)))
   (aL (bW (dF (K:=K) rfl aar aba abb cE (pv 3) (aA (bS (aA (pv 5) (aA (bA dG aH (pv 6)) aD))) aD)))))))
   (aL (aZ (aY (bU (K:=K) rfl) rfl T.b_tuple cD (aA (pv 3) aD)))))),?_⟩
  refine⟨Nat.zero_le _,λ ol hol=>?_⟩
  have e0:Ext t sl H (upd H ol (.lst [])):=Ext.new ⟨cA.refl H,tp⟩ hol
  have no:ol≠t:=Ext.ne ⟨cA.refl H,tp⟩ hol
  refine vK (x:=1) (y:=2) (l:=0) (h:=3) (H0:=upd H ol (.lst [])) (t:=t) (sl:=sl) (rP ⟨1,rfl,by omega,by omega⟩)
   (gP (lC (bY rfl (by decide) (by decide)) (Int.le_refl _) (by decide)) (bY rfl (by decide) (by decide)) (bY rfl (by decide) (by decide))) _ _ ⟨cA.refl _,e0.tp⟩ ?_
  rintro v H1 e1 _ ⟨m,rfl,m0,m1⟩
  refine⟨m,rfl,by omega,by omega,?_⟩
  refine fL (lo:=0) (n:=m.toNat) (λ i Z H'=>Ext t sl H H'/\∃ (outs:List (Option Int×Int)) (xs:List V),H' ol=some (.lst xs)/\IsL K H' (outs.map oZ) xs/\outs.length=i/\(∀ o∈outs,OutOk n o)/\
   ∃ v4 v5 v6,Z=[some (.ref t),some (.int (n:Int)),some (.bl small),some (.ref ol),v4,v5,v6]) ?_ ?_ ?_
  ·exact⟨⟨e0.bt.trans e1.bt,e1.tp⟩,[],[],e1.bt ol _ no aB,.nil,rfl,λ o ho=>(nomatch ho),none,none,none,rfl⟩
  ·rintro i Z H2 hi ⟨e2,outs,xs,ho,hl,hlen,hok,v4,v5,v6,rfl⟩
   refine xR (H0:=H2) (t:=t) (sl:=sl) (P:=λ v=>∃ o:Option Int,v=gU o/\∀ z,o=some z->0<=z/\z < n) (rP ⟨none,rfl,λ z h=>nomatch h⟩)
    ((jZ (m:=(n:Int)) rfl rfl (by omega) (by omega)).imp λ v ⟨r,e,a,b⟩=>⟨some r,e,λ z h=>by cases h;exact⟨a,by omega⟩⟩)
    ((jZ (m:=(n:Int)) rfl rfl (by omega) (by omega)).imp λ v ⟨r,e,a,b⟩=>⟨some r,e,λ z h=>by cases h;exact⟨a,by omega⟩⟩) (bY rfl (by decide) (by decide)) _ _ ⟨cA.refl _,e2.tp⟩ ?_
   rintro v H3 e3 _ ⟨tg,rfl,htg⟩
   refine gP (H0:=H3) (t:=t) (sl:=sl) (P:=d9 0 60) (lC (bY rfl (by decide) (by decide)) (Int.le_refl _) (by decide))
    (lC (kA (lo:=3) (hi:=61) rfl (by decide) (by decide) (pI rfl ⟨by decide,by decide⟩ ⟨by decide,by decide⟩)) (Int.le_refl _) (by decide)) (pJ (bY rfl (by decide) (by decide))) _ _ ⟨cA.refl _,e3.tp⟩ ?_
   rintro v H4 e4 _ ⟨pt,rfl,p0,p1⟩
   have ho4:H4 ol=some (.lst xs):=e4.bt ol _ no (e3.bt ol _ no ho)
   refine⟨_,rfl,.inl ⟨rfl,_,bO.of ho4⟩,_,rfl,_,rfl,_,_,rfl,rfl,(show 2<=sizeLine by decide),λ q hq=>?_⟩
   have nq:ol≠q:=aN ho4 hq
   have hxl:xs.length=outs.length:=by rw[hl.length,aac]
   have hm3:m.toNat<=3:=by omega
   refine⟨ol,xs,_,rfl,rfl,by rw[aM nq];exact ho4,aP (by omega),?_⟩
   have e5:Ext t sl H2 (upd H4 q (.tup [gU tg,.int (1+pt)])):=Ext.new ⟨e3.bt.trans e4.bt,e4.tp⟩ hq
   have ts:bM K H2 (upd (upd H4 q (.tup [gU tg,.int (1+pt)])) ol (.lst (xs++[.ref q]))):=bM.put (e5.ts e2.tp) (.inr (by rw[aM nq,ho4];exact trivial))
   refine⟨⟨λ b o hb e=>?_,?_⟩,outs++[(tg,1+pt)],xs++[.ref q],aB,?_,by simp [hlen],?_,_,_,_,rfl⟩
   ·rw[aM (aN e hol)];exact e5.bt b o hb (e2.bt b o hb e)
   ·exact e5.tp.put no (dU.ne_sl tp hol)
   ·rw[aai]
    exact IsL.snoc (Is.tupOf (ds:=[HR tg,.int (1+pt)]) (bM.put (bM.refl _) (.inr (by rw[aM nq,ho4];exact trivial)) _ _ (bN.of aB)) (.cons (Is.tgOf tg) (.cons (Is.i _) .nil))) (IsL.mono ts _ _ hl)
   ·intro o ho
    rcases abc.mp ho with ho | ho
    ·exact hok o ho
    ·rw[aaq.mp ho]
     exact⟨λ z hz=>htg z hz,by show 1<=1+pt;omega,by show 1+pt<=60;omega⟩
  ·rintro Z H2 ⟨e2,outs,xs,ho,hl,hlen,hok,v4,v5,v6,rfl⟩
   refine⟨_,rfl,ol,_,rfl,.inl ⟨bO.of ho,λ l hlf=>?_⟩⟩
   refine k outs _ _ (e2.new hlf) (λ z=>by rw[z] at hlen;simp at hlen;omega) (by omega) hok (Is.tupOf (bN.of aB) (IsL.mono (aK.new hlf).ts _ _ hl))
end
end Tw
namespace L2
theorem GF {c:TT}{a b:TS}{D:Ends}{σ:St}{H:Hp} (I:St->Hp->Prop) (h1:∀ D':Ends,(∀ Z H',I Z H'->D'.nx Z H')->ED c a b D' σ H) (h2:∀ Z H',I Z H'->D.nx Z H'):ED c a b D σ H:=h1 D h2
theorem vL {i:TI}{g:TG}{b:TS}{D:Ends}{σ:St}{H:Hp} (I:St->Hp->Prop) (h1:∀ D':Ends,(∀ Z H',I Z H'->D'.nx Z H')->KN i g b D' σ H) (h2:∀ Z H',I Z H'->D.nx Z H'):KN i g b D σ H:=h1 D h2
theorem KU {s R:TS}{D:Ends}{σ:St}{H:Hp} (I:St->Hp->Prop) (h1:∀ D':Ends,(∀ Z H',I Z H'->D'.nx Z H')->s D' σ H) (h2:∀ Z H',I Z H'->R D Z H'):iG s R D σ H:=h1 _ h2
end L2
namespace Tw
open PySem L2
section
variable {K:aaa}{t sl:Addr}{σ:St}{H0:Hp}{P:V->Prop}{a b c d:TE}
theorem GE {y c0:Int}{t' u':TS}{D':Ends}{H:Hp} (ha:Gn t sl σ H0 (d9 0 y) a) (e:Ext t sl H0 H) (k:∀ (b:Bool) H',Ext t sl H0 H'->cA t H H'->if b=true then t' D' σ H' else u' D' σ H'):ED (A9 (iD rEq a (tC (.int c0)))) t' u' D' σ H:=
 zW ha H _ e λ v H' e' b ⟨c,hc⟩=>⟨c,hc,k c H' e' b⟩
theorem DH {i:Nat}{s:Bool} (bx:σ[i]? = some (some (.bl s))) (ha:Gn t sl σ H0 (d9 0 2) a):Gn t sl σ H0 (d9 0 2) (iD (rI yA λ i j=>.int (i * j)) a (M4 EU (dR (JT (cZ i)) jF))):=by
 intro H Q e k
 refine ha H _ e λ v1 H1 e1 b1 ⟨j,hj,j0,j1⟩=>⟨_,bx,s,rfl,.inr ⟨!s,rfl,?_⟩⟩
 subst hj
 refine⟨j,_,rfl,rfl,.inl ⟨by omega,by omega⟩,k _ H1 e1 b1 ?_⟩
 cases s
 ·exact⟨j,by simp,j0,j1⟩
 ·exact⟨0,by simp,by omega,by omega⟩
theorem GO {j:Nat}{x y:Int} (hj:σ[j]? = some (some (.int y))):Gn t sl σ H0 (d9 (x - y) (x - y+1)) (iD (uR λ i j=>.int (i - j)) (tC (.int x)) (cZ j)):=λ H Q e k=>
 ⟨_,hj,x,y,rfl,rfl,k _ H e (cA.refl H) ⟨_,rfl,by omega,by omega⟩⟩
theorem BH {j:Nat}{y l h:Int} (hj:σ[j]? = some (some (.int y))) (hb:Gn t sl σ H0 (d9 l h) b):Gn t sl σ H0 (d9 (y+l) (y+h)) (iD (uR λ i j=>.int (i+j)) (cZ j) b):=
 lC (vK (x:=y) (y:=y+1) (ND hj ⟨y,rfl,by omega,by omega⟩) hb) (by omega) (by omega)
end
section
variable {P:Program}{w:World}{K:aaa}{mg:Str->Option Value}{base:Heap}
structure VFull (i:Nat) (v:Vs):Prop where
 sz:v.size<=60
 br:v.size<=v.brim
 bh:v.brim<=200
 sp:∀ t,v.spill=some t->(i:Int) < t
structure NetFull (net:Net):Prop where
 vs:∀ i v,net.vs[i]? = some v->VFull i v
 sps:∀ s∈net.sps,0<=s.2.1/\s.2.1<=60
noncomputable def qB (K:aaa):Sp:=λ args H Q _=>∃ (t sl:Addr) (i n m:Nat) (small:Bool),args=[.ref t,.int (i:Int),.int (n:Int),.int (m:Int),.bl small]/\dU H t sl/\i < n/\n<=12/\m<=12/\
 ∀ (v:Vs) p H',Ext t sl H H'->VOk n m v->VFull i v->Is K H' (pM v) p->Q p H'
theorem jT:FnScope ["tape","number","many","spouts","small","size","brim","spill","acts","k"] ["tape","number","many","spouts","small"] (aJ (aQ 52)):=⟨rfl,rfl,rfl,by decide +kernel,rfl,by decide +kernel,by decide +kernel⟩
theorem r9 {f fD fO:Addr}{fd fdD fdO:FuncData} (F:Fun K "_law_vessel" "_law_vessel" (aQ 52) f fd) (T:Txt mg) (G__law_draw:Callee P w K mg base "_law_draw" ["tape","many"] 1 fX fD fdD)
  (G__law_outs:Callee P w K mg base "_law_outs" ["tape","many","small"] 2 (yQ K) fO fdO):FnOk P w K mg base gC 3 f fd ["tape","number","many","spouts","small"] (qB K):=by
 refine F.ok jT (λ vs H Q E h=>?_) (λ cdv A outer s H vs Q E hr h=>?_)
 ·obtain⟨t,sl,i,n,m,small,rfl,_⟩:=h;rfl
 ·obtain⟨t,sl,i,n,m,small,rfl,tp,hi,hn,hm,k⟩:=h
  have sc:=jT
  refine⟨_,(aE (b9 (i:=5) sc.nd rfl (Or.inl rfl) (bA dG aH (b0 (aO (K:=K) rfl) (bP (aA (cU G__law_draw hr (aA (pv 0) (aA (b0 (aO (K:=K) rfl) (bP (aA aH (aA aH aD))) (aY iT rfl T.b_int lT (aA (pv 4) aD)) (λ _ _=>rfl)) aD))) (aA (cU G__law_draw hr (aA (pv 0) (aA (b0 (aO (K:=K) rfl) (bP (aA aH (aA aH aD))) (aY iT rfl T.b_int lT (aA (pv 4) aD)) (λ _ _=>rfl)) aD))) aD))) (bA kK (cU G__law_draw hr (aA (pv 0) (aA aH aD))) aH) (λ _ _=>rfl))))
   (aE (b9 (i:=6) sc.nd rfl (Or.inl rfl) (bA dG (pv 5) (b0 (aO (K:=K) rfl) (bP (aA aH (aA (cU G__law_draw hr (aA (pv 0) (aA (bA fJ aH (pv 5)) aD))) aD))) (bA lL (cU G__law_draw hr (aA (pv 0) (aA aH aD))) (aY iT rfl T.b_int lT (aA (uU (pv 4)) aD))) (λ _ _=>rfl))))
   (aE (d8 (cT tG (cU G__law_draw hr (aA (pv 0) (aA aH aD))) aH (cR _)) (aL (b9 (i:=6) sc.nd rfl (Or.inl rfl) (bA dG (pv 5) (cU G__law_draw hr (aA (pv 0) (aA aH aD)))))) bJ)
   (aE (b9 (i:=7) sc.nd rfl (Or.inl rfl) gM)
   (aE (d8 (PW.pt (EW (cT wZ (bA dG (pv 1) aH) (pv 2) (cR _)) (AR (cT tG (cU G__law_draw hr (aA (pv 0) (aA aH aD))) aH (cR _))))) (aL (b9 (i:=7) sc.nd rfl (Or.inl rfl) (bA dG (bA dG (pv 1) aH) (cU G__law_draw hr (aA (pv 0) (aA (bA fJ (bA fJ (pv 2) (pv 1)) aH) aD)))))) bJ)
   (aE (b9 (i:=8) sc.nd rfl (Or.inl rfl) (bP aD))
   (aE (d8 (cT FM (pv 3) aH (cR _)) (aL (dY PassesOwn.never rfl (dX rfl T.b_range (aA (bA kK (cU G__law_draw hr (aA (pv 0) (aA aH aD))) aH) aD)) (aG (i:=9) sc.nd rfl (Or.inl rfl)) (aL (bW (dF (K:=K) rfl aar aba abb cE (pv 8) (aA (bS (aA (b0 (aO (K:=K) rfl) (bP (aA hJ (aA hJ (aA hJ aD)))) (cU G__law_draw hr (aA (pv 0) (aA aH aD))) (λ _ _=>rfl)) (aA (cU G__law_draw hr (aA (pv 0) (aA (pv 3) aD))) aD))) aD)))))) bJ)
   (aL (aZ (bS (aA (pv 5) (aA (pv 6) (aA (cU G__law_outs hr (aA (pv 0) (aA (pv 2) (aA (pv 4) aD)))) (aA (g8 tG (cU G__law_draw hr (aA (pv 0) (aA aH aD))) aH (cR _)) (aA (pv 7) (aA (aY (bU (K:=K) rfl) rfl T.b_tuple cD (aA (pv 8) aD)) aD)))))))))))))))),?_⟩
  refine vK (t:=t) (sl:=sl) (H0:=H) (x:=1) (y:=2) (l:=0) (h:=60) (rP ⟨1,rfl,by omega,by omega⟩)
   (gP (lC (kA (lo:=4) (hi:=10) rfl (by decide) (by decide) (pI rfl ⟨by decide,by decide⟩ ⟨by decide,by decide⟩)) (Int.le_refl _) (by decide))
    (lC (kA (lo:=4) (hi:=61) rfl (by decide) (by decide) (pI rfl ⟨by decide,by decide⟩ ⟨by decide,by decide⟩)) (Int.le_refl _) (by decide)) (pJ (bY rfl (by decide) (by decide)))) _ _ ⟨cA.refl _,tp⟩ ?_
  rintro v H1 e1 _ ⟨size,rfl,s0,s1⟩
  refine BH (t:=t) (sl:=sl) (H0:=H) (y:=size) (l:=0) (h:=201 - size) rfl (gP (rP ⟨0,rfl,by omega,by omega⟩)
   (lC (kA (lo:=201 - size) (hi:=201 - size+1) rfl (by omega) (by omega) (GO rfl)) (Int.le_refl _) (by omega)) (DH rfl (bY rfl (by decide) (by decide)))) _ _ e1 ?_
  rintro v H2 e2 _ ⟨brim,rfl,br0,br1⟩
  dsimp only [iG,jN,tC,eK]
  refine GF (λ Z H'=>Ext t sl H H'/\∃ brim,size<=brim/\brim<=200/\Z=[some (.ref t),some (.int (i:Int)),some (.int (n:Int)),some (.int (m:Int)),some (.bl small),some (.int size),some (.int brim),none,none,none]) (λ D' hD=>?_) ?_
  ·refine GE (t:=t) (sl:=sl) (H0:=H) (bY rfl (by decide) (by decide)) e2 λ b H3 e3 _=>?_
   cases b with
   | false=>exact eU (hD _ _ ⟨e3,brim,by omega,by omega,rfl⟩)
   | true=>
    refine gA ?_
    refine BH (t:=t) (sl:=sl) (H0:=H) (y:=size) (l:=0) (h:=3) rfl (bY rfl (by decide) (by decide)) _ _ e3 ?_
    rintro v H4 e4 _ ⟨b2,rfl,c0,c1⟩
    exact hD _ _ ⟨e4,b2,by omega,by omega,rfl⟩
  rintro ap H3 ⟨e3,brim,hb1,hb2,rfl⟩
  dsimp only [iG,jN,tC,eK]
  refine GF (λ Z H'=>Ext t sl H H'/\∃ sp:Option Int,(∀ z,sp=some z->(0<=z/\z < n)/\(i:Int) < z)/\Z=[some (.ref t),some (.int (i:Int)),some (.int (n:Int)),some (.int (m:Int)),some (.bl small),some (.int size),some (.int brim),some (gU sp),none,none]) (λ D' hD=>?_) ?_
  ·refine⟨_,rfl,_,_,rfl,rfl,_,rfl,_,_,rfl,rfl,_,rfl,?_⟩
   refine n6 (λ hlt=>?_) (λ _=>eU (hD _ _ ⟨e3,none,(λ z h=>nomatch h),rfl⟩))
   have hlt':(i:Int)+1 < n:=of_decide_eq_true hlt
   refine zW (t:=t) (sl:=sl) (H0:=H) (bY rfl (by decide) (by decide)) _ _ e3 ?_
   rintro v H4 e4 _ ⟨b,rfl⟩
   refine⟨b,rfl,?_⟩
   cases b with
   | false=>exact eU (hD _ _ ⟨e4,none,(λ z h=>nomatch h),rfl⟩)
   | true=>
    refine gA ?_
    refine⟨_,rfl,_,_,rfl,rfl,_,rfl,_,rfl,_,rfl,_,_,rfl,rfl,_,_,rfl,rfl,t,sl,(n:Int) - i - 1,rfl,e4.tp,by omega,by omega,λ r H5 b5 t5 r0 r1=>⟨_,_,rfl,rfl,?_⟩⟩
    exact hD _ _ ⟨⟨e4.bt.trans b5,t5⟩,some ((i:Int)+1+r),λ z h=>by cases h;omega,rfl⟩
  rintro σ4 H4 ⟨e4,sp,hsp,rfl⟩
  refine⟨Nat.zero_le _,λ al hal=>?_⟩
  dsimp only [iG,jN,tC,eK]
  have fal:H al=none:=e4.bt.free (e4.ne hal) hal
  have nal:al≠t:=e4.ne hal
  refine GF (λ Z H'=>Ext t sl H H'/\∃ (acts:List (Str×Int)) (xs:List V),H' al=some (.lst xs)/\L2.IsL K H' (acts.map nE) xs/\acts.length<=3/\(∀ a∈acts,ActOk m a)/\
   ∃ v9,Z=[some (.ref t),some (.int (i:Int)),some (.int (n:Int)),some (.int (m:Int)),some (.bl small),some (.int size),some (.int brim),some (gU sp),some (.ref al),v9]) (λ D' hD=>?_) ?_
  ·refine⟨_,rfl,_,_,rfl,rfl,_,rfl,?_⟩
   refine n6 (λ hlt=>?_) (λ _=>hD _ _ ⟨e4.new hal,[],[],aB,.nil,by simp,λ a ha=>(nomatch ha),none,rfl⟩)
   have hm0:(0:Int) < m:=of_decide_eq_true hlt
   refine GQ (t:=t) (sl:=sl) (H0:=H) (by decide) (by decide) (bY (m:=11) rfl (by decide) (by decide)) _ _ (e4.new hal) ?_
   rintro v H5 e5 b5 ⟨c,rfl,c0,c1⟩
   refine⟨_,rfl,by omega,by omega,?_⟩
   refine fL (lo:=0) (n:=(c / 3).toNat) (λ j Z H'=>Ext t sl H H'/\∃ (acts:List (Str×Int)) (xs:List V),H' al=some (.lst xs)/\L2.IsL K H' (acts.map nE) xs/\acts.length=j/\(∀ a∈acts,ActOk m a)/\
    ∃ v9,Z=[some (.ref t),some (.int (i:Int)),some (.int (n:Int)),some (.int (m:Int)),some (.bl small),some (.int size),some (.int brim),some (gU sp),some (.ref al),v9]) ?_ ?_ ?_
   ·exact⟨e5,[],[],b5 al _ nal aB,.nil,rfl,λ a ha=>(nomatch ha),none,rfl⟩
   ·rintro j Z H6 hj ⟨e6,acts,xs,ha,hl,hlen,hok,v9,rfl⟩
    refine⟨_,rfl,.inl ⟨rfl,_,bO.of ha⟩,?_⟩
    refine xR (t:=t) (sl:=sl) (H0:=H) (P:=λ v=>∃ wd:Str,v=.str wd/\(wd = "open" \/ wd = "shut" \/ wd = "turn")) (rP ⟨_,rfl,.inl rfl⟩) (rP ⟨_,rfl,.inr (.inl rfl)⟩) (rP ⟨_,rfl,.inr (.inr rfl)⟩) (bY rfl (by decide) (by decide)) _ _ e6 ?_
    rintro v H7 e7 b7 ⟨wd,rfl,hwd⟩
    refine jZ (t:=t) (sl:=sl) (H0:=H) (m:=(m:Int)) rfl rfl hm0 (by omega) _ _ e7 ?_
    rintro v H8 e8 b8 ⟨r,rfl,r0,r1⟩
    refine⟨(show 2<=sizeLine by decide),λ q hq=>?_⟩
    have ha8:H8 al=some (.lst xs):=b8 al _ nal (b7 al _ nal ha)
    have nq:al≠q:=aN ha8 hq
    have hxl:xs.length=acts.length:=by rw[hl.length,aac]
    refine⟨al,xs,_,rfl,rfl,by rw[aM nq];exact ha8,aP (by omega),?_⟩
    have e9:Ext t sl H (upd H8 q (.tup [.str wd,.int r])):=e8.new hq
    have mt:iF (upd H8 q (.tup [.str wd,.int r]) al):=by rw[aM nq,ha8];exact trivial
    have ts:bM K H6 (upd (upd H8 q (.tup [.str wd,.int r])) al (.lst (xs++[.ref q]))):=bM.put (((b7.trans b8).trans (aK.new hq).but).ts e6.tp.mut) (.inr mt)
    refine⟨⟨λ b o hb e=>?_,e9.tp.put nal (dU.ne_sl tp fal)⟩,acts++[(wd,r)],xs++[.ref q],aB,?_,by simp [hlen],?_,_,rfl⟩
    ·rw[aM (aN e fal)];exact e9.bt b o hb e
    ·rw[aai]
     exact L2.IsL.snoc (Is.tupOf (ds:=[.str wd,.int r]) (bM.put (bM.refl _) (.inr mt) _ _ (bN.of aB)) (.cons (Is.s _) (.cons (Is.i _) .nil))) (L2.IsL.mono ts _ _ hl)
    ·intro a ha'
     rcases abc.mp ha' with ha' | ha'
     ·exact hok a ha'
     ·rw[aaq.mp ha']
      exact⟨hwd,r0,r1⟩
   ·rintro Z H6 ⟨e6,acts,xs,ha,hl,hlen,hok,v9,rfl⟩
    exact hD _ _ ⟨e6,acts,xs,ha,hl,by omega,hok,v9,rfl⟩
  rintro ed H5 ⟨e5,acts,xs,ha,hl,hlen,hok,v9,rfl⟩
  refine⟨_,rfl,_,rfl,_,rfl,_,rfl,_,rfl,t,sl,n,small,rfl,e5.tp,by omega,hn,λ outs p H6 e6 o1 o2 o3 hp=>?_⟩
  refine zW (t:=t) (sl:=sl) (H0:=H) (bY rfl (by decide) (by decide)) _ _ ⟨e5.bt.trans e6.bt,e6.tp⟩ ?_
  rintro v H7 e7 b7 ⟨b,rfl⟩
  have ha7:H7 al=some (.lst xs):=b7 al _ nal (e6.bt al _ nal ha)
  have b57:cA t H5 H7:=e6.bt.trans b7
  refine⟨_,rfl,_,rfl,al,_,rfl,.inl ⟨bO.of ha7,λ q hq=>⟨(show 6<=sizeLine by decide),λ r hr'=>?_⟩⟩⟩
  have m1:=aK.new (o:=HO.tup xs) hq
  have m2:aK (upd H7 q (.tup xs)) (upd (upd H7 q (.tup xs)) r (.tup [.int size,.int brim,p,.bl b,gU sp,.ref q])):=aK.new hr'
  refine k ⟨size,brim,outs,b,sp,acts⟩ _ _ ((e7.new hq).new hr') ⟨s0,o1,o2,o3,λ z h=>(hsp z h).1,hlen,hok⟩ ⟨by show size<=60;omega,hb1,hb2,λ z h=>(hsp z h).2⟩ ?_
  refine Is.tupOf (bN.of aB) (.cons (Is.i _) (.cons (Is.i _) (.cons ?_ (.cons (Is.b _) (.cons (Is.tgOf _) (.cons ?_ .nil))))))
  ·exact Is.mono m2.ts _ _ (Is.mono m1.ts _ _ (Is.mono (b7.ts e6.tp.mut) _ _ hp))
  ·exact Is.mono m2.ts _ _ (Is.tupOf (bN.of aB) (L2.IsL.mono m1.ts _ _ (L2.IsL.mono (b57.ts e5.tp.mut) _ _ hl)))
end
end Tw
namespace Tw
open PySem L2
section
variable {P:Program}{w:World}{K:aaa}{mg:Str->Option Value}{base:Heap}
theorem Ext.put {t sl p:Addr}{H H':Hp}{o:HO} (e:Ext t sl H H') (tp:dU H t sl) (hp:H p=none):Ext t sl H (upd H' p o):=
 ⟨λ b u hb e1=>by rw[aM (aN e1 hp)];exact e.bt b u hb e1,e.tp.put (λ z=>by obtain⟨o,h⟩:=tp.some;rw[z,h] at hp;cases hp) (dU.ne_sl tp hp)⟩
theorem Ext.trans {t sl:Addr}{H H1 H2:Hp} (a:Ext t sl H H1) (b:Ext t sl H1 H2):Ext t sl H H2:=⟨a.bt.trans b.bt,b.tp⟩
noncomputable def yR (K:aaa):Sp:=λ args H Q _=>∃ (t sl:Addr) (most:Int) (small:Bool),args=[.ref t,.int most,.bl small]/\1<=most/\most<=12/\dU H t sl/\
 ∀ (net:Net) p H',Ext t sl H H'->NetOk net->NetFull net->(net.vs.length:Int)<=most->Is K H' (fC net) p->Q p H'
theorem oR:FnScope ["tape","most","small","many","spouts","vessels","found","k","flow"] ["tape","most","small"] (aJ (aQ 53)):=⟨rfl,rfl,rfl,by decide +kernel,rfl,by decide +kernel,by decide +kernel⟩
theorem vD {f fD fV:Addr}{fd fdD fdV:FuncData} (F:Fun K "_law_net" "_law_net" (aQ 53) f fd) (T:Txt mg) (G__law_draw:Callee P w K mg base "_law_draw" ["tape","many"] 1 fX fD fdD)
  (G__law_vessel:Callee P w K mg base "_law_vessel" ["tape","number","many","spouts","small"] 3 (qB K) fV fdV):FnOk P w K mg base gC 4 f fd ["tape","most","small"] (yR K):=by
 refine F.ok oR (λ vs H Q E h=>?_) (λ cdv A outer s H vs Q E hr h=>?_)
 ·obtain⟨t,sl,most,small,rfl,_⟩:=h;rfl
 ·obtain⟨t,sl,most,small,rfl,mo1,mo2,tp,k⟩:=h
  have sc:=oR
  refine⟨_,(aE (b9 (i:=3) sc.nd rfl (Or.inr rfl) (bA dG aH (cU G__law_draw hr (aA (pv 0) (aA (pv 1) aD)))))
   (aE (b9 (i:=4) sc.nd rfl (Or.inr rfl) (b0 (aO (K:=K) rfl) (bP (aA (cU G__law_draw hr (aA (pv 0) (aA aH aD))) (aA (cU G__law_draw hr (aA (pv 0) (aA aH aD))) aD))) (bA kK (cU G__law_draw hr (aA (pv 0) (aA aH aD))) aH) (λ _ _=>rfl)))
   (aE (kI (i:=5) sc.nd rfl rfl (λ _ _ h=>h) rfl (LcOk.mk (N':=["k","tape","many","spouts","small"]) (fr:=[none,some 0,some 3,some 4,some 2]) rfl ⟨rfl,rfl,rfl,rfl,trivial⟩ rfl rfl rfl rfl rfl ⟨⟨_,rfl,rfl,rfl,rfl⟩,⟨_,rfl,rfl,rfl,rfl⟩,⟨_,rfl,rfl,rfl,rfl⟩,⟨_,rfl,rfl,rfl,rfl⟩,trivial⟩) (dX rfl T.b_range (aA (pv 3) aD)) (λ _ _ _=>(aG (i:=0) (show (["k","tape","many","spouts","small"]:List Str).Nodup by decide +kernel) rfl (Or.inl rfl) (Or.inr rfl))) (λ _ _ _=>cP) (λ _ _ _=>(cU G__law_vessel hr (aA (pv 1) (aA (pv 0) (aA (pv 2) (aA (pv 3) (aA (pv 4) aD))))))))
   (aE (b9 (i:=6) sc.nd rfl (Or.inl rfl) (bP aD))
   (aE (dY PassesOwn.never rfl (dX rfl T.b_range (aA (pv 4) aD)) (aG (i:=7) sc.nd rfl (Or.inl rfl)) (aE (b9 (i:=8) sc.nd rfl (Or.inl rfl) (b0 (aO (K:=K) rfl) (bP (aA (cU G__law_draw hr (aA (pv 0) (aA aH aD))) (aA (cU G__law_draw hr (aA (pv 0) (aA (b0 (aO (K:=K) rfl) (bP (aA aH (aA aH aD))) (aY iT rfl T.b_int lT (aA (pv 2) aD)) (λ _ _=>rfl)) aD))) aD))) (bA kK (cU G__law_draw hr (aA (pv 0) (aA aH aD))) aH) (λ _ _=>rfl)))
   (aL (bW (dF (K:=K) rfl aar aba abb cE (pv 6) (aA (bS (aA (cU G__law_draw hr (aA (pv 0) (aA (pv 3) aD))) (aA (pv 8) (aA (g8 FM (cU G__law_draw hr (aA (pv 0) (aA aH aD))) aH (cR _)) aD)))) aD))))))
   (aL (aZ (bS (aA (aY (bU (K:=K) rfl) rfl T.b_tuple cD (aA (pv 5) aD)) (aA (aY (bU (K:=K) rfl) rfl T.b_tuple cD (aA (pv 6) aD)) aD)))))))))),?_⟩
  refine vK (t:=t) (sl:=sl) (H0:=H) (x:=1) (y:=2) (l:=0) (h:=most) (rP ⟨1,rfl,by omega,by omega⟩) (jZ (m:=most) rfl rfl (by omega) (by omega)) _ _ ⟨cA.refl _,tp⟩ ?_
  rintro v H1 e1 _ ⟨n',rfl,n0,n1⟩
  obtain⟨n,rfl⟩:=Int.eq_ofNat_of_zero_le (show 0<=n' by omega)
  refine gP (t:=t) (sl:=sl) (H0:=H) (P:=d9 0 13) (lC (bY rfl (by decide) (by decide)) (Int.le_refl _) (by decide)) (bY rfl (by decide) (by decide)) (pJ (bY rfl (by decide) (by decide))) _ _ e1 ?_
  rintro v H2 e2 _ ⟨m',rfl,m0,m1⟩
  obtain⟨m,rfl⟩:=Int.eq_ofNat_of_zero_le m0
  refine⟨_,rfl,_,rfl,by omega,by omega,?_⟩
  refine rG (n:=n) (λ D i r Z H'=>H2 D=none/\Ext t sl H H'/\H' D=some (.lst r)/\∃ vs:List Vs,vs.length=i/\L2.IsL K H' (vs.map pM) r/\(∀ v∈vs,VOk n m v)/\(∀ i v,vs[i]? = some v->VFull i v)/\∃ v0,Z=[v0,some (.ref t),some (.int (n:Int)),some (.int (m:Int)),some (.bl small)])
   (λ D hD=>⟨hD,e2.new hD,aB,[],rfl,.nil,(λ v hv=>nomatch hv),(λ i v hv=>by simp at hv),none,rfl⟩) ?_ ?_
  rotate_left
  ·rintro D i r Z H3 hi ⟨hD,e3,hl,vs,hlen,hvl,hok,hfu,v0,rfl⟩
   refine dH ?_
   refine⟨_,rfl,_,rfl,_,rfl,_,rfl,_,rfl,t,sl,i,n,m,small,rfl,e3.tp,hi,by omega,by omega,λ v p H4 e4 vok vfu hp=>?_⟩
   have nD:D≠t:=e2.ne hD
   have fD:H D=none:=e2.bt.free nD hD
   have hl4:H4 D=some (.lst r):=e4.bt D _ nD hl
   have hrl:r.length=vs.length:=by rw[hvl.length,aac]
   have mt:iF (H4 D):=by rw[hl4];exact trivial
   refine⟨hl4,aP (by omega),hD,(e3.trans e4).put tp fD,aB,vs++[v],by simp [hlen],?_,?_,?_,_,rfl⟩
   ·rw[aai]
    exact L2.IsL.snoc (Is.mono (bM.put (bM.refl _) (.inr mt)) _ _ hp) (L2.IsL.mono (bM.put (e4.bt.ts e3.tp.mut) (.inr mt)) _ _ hvl)
   ·intro u hu
    rcases abc.mp hu with hu | hu
    ·exact hok u hu
    ·rw[aaq.mp hu];exact vok
   ·intro j u hu
    rcases Nat.lt_or_ge j vs.length with hj | hj
    ·rw[abr hj] at hu;exact hfu j u hu
    ·rw[acj hj] at hu
     have e0:j - vs.length=0:=by
      rcases Nat.eq_zero_or_pos (j - vs.length) with h | h
      ·exact h
      ·rw[acd (show [v].length<=j - vs.length from h)] at hu;cases hu
     rw[e0] at hu
     have e1:j=i:=by omega
     cases hu
     rw[e1];exact vfu
  rintro D r Z H3 ⟨hD,e3,hl,vs,hlen,hvl,hok,hfu,_⟩
  have nD:D≠t:=e2.ne hD
  have fD:H D=none:=e2.bt.free nD hD
  refine⟨Nat.zero_le _,λ fl hfl=>?_⟩
  have nf:fl≠t:=e3.ne hfl
  have ff:H fl=none:=e3.bt.free nf hfl
  have nDf:D≠fl:=aN hl hfl
  refine⟨_,rfl,_,rfl,by omega,by omega,?_⟩
  refine fL (lo:=0) (n:=m) (λ j Z H'=>Ext t sl H H'/\H' D=some (.lst r)/\L2.IsL K H' (vs.map pM) r/\∃ (sps:List sE) (xs:List V),H' fl=some (.lst xs)/\L2.IsL K H' (sps.map AE) xs/\sps.length=j/\(∀ s∈sps,(0<=s.1/\s.1 < n)/\0<=s.2.1/\s.2.1<=60)/\
   ∃ v7 v8,Z=[some (.ref t),some (.int most),some (.bl small),some (.int (n:Int)),some (.int (m:Int)),some (.ref D),some (.ref fl),v7,v8]) ?_ ?_ ?_
  ·exact⟨e3.new hfl,by rw[aM nDf];exact hl,L2.IsL.mono (aK.new hfl).ts _ _ hvl,[],[],aB,.nil,rfl,(λ s hs=>nomatch hs),none,none,rfl⟩
  ·rintro j Z H4 hj ⟨e4,hl4,hv4,sps,xs,hf4,hs4,hslen,hsok,v7,v8,rfl⟩
   refine gP (t:=t) (sl:=sl) (H0:=H) (P:=d9 0 61) (lC (bY rfl (by decide) (by decide)) (Int.le_refl _) (by decide))
    (lC (kA (lo:=4) (hi:=62) rfl (by decide) (by decide) (pI rfl ⟨by decide,by decide⟩ ⟨by decide,by decide⟩)) (Int.le_refl _) (by decide)) (pJ (bY rfl (by decide) (by decide))) _ _ e4 ?_
   rintro v H5 e5 b5 ⟨flow,rfl,fl0,fl1⟩
   have hf5:H5 fl=some (.lst xs):=b5 fl _ nf hf4
   refine⟨_,rfl,.inl ⟨rfl,_,bO.of hf5⟩,?_⟩
   refine jZ (t:=t) (sl:=sl) (H0:=H) (m:=(n:Int)) rfl rfl (by omega) (by omega) _ _ e5 ?_
   rintro v H6 e6 b6 ⟨tg,rfl,tg0,tg1⟩
   refine⟨_,rfl,?_⟩
   refine LP (t:=t) (sl:=sl) (H0:=H) (bY rfl (by decide) (by decide)) _ _ e6 ?_
   rintro v H7 e7 b7 ⟨dr,rfl⟩
   refine⟨(show 3<=sizeLine by decide),λ q hq=>?_⟩
   have b47:cA t H4 H7:=b5.trans (b6.trans b7)
   have hf7:H7 fl=some (.lst xs):=b47 fl _ nf hf4
   have hl7:H7 D=some (.lst r):=b47 D _ nD hl4
   have nq:fl≠q:=aN hf7 hq
   have nDq:D≠q:=aN hl7 hq
   have hxl:xs.length=sps.length:=by rw[hs4.length,aac]
   refine⟨fl,xs,_,rfl,rfl,by rw[aM nq];exact hf7,aP (by omega),?_⟩
   have mt:iF (upd H7 q (.tup [.int tg,.int flow,.bl dr]) fl):=by rw[aM nq,hf7];exact trivial
   have ts:bM K H4 (upd (upd H7 q (.tup [.int tg,.int flow,.bl dr])) fl (.lst (xs++[.ref q]))):=bM.put ((b47.trans (aK.new hq).but).ts e4.tp.mut) (.inr mt)
   refine⟨(e7.new hq).put tp ff,by rw[aM nDf,aM nDq];exact hl7,L2.IsL.mono ts _ _ hv4,sps++[(tg,flow,dr)],xs++[.ref q],aB,?_,by simp [hslen],?_,_,_,rfl⟩
   ·rw[aai]
    exact L2.IsL.snoc (Is.tupOf (ds:=[.int tg,.int flow,.bl dr]) (bM.put (bM.refl _) (.inr mt) _ _ (bN.of aB)) (.cons (Is.i _) (.cons (Is.i _) (.cons (Is.b _) .nil)))) (L2.IsL.mono ts _ _ hs4)
   ·intro s hs
    rcases abc.mp hs with hs | hs
    ·exact hsok s hs
    ·rw[aaq.mp hs];exact⟨⟨tg0,tg1⟩,fl0,show flow<=60 by omega⟩
  ·rintro Z H4 ⟨e4,hl4,hv4,sps,xs,hf4,hs4,hslen,hsok,v7,v8,rfl⟩
   refine⟨_,rfl,D,_,rfl,.inl ⟨bO.of hl4,λ q1 hq1=>⟨_,rfl,fl,_,rfl,.inl ⟨bO.of (aK.new hq1 _ _ hf4),λ q2 hq2=>⟨(show 2<=sizeLine by decide),λ q3 hq3=>?_⟩⟩⟩⟩⟩
   have m1:aK H4 (upd H4 q1 (.tup r)):=aK.new hq1
   have m2:aK (upd H4 q1 (.tup r)) (upd (upd H4 q1 (.tup r)) q2 (.tup xs)):=aK.new hq2
   have m3:aK (upd (upd H4 q1 (.tup r)) q2 (.tup xs)) (upd (upd (upd H4 q1 (.tup r)) q2 (.tup xs)) q3 (.tup [.ref q1,.ref q2])):=aK.new hq3
   refine k ⟨vs,sps⟩ _ _ (((e4.new hq1).new hq2).new hq3) ⟨by show 1<=vs.length;omega,by show vs.length<=12;omega,by show sps.length<=12;omega,λ v hv=>by rw[hlen,hslen];exact hok v hv,λ s hs=>by rw[hlen];exact (hsok s hs).1⟩ ⟨hfu,λ s hs=>(hsok s hs).2⟩ (by show (vs.length:Int)<=most;omega) ?_
   refine Is.tupOf (bN.of aB) (.cons (Is.tupOf (m3.tup (m2.tup (bN.of aB))) ?_) (.cons (Is.tupOf (m3.tup (bN.of aB)) ?_) .nil))
   ·exact L2.IsL.mono m3.ts _ _ (L2.IsL.mono m2.ts _ _ (L2.IsL.mono m1.ts _ _ hv4))
   ·exact L2.IsL.mono m3.ts _ _ (L2.IsL.mono m2.ts _ _ (L2.IsL.mono m1.ts _ _ hs4))
end
end Tw
namespace Tw
open PySem L2
section
variable {P:Program}{w:World}{K:aaa}{mg:Str->Option Value}{base:Heap}
theorem KY:∀ n:Nat,(List.replicate n [V.int 0]).flatten=(List.replicate n (0:Int)).map V.int
 | 0=>rfl
 | n+1=>by rw[List.replicate_succ,List.replicate_succ,List.flatten_cons,KY n,aaw];rfl
noncomputable def cG (n:Nat):List Int:=List.replicate n 0
noncomputable def pD (K:aaa):Sp:=λ args H Q _=>∃ (x:V) (net:Net),args=[x]/\Is K H (fC net) x/\NetOk net/\
 ∀ p H',aK H H'->Is K H' (AC (cG net.vs.length) (cG net.vs.length) (net.sps.map (·.2.2))) p->Q p H'
theorem jS:FnScope ["net","vessels","spouts","empty"] ["net"] (aJ (aQ 8)):=⟨rfl,rfl,rfl,by decide +kernel,rfl,by decide +kernel,by decide +kernel⟩
theorem r8 {f:Addr}{fd:FuncData} (F:Fun K "first_state" "first_state" (aQ 8) f fd) (T:Txt mg):FnOk P w K mg base gC 1 f fd ["net"] (pD K):=by
 refine F.ok jS (λ vs H Q E h=>?_) (λ cdv A outer s H vs Q E hr h=>?_)
 ·obtain⟨x,net,rfl,_⟩:=h;rfl
 ·obtain⟨x,net,rfl,hx,nok,k⟩:=h
  have sc:=jS
  refine⟨_,(aE (bZ (pv 0) (aX (K:=K) (n:=2) rfl rfl (aF (aG (i:=1) sc.nd rfl (Or.inl rfl)) (aF (aG (i:=2) sc.nd rfl (Or.inl rfl)) aW))))
   (aE (b9 (i:=3) sc.nd rfl (Or.inl rfl) (bA (FJ (K:=K) rfl) (bS (aA aH aD)) (aU (bL (K:=K) rfl) rfl T.b_len abj (aA (pv 1) aD))))
   (aL (aZ (bS (aA (pv 3) (aA (pv 3) (aA (aY (bU (K:=K) rfl) rfl T.b_tuple cD (aA (fZ (λ _ _ h=>h) rfl (LcOk.mk (N':=["target","flow","door"]) (fr:=[none,none,none]) rfl trivial rfl rfl rfl rfl rfl trivial) (d6 (K:=K) rfl (pv 2)) (λ _ _ _=>(aX (K:=K) (n:=3) rfl rfl (aF (aG (i:=0) (show (["target","flow","door"]:List Str).Nodup by decide +kernel) rfl (Or.inl rfl) (Or.inr rfl)) (aF (aG (i:=1) (show (["target","flow","door"]:List Str).Nodup by decide +kernel) rfl (Or.inl rfl) (Or.inr rfl)) (aF (aG (i:=2) (show (["target","flow","door"]:List Str).Nodup by decide +kernel) rfl (Or.inl rfl) (Or.inr rfl)) aW))))) (λ _ _ _=>cP) (λ _ _ _=>(pv 2))) aD)) aD)))))))),?_⟩
  obtain⟨a,b,c,xs,ys,rfl,q,q1,l1,q2,l2⟩:=fY hx
  have exl:xs.length=net.vs.length:=by rw[l1.length,aac]
  have eyl:ys.length=net.sps.length:=by rw[l2.length,aac]
  have n1:=nok.lo
  have n2:=nok.hi
  have n3:=nok.sp
  refine⟨_,rfl,a,_,rfl,q,rfl,_,_,rfl,_,_,rfl,rfl,?_⟩
  refine⟨(show 1<=sizeLine by decide),λ z hz=>⟨_,rfl,b,xs,rfl,.inr ((aK.new hz).tup q1),z,_,[.int 0],rfl,rfl,bN.of aB,by omega,by omega,by simp,by simp,λ e H1 sm1 qe=>?_⟩⟩
  have s1:aK H H1:=(aK.new hz).trans sm1
  have en:((xs.length:Nat):Int).toNat=net.vs.length:=by rw[exl];simp
  rw[en,KY] at qe
  refine⟨_,rfl,_,rfl,_,rfl,c,rfl,⟨_,s1.tup q2⟩,eZ (K:=K) (a:=c) (xs:=ys) (λ D i r Z H'=>H1 D=none/\aK H1 H'/\H' D=some (.lst r)/\r=((net.sps.take i).map (·.2.2)).map V.bl/\∃ u v w,Z=[u,v,w])
   (λ D i r Z H' p=>p.2.1.tup (s1.tup q2)) (λ D hD=>⟨hD,aK.new hD,aB,by simp,none,none,none,rfl⟩) ?_ ?_⟩
  rotate_left
  ·rintro D i x r Z H2 hx ⟨hD,sm,hDl,rfl,u,v,w',rfl⟩
   obtain⟨sp,hsi,sa,rfl,qs⟩:=q0 l2 hx
   have hil:=(aad.mp hsi).1
   refine⟨sa,_,rfl,sm.tup (s1.tup qs),rfl,_,_,rfl,_,_,rfl,_,_,rfl,rfl,?_⟩
   refine nF ⟨_,rfl,hDl,aP (by simp;omega),hD,sm.put hD,aB,?_,_,_,_,rfl⟩
   rw[cF hsi];simp
  ·rintro D r Z H2 ⟨hD,sm,hDl,rfl,_⟩
   rw[eyl,abe] at hDl
   refine⟨D,_,rfl,.inl ⟨bO.of hDl,λ d hd=>⟨(show 3<=sizeLine by decide),λ r hr'=>?_⟩⟩⟩
   have m1:aK H2 (upd H2 d (.tup ((net.sps.map (·.2.2)).map V.bl))):=aK.new hd
   have m2:aK (upd H2 d (.tup ((net.sps.map (·.2.2)).map V.bl))) (upd (upd H2 d (.tup ((net.sps.map (·.2.2)).map V.bl))) r (.tup [.ref e,.ref e,.ref d])):=aK.new hr'
   refine k _ _ (((s1.trans sm).trans m1).trans m2) (JU (bN.of aB) ?_ ?_ (m2.tup (bN.of aB)))
   ·exact m2.tup (m1.tup (sm.tup qe))
   ·exact m2.tup (m1.tup (sm.tup qe))
end
end Tw
namespace Tw
theorem E6 {n m:Nat}{v:Vs} (ok:VOk n m v) (h:Int):∀ g∈dZ v h,∀ t,g.1=some t->0<=t/\t < n:=by
 intro g hg t e
 unfold dZ at hg
 rcases List.mem_cons.1 hg with q | q
 ·subst q;exact ok.spill t e
 ·split at q
  ·rcases abc.1 q with q | q
   ·unfold iY at q
    obtain⟨o,ho,rfl⟩:=aaz.1 q
    exact (ok.outs o ho).tg t e
   ·split at q
    ·cases q
    ·rw[aaq] at q;subst q;cases e
  ·cases q
theorem xQ {n m:Nat}:∀ (vs:List Vs) (hs:List Int),(∀ v∈vs,VOk n m v)->∀ g∈dI vs hs,∀ t,g.1=some t->0<=t/\t < n
 | [],_,_,g,hg,_,_=>by simp [dI] at hg
 | _::_,[],_,g,hg,_,_=>by simp [dI] at hg
 | v::vs,b::hs,ok,g,hg,t,e=>by
  rcases abc.1 (show g∈dZ v b++dI vs hs from hg) with q | q
  ·exact E6 (ok v aas) b g q t e
  ·exact xQ vs hs (λ x hx=>ok x (aam _ hx)) g q t e
end Tw
namespace Tw
open PySem L2
end Tw
namespace Tw
open PySem L2
theorem o8 {ar:Type} (f:ar->L2.D) (hf:∀ a,(f a).depth=0):∀ l:List ar,bK (l.map f)=0
 | []=>by rw[List.map_nil,bK]
 | a::r=>by rw[aaw,bK,hf,o8 f hf r];rfl
theorem gH (i:Int):(L2.D.int i).depth=0:=by rw[L2.D.depth] <;> intros <;> (first | rfl | (intro z;cases z) | (rename_i z;cases z))
theorem HD (i:Bool):(L2.D.bl i).depth=0:=by rw[L2.D.depth] <;> intros <;> (first | rfl | (intro z;cases z) | (rename_i z;cases z))
theorem HB (held coming:List Int) (doors:List Bool):bK [.tup (held.map L2.D.int),.tup (coming.map L2.D.int),.tup (doors.map L2.D.bl)]=1:=by
 simp only [bK,L2.D.depth,o8 _ gH,o8 _ HD];rfl
theorem LF (K:aaa):PySem.W.kitOne K (.type "tuple") (.type "tuple")=some true:=by
 unfold PySem.W.kitOne;rw[if_pos (by decide +kernel)]
theorem G3 (K:aaa):PySem.W.kitOne K (.type "bool") (.type "bool")=some true:=by
 unfold PySem.W.kitOne;rw[if_pos (by decide +kernel)]
theorem G2 (K:aaa):PySem.W.kitOne K (.type "int") (.type "bool")=some false:=by
 unfold PySem.W.kitOne
 rw[if_neg (by decide +kernel)]
 show (if PySem.W.kitMeta "bool" = true then PySem.W.subIn K (.type "int") (.type "bool") else none)=some false
 rw[if_pos (by decide +kernel)]
 show (PySem.fastBuiltinMro "int").map (·.contains (.type "bool"))=some false
 decide +kernel
theorem nC (n:Nat):(List.replicate n true).all id=true:=by
 rw[abu];intro x hx;rw[List.eq_of_mem_replicate hx];rfl
section
variable {P:Program}{w:World}{K:aaa}{mg:Str->Option Value}{base:Heap}
noncomputable def AD (K:aaa):Sp:=λ vs H Q _=>∃ (a:Addr) (ns:List Int),vs=[.ref a]/\bO K H a (ns.map V.int)/\ns.length<=63/\∀ H',Q (.bl true) H'
end
end Tw
namespace L2
open PySem PySem.Spec PyProof.Rows TwZ
section
variable {X:Cx}{K:aaa}
theorem eM {x:Str}{v:V}{pos:Pos} (hg:Gl X x) (h:∃ u,X.mg x=some u/\bE v u) (hd:(x == ("__debug__" : Str))=false:=by decide):PE X (.Name x pos) (tC v):=by
 obtain⟨u,e,r⟩:=h
 exact IQ hg e r hd
theorem FL (hK:X.K=K):g7 X (compareOp .In) (rIn K false):=by subst hK;exact CS
theorem IU (hK:X.K=K):g7 X (compareOp .NotIn) (rIn K true):=by subst hK;exact uW
end
theorem JG {c A B:Prop} [Decidable c] (hc:c) (h:A):if decide c=true then A else B:=by
 rw[if_pos (decide_eq_true hc)];exact h
end L2
namespace Tw
open PySem L2
structure TxtN (K:aaa) (mg:Str->Option Value) (aw:Addr):Prop where
 g_MOST_VESSELS:∃ u,mg "MOST_VESSELS" = some u/\bE (.int 12) u
 g_MOST_SPOUTS:∃ u,mg "MOST_SPOUTS" = some u/\bE (.int 12) u
 g_MOST_SIZE:∃ u,mg "MOST_SIZE" = some u/\bE (.int 60) u
 g_MOST_BRIM:∃ u,mg "MOST_BRIM" = some u/\bE (.int 200) u
 g_MOST_OUTS:∃ u,mg "MOST_OUTS" = some u/\bE (.int 3) u
 g_MOST_PARTS:∃ u,mg "MOST_PARTS" = some u/\bE (.int 60) u
 g_MOST_ACTS:∃ u,mg "MOST_ACTS" = some u/\bE (.int 3) u
 g_MOST_FLOW:∃ u,mg "MOST_FLOW" = some u/\bE (.int 60) u
 g_ACT_WORDS:∃ u,mg "ACT_WORDS" = some u/\bE (.ref aw) u
 words:∀ H,bN K H aw [.str "open",.str "shut",.str "turn"]
theorem G1 (K:aaa):PySem.W.kitOne K (.type "int") (.type "int")=some true:=by
 unfold PySem.W.kitOne;rw[if_pos (by decide +kernel)]
section
variable {P:Program}{w:World}{K:aaa}{mg:Str->Option Value}{base:Heap}{aw:Addr}
noncomputable def lH (K:aaa):Sp:=λ vs H Q _=>∃ (a:Addr) (xs:List V) (lo hi:Int),vs=[.ref a,.int lo,.int hi]/\bN K H a xs/\lo<=(xs.length:Int)/\(xs.length:Int)<=hi/\Q (.bl true) H
noncomputable def iX:Sp:=λ vs H Q _=>∃ (n lo hi:Int),vs=[.int n,.int lo,.int hi]/\lo<=n/\n<=hi/\Q (.bl true) H
noncomputable def uI (K:aaa):Sp:=λ vs H Q _=>∃ (a:Addr) (n:Nat) (o:Option Int×Int),vs=[.ref a,.int (n:Int)]/\bN K H a [gU o.1,.int o.2]/\OutOk n o/\Q (.bl true) H
noncomputable def uK (K:aaa):Sp:=λ vs H Q _=>∃ (a:Addr) (m:Nat) (c:Str×Int),vs=[.ref a,.int (m:Int)]/\bN K H a [.str c.1,.int c.2]/\ActOk m c/\Q (.bl true) H
noncomputable def nN (K:aaa):Sp:=λ vs H Q _=>∃ (a:Addr) (n:Nat) (s:sE),vs=[.ref a,.int (n:Int)]/\bN K H a [.int s.1,.int s.2.1,.bl s.2.2]/\(0<=s.1/\s.1 < n)/\(0<=s.2.1/\s.2.1<=60)/\Q (.bl true) H
noncomputable def lJ (K:aaa):Sp:=λ vs H Q _=>∃ (x:V) (i n m:Nat) (v:Vs),vs=[x,.int (i:Int),.int (n:Int),.int (m:Int)]/\Is K H (pM v) x/\VOk n m v/\VFull i v/\∀ H',aK H H'->Q (.bl true) H'
noncomputable def uJ (K:aaa):Sp:=λ vs H Q _=>∃ (x:V) (net:Net),vs=[x]/\Is K H (fC net) x/\NetOk net/\NetFull net/\∀ H',aK H H'->Q (.bl true) H'
theorem oN:FnScope ["thing","least","most"] ["thing","least","most"] (aJ (aQ 38)):=⟨rfl,rfl,rfl,by decide +kernel,rfl,by decide +kernel,by decide +kernel⟩
theorem xC {f:Addr}{fd:FuncData} (F:Fun K "is_tuple" "is_tuple" (aQ 38) f fd) (T:Txt mg):FnOk P w K mg base gC 1 f fd ["thing","least","most"] (lH K):=by
 refine F.ok oN (λ vs H Q E h=>?_) (λ cdv A outer s H vs Q E hr h=>?_)
 ·obtain⟨a,xs,lo,hi,rfl,_⟩:=h;rfl
 ·obtain⟨a,xs,lo,hi,rfl,q,h1,h2,k⟩:=h
  have sc:=oN
  refine⟨_,(aL (aZ (fI (aU (fP (K:=K) rfl) rfl T.b_isinstance gQ (aA (pv 0) (aA (j5 (v:=.ty "tuple") rfl T.b_tuple cD rfl) aD))) (gL (qV tF tF (pv 1) (aU (bL (K:=K) rfl) rfl T.b_len abj (aA (pv 0) aD)) (pv 2)))))),?_⟩
  refine⟨_,rfl,_,"tuple",_,true,rfl,.inr ⟨a,xs,rfl,q,rfl⟩,LF K,_,rfl,gA ?_⟩
  refine⟨_,rfl,_,rfl,a,xs,rfl,.inr q,_,_,rfl,rfl,_,rfl,JG h1 ⟨_,rfl,_,_,rfl,rfl,?_⟩⟩
  show Q (.bl (decide _)) H
  rw[decide_eq_true h2];exact k
theorem gY:FnScope ["thing","least","most"] ["thing","least","most"] (aJ (aQ 39)):=⟨rfl,rfl,rfl,by decide +kernel,rfl,by decide +kernel,by decide +kernel⟩
theorem xB {f:Addr}{fd:FuncData} (F:Fun K "is_whole" "is_whole" (aQ 39) f fd) (T:Txt mg):FnOk P w K mg base gC 1 f fd ["thing","least","most"] iX:=by
 refine F.ok gY (λ vs H Q E h=>?_) (λ cdv A outer s H vs Q E hr h=>?_)
 ·obtain⟨n,lo,hi,rfl,_⟩:=h;rfl
 ·obtain⟨n,lo,hi,rfl,h1,h2,k⟩:=h
  have sc:=gY
  refine⟨_,(aL (aZ (fI (aU (fP (K:=K) rfl) rfl T.b_isinstance gQ (aA (pv 0) (aA (j5 (v:=.ty "int") rfl T.b_int lT rfl) aD))) (fI (uU (aU (fP (K:=K) rfl) rfl T.b_isinstance gQ (aA (pv 0) (aA (j5 (v:=.ty "bool") rfl T.b_bool pL rfl) aD)))) (gL (qV tF tF (pv 1) (pv 0) (pv 2))))))),?_⟩
  refine⟨_,rfl,_,"int",_,true,rfl,.inl (.int _),G1 K,_,rfl,gA ?_⟩
  refine⟨_,rfl,_,"bool",_,false,rfl,.inl (.int _),G2 K,_,rfl,_,rfl,gA ?_⟩
  refine⟨_,rfl,_,rfl,_,_,rfl,rfl,_,rfl,JG h1 ⟨_,rfl,_,_,rfl,rfl,?_⟩⟩
  show Q (.bl (decide _)) H
  rw[decide_eq_true h2];exact k
theorem t7:FnScope ["thing","vessel_count","target","parts"] ["thing","vessel_count"] (aJ (aQ 34)):=⟨rfl,rfl,rfl,by decide +kernel,rfl,by decide +kernel,by decide +kernel⟩
theorem CW {f f1 f2:Addr}{fd fd1 fd2:FuncData} (F:Fun K "is_out" "is_out" (aQ 34) f fd) (T:Txt mg) (U:TxtN K mg aw) (G_is_tuple:Callee P w K mg base "is_tuple" ["thing","least","most"] 1 (lH K) f1 fd1)
  (G_is_whole:Callee P w K mg base "is_whole" ["thing","least","most"] 1 iX f2 fd2):FnOk P w K mg base gC 2 f fd ["thing","vessel_count"] (uI K):=by
 refine F.ok t7 (λ vs H Q E h=>?_) (λ cdv A outer s H vs Q E hr h=>?_)
 ·obtain⟨a,n,o,rfl,_⟩:=h;rfl
 ·obtain⟨a,n,o,rfl,q,ok,k⟩:=h
  have sc:=t7
  refine⟨_,(aE (d8 (eP (dL (cU G_is_tuple hr (aA (pv 0) (aA aH (aA aH aD)))))) (aL (aZ gN)) bJ)
   (aE (bZ (pv 0) (aX (K:=K) (n:=2) rfl rfl (aF (aG (i:=2) sc.nd rfl (Or.inl rfl)) (aF (aG (i:=3) sc.nd rfl (Or.inl rfl)) aW))))
   (aL (aZ (fI (FF (g8 zG (pv 2) gM (cR _)) (gL (cU G_is_whole hr (aA (pv 2) (aA aH (aA (bA fJ (pv 1) aH) aD)))))) (gL (cU G_is_whole hr (aA (pv 3) (aA aH (aA (eM rfl U.g_MOST_PARTS) aD)))))))))),?_⟩
  refine⟨_,rfl,a,_,2,2,rfl,q,(show (2:Int)<=2 by decide),(show (2:Int)<=2 by decide),_,rfl,eU ?_⟩
  refine⟨_,rfl,a,_,rfl,q,rfl,_,_,rfl,_,_,rfl,rfl,?_⟩
  obtain⟨tg,pa⟩:=o
  cases tg with
  | none=>
   refine⟨_,rfl,rfl,_,rfl,JG rfl ⟨_,rfl,gA ?_⟩⟩
   exact⟨_,rfl,pa,1,60,rfl,ok.lo,ok.hi,k⟩
  | some i=>
   have hi:=ok.tg i rfl
   refine⟨_,rfl,rfl,_,rfl,eU ⟨_,rfl,_,rfl,_,_,rfl,rfl,i,0,_,rfl,hi.1,by omega,_,rfl,gA ?_⟩⟩
   exact⟨_,rfl,pa,1,60,rfl,ok.lo,ok.hi,k⟩
theorem tD:FnScope ["thing","spout_count","word","spout"] ["thing","spout_count"] (aJ (aQ 35)):=⟨rfl,rfl,rfl,by decide +kernel,rfl,by decide +kernel,by decide +kernel⟩
theorem CZ {f f1 f2:Addr}{fd fd1 fd2:FuncData} (F:Fun K "is_act" "is_act" (aQ 35) f fd) (T:Txt mg) (U:TxtN K mg aw) (G_is_tuple:Callee P w K mg base "is_tuple" ["thing","least","most"] 1 (lH K) f1 fd1)
  (G_is_whole:Callee P w K mg base "is_whole" ["thing","least","most"] 1 iX f2 fd2):FnOk P w K mg base gC 2 f fd ["thing","spout_count"] (uK K):=by
 refine F.ok tD (λ vs H Q E h=>?_) (λ cdv A outer s H vs Q E hr h=>?_)
 ·obtain⟨a,m,c,rfl,_⟩:=h;rfl
 ·obtain⟨a,m,c,rfl,q,ok,k⟩:=h
  have sc:=tD
  refine⟨_,(aE (d8 (eP (dL (cU G_is_tuple hr (aA (pv 0) (aA aH (aA aH aD)))))) (aL (aZ gN)) bJ)
   (aE (bZ (pv 0) (aX (K:=K) (n:=2) rfl rfl (aF (aG (i:=2) sc.nd rfl (Or.inl rfl)) (aF (aG (i:=3) sc.nd rfl (Or.inl rfl)) aW))))
   (aL (aZ (fI (g8 (FL (K:=K) rfl) (pv 2) (eM rfl U.g_ACT_WORDS) (by rfl)) (gL (cU G_is_whole hr (aA (pv 3) (aA aH (aA (bA fJ (pv 1) aH) aD)))))))))),?_⟩
  refine⟨_,rfl,a,_,2,2,rfl,q,(show (2:Int)<=2 by decide),(show (2:Int)<=2 by decide),_,rfl,eU ?_⟩
  refine⟨_,rfl,a,_,rfl,q,rfl,_,_,rfl,_,_,rfl,rfl,?_⟩
  have hin:E1 (.str c.1) [.str "open",.str "shut",.str "turn"]=true:=by
   rcases ok.word with e | e | e <;> rw[e] <;> decide +kernel
  refine⟨_,rfl,aw,_,rfl,.inr (U.words _),rfl,rfl,_,rfl,?_⟩
  rw[show (if false=true then !E1 (V.str c.1) [.str "open",.str "shut",.str "turn"] else E1 (V.str c.1) [.str "open",.str "shut",.str "turn"])=true from hin]
  refine gA ?_
  exact⟨_,rfl,_,rfl,_,_,rfl,rfl,c.2,0,_,rfl,ok.lo,by have:=ok.hi;omega,k⟩
theorem oO:FnScope ["thing","vessel_count","target","flow","door"] ["thing","vessel_count"] (aJ (aQ 36)):=⟨rfl,rfl,rfl,by decide +kernel,rfl,by decide +kernel,by decide +kernel⟩
theorem xD {f f1 f2:Addr}{fd fd1 fd2:FuncData} (F:Fun K "is_spout" "is_spout" (aQ 36) f fd) (T:Txt mg) (U:TxtN K mg aw) (G_is_tuple:Callee P w K mg base "is_tuple" ["thing","least","most"] 1 (lH K) f1 fd1)
  (G_is_whole:Callee P w K mg base "is_whole" ["thing","least","most"] 1 iX f2 fd2):FnOk P w K mg base gC 2 f fd ["thing","vessel_count"] (nN K):=by
 refine F.ok oO (λ vs H Q E h=>?_) (λ cdv A outer s H vs Q E hr h=>?_)
 ·obtain⟨a,n,s,rfl,_⟩:=h;rfl
 ·obtain⟨a,n,s,rfl,q,ok1,ok2,k⟩:=h
  have sc:=oO
  refine⟨_,(aE (d8 (eP (dL (cU G_is_tuple hr (aA (pv 0) (aA aH (aA aH aD)))))) (aL (aZ gN)) bJ)
   (aE (bZ (pv 0) (aX (K:=K) (n:=3) rfl rfl (aF (aG (i:=2) sc.nd rfl (Or.inl rfl)) (aF (aG (i:=3) sc.nd rfl (Or.inl rfl)) (aF (aG (i:=4) sc.nd rfl (Or.inl rfl)) aW)))))
   (aL (aZ (fI (cU G_is_whole hr (aA (pv 2) (aA aH (aA (bA fJ (pv 1) aH) aD)))) (fI (cU G_is_whole hr (aA (pv 3) (aA aH (aA (eM rfl U.g_MOST_FLOW) aD)))) (gL (aU (fP (K:=K) rfl) rfl T.b_isinstance gQ (aA (pv 4) (aA (j5 (v:=.ty "bool") rfl T.b_bool pL rfl) aD)))))))))),?_⟩
  refine⟨_,rfl,a,_,3,3,rfl,q,(show (3:Int)<=3 by decide),(show (3:Int)<=3 by decide),_,rfl,eU ?_⟩
  refine⟨_,rfl,a,_,rfl,q,rfl,_,_,rfl,_,_,rfl,_,_,rfl,rfl,?_⟩
  refine⟨_,rfl,_,rfl,_,_,rfl,rfl,s.1,0,_,rfl,ok1.1,by omega,_,rfl,gA ?_⟩
  refine⟨_,rfl,s.2.1,0,60,rfl,ok2.1,ok2.2,_,rfl,gA ?_⟩
  exact⟨_,rfl,_,"bool",_,true,rfl,.inl (.bl _),G3 K,k⟩
theorem mI:FnScope ["thing","number","vessel_count","spout_count","size","brim","outs","holds","spill","acts"] ["thing","number","vessel_count","spout_count"] (aJ (aQ 33)):=⟨rfl,rfl,rfl,by decide +kernel,rfl,by decide +kernel,by decide +kernel⟩
theorem vA {f f1 f2 f3 f4:Addr}{fd fd1 fd2 fd3 fd4:FuncData} (F:Fun K "is_vessel" "is_vessel" (aQ 33) f fd) (T:Txt mg) (U:TxtN K mg aw) (G_is_tuple:Callee P w K mg base "is_tuple" ["thing","least","most"] 1 (lH K) f1 fd1)
  (G_is_whole:Callee P w K mg base "is_whole" ["thing","least","most"] 1 iX f2 fd2) (G_is_out:Callee P w K mg base "is_out" ["thing","vessel_count"] 2 (uI K) f3 fd3) (G_is_act:Callee P w K mg base "is_act" ["thing","spout_count"] 2 (uK K) f4 fd4) :
  FnOk P w K mg base gC 3 f fd ["thing","number","vessel_count","spout_count"] (lJ K):=by
 refine F.ok mI (λ vs H Q E h=>?_) (λ cdv A outer s H vs Q E hr h=>?_)
 ·obtain⟨x,i,n,m,v,rfl,_⟩:=h;rfl
 ·obtain⟨x,i,n,m,v,rfl,hx,ok,fu,k⟩:=h
  have sc:=mI
  refine⟨_,(aE (d8 (eP (dL (cU G_is_tuple hr (aA (pv 0) (aA aH (aA aH aD)))))) (aL (aZ gN)) bJ)
   (aE (bZ (pv 0) (aX (K:=K) (n:=6) rfl rfl (aF (aG (i:=4) sc.nd rfl (Or.inl rfl)) (aF (aG (i:=5) sc.nd rfl (Or.inl rfl)) (aF (aG (i:=6) sc.nd rfl (Or.inl rfl)) (aF (aG (i:=7) sc.nd rfl (Or.inl rfl)) (aF (aG (i:=8) sc.nd rfl (Or.inl rfl)) (aF (aG (i:=9) sc.nd rfl (Or.inl rfl)) aW))))))))
   (aE (d8 (PW.pt (AQ (eP (dL (cU G_is_whole hr (aA (pv 4) (aA aH (aA (eM rfl U.g_MOST_SIZE) aD)))))) (uS (eP (dL (cU G_is_whole hr (aA (pv 5) (aA (pv 4) (aA (eM rfl U.g_MOST_BRIM) aD))))))))) (aL (aZ gN)) bJ)
   (aE (d8 (PW.pt (AQ (eP (dL (cU G_is_tuple hr (aA (pv 6) (aA aH (aA (eM rfl U.g_MOST_OUTS) aD)))))) (uS (eP (dL (cU G_is_tuple hr (aA (pv 9) (aA aH (aA (eM rfl U.g_MOST_ACTS) aD))))))))) (aL (aZ gN)) bJ)
   (aL (aZ (fI (aU (oB (K:=K) rfl rfl) rfl T.b_all PyProof.Rows.boot_all (aA (fZ (λ _ _ h=>h) rfl (LcOk.mk (N':=["out","vessel_count"]) (fr:=[none,some 2]) rfl ⟨rfl,trivial⟩ rfl rfl rfl rfl rfl ⟨⟨_,rfl,rfl,rfl,rfl⟩,trivial⟩) (d6 (K:=K) rfl (pv 6)) (λ _ _ _=>(aG (i:=0) (show (["out","vessel_count"]:List Str).Nodup by decide +kernel) rfl (Or.inl rfl) (Or.inr rfl))) (λ _ _ _=>cP) (λ _ _ _=>(cU G_is_out hr (aA (pv 0) (aA (pv 1) aD))))) aD)) (fI (aU (fP (K:=K) rfl) rfl T.b_isinstance gQ (aA (pv 7) (aA (j5 (v:=.ty "bool") rfl T.b_bool pL rfl) aD))) (fI (FF (g8 zG (pv 8) gM (cR _)) (gL (cU G_is_whole hr (aA (pv 8) (aA (bA dG (pv 1) aH) (aA (bA fJ (pv 2) aH) aD)))))) (gL (aU (oB (K:=K) rfl rfl) rfl T.b_all PyProof.Rows.boot_all (aA (fZ (λ _ _ h=>h) rfl (LcOk.mk (N':=["act","spout_count"]) (fr:=[none,some 3]) rfl ⟨rfl,trivial⟩ rfl rfl rfl rfl rfl ⟨⟨_,rfl,rfl,rfl,rfl⟩,trivial⟩) (d6 (K:=K) rfl (pv 9)) (λ _ _ _=>(aG (i:=0) (show (["act","spout_count"]:List Str).Nodup by decide +kernel) rfl (Or.inl rfl) (Or.inr rfl))) (λ _ _ _=>cP) (λ _ _ _=>(cU G_is_act hr (aA (pv 0) (aA (pv 1) aD))))) aD)))))))))))),?_⟩
  obtain⟨va,o,cc,rfl,qv,ho,hc⟩:=sU hx
  obtain⟨oa,os,rfl,qo,lo⟩:=ho.un
  obtain⟨ca,cs,rfl,qc,lc⟩:=hc.un
  have eol:os.length=v.outs.length:=by rw[lo.length,aac]
  have ecl:cs.length=v.acts.length:=by rw[lc.length,aac]
  have ne1:1<=v.outs.length:=by
   rcases Nat.eq_zero_or_pos v.outs.length with e | e
   ·exact absurd (List.eq_nil_of_length_eq_zero e) ok.ne
   ·exact e
  have o3:=ok.o3
  have a3:=ok.a3
  refine⟨_,rfl,va,_,6,6,rfl,qv,(show (6:Int)<=6 by decide),(show (6:Int)<=6 by decide),_,rfl,eU ?_⟩
  refine⟨_,rfl,va,_,rfl,qv,rfl,_,_,rfl,_,_,rfl,_,_,rfl,_,_,rfl,_,_,rfl,_,_,rfl,rfl,?_⟩
  refine⟨_,rfl,v.size,1,60,rfl,ok.size,fu.sz,_,rfl,eU ?_⟩
  refine⟨_,rfl,_,rfl,v.brim,v.size,200,rfl,fu.br,fu.bh,_,rfl,eU ?_⟩
  refine⟨_,rfl,oa,_,1,3,rfl,qo,by omega,by omega,_,rfl,eU ?_⟩
  refine⟨_,rfl,ca,_,0,3,rfl,qc,by omega,by omega,_,rfl,eU ?_⟩
  refine⟨_,rfl,oa,rfl,⟨_,qo⟩,eZ (K:=K) (a:=oa) (xs:=os) (λ D i r Z H'=>H D=none/\aK H H'/\H' D=some (.lst r)/\r=(List.replicate i true).map V.bl/\∃ u,Z=[u,some (.int (n:Int))])
   (λ D i r Z H' p=>p.2.1.tup qo) (λ D hD=>⟨hD,aK.new hD,aB,rfl,none,rfl⟩) ?_ ?_⟩
  rotate_left
  ·rintro D j y r Z H2 hy ⟨hD,sm,hDl,rfl,u,rfl⟩
   obtain⟨ot,hot,oad,rfl,qot⟩:=mR lo hy
   have hjl:=(aad.mp hot).1
   refine dH ?_
   refine⟨_,rfl,_,rfl,oad,n,ot,rfl,sm.tup qot,ok.outs _ (aaj hot),hDl,aP (by simp;omega),hD,sm.put hD,aB,?_,_,rfl⟩
   rw[List.replicate_succ',aai];rfl
  rintro D r Z H2 ⟨hD,sm2,hDl,rfl,_⟩
  refine⟨false,D,_,rfl,bO.of hDl,_,rfl,?_⟩
  rw[nC]
  refine gA ?_
  refine⟨_,rfl,_,"bool",_,true,rfl,.inl (.bl _),G3 K,_,rfl,gA ?_⟩
  cases hsp:v.spill with
  | none=>
   rw[hsp] at qv
   refine⟨_,rfl,rfl,_,rfl,JG rfl ⟨_,rfl,gA ?_⟩⟩
   refine⟨_,rfl,ca,rfl,⟨_,sm2.tup qc⟩,eZ (K:=K) (a:=ca) (xs:=cs) (λ D i r Z H'=>H2 D=none/\aK H2 H'/\H' D=some (.lst r)/\r=(List.replicate i true).map V.bl/\∃ u,Z=[u,some (.int (m:Int))])
    (λ D i r Z H' p=>p.2.1.tup (sm2.tup qc)) (λ D hD=>⟨hD,aK.new hD,aB,rfl,none,rfl⟩) ?_ ?_⟩
   rotate_left
   ·rintro D j y r Z H3 hy ⟨hD,sm,hDl,rfl,u,rfl⟩
    obtain⟨at',hat,aa,rfl,qa⟩:=kS lc hy
    have hjl:=(aad.mp hat).1
    refine dH ?_
    refine⟨_,rfl,_,rfl,aa,m,at',rfl,sm.tup (sm2.tup qa),ok.acts _ (aaj hat),hDl,aP (by simp;omega),hD,sm.put hD,aB,?_,_,rfl⟩
    rw[List.replicate_succ',aai];rfl
   rintro D r Z H3 ⟨hD,sm3,hDl,rfl,_⟩
   refine⟨false,D,_,rfl,bO.of hDl,?_⟩
   rw[nC]
   exact k _ (sm2.trans sm3)
  | some t=>
   have h1:=ok.spill t hsp
   have h2:=fu.sp t hsp
   rw[hsp] at qv
   refine⟨_,rfl,rfl,_,rfl,eU ⟨_,rfl,_,rfl,_,_,rfl,rfl,_,rfl,_,_,rfl,rfl,t,_,_,rfl,by omega,by omega,_,rfl,gA ?_⟩⟩
   refine⟨_,rfl,ca,rfl,⟨_,sm2.tup qc⟩,eZ (K:=K) (a:=ca) (xs:=cs) (λ D i r Z H'=>H2 D=none/\aK H2 H'/\H' D=some (.lst r)/\r=(List.replicate i true).map V.bl/\∃ u,Z=[u,some (.int (m:Int))])
    (λ D i r Z H' p=>p.2.1.tup (sm2.tup qc)) (λ D hD=>⟨hD,aK.new hD,aB,rfl,none,rfl⟩) ?_ ?_⟩
   rotate_left
   ·rintro D j y r Z H3 hy ⟨hD,sm,hDl,rfl,u,rfl⟩
    obtain⟨at',hat,aa,rfl,qa⟩:=kS lc hy
    have hjl:=(aad.mp hat).1
    refine dH ?_
    refine⟨_,rfl,_,rfl,aa,m,at',rfl,sm.tup (sm2.tup qa),ok.acts _ (aaj hat),hDl,aP (by simp;omega),hD,sm.put hD,aB,?_,_,rfl⟩
    rw[List.replicate_succ',aai];rfl
   rintro D r Z H3 ⟨hD,sm3,hDl,rfl,_⟩
   refine⟨false,D,_,rfl,bO.of hDl,?_⟩
   rw[nC]
   exact k _ (sm2.trans sm3)
theorem t9:FnScope ["thing","vessels","spouts","number","vessel"] ["thing"] (aJ (aQ 32)):=⟨rfl,rfl,rfl,by decide +kernel,rfl,by decide +kernel,by decide +kernel⟩
theorem CY {f f1 f2 f3:Addr}{fd fd1 fd2 fd3:FuncData} (F:Fun K "is_net" "is_net" (aQ 32) f fd) (T:Txt mg) (U:TxtN K mg aw) (G_is_tuple:Callee P w K mg base "is_tuple" ["thing","least","most"] 1 (lH K) f1 fd1)
  (G_is_vessel:Callee P w K mg base "is_vessel" ["thing","number","vessel_count","spout_count"] 3 (lJ K) f2 fd2) (G_is_spout:Callee P w K mg base "is_spout" ["thing","vessel_count"] 2 (nN K) f3 fd3):FnOk P w K mg base gC 4 f fd ["thing"] (uJ K):=by
 refine F.ok t9 (λ vs H Q E h=>?_) (λ cdv A outer s H vs Q E hr h=>?_)
 ·obtain⟨x,net,rfl,_⟩:=h;rfl
 ·obtain⟨x,net,rfl,hx,nok,nfu,k⟩:=h
  have sc:=t9
  refine⟨_,(aE (d8 (eP (dL (cU G_is_tuple hr (aA (pv 0) (aA aH (aA aH aD)))))) (aL (aZ gN)) bJ)
   (aE (bZ (pv 0) (aX (K:=K) (n:=2) rfl rfl (aF (aG (i:=1) sc.nd rfl (Or.inr rfl)) (aF (aG (i:=2) sc.nd rfl (Or.inl rfl)) aW))))
   (aE (d8 (PW.pt (AQ (eP (dL (cU G_is_tuple hr (aA (pv 1) (aA aH (aA (eM rfl U.g_MOST_VESSELS) aD)))))) (uS (eP (dL (cU G_is_tuple hr (aA (pv 2) (aA aH (aA (eM rfl U.g_MOST_SPOUTS) aD))))))))) (aL (aZ gN)) bJ)
   (aE (dY PassesOwn.never rfl (qT (K:=K) rfl rfl T.b_enumerate (aA (pv 1) aD)) (aX (K:=K) (n:=2) rfl rfl (aF (aG (i:=3) sc.nd rfl (Or.inl rfl)) (aF (aG (i:=4) sc.nd rfl (Or.inl rfl)) aW))) (aL (d8 (eP (dL (cU G_is_vessel hr (aA (pv 4) (aA (pv 3) (aA (aU (bL (K:=K) rfl) rfl T.b_len abj (aA (pv 1) aD)) (aA (aU (bL (K:=K) rfl) rfl T.b_len abj (aA (pv 2) aD)) aD))))))) (aL (aZ gN)) bJ)))
   (aL (aZ (aU (oB (K:=K) rfl rfl) rfl T.b_all PyProof.Rows.boot_all (aA (fZ (λ _ _ h=>h) rfl (LcOk.mk (N':=["spout","vessels"]) (fr:=[none,some 1]) rfl ⟨rfl,trivial⟩ rfl rfl rfl rfl rfl ⟨⟨_,rfl,rfl,rfl,rfl⟩,trivial⟩) (d6 (K:=K) rfl (pv 2)) (λ _ _ _=>(aG (i:=0) (show (["spout","vessels"]:List Str).Nodup by decide +kernel) rfl (Or.inl rfl) (Or.inr rfl))) (λ _ _ _=>cP) (λ _ _ _=>(cU G_is_spout hr (aA (pv 0) (aA (aU (bL (K:=K) rfl) rfl T.b_len abj (aA (pv 1) aD)) aD))))) aD)))))))),?_⟩
  obtain⟨a,b,c,xs,ys,rfl,q,q1,l1,q2,l2⟩:=fY hx
  have exl:xs.length=net.vs.length:=by rw[l1.length,aac]
  have eyl:ys.length=net.sps.length:=by rw[l2.length,aac]
  have n1:=nok.lo
  have n2:=nok.hi
  have n3:=nok.sp
  refine⟨_,rfl,a,_,2,2,rfl,q,(show (2:Int)<=2 by decide),(show (2:Int)<=2 by decide),_,rfl,eU ?_⟩
  refine⟨_,rfl,a,_,rfl,q,rfl,_,_,rfl,_,_,rfl,rfl,?_⟩
  refine⟨_,rfl,b,_,1,12,rfl,q1,by omega,by omega,_,rfl,eU ?_⟩
  refine⟨_,rfl,c,_,0,12,rfl,q2,by omega,by omega,_,rfl,eU ?_⟩
  refine⟨_,rfl,true,b,rfl,⟨_,q1⟩,rT (K:=K) (t:=true) (a:=b) (xs:=xs) (λ i Z H'=>aK H H'/\∃ v3 v4,Z=[some (.ref a),some (.ref b),some (.ref c),v3,v4])
   (λ i Z H' p=>p.1.tup q1) ⟨λ _ _ h=>h,none,none,rfl⟩ ?_ ?_⟩
  rotate_left
  ·rintro i y Z H2 Tt hy ⟨sm,v3,v4,rfl⟩ hT
   obtain⟨d,hd,iy⟩:=l1.get' hy
   rw[aah] at hd
   obtain⟨v,hv,rfl⟩:=aap.mp hd
   have smT:=aK.new (o:=HO.tup [.int (i:Int),y]) hT
   have sm3:=sm.trans smT
   refine⟨Tt,_,rfl,bN.of aB,rfl,_,_,rfl,_,_,rfl,rfl,?_⟩
   refine⟨_,rfl,_,rfl,_,rfl,b,xs,rfl,.inr (sm3.tup q1),_,rfl,c,ys,rfl,.inr (sm3.tup q2),y,i,net.vs.length,net.sps.length,v,by rw[exl,eyl];rfl,Is.mono sm3.ts _ _ iy,nok.vs v (aaj hv),nfu.vs i v hv,λ H4 sm4=>⟨_,rfl,eU ?_⟩⟩
   exact⟨sm3.trans sm4,_,_,rfl⟩
  rintro Z H2 ⟨sm2,v3,v4,rfl⟩
  refine⟨_,rfl,c,rfl,⟨_,sm2.tup q2⟩,eZ (K:=K) (a:=c) (xs:=ys) (λ D i r Z H'=>H2 D=none/\aK H2 H'/\H' D=some (.lst r)/\r=(List.replicate i true).map V.bl/\∃ u,Z=[u,some (.ref b)])
   (λ D i r Z H' p=>p.2.1.tup (sm2.tup q2)) (λ D hD=>⟨hD,aK.new hD,aB,rfl,none,rfl⟩) ?_ ?_⟩
  rotate_left
  ·rintro D j y r Z H3 hy ⟨hD,sm,hDl,rfl,u,rfl⟩
   obtain⟨sp,hsi,sa,rfl,qs⟩:=q0 l2 hy
   have hjl:=(aad.mp hsi).1
   have hm:=aaj hsi
   refine dH ?_
   refine⟨_,rfl,_,rfl,b,xs,rfl,.inr (sm.tup (sm2.tup q1)),sa,net.vs.length,sp,by rw[exl];rfl,sm.tup (sm2.tup qs),nok.sps sp hm,nfu.sps sp hm,hDl,aP (by simp;omega),hD,sm.put hD,aB,?_,_,rfl⟩
   rw[List.replicate_succ',aai];rfl
  rintro D r Z H3 ⟨hD,sm3,hDl,rfl,_⟩
  refine⟨false,D,_,rfl,bO.of hDl,?_⟩
  rw[nC]
  exact k _ (sm2.trans sm3)
end
end Tw
namespace L2
open PySem PySem.Spec PyProof.Rows
end L2
namespace L2
open PySem PySem.Spec PyProof.Rows TwZ
section
variable {X:Cx}{K:aaa}
theorem AS {st:Stmt}:PS X st (λ _ _ _=>False):=λ _ _ _ _ _ _ h=>h.elim
theorem eI {e:Expr}{f:Str}{pos:Pos}{ta:TE} (hK:X.K=K) (he:PE X e ta) (hb:attributeBase e f X.env (eval e X.env)=eval e X.env):PE X (.Attribute e f pos) (MG K ta f):=by subst hK;exact LB he hb
theorem pE {o value:Expr}{f:Str}{pos pos':Pos}{ta tv:TE} (hK:X.K=K) (ha:PE X o ta) (hv:PE X value tv) (hs:swapsWith value (some (.Attribute o f pos')) pos.line X.env=pure false):PS X (.Assign [.Attribute o f pos'] value pos) (MM K ta tv f):=by subst hK;exact L5 ha hv hs
theorem FP (hK:X.K=K):g7 X (binaryOp .Add) (K1 K):=by subst hK;exact B1
theorem pS (l:Addr) (items:Array Value) (n:Nat) (x:Int) (u:Tok) (dd:Option Addr) (sl:Array (Option Value)) (c0:¬ (decide (x < -(2 ^ 63)) || decide (x ≥ 2 ^ 63))=true) (c1:¬ (items.isEmpty || x == 1)=true)
  (c2:(decide (x<=0) || items.isEmpty)=true) :
  Meets (Builtin.«tuple.__mul__» ⟨[.ref l,.int x u],[]⟩) (λ _ R s=>s.heap.get? l=some { cls:=.type "tuple",dict:=dd,data:=.seq items n,slots:=sl }/\
   R (.ok (.ret (.ref s.heap.objs.size))) { s with heap:=s.heap.push { cls:=.type "tuple",data:=.seq #[] } }):=
 .of_wp λ prog w A R s h=>by
  obtain⟨hp,g,d,tk,os⟩:=s;obtain⟨hl,h⟩:=h
  wp_walk
  rw[if_neg c0]
  wp_walk
  all_goals (try rw[if_neg c1])
  wp_walk
  all_goals (try rw[if_pos c2])
  wp_walk
  exact⟨_,rfl,h⟩
noncomputable def JX (K:aaa):R2:=λ x y H Q=>∃ (l:Addr) (k:Int) (xs:List V),x=.ref l/\y=.int k/\bN K H l xs/\0<=k/\k < 1000000/\xs≠[]/\xs.length<=10/\
 ∀ p H',aK H H'->bN K H' p (List.replicate k.toNat xs).flatten->Q (.ref p) H'
theorem IS:g7 X (binaryOp .Mult) (JX X.K):=by
 intro pins s σ H x y v u Q I rx ry h
 obtain⟨l,k,xs,rfl,rfl,hq,h1,h2,hne,hl10,q⟩:=h
 by_cases hk:1<=k
 ·exact B0 pins s σ H _ _ v u Q I rx ry ⟨l,k,xs,rfl,rfl,hq,hk,h2,hne,hl10,q⟩
 ·have hk0:k=0:=by omega
  subst hk0
  cases rx
  obtain⟨t,rfl⟩:=ry
  obtain⟨its,r,ht,z⟩:=I.tuple hq
  have hlen:=r.length
  obtain⟨⟨cls,dd,data,sl⟩,e,hc,n,hd⟩:=id ht
  simp only at hc hd
  subst hc hd
  refine wpAny_binaryOp_repeat_ref (T := "tuple") (U := "int") (by decide) ⟨_,e,rfl⟩ (λ s'=>typeIs_int s' 0 t) iL F.fills_int_mul F.slot_int_rmul mM F.slot_int_index.lookup
   (call_meets F.slot_int_rmul (typeIs_int s 0 t) F.entry_int_rmul (F.args_int_rmul_2 _ _) (jY 0 t l its.toArray n dd sl) ⟨e,rfl,⟨_,e,rfl⟩,?_⟩)
  have hne':its≠[]:=λ z=>by rw[z] at hlen;exact hne (List.eq_nil_of_length_eq_zero hlen)
  have hemp:its.toArray.isEmpty=false:=by cases its with
   | nil=>exact absurd rfl hne'
   | cons a r=>rfl
  refine call_meets F.slot_tuple_mul ⟨_,e,rfl⟩ F.entry_tuple_mul (F.args_tuple_mul_2 _ _) (pS l its.toArray n 0 t dd sl (by decide) (by rw[hemp];decide) (by simp)) ⟨e,?_⟩
  have I1:=I.laid (a:=s.heap.objs.size) (o:=.tup []) (h':=s.heap.push { cls:=.type "tuple",data:=.seq #[] }) (t':=s.toks)
   (λ _ _ q=>aab _ q) (Nat.le_refl _) ⟨Nat.zero_le _,[],.nil,⟨_,aag _ rfl,rfl,0,rfl⟩⟩
  exact⟨.ref _,_,I1,rfl,q _ _ (aK.new I.fresh) (bN.of aB)⟩
theorem FI (hK:X.K=K):g7 X (binaryOp .Mult) (JX K):=by subst hK;exact IS
end
structure MCal (P:Program) (w:World) (K:aaa) (mg:Str->Option Value) (base:Heap) (C:Addr) (m:Str) (ps:List Str) (k:Nat) (sp:Sp) (f:Addr) (fd:FuncData):Prop where
 cls:Cls K C
 mt:Meth K C m f
 ok:FnOk P w K mg base gC k f fd ps sp
 bd:iU K fd ps []
structure MkCal (P:Program) (w:World) (K:aaa) (mg:Str->Option Value) (base:Heap) (C:Addr) (x:Str) (ps:List Str) (k:Nat) (sp:Sp) (f:Addr) (fd:FuncData):Prop where
 make:Mk K C f
 ok:FnOk P w K mg base gC k f fd ps sp
 mg:mg x=some (.ref C)
 bd:iU K fd ps []
noncomputable def iC (fp:List Addr) (H H':Hp):Prop:=∀ b o,b∉fp->H b=some o->H' b=some o
theorem iC.trans {fp:List Addr}{H H1 H2:Hp} (a:iC fp H H1) (b:iC fp H1 H2):iC fp H H2:=λ c o hc h=>b c o hc (a c o hc h)
theorem iC.upd {fp:List Addr}{H:Hp}{a:Addr}{o:HO} (ha:a∈fp):iC fp H (upd H a o):=λ b u hb h=>by
 have ne:b≠a:=λ e=>hb (by rw[e];exact ha)
 rw[aM ne];exact h
theorem iC.ts {K:aaa}{fp:List Addr}{H H':Hp} (a:iC fp H H') (hm:∀ b∈fp,iF (H b)):bM K H H':=by
 intro b xs h
 have ne:∀ {o:HO},H b=some o->¬ iF (some o)->b∉fp:=λ e n z=>by
  have:=hm b z;rw[e] at this;exact n this
 rcases h with (h | ⟨o,h⟩) | h
 ·exact .inl (.inl (a _ _ (ne h (λ z=>z)) h))
 ·exact .inl (.inr ⟨o,a _ _ (ne h (λ z=>z)) h⟩)
 ·exact .inr h
end L2
namespace L2
open PySem PySem.Spec PyProof.Rows TwZ
section
variable {K:aaa}{g:TG}{tc:TT}{te:TE}{fr:List (Option Nat)}{σ:St}{H1:Hp}{Q:Addr->Hp->Prop}
theorem JD {t1 t2:Bool}{a1 a2:Addr}{xs ys:List V}{n:Nat} (h1:xs.length=n) (h2:ys.length=n) (Pv:Addr->Nat->List V->St->Hp->Prop)
  (hq:∀ D i r σ H,Pv D i r σ H->jH K H t1 a1 xs/\jH K H t2 a2 ys)
  (h0:∀ D,H1 D=none->Pv D 0 [] (BI fr σ) (upd H1 D (.lst []))) (hstop:∀ D r Z H',Pv D n r Z H'->Q D H')
  (hgo:∀ D i x y r Z H' T,xs[i]? = some x->ys[i]? = some y->Pv D i r Z H'->H' T=none->g (.ref T) Z (upd H' T (.tup [x,y])) λ ap H3=>tc ap H3 λ b H4=>
    if b=true then te ap H4 λ y H5=>H5 D=some (.lst r)/\r.length < PySem.sizeLine/\Pv D (i+1) (r++[y]) ap (upd H5 D (.lst (r++[y])))
    else Pv D (i+1) r ap H4):hV (JQ K t1 t2 a1 a2) g tc te fr σ H1 Q:=by
 refine rH (n:=n) Pv h0 (λ D r Z H' p=>?_) λ D i r Z H' hi p=>?_
 ·obtain⟨q1,q2⟩:=hq D _ r Z H' p
  exact⟨⟨xs,ys,q1,q2,.inl (by omega)⟩,hstop D r Z H' p⟩
 ·obtain⟨q1,q2⟩:=hq D _ r Z H' p
  refine⟨⟨xs,ys,xs[i]'(by omega),ys[i]'(by omega),q1,q2,by simp,by simp⟩,?_⟩
  rintro v H2 ⟨T,x,y,hT,rfl,e1,e2,rfl⟩
  exact hgo D i x y r Z H' T (e1 xs q1) (e2 ys q2) p hT
end
end L2
namespace Tw
open PySem L2
structure Mom where
 tick:Int
 held:List Int
 coming:List Int
 doors:List Bool
 poured:List Int
 came:Int
 ground:Int
noncomputable def lP (m:Mom):L2.D:=.tup [.int m.tick,AC m.held m.coming m.doors,.tup (m.poured.map L2.D.int),.int m.came,.int m.ground]
noncomputable def dA:List sE->List Bool->Int
 | s::ss,d::ds=>(if d=true then s.2.1 else 0)+dA ss ds
 | _,_=>0
structure MomOk (net:Net) (m:Mom):Prop where
 st:StOk net m.held m.coming m.doors
 pl:m.poured.length=net.vs.length
noncomputable def Mom.tk (net:Net) (m:Mom):Tick:=cO net m.held m.coming m.poured m.doors
noncomputable def Mom.step (net:Net) (m:Mom):Mom:=
 { tick:=m.tick+1,held:=(m.tk net).held,coming:=(m.tk net).coming,doors:=(m.tk net).doors,poured:=cG net.vs.length,came:=m.came+(m.poured.sum+dA net.sps m.doors),ground:=m.ground+(m.tk net).ground }
noncomputable def Mom.pour (m:Mom) (v a:Int):Mom:={ m with poured:=m.poured.set v.toNat (m.poured.getD v.toNat 0+a) }
noncomputable def hU (net:Net) (m:Mom):Nat->Mom
 | 0=>m
 | i+1=>(hU net m i).step net
noncomputable def nH (net:Net) (m:Mom):List (Int×Nat):=(m.tk net).tip.map λ k=>(m.tick,k)
noncomputable def fT (net:Net) (m:Mom):Nat->List (Int×Nat)
 | 0=>[]
 | i+1=>fT net m i++nH net (hU net m i)
inductive Row where
 | pour (v a:Int)
 | go (many:Int) (tips:List (Int×Nat))
noncomputable def wB (t:Int×Nat):L2.D:=.tup [.int t.1,.int (t.2:Int)]
noncomputable def IB:Row->L2.D
 | .pour v a=>.tup [.str "pour",.int v,.int a]
 | .go n ts=>.tup [.str "go",.int n,.tup (ts.map wB)]
structure RunS where
 net:Net
 rows:List Row
 pre:List Mom
 cur:Mom
 tips:List (List Int)
noncomputable def addTip (ts:List (List Int)) (t:Int×Nat):List (List Int):=ts.set t.2 (ts.getD t.2 []++[t.1])
noncomputable def RunS.pour (S:RunS) (v a:Int):RunS:={ S with rows:=S.rows++[.pour v a],pre:=S.pre++[S.cur],cur:=S.cur.pour v a }
noncomputable def RunS.go (S:RunS) (k:Nat):RunS:={ S with rows:=S.rows++[.go (k:Int) (fT S.net S.cur k)],pre:=S.pre++[S.cur],cur:=hU S.net S.cur k,tips:=(fT S.net S.cur k).foldl addTip S.tips }
noncomputable def FT (net:Net):Mom:=⟨0,cG net.vs.length,cG net.vs.length,net.sps.map (·.2.2),cG net.vs.length,0,0⟩
noncomputable def uP (net:Net):RunS:=⟨net,[],[],FT net,List.replicate net.vs.length []⟩
structure RunOk (S:RunS):Prop where
 nok:NetOk S.net
 cur:MomOk S.net S.cur
 tl:S.tips.length=S.net.vs.length
structure RunSz (S:RunS) (B:Nat):Prop where
 rows:S.rows.length<=B
 pre:S.pre.length<=B
 tips:∀ l∈S.tips,l.length<=B
theorem gD (n:Nat):(cG n).length=n:=by simp [cG]
theorem lE {n:Nat} (h:1<=n):(0:Int)::cG (n - 1)=cG n:=by
 obtain⟨k,rfl⟩:∃ k,n=k+1:=⟨n - 1,by omega⟩
 simp [cG,List.replicate_succ]
theorem J7 (net:Net):MomOk net (FT net):=⟨⟨gD _,gD _,by simp [FT]⟩,gD _⟩
theorem Mom.hs_len {net:Net}{m:Mom} (h:MomOk net m):(bC net m.held m.coming m.poured m.doors).length=net.vs.length:=by
 unfold bC;rw[gG,gR h.st.h h.st.c h.pl]
theorem MomOk.step {net:Net}{m:Mom} (h:MomOk net m):MomOk net (m.step net):=
 ⟨⟨iW _ _ (Mom.hs_len h).symm,by show (eQ _ _).length=_;unfold eQ;simp,by show (cJ _ _ _).length=_;rw[j9];exact h.st.d⟩,gD _⟩
theorem MomOk.pour {net:Net}{m:Mom} (h:MomOk net m) (v a:Int):MomOk net (m.pour v a):=⟨h.st,by show (List.set _ _ _).length=_;rw[acl];exact h.pl⟩
theorem pF {net:Net}{m:Mom} (h:MomOk net m):∀ i,MomOk net (hU net m i)
 | 0=>h
 | i+1=>(pF h i).step
theorem MA {net:Net}{m:Mom}{k:Nat} (h:k∈(m.tk net).tip):k < net.vs.length:=by
 have:=pV _ _ _ _ (show k∈cQ 0 net.vs _ from h)
 omega
theorem E8 (net:Net) (m:Mom):(m.tk net).tip.length<=net.vs.length:=nG _ _ _
theorem A8 {net:Net}{m:Mom}:∀ (i:Nat) (t:Int×Nat),t∈fT net m i->t.2 < net.vs.length
 | 0,t,h=>by simp [fT] at h
 | i+1,t,h=>by
  rcases abc.1 h with h | h
  ·exact A8 i t h
  ·obtain⟨k,hk,rfl⟩:=aaz.1 h
   exact MA hk
theorem jM {net:Net}{m:Mom} (nok:NetOk net):∀ (i:Nat),(fT net m i).length<=12 * i
 | 0=>by simp [fT]
 | i+1=>by
  have h1:=jM (m:=m) nok i
  have h2:=E8 net (hU net m i)
  have h3:=nok.hi
  show (fT net m i++nH net (hU net m i)).length<=_
  rw[aat]
  unfold nH
  rw[aac]
  omega
theorem kE:∀ (l:List (Int×Nat)) (ts:List (List Int)),(l.foldl addTip ts).length=ts.length
 | [],_=>rfl
 | t::l,ts=>by show (l.foldl addTip (addTip ts t)).length=_;rw[kE l];unfold addTip;simp
theorem RunOk.pour {S:RunS} (h:RunOk S) (v a:Int):RunOk (S.pour v a):=⟨h.nok,h.cur.pour v a,h.tl⟩
theorem RunOk.go {S:RunS} (h:RunOk S) (k:Nat):RunOk (S.go k):=⟨h.nok,pF h.cur k,by show (List.foldl addTip S.tips (fT S.net S.cur k)).length=_;rw[kE];exact h.tl⟩
theorem uO {net:Net} (nok:NetOk net):RunOk (uP net):=⟨nok,J7 net,by simp [uP]⟩
noncomputable def vM (np:V) (R M T:Addr):List (Str×V):=[("net",np),("rows",.ref R),("moments",.ref M),("tip_ticks",.ref T)]
theorem zS {np:V}{R M T:Addr}:(vM np R M T).lookup ("net" : Str)=some np:=rfl
theorem B7 {np:V}{R M T:Addr}:(vM np R M T).lookup ("rows" : Str)=some (.ref R):=rfl
theorem fK {np:V}{R M T:Addr}:(vM np R M T).lookup ("moments" : Str)=some (.ref M):=rfl
theorem B6 {np:V}{R M T:Addr}:(vM np R M T).lookup ("tip_ticks" : Str)=some (.ref T):=rfl
structure RunC (K:aaa) (C:Addr) (H:Hp) (r:Addr) (S:RunS) (dx:Addr) (np:V) (R M T:Addr) (ts:List Addr) (rs ms:List V) (mv:V):Prop where
 ins:H r=some (.ins C dx (vM np R M T))
 net:Is K H (fC S.net) np
 hR:H R=some (.lst rs)
 lR:IsL K H (S.rows.map IB) rs
 hM:H M=some (.lst (ms++[mv]))
 lM:IsL K H (S.pre.map lP) ms
 cM:Is K H (lP S.cur) mv
 hT:H T=some (.lst (ts.map V.ref))
 tl:ts.length=S.tips.length
 ti:∀ (i:Nat) (t:Addr) (l:List Int),ts[i]? = some t->S.tips[i]? = some l->H t=some (.lst (l.map V.int))
 nd:(R::M::T::ts).Nodup
 ok:RunOk S
noncomputable def bV (K:aaa) (C:Addr) (H:Hp) (r:Addr) (S:RunS) (fp:List Addr):Prop:=∃ dx np R M T ts rs ms mv,RunC K C H r S dx np R M T ts rs ms mv/\fp=R::M::T::ts
structure RunTx (K:aaa) (C:Addr):Prop where
 cls:Cls K C
 net:hX K C "net"
 rows:hX K C "rows"
 moments:hX K C "moments"
 tips:hX K C "tip_ticks"
section
variable {K:aaa}{C r dx R M T:Addr}{H H':Hp}{S:RunS}{fp:List Addr}{np mv:V}{ts:List Addr}{rs ms:List V}
theorem RunC.lists (c:RunC K C H r S dx np R M T ts rs ms mv):∀ b∈R::M::T::ts,∃ xs,H b=some (.lst xs):=by
 intro b hb
 rcases List.mem_cons.1 hb with rfl | hb
 ·exact⟨_,c.hR⟩
 rcases List.mem_cons.1 hb with rfl | hb
 ·exact⟨_,c.hM⟩
 rcases List.mem_cons.1 hb with rfl | hb
 ·exact⟨_,c.hT⟩
 obtain⟨i,hi,rfl⟩:=List.mem_iff_getElem.1 hb
 have hl:i < S.tips.length:=by rw[<- c.tl];exact hi
 exact⟨_,c.ti i ts[i] S.tips[i] (by simp) (by simp)⟩
theorem bV.lists (c:bV K C H r S fp):∀ b∈fp,∃ xs,H b=some (.lst xs):=by
 obtain⟨dx,np,R,M,T,ts,rs,ms,mv,c,rfl⟩:=c
 exact c.lists
theorem bV.mut (c:bV K C H r S fp):∀ b∈fp,iF (H b):=λ b hb=>by
 obtain⟨xs,e⟩:=c.lists b hb
 rw[e];exact trivial
theorem bV.notfp (c:bV K C H r S fp) {b:Addr} (h:H b=none):b∉fp:=λ hb=>by
 obtain⟨xs,e⟩:=c.lists b hb
 rw[e] at h;cases h
theorem bV.ok (c:bV K C H r S fp):RunOk S:=by
 obtain⟨dx,np,R,M,T,ts,rs,ms,mv,c,_⟩:=c
 exact c.ok
theorem RunC.r_notin (c:RunC K C H r S dx np R M T ts rs ms mv):r∉R::M::T::ts:=λ hb=>by
 obtain⟨xs,e⟩:=c.lists r hb
 rw[c.ins] at e;cases e
theorem RunC.keep (c:RunC K C H r S dx np R M T ts rs ms mv) (t:bM K H H') (k:∀ b∈r::R::M::T::ts,H' b=H b):RunC K C H' r S dx np R M T ts rs ms mv where
 ins:=by rw[k r (by simp)];exact c.ins
 net:=Is.mono t _ _ c.net
 hR:=by rw[k R (by simp)];exact c.hR
 lR:=IsL.mono t _ _ c.lR
 hM:=by rw[k M (by simp)];exact c.hM
 lM:=IsL.mono t _ _ c.lM
 cM:=Is.mono t _ _ c.cM
 hT:=by rw[k T (by simp)];exact c.hT
 tl:=c.tl
 ti:=λ i t l h1 h2=>by rw[k t (by have:=aaj h1;simp [this])];exact c.ti i t l h1 h2
 nd:=c.nd
 ok:=c.ok
theorem bV.same (c:bV K C H r S fp) (s:aK H H'):bV K C H' r S fp:=by
 obtain⟨dx,np,R,M,T,ts,rs,ms,mv,c,rfl⟩:=c
 refine⟨dx,np,R,M,T,ts,rs,ms,mv,c.keep s.ts λ b hb=>?_,rfl⟩
 rcases List.mem_cons.1 hb with rfl | hb
 ·rw[s _ _ c.ins,c.ins]
 ·obtain⟨xs,e⟩:=c.lists b hb
  rw[s _ _ e,e]
theorem bV.but {t:Addr} (c:bV K C H r S fp) (s:cA t H H') (hm:iF (H t)) (h1:t≠r) (h2:t∉fp):bV K C H' r S fp:=by
 obtain⟨dx,np,R,M,T,ts,rs,ms,mv,c,rfl⟩:=c
 refine⟨dx,np,R,M,T,ts,rs,ms,mv,c.keep (s.ts hm) λ b hb=>?_,rfl⟩
 rcases List.mem_cons.1 hb with rfl | hb
 ·rw[s _ _ (Ne.symm h1) c.ins,c.ins]
 ·obtain⟨xs,e⟩:=c.lists b hb
  rw[s _ _ (λ z=>h2 (by rw[<- z];exact hb)) e,e]
theorem nZ {m:Mom}{v:V} (h:Is K H (lP m) v):∃ (a po:Addr) (st:V),v=.ref a/\bN K H a [.int m.tick,st,.ref po,.int m.came,.int m.ground]/\Is K H (AC m.held m.coming m.doors) st/\bN K H po (m.poured.map V.int):=by
 obtain⟨a,zs,rfl,q,l⟩:=(show Is K H (.tup [.int m.tick,AC m.held m.coming m.doors,.tup (m.poured.map L2.D.int),.int m.came,.int m.ground]) v from h).un
 obtain⟨x1,r,rfl,h1,l⟩:=l.un
 obtain⟨x2,r,rfl,h2,l⟩:=l.un
 obtain⟨x3,r,rfl,h3,l⟩:=l.un
 obtain⟨x4,r,rfl,h4,l⟩:=l.un
 obtain⟨x5,r,rfl,h5,l⟩:=l.un
 have:=l.un0
 subst this
 have:=h1.ui
 subst this
 have:=h4.ui
 subst this
 have:=h5.ui
 subst this
 obtain⟨po,xs,rfl,q1,l1⟩:=h3.un
 have:=l1.ints
 subst this
 exact⟨a,po,x2,rfl,q,h2,q1⟩
theorem zL {m:Mom}{a po:Addr}{st:V} (q:bN K H a [.int m.tick,st,.ref po,.int m.came,.int m.ground]) (hs:Is K H (AC m.held m.coming m.doors) st) (hp:bN K H po (m.poured.map V.int)):Is K H (lP m) (.ref a):=
 Is.tupOf q (.cons (Is.i _) (.cons hs (.cons (Is.tupOf hp (IsL.of_ints _)) (.cons (Is.i _) (.cons (Is.i _) .nil)))))
end
section
variable {P:Program}{w:World}{K:aaa}{mg:Str->Option Value}{base:Heap}{C:Addr}
noncomputable def uF (K:aaa):Sp:=λ vs H Q _=>∃ (x:V) (net:Net) (v:Int),vs=[x,.int v]/\Is K H (fC net) x/\0<=v/\v < net.vs.length/\Q .non H
theorem eY:FnScope ["net","number","vessels","spouts"] ["net","number"] (aJ (aQ 37)):=⟨rfl,rfl,rfl,by decide +kernel,rfl,by decide +kernel,by decide +kernel⟩
theorem qZ {f f1:Addr}{fd fd1:FuncData} (F:Fun K "need_vessel" "need_vessel" (aQ 37) f fd) (T:Txt mg) (G_is_whole:Callee P w K mg base "is_whole" ["thing","least","most"] 1 iX f1 fd1):FnOk P w K mg base gC 2 f fd ["net","number"] (uF K):=by
 refine F.ok eY (λ vs H Q E h=>?_) (λ cdv A outer s H vs Q E hr h=>?_)
 ·obtain⟨x,net,v,rfl,_⟩:=h;rfl
 ·obtain⟨x,net,v,rfl,hx,h0,h1,k⟩:=h
  have sc:=eY
  refine⟨_,(aE (bZ (pv 0) (aX (K:=K) (n:=2) rfl rfl (aF (aG (i:=2) sc.nd rfl (Or.inl rfl)) (aF (aG (i:=3) sc.nd rfl (Or.inl rfl)) aW))))
   (aL (d8 (eP (dL (cU G_is_whole hr (aA (pv 1) (aA aH (aA (bA fJ (aU (bL (K:=K) rfl) rfl T.b_len abj (aA (pv 2) aD)) aH) aD)))))) (aL AS) bJ))),?_⟩
  obtain⟨a,b,c,xs,ys,rfl,q,q1,l1,q2,l2⟩:=fY hx
  have exl:xs.length=net.vs.length:=by rw[l1.length,aac]
  refine⟨_,rfl,a,_,rfl,q,rfl,_,_,rfl,_,_,rfl,rfl,?_⟩
  exact⟨_,rfl,_,rfl,b,xs,rfl,.inr q1,_,_,rfl,rfl,v,0,_,rfl,h0,by omega,_,rfl,eU k⟩
noncomputable def iH (K:aaa):Sp:=λ vs H Q _=>∃ (x:V) (net:Net) (v:Int),vs=[x,.int v]/\Is K H (fC net) x/\NetOk net/\∀ p H',aK H H'->bN K H' p ((v::cG (net.vs.length - 1)).map V.int)->Q (.ref p) H'
theorem qL:FnScope ["net","amount","vessels","spouts"] ["net","amount"] (aJ (aQ 9)):=⟨rfl,rfl,rfl,by decide +kernel,rfl,by decide +kernel,by decide +kernel⟩
theorem zI {f:Addr}{fd:FuncData} (F:Fun K "pouring" "pouring" (aQ 9) f fd) (T:Txt mg):FnOk P w K mg base gC 1 f fd ["net","amount"] (iH K):=by
 refine F.ok qL (λ vs H Q E h=>?_) (λ cdv A outer s H vs Q E hr h=>?_)
 ·obtain⟨x,net,v,rfl,_⟩:=h;rfl
 ·obtain⟨x,net,v,rfl,hx,nok,k⟩:=h
  have sc:=qL
  refine⟨_,(aE (bZ (pv 0) (aX (K:=K) (n:=2) rfl rfl (aF (aG (i:=2) sc.nd rfl (Or.inl rfl)) (aF (aG (i:=3) sc.nd rfl (Or.inl rfl)) aW))))
   (aL (aZ (bA (FP (K:=K) rfl) (bS (aA (pv 1) aD)) (bA (FI (K:=K) rfl) (bS (aA aH aD)) (bA fJ (aU (bL (K:=K) rfl) rfl T.b_len abj (aA (pv 2) aD)) aH)))))),?_⟩
  obtain⟨a,b,c,xs,ys,rfl,q,q1,l1,q2,l2⟩:=fY hx
  have exl:xs.length=net.vs.length:=by rw[l1.length,aac]
  have n1:=nok.lo
  have n2:=nok.hi
  refine⟨_,rfl,a,_,rfl,q,rfl,_,_,rfl,_,_,rfl,rfl,?_⟩
  refine⟨_,rfl,(show 1<=sizeLine by decide),λ y hy=>⟨(show 1<=sizeLine by decide),λ z hz=>?_⟩⟩
  have m1:=aK.new (o:=HO.tup [.int v]) hy
  have m2:=aK.new (o:=HO.tup [.int 0]) hz
  refine⟨_,rfl,b,xs,rfl,.inr (m2.tup (m1.tup q1)),_,_,rfl,rfl,z,_,[.int 0],rfl,rfl,bN.of aB,by omega,by omega,by simp,by simp,λ e H1 sm1 qe=>?_⟩
  have en:(((xs.length:Nat):Int) - 1).toNat=net.vs.length - 1:=by rw[exl];omega
  rw[en,KY] at qe
  refine⟨y,e,[.int v],_,rfl,rfl,sm1.tup (m2.tup (bN.of aB)),qe,by simp,aP (by simp;omega) |> ace,λ he=>?_,λ _ p hp=>?_⟩
  ·refine k _ _ ((m1.trans m2).trans sm1) ?_
   have e0:cG (net.vs.length - 1)=[]:=List.map_eq_nil_iff.mp he
   rw[e0]
   exact sm1.tup (m2.tup (bN.of aB))
  ·exact k _ _ (((m1.trans m2).trans sm1).trans (aK.new hp)) (bN.of aB)
noncomputable def qG (K:aaa):Sp:=λ vs H Q _=>∃ (x y:V) (z:Addr) (net:Net) (held coming poured:List Int) (doors:List Bool),vs=[x,y,.ref z]/\Is K H (fC net) x/\Is K H (AC held coming doors) y/\bN K H z (poured.map V.int)/\
 NetOk net/\StOk net held coming doors/\∀ H',aK H H'->Q (.int (poured.sum+dA net.sps doors)) H'
theorem mU:∀ (ss:List sE) (ds:List Bool) (i:Nat) (s:sE) (d:Bool),ss[i]? = some s->ds[i]? = some d->dA (ss.take (i+1)) (ds.take (i+1))=dA (ss.take i) (ds.take i)+(if d=true then s.2.1 else 0)
 | [],_,i,_,_,h,_=>by simp at h
 | _::_,[],i,_,_,_,h=>by simp at h
 | a::ss,b::ds,0,s,d,h1,h2=>by simp at h1 h2;subst h1 h2;simp [dA]
 | a::ss,b::ds,i+1,s,d,h1,h2=>by
  simp only [List.take_succ_cons,dA]
  rw[mU ss ds i s d (by simpa using h1) (by simpa using h2)]
  omega
theorem qN:FnScope ["net","state","poured","vessels","spouts","held","coming","doors"] ["net","state","poured"] (aJ (aQ 11)):=⟨rfl,rfl,rfl,by decide +kernel,rfl,by decide +kernel,by decide +kernel⟩
theorem zJ {f:Addr}{fd:FuncData} (F:Fun K "came_in" "came_in" (aQ 11) f fd) (T:Txt mg):FnOk P w K mg base gC 1 f fd ["net","state","poured"] (qG K):=by
 refine F.ok qN (λ vs H Q E h=>?_) (λ cdv A outer s H vs Q E hr h=>?_)
 ·obtain⟨x,y,z,net,held,coming,poured,doors,rfl,_⟩:=h;rfl
 ·obtain⟨x,y,z,net,held,coming,poured,doors,rfl,hx,hy,qz,nok,sok,k⟩:=h
  have sc:=qN
  refine⟨_,(aE (bZ (pv 0) (aX (K:=K) (n:=2) rfl rfl (aF (aG (i:=3) sc.nd rfl (Or.inl rfl)) (aF (aG (i:=4) sc.nd rfl (Or.inl rfl)) aW))))
   (aE (bZ (pv 1) (aX (K:=K) (n:=3) rfl rfl (aF (aG (i:=5) sc.nd rfl (Or.inl rfl)) (aF (aG (i:=6) sc.nd rfl (Or.inl rfl)) (aF (aG (i:=7) sc.nd rfl (Or.inl rfl)) aW)))))
   (aL (aZ (bA dG (aU (kO (K:=K) rfl rfl) rfl T.b_sum PyProof.Rows.boot_sum (aA (pv 2) aD)) (aU (kO (K:=K) rfl rfl) rfl T.b_sum PyProof.Rows.boot_sum (aA (fZ (λ _ _ h=>h) rfl (LcOk.mk (N':=["target","flow","first_door","door"]) (fr:=[none,none,none,none]) rfl trivial rfl rfl rfl rfl rfl trivial) (wU (K:=K) rfl rfl T.b_zip (aA (pv 4) (aA (pv 7) aD))) (λ _ _ _=>(aX (K:=K) (n:=2) rfl rfl (aF (aX (K:=K) (n:=3) rfl rfl (aF (aG (i:=0) (show (["target","flow","first_door","door"]:List Str).Nodup by decide +kernel) rfl (Or.inl rfl) (Or.inr rfl)) (aF (aG (i:=1) (show (["target","flow","first_door","door"]:List Str).Nodup by decide +kernel) rfl (Or.inl rfl) (Or.inr rfl)) (aF (aG (i:=2) (show (["target","flow","first_door","door"]:List Str).Nodup by decide +kernel) rfl (Or.inl rfl) (Or.inr rfl)) aW)))) (aF (aG (i:=3) (show (["target","flow","first_door","door"]:List Str).Nodup by decide +kernel) rfl (Or.inl rfl) (Or.inr rfl)) aW)))) (λ _ _ _=>IK (dL (pv 3))) (λ _ _ _=>(pv 1))) aD))))))),?_⟩
  obtain⟨a,b,c,xs,ys,rfl,q,q1,l1,q2,l2⟩:=fY hx
  obtain⟨ay,b1,b2,b3,rfl,qy,qb1,qb2,qb3⟩:=EF hy
  have eyl:ys.length=net.sps.length:=by rw[l2.length,aac]
  have n3:=nok.sp
  refine⟨_,rfl,a,_,rfl,q,rfl,_,_,rfl,_,_,rfl,rfl,?_⟩
  refine⟨_,rfl,ay,_,rfl,qy,rfl,_,_,rfl,_,_,rfl,_,_,rfl,rfl,?_⟩
  refine⟨_,rfl,true,z,_,rfl,qz,?_⟩
  refine⟨_,rfl,_,rfl,true,true,c,b3,rfl,⟨_,q2⟩,⟨_,qb3⟩,JD (K:=K) (t1:=true) (t2:=true) (xs:=ys) (ys:=doors.map V.bl) (n:=net.sps.length) eyl (by rw[aac];exact sok.d)
   (λ D i r Z H'=>H D=none/\aK H H'/\H' D=some (.lst r)/\(∃ ns:List Int,r=ns.map V.int/\ns.sum=dA (net.sps.take i) (doors.take i)/\ns.length<=i)/\∃ u1 u2 u3 u4,Z=[u1,u2,u3,u4])
   (λ D i r Z H' p=>⟨p.2.1.tup q2,p.2.1.tup qb3⟩) (λ D hD=>⟨hD,aK.new hD,aB,⟨[],rfl,by simp [dA],by simp⟩,none,none,none,none,rfl⟩) ?_ ?_⟩
  rotate_left
  ·rintro D i x y r Z H2 Tt hx hy ⟨hD,sm,hDl,⟨ns,rfl,hns,hnl⟩,u1,u2,u3,u4,rfl⟩ hT
   obtain⟨sp,hsi,sa,rfl,qs⟩:=q0 l2 hx
   have hil:=(aad.mp hsi).1
   obtain⟨d,hdi,rfl⟩:∃ d,doors[i]? = some d/\y=V.bl d:=by
    rw[aah] at hy
    cases hd:doors[i]? with
    | none=>rw[hd] at hy;cases hy
    | some d=>rw[hd] at hy;cases hy;exact⟨d,rfl,rfl⟩
   have mT:=aK.new (o:=HO.tup [.ref sa,.bl d]) hT
   have hs:=mU net.sps doors i sp d hsi hdi
   refine⟨Tt,_,rfl,bN.of aB,rfl,_,_,rfl,sa,_,rfl,mT.tup (sm.tup qs),rfl,_,_,rfl,_,_,rfl,_,_,rfl,rfl,_,_,rfl,rfl,?_⟩
   refine⟨_,rfl,_,rfl,?_⟩
   have smT:=sm.trans mT
   cases d with
   | false=>
    refine eU ⟨hD,smT,mT _ _ hDl,⟨ns,rfl,by rw[hs,hns];simp,by omega⟩,_,_,_,_,rfl⟩
   | true=>
    refine gA ⟨_,rfl,mT _ _ hDl,aP (by simp;omega),hD,smT.put hD,aB,⟨ns++[sp.2.1],by rw[aai];rfl,by rw[hs,List.sum_append,hns];simp,by simp;omega⟩,_,_,_,_,rfl⟩
  ·rintro D r Z H2 ⟨hD,sm,hDl,⟨ns,rfl,hns,hnl⟩,_⟩
   refine⟨false,D,_,rfl,bO.of hDl,_,_,rfl,rfl,?_⟩
   rw[hns,List.take_of_length_le (Nat.le_refl _),List.take_of_length_le (Nat.le_of_eq sok.d)]
   exact k _ sm
noncomputable def qE (K:aaa):Sp:=λ vs H Q _=>∃ (x y:V) (net:Net) (m:Mom),vs=[x,y]/\Is K H (fC net) x/\Is K H (lP m) y/\NetOk net/\MomOk net m/\
 ∀ p p1 p2 H',aK H H'->bN K H' p [p1,.ref p2]->Is K H' (lP (m.step net)) p1->bN K H' p2 ((m.tk net).tip.map λ (k:Nat)=>V.int (k:Int))->Q (.ref p) H'
theorem iK:FnScope ["net","moment","tick","state","poured","came","grounded","behind","tipped","lost"] ["net","moment"] (aJ (aQ 21)):=⟨rfl,rfl,rfl,by decide +kernel,rfl,by decide +kernel,by decide +kernel⟩
theorem nX {f f1 f2 f3:Addr}{fd fd1 fd2 fd3:FuncData} (F:Fun K "moment_behind" "moment_behind" (aQ 21) f fd) (T:Txt mg) (G_tick_behind:Callee P w K mg base "tick_behind" ["net","state","poured"] 4 (u7 K) f1 fd1)
  (G_came_in:Callee P w K mg base "came_in" ["net","state","poured"] 1 (qG K) f2 fd2) (G_pouring:Callee P w K mg base "pouring" ["net","amount"] 1 (iH K) f3 fd3):FnOk P w K mg base gC 5 f fd ["net","moment"] (qE K):=by
 refine F.ok iK (λ vs H Q E h=>?_) (λ cdv A outer s H vs Q E hr h=>?_)
 ·obtain⟨x,y,net,m,rfl,_⟩:=h;rfl
 ·obtain⟨x,y,net,m,rfl,hx,hy,nok,mok,k⟩:=h
  have sc:=iK
  refine⟨_,(aE (bZ (pv 1) (aX (K:=K) (n:=5) rfl rfl (aF (aG (i:=2) sc.nd rfl (Or.inl rfl)) (aF (aG (i:=3) sc.nd rfl (Or.inl rfl)) (aF (aG (i:=4) sc.nd rfl (Or.inl rfl)) (aF (aG (i:=5) sc.nd rfl (Or.inl rfl)) (aF (aG (i:=6) sc.nd rfl (Or.inl rfl)) aW)))))))
   (aE (bZ (cU G_tick_behind hr (aA (pv 0) (aA (pv 3) (aA (pv 4) aD)))) (aX (K:=K) (n:=3) rfl rfl (aF (aG (i:=7) sc.nd rfl (Or.inl rfl)) (aF (aG (i:=8) sc.nd rfl (Or.inl rfl)) (aF (aG (i:=9) sc.nd rfl (Or.inl rfl)) aW)))))
   (aE (zB (i:=5) sc.nd rfl (Or.inl rfl) (cU G_came_in hr (aA (pv 0) (aA (pv 3) (aA (pv 4) aD)))) vH)
   (aL (aZ (bS (aA (bS (aA (bA dG (pv 2) aH) (aA (pv 7) (aA (cU G_pouring hr (aA (pv 0) (aA aH aD))) (aA (pv 5) (aA (bA dG (pv 6) (pv 9)) aD)))))) (aA (pv 8) aD)))))))),?_⟩
  obtain⟨a,po,st,rfl,q,hs,hp⟩:=nZ hy
  refine⟨_,rfl,a,_,rfl,q,rfl,_,_,rfl,_,_,rfl,_,_,rfl,_,_,rfl,_,_,rfl,rfl,?_⟩
  refine⟨_,rfl,_,rfl,_,rfl,x,st,po,net,m.held,m.coming,m.poured,m.doors,rfl,hx,hs,hp,nok,mok.st,mok.pl,λ f fxs H1 sm1 _ if1=>?_⟩
  obtain⟨fa,gxs,ef,qf,lf⟩:=(show Is K H1 (.tup [AC (m.tk net).held (m.tk net).coming (m.tk net).doors,.tup ((m.tk net).tip.map λ (i:Nat)=>L2.D.int (i:Int)),.int (m.tk net).ground]) (.ref f) from if1).un
  cases ef
  obtain⟨y1,r,rfl,j1,lf⟩:=lf.un
  obtain⟨y2,r,rfl,j2,lf⟩:=lf.un
  obtain⟨y3,r,rfl,j3,lf⟩:=lf.un
  have:=lf.un0
  subst this
  have:=j3.ui
  subst this
  obtain⟨p2,ts,rfl,qt,lt⟩:=j2.un
  have et:ts=(m.tk net).tip.map λ (k:Nat)=>V.int (k:Int):=by
   have e1:((m.tk net).tip.map λ (i:Nat)=>L2.D.int (i:Int))=((m.tk net).tip.map λ (i:Nat)=>(i:Int)).map L2.D.int:=by rw[abv];rfl
   rw[e1] at lt
   rw[lt.ints,abv];rfl
  subst et
  refine⟨f,_,rfl,qf,rfl,_,_,rfl,_,_,rfl,_,_,rfl,rfl,?_⟩
  refine⟨_,rfl,_,rfl,_,rfl,_,rfl,x,st,po,net,m.held,m.coming,m.poured,m.doors,rfl,Is.mono sm1.ts _ _ hx,Is.mono sm1.ts _ _ hs,sm1.tup hp,nok,mok.st,λ H2 sm2=>⟨_,_,rfl,rfl,?_⟩⟩
  have s2:aK H H2:=sm1.trans sm2
  refine⟨_,rfl,_,_,rfl,rfl,_,rfl,_,rfl,x,net,0,rfl,Is.mono s2.ts _ _ hx,nok,λ z H3 sm3 qz=>?_⟩
  rw[lE nok.lo] at qz
  refine⟨_,rfl,_,rfl,_,rfl,_,_,rfl,rfl,(show 5<=sizeLine by decide),λ p1 hp1=>?_⟩
  have m1:aK H3 _:=aK.new (o:=HO.tup [.int (m.tick+1),y1,.ref z,.int (m.came+(m.poured.sum+dA net.sps m.doors)),.int (m.ground+(m.tk net).ground)]) hp1
  refine⟨_,rfl,(show 2<=sizeLine by decide),λ p hpp=>?_⟩
  have m2:aK _ _:=aK.new (o:=HO.tup [.ref p1,.ref p2]) hpp
  refine k p (.ref p1) p2 _ (((s2.trans sm3).trans m1).trans m2) (bN.of aB) (zL (m:=m.step net) (m2.tup (bN.of aB)) ?_ ?_) ?_
  ·exact Is.mono m2.ts _ _ (Is.mono m1.ts _ _ (Is.mono sm3.ts _ _ (Is.mono sm2.ts _ _ j1)))
  ·exact m2.tup (m1.tup qz)
  ·exact m2.tup (m1.tup (sm3.tup (sm2.tup qt)))
end
end Tw
namespace Tw
open PySem L2
section
variable {K:aaa}
theorem IsL.app {H:Hp}:∀ {ds es:List L2.D}{xs ys:List V},L2.IsL K H ds xs->L2.IsL K H es ys->L2.IsL K H (ds++es) (xs++ys)
 | [],_,_,_,h1,h2=>by have:=h1.un0;subst this;exact h2
 | d::ds,_,_,_,h1,h2=>by
  obtain⟨x,r,rfl,h,h1⟩:=h1.un
  exact .cons h (IsL.app h1 h2)
theorem kG {n:Nat} (h:n<=10000000):n < sizeLine:=by rw[sizeLine_eq];omega
end
section
variable {P:Program}{w:World}{K:aaa}{mg:Str->Option Value}{base:Heap}{C:Addr}
noncomputable def lK (K:aaa):Sp:=λ vs H Q _=>∃ (x:V) (net:Net),vs=[x]/\Is K H (fC net) x/\NetOk net/\∀ p H',aK H H'->Is K H' (lP (FT net)) (.ref p)->Q (.ref p) H'
theorem jB:FnScope ["net"] ["net"] (aJ (aQ 18)):=⟨rfl,rfl,rfl,by decide +kernel,rfl,by decide +kernel,by decide +kernel⟩
theorem p7 {f f1 f2:Addr}{fd fd1 fd2:FuncData} (F:Fun K "first_moment" "first_moment" (aQ 18) f fd) (T:Txt mg)
  (G_first_state:Callee P w K mg base "first_state" ["net"] 1 (pD K) f1 fd1) (G_pouring:Callee P w K mg base "pouring" ["net","amount"] 1 (iH K) f2 fd2):FnOk P w K mg base gC 2 f fd ["net"] (lK K):=by
 refine F.ok jB (λ vs H Q E h=>?_) (λ cdv A outer s H vs Q E hr h=>?_)
 ·obtain⟨x,net,rfl,_⟩:=h;rfl
 ·obtain⟨x,net,rfl,hx,nok,k⟩:=h
  have sc:=jB
  refine⟨_,(aL (aZ (bS (aA aH (aA (cU G_first_state hr (aA (pv 0) aD)) (aA (cU G_pouring hr (aA (pv 0) (aA aH aD))) (aA aH (aA aH aD)))))))),?_⟩
  refine⟨_,rfl,x,net,rfl,hx,nok,λ st H4 sm4 hst=>⟨_,rfl,x,net,0,rfl,Is.mono sm4.ts _ _ hx,nok,λ z H5 sm5 qz=>⟨(show 5<=sizeLine by decide),λ p hp=>?_⟩⟩⟩
  rw[lE nok.lo] at qz
  have sp:aK H5 (upd H5 p (.tup [.int 0,st,.ref z,.int 0,.int 0])):=aK.new hp
  exact k p _ ((sm4.trans sm5).trans sp) (zL (m:=FT net) (bN.of aB) (Is.mono sp.ts _ _ (Is.mono sm5.ts _ _ hst)) (sp.tup qz))
noncomputable def nJ (K:aaa):Sp:=λ vs H Q _=>∃ (x:V) (n:Nat) (m:Mom) (v a:Int),vs=[x,.int v,.int a]/\Is K H (lP m) x/\m.poured.length=n/\n<=12/\0<=v/\v < n/\
 ∀ p H',aK H H'->Is K H' (lP (m.pour v a)) (.ref p)->Q (.ref p) H'
theorem iJ:FnScope ["moment","vessel","amount","tick","state","poured","came","grounded","more"] ["moment","vessel","amount"] (aJ (aQ 19)):=⟨rfl,rfl,rfl,by decide +kernel,rfl,by decide +kernel,by decide +kernel⟩
theorem nW {f:Addr}{fd:FuncData} (F:Fun K "moment_poured" "moment_poured" (aQ 19) f fd) (T:Txt mg):FnOk P w K mg base gC 1 f fd ["moment","vessel","amount"] (nJ K):=by
 refine F.ok iJ (λ vs H Q E h=>?_) (λ cdv A outer s H vs Q E hr h=>?_)
 ·obtain⟨x,n,m,v,a,rfl,_⟩:=h;rfl
 ·obtain⟨x,n,m,v,a,rfl,hx,pl,hnh,v0,v1,k⟩:=h
  have sc:=iJ
  refine⟨_,(aE (bZ (pv 0) (aX (K:=K) (n:=5) rfl rfl (aF (aG (i:=3) sc.nd rfl (Or.inl rfl)) (aF (aG (i:=4) sc.nd rfl (Or.inl rfl)) (aF (aG (i:=5) sc.nd rfl (Or.inl rfl)) (aF (aG (i:=6) sc.nd rfl (Or.inl rfl)) (aF (aG (i:=7) sc.nd rfl (Or.inl rfl)) aW)))))))
   (aE (b9 (i:=8) sc.nd rfl (Or.inl rfl) (aY (iS (K:=K) rfl) rfl T.b_list kQ (aA (pv 5) aD)))
   (aE (AU (pv 8) (pv 1) (tM (K:=K) rfl) (pv 2) vH iI)
   (aL (aZ (bS (aA (pv 3) (aA (pv 4) (aA (aY (bU (K:=K) rfl) rfl T.b_tuple cD (aA (pv 8) aD)) (aA (pv 6) (aA (pv 7) aD))))))))))),?_⟩
  obtain⟨ma,po,st,rfl,q,hs,hp⟩:=nZ hx
  refine⟨_,rfl,ma,_,rfl,q,rfl,_,_,rfl,_,_,rfl,_,_,rfl,_,_,rfl,_,_,rfl,rfl,?_⟩
  refine⟨_,rfl,po,_,rfl,.inr hp,λ l hl=>?_⟩
  have hlt:v.toNat < m.poured.length:=by omega
  have hg:m.poured[v.toNat]? = some (m.poured.getD v.toNat 0):=by rw[aae,aaf hlt];rfl
  refine⟨_,rfl,_,rfl,l,_,v,_,rfl,rfl,bO.of aB,v0,by omega,(by rw[aah,hg];rfl),_,rfl,_,_,rfl,rfl,l,_,v,v.toNat,rfl,rfl,aB,vG v0 (by rw[aac];omega),?_⟩
  have e2:upd (upd H l (.lst (m.poured.map V.int))) l (.lst ((m.poured.map V.int).set v.toNat (.int (m.poured.getD v.toNat 0+a))))=upd H l (.lst ((m.pour v a).poured.map V.int)):=by
   rw[HU]
   show _=upd H l (.lst ((m.poured.set v.toNat (m.poured.getD v.toNat 0+a)).map V.int))
   rw[List.map_set]
  rw[e2]
  have s1:aK H (upd H l (.lst ((m.pour v a).poured.map V.int))):=aK.new hl
  have hl1:upd H l (.lst ((m.pour v a).poured.map V.int)) l=some (.lst ((m.pour v a).poured.map V.int)):=aB
  generalize upd H l (.lst ((m.pour v a).poured.map V.int))=H1 at s1 hl1
  refine⟨_,rfl,_,rfl,_,rfl,l,_,rfl,.inl ⟨bO.of hl1,λ p hp'=>⟨_,rfl,_,rfl,(show 5<=sizeLine by decide),λ p2 hp2=>?_⟩⟩⟩
  have m2:aK H1 (upd H1 p (.tup ((m.pour v a).poured.map V.int))):=aK.new hp'
  have m3:aK (upd H1 p (.tup ((m.pour v a).poured.map V.int))) (upd (upd H1 p (.tup ((m.pour v a).poured.map V.int))) p2 (.tup [.int m.tick,st,.ref p,.int m.came,.int m.ground])):=aK.new hp2
  exact k p2 _ ((s1.trans m2).trans m3) (zL (m:=m.pour v a) (bN.of aB) (Is.mono m3.ts _ _ (Is.mono m2.ts _ _ (Is.mono s1.ts _ _ hs))) (m3.tup (bN.of aB)))
noncomputable def uG (K:aaa):Sp:=λ vs H Q _=>∃ (x y:V) (net:Net) (m:Mom) (n:Nat),vs=[x,y,.int (n:Int)]/\Is K H (fC net) x/\Is K H (lP m) y/\NetOk net/\MomOk net m/\n<=100000/\
 ∀ p p1 p2 tvs H',aK H H'->bN K H' p [p1,.ref p2]->Is K H' (lP (hU net m n)) p1->bN K H' p2 tvs->IsL K H' ((fT net m n).map wB) tvs->Q (.ref p) H'
theorem jR:FnScope ["net","moment","many","tipped","step","tick","numbers"] ["net","moment","many"] (aJ (aQ 20)):=⟨rfl,rfl,rfl,by decide +kernel,rfl,by decide +kernel,by decide +kernel⟩
theorem r6 {f f1:Addr}{fd fd1:FuncData} (F:Fun K "moment_gone" "moment_gone" (aQ 20) f fd) (T:Txt mg) (G_moment_behind:Callee P w K mg base "moment_behind" ["net","moment"] 5 (qE K) f1 fd1) :
  FnOk P w K mg base gC 6 f fd ["net","moment","many"] (uG K):=by
 refine F.ok jR (λ vs H Q E h=>?_) (λ cdv A outer s H vs Q E hr h=>?_)
 ·obtain⟨x,y,net,m,n,rfl,_⟩:=h;rfl
 ·obtain⟨x,y,net,m,n,rfl,hx,hy,nok,mok,hn,k⟩:=h
  have sc:=jR
  refine⟨_,(aE (b9 (i:=3) sc.nd rfl (Or.inl rfl) (bP aD))
   (aE (dY PassesOwn.never rfl (dX rfl T.b_range (aA (pv 2) aD)) (aG (i:=4) sc.nd rfl (Or.inl rfl)) (aE (b9 (i:=5) sc.nd rfl (Or.inr rfl) (b0 (aO (K:=K) rfl) (pv 1) aH (λ _ _=>rfl)))
   (aE (bZ (cU G_moment_behind hr (aA (pv 0) (aA (pv 1) aD))) (aX (K:=K) (n:=2) rfl rfl (aF (aG (i:=1) sc.nd rfl (Or.inl rfl)) (aF (aG (i:=6) sc.nd rfl (Or.inl rfl)) aW))))
   (aL (bW (dF (K:=K) rfl aar PySem.F.slot_list_extend PySem.F.type_list_extend D8 (pv 3) (aA (fZ (λ _ _ h=>h) rfl (LcOk.mk (N':=["number","tick"]) (fr:=[none,some 5]) rfl ⟨rfl,trivial⟩ rfl rfl rfl rfl rfl ⟨⟨_,rfl,rfl,rfl,rfl⟩,trivial⟩) (d6 (K:=K) rfl (pv 6)) (λ _ _ _=>(aG (i:=0) (show (["number","tick"]:List Str).Nodup by decide +kernel) rfl (Or.inl rfl) (Or.inr rfl))) (λ _ _ _=>cP) (λ _ _ _=>(bS (aA (pv 1) (aA (pv 0) aD))))) aD)))))))
   (aL (aZ (bS (aA (pv 1) (aA (aY (bU (K:=K) rfl) rfl T.b_tuple cD (aA (pv 3) aD)) aD))))))),?_⟩
  refine⟨Nat.zero_le _,λ tl htl=>?_⟩
  have s0:aK H (upd H tl (.lst [])):=aK.new htl
  have g0:upd H tl (.lst []) tl=some (.lst []):=aB
  generalize upd H tl (.lst [])=H0 at s0 g0
  dsimp only [iG]
  refine vL (λ Z H'=>aK H H'/\(∃ tvs,H' tl=some (.lst tvs)/\IsL K H' ((fT net m n).map wB) tvs)/\∃ mi,Is K H' (lP (hU net m n)) mi/\
   ∃ v4 v5 v6,Z=[some x,some mi,some (.int (n:Int)),some (.ref tl),v4,v5,v6]) (λ D' hD=>?_) ?_
  rotate_left
  ·rintro Z H1 ⟨s1,⟨tvs,ht1,lt1⟩,mi,cm1,v4,v5,v6,rfl⟩
   refine⟨_,rfl,_,rfl,tl,_,rfl,.inl ⟨bO.of ht1,λ p2 hp2=>⟨(show 2<=sizeLine by decide),λ p hp=>?_⟩⟩⟩
   have m2:aK H1 (upd H1 p2 (.tup tvs)):=aK.new hp2
   have m3:aK (upd H1 p2 (.tup tvs)) (upd (upd H1 p2 (.tup tvs)) p (.tup [mi,.ref p2])):=aK.new hp
   exact k p mi p2 tvs _ ((s1.trans m2).trans m3) (bN.of aB) (Is.mono (m2.trans m3).ts _ _ cm1) (m3.tup (bN.of aB)) (L2.IsL.mono (m2.trans m3).ts _ _ lt1)
  refine⟨_,rfl,_,rfl,by omega,by omega,?_⟩
  refine fL (lo:=0) (n:=n) (λ i Z H'=>aK H H'/\(∃ tvs,H' tl=some (.lst tvs)/\IsL K H' ((fT net m i).map wB) tvs)/\∃ mi,Is K H' (lP (hU net m i)) mi/\
   ∃ v4 v5 v6,Z=[some x,some mi,some (.int (n:Int)),some (.ref tl),v4,v5,v6]) ?_ ?_ ?_
  ·exact⟨s0,⟨[],g0,.nil⟩,y,Is.mono s0.ts _ _ hy,_,_,_,rfl⟩
  ·rintro i Z H1 hi ⟨s1,⟨tvs,ht1,lt1⟩,mi,cm1,v4,v5,v6,rfl⟩
   obtain⟨ma,po,st,rfl,q,hs,hp⟩:=nZ cm1
   refine⟨_,rfl,.inr (.inl ⟨ma,_,0,_,rfl,rfl,q,rfl,?_⟩)⟩
   refine⟨_,rfl,_,rfl,x,.ref ma,net,hU net m i,rfl,Is.mono s1.ts _ _ hx,cm1,nok,pF mok i,λ p p1 p2 H2 sm2 qp i1 q2=>?_⟩
   refine⟨p,_,rfl,qp,rfl,_,_,rfl,_,_,rfl,rfl,?_⟩
   have ht2:=sm2 _ _ ht1
   have ltk:=E8 net (hU net m i)
   have hn12:=nok.hi
   refine⟨_,rfl,.inl ⟨rfl,_,bO.of ht2⟩,?_⟩
   refine⟨_,rfl,p2,rfl,⟨_,q2⟩,eZ (K:=K) (a:=p2) (xs:=((hU net m i).tk net).tip.map λ (k:Nat)=>V.int (k:Int))
    (λ D j rr Z H'=>H2 D=none/\aK H2 H'/\H' D=some (.lst rr)/\IsL K H' (((((hU net m i).tk net).tip.take j).map λ k=>((hU net m i).tick,k)).map wB) rr/\∃ u,Z=[u,some (.int (hU net m i).tick)])
    (λ D j rr Z H' p=>p.2.1.tup q2) (λ D hD=>⟨hD,aK.new hD,aB,.nil,none,rfl⟩) ?_ ?_⟩
   rotate_left
   ·rintro D j x' rr Z H3 hx ⟨hD,sm3,hDl,lr,u,rfl⟩
    rw[aah] at hx
    obtain⟨kk,hk,rfl⟩:=aap.mp hx
    have hjl:=(aad.mp hk).1
    have hrl:rr.length<=12:=by rw[lr.length];simp;omega
    refine dH ?_
    refine⟨_,rfl,_,rfl,(show 2<=sizeLine by decide),λ e he=>?_⟩
    have me:=aK.new (o:=HO.tup [.int (hU net m i).tick,.int (kk:Int)]) he
    have nDe:D≠e:=aN hDl he
    have muD:iF (upd H3 e (.tup [.int (hU net m i).tick,.int (kk:Int)]) D):=by rw[me _ _ hDl];exact trivial
    refine⟨me _ _ hDl,aP (by omega),hD,(sm3.trans me).put hD,aB,?_,_,rfl⟩
    rw[cF hk,aai,aai]
    exact L2.IsL.snoc (Is.tupOf (ds:=[.int (hU net m i).tick,.int (kk:Int)]) (cA.ts (K:=K) cA.upd muD _ _ (bN.of aB)) (.cons (Is.i _) (.cons (Is.i _) .nil))) (L2.IsL.mono (me.ts.trans (cA.ts cA.upd muD)) _ _ lr)
   ·rintro D rr Z H3 ⟨hD,sm3,hDl,lr,_⟩
    rw[aac,abe] at lr
    have ht3:=sm3 _ _ ht2
    have l1:tvs.length<=12 * i:=by rw[lt1.length,aac];exact jM nok i
    have l2:rr.length<=12:=by rw[lr.length];simp;omega
    refine⟨tl,D,_,_,rfl,rfl,ht3,hDl,ace (kG (by omega)),?_⟩
    have mu3:iF (H3 tl):=by rw[ht3];exact trivial
    have ts3:bM K H3 (upd H3 tl (.lst (tvs++rr))):=cA.ts cA.upd mu3
    have s13:=sm2.trans sm3
    refine⟨(s1.trans s13).put htl,⟨_,aB,?_⟩,p1,Is.mono ts3 _ _ (Is.mono sm3.ts _ _ i1),_,_,_,rfl⟩
    show IsL K _ ((fT net m i++nH net (hU net m i)).map wB) _
    rw[aai]
    exact IsL.app (L2.IsL.mono (s13.ts.trans ts3) _ _ lt1) (L2.IsL.mono ts3 _ _ lr)
  ·exact λ Z H' p=>hD _ _ p
end
end Tw
namespace Tw
open PySem L2
section
variable {K:aaa}
theorem lV {B:Nat}:∀ (l:List (Int×Nat)) (ts:List (List Int)),(∀ x∈ts,x.length<=B)->∀ x∈l.foldl addTip ts,x.length<=B+l.length
 | [],ts,h,x,hx=>by have:=h x hx;simp;omega
 | t::l,ts,h,x,hx=>by
  have h2:∀ y∈addTip ts t,y.length<=B+1:=λ y hy=>by
   unfold addTip at hy
   rcases List.mem_or_eq_of_mem_set hy with hy | rfl
   ·have:=h y hy;omega
   ·rw[aat,List.length_singleton]
    have:(ts.getD t.2 []).length<=B:=by
     rw[aae]
     cases e:ts[t.2]? with
     | none=>simp
     | some z=>exact h z (aaj e)
    omega
  have:=lV (B:=B+1) l (addTip ts t) h2 x hx
  rw[aax]
  omega
theorem RunSz.pour {S:RunS}{B:Nat} (h:RunSz S B) (v a:Int):RunSz (S.pour v a) (B+1):=
 ⟨by have:=h.rows;show (S.rows++_).length<=_;rw[aat,List.length_singleton];omega,by have:=h.pre;show (S.pre++_).length<=_;rw[aat,List.length_singleton];omega,λ l hl=>by have:=h.tips l hl;omega⟩
theorem RunSz.go {S:RunS}{B:Nat} (h:RunSz S B) (nok:NetOk S.net) (k:Nat):RunSz (S.go k) (B+12 * k+1):=
 ⟨by have:=h.rows;show (S.rows++_).length<=_;rw[aat,List.length_singleton];omega,by have:=h.pre;show (S.pre++_).length<=_;rw[aat,List.length_singleton];omega,λ l hl=>by
  have h1:=lV (B:=B) _ _ h.tips l hl
  have h2:=jM (m:=S.cur) nok k
  omega⟩
theorem AL (net:Net):RunSz (uP net) 0:=⟨Nat.le_refl _,Nat.le_refl _,λ l hl=>by
 have:=List.eq_of_mem_replicate (show l∈List.replicate net.vs.length [] from hl);subst this;exact Nat.le_refl _⟩
end
section
variable {P:Program}{w:World}{K:aaa}{mg:Str->Option Value}{base:Heap}{C:Addr}
noncomputable def yS (K:aaa) (C:Addr):Sp:=λ vs H Q _=>∃ (r dx:Addr) (x:V) (net:Net),vs=[.ref r,x]/\H r=some (.ins C dx [])/\Is K H (fC net) x/\NetOk net/\NetFull net/\
 ∀ fp H',(∀ b∈fp,H b=none)->cA r H H'->bV K C H' r (uP net) fp->Q .non H'
theorem AJ:FnScope ["self","net"] ["self","net"] (aJ (bD (aQ 41) 0)):=⟨rfl,rfl,rfl,by decide +kernel,rfl,by decide +kernel,by decide +kernel⟩
theorem J1 {f f1 f2:Addr}{fd fd1 fd2:FuncData} (F:Fun K "__init__" "Run.__init__" (bD (aQ 41) 0) f fd) (T:Txt mg) (tx:RunTx K C)
  (G_is_net:Callee P w K mg base "is_net" ["thing"] 4 (uJ K) f1 fd1) (G_first_moment:Callee P w K mg base "first_moment" ["net"] 2 (lK K) f2 fd2) :
  FnOk P w K mg base gC 5 f fd ["self","net"] (yS K C):=by
 refine F.ok AJ (λ vs H Q E h=>?_) (λ cdv A outer s H vs Q E hr h=>?_)
 ·obtain⟨r,dx,x,net,rfl,_⟩:=h;rfl
 ·obtain⟨r,dx,x,net,rfl,hi,hx,nok,nfu,k⟩:=h
  have sc:=AJ
  refine⟨_,(aE (d8 (eP (dL (cU G_is_net hr (aA (pv 1) aD)))) (aL AS) bJ)
   (aE (pE (K:=K) rfl (pv 0) (pv 1) rfl)
   (aE (pE (K:=K) rfl (pv 0) (bP aD) rfl)
   (aE (pE (K:=K) rfl (pv 0) (bP (aA (cU G_first_moment hr (aA (pv 1) aD)) aD)) rfl)
   (aL (pE (K:=K) rfl (pv 0) (fZ (λ _ _ h=>h) rfl (LcOk.mk (N':=["vessel"]) (fr:=[none]) rfl trivial rfl rfl rfl rfl rfl trivial) (d6 (K:=K) rfl (b0 (aO (K:=K) rfl) (pv 1) aH (λ _ _=>rfl))) (λ _ _ _=>(aG (i:=0) (show (["vessel"]:List Str).Nodup by decide +kernel) rfl (Or.inl rfl) (Or.inr rfl))) (λ _ _ _=>cP) (λ _ _ _=>(bP aD))) rfl)))))),?_⟩
  refine⟨_,rfl,x,net,rfl,hx,nok,nfu,λ H1 sm1=>⟨_,rfl,eU ?_⟩⟩
  refine⟨_,rfl,_,rfl,r,C,dx,[],rfl,sm1 _ _ hi,tx.cls,tx.net,by decide,?_⟩
  have mu1:iF (H1 r):=by rw[sm1 _ _ hi];exact trivial
  have i2:upd H1 r (.ins C dx (cB "net" x [])) r=some (.ins C dx (cB "net" x [])):=aB
  have b2:cA r H (upd H1 r (.ins C dx (cB "net" x []))):=sm1.but.trans cA.upd
  have hx2:Is K (upd H1 r (.ins C dx (cB "net" x []))) (fC net) x:=Is.mono (cA.ts cA.upd mu1) _ _ (Is.mono sm1.ts _ _ hx)
  generalize upd H1 r (.ins C dx (cB "net" x []))=H2 at i2 b2 hx2
  refine⟨Nat.zero_le _,λ R hR=>⟨_,rfl,r,C,dx,_,rfl,aK.new hR _ _ i2,tx.cls,tx.rows,(show 1 < 1000 by decide),?_⟩⟩
  have nRr:R≠r:=λ z=>by rw[z,i2] at hR;cases hR
  have fR:H R=none:=b2.free nRr hR
  have mu2:iF (upd H2 R (.lst []) r):=by rw[aK.new hR _ _ i2];exact trivial
  have i3:upd (upd H2 R (.lst [])) r (.ins C dx (cB "rows" (.ref R) (cB "net" x []))) r=some (.ins C dx (cB "rows" (.ref R) (cB "net" x []))):=aB
  have b3:cA r H (upd (upd H2 R (.lst [])) r (.ins C dx (cB "rows" (.ref R) (cB "net" x [])))):=(b2.trans (aK.new hR).but).trans cA.upd
  have hx3:Is K (upd (upd H2 R (.lst [])) r (.ins C dx (cB "rows" (.ref R) (cB "net" x [])))) (fC net) x:=Is.mono (cA.ts cA.upd mu2) _ _ (Is.mono (aK.new hR).ts _ _ hx2)
  have hR3:upd (upd H2 R (.lst [])) r (.ins C dx (cB "rows" (.ref R) (cB "net" x []))) R=some (.lst []):=by rw[aM nRr];exact aB
  generalize upd (upd H2 R (.lst [])) r (.ins C dx (cB "rows" (.ref R) (cB "net" x [])))=H3 at i3 b3 hx3 hR3
  refine⟨_,rfl,x,net,rfl,hx3,nok,λ p H6 s36 cm=>⟨(show 1<=sizeLine by decide),λ M hM=>⟨_,rfl,r,C,dx,cB "rows" (.ref R) (cB "net" x []),rfl,aK.new hM _ _ (s36 _ _ i3),tx.cls,tx.moments,(show 2 < 1000 by decide),?_⟩⟩⟩
  have i6:=s36 _ _ i3
  have nMr:M≠r:=λ z=>by rw[z,i6] at hM;cases hM
  have nMR:M≠R:=λ z=>by rw[z,s36 _ _ hR3] at hM;cases hM
  have fM:H M=none:=(b3.trans s36.but).free nMr hM
  have mu6:iF (upd H6 M (.lst [.ref p]) r):=by rw[aK.new hM _ _ i6];exact trivial
  have ts7:bM K H6 (upd (upd H6 M (.lst [.ref p])) r (.ins C dx (cB "moments" (.ref M) (cB "rows" (.ref R) (cB "net" x []))))):=(aK.new hM).ts.trans (cA.ts cA.upd mu6)
  have i7:upd (upd H6 M (.lst [.ref p])) r (.ins C dx (cB "moments" (.ref M) (cB "rows" (.ref R) (cB "net" x [])))) r=some (.ins C dx (cB "moments" (.ref M) (cB "rows" (.ref R) (cB "net" x [])))):=aB
  have b7:cA r H (upd (upd H6 M (.lst [.ref p])) r (.ins C dx (cB "moments" (.ref M) (cB "rows" (.ref R) (cB "net" x []))))):=((b3.trans s36.but).trans (aK.new hM).but).trans cA.upd
  have hM7:upd (upd H6 M (.lst [.ref p])) r (.ins C dx (cB "moments" (.ref M) (cB "rows" (.ref R) (cB "net" x [])))) M=some (.lst [.ref p]):=by rw[aM nMr];exact aB
  have hR7:upd (upd H6 M (.lst [.ref p])) r (.ins C dx (cB "moments" (.ref M) (cB "rows" (.ref R) (cB "net" x [])))) R=some (.lst []):=by rw[aM nRr];exact aK.new hM _ _ (s36 _ _ hR3)
  have hx7:=Is.mono ts7 _ _ (Is.mono s36.ts _ _ hx3)
  have cm7:=Is.mono ts7 _ _ cm
  generalize upd (upd H6 M (.lst [.ref p])) r (.ins C dx (cB "moments" (.ref M) (cB "rows" (.ref R) (cB "net" x []))))=H7 at i7 b7 hM7 hR7 hx7 cm7
  obtain⟨a,b,c,xs,ys,rfl,q,q1,l1,q2,l2⟩:=fY hx7
  have exl:xs.length=net.vs.length:=by rw[l1.length,aac]
  have n2:=nok.hi
  refine⟨_,rfl,.inr (.inl ⟨a,_,0,_,rfl,rfl,q,rfl,b,rfl,⟨_,q1⟩,eZ (K:=K) (a:=b) (xs:=xs) (λ D i rr Z H'=>H7 D=none/\aK H7 H'/\H' D=some (.lst rr)/\(∃ ts:List Addr,rr=ts.map V.ref/\ts.length=i/\(D::ts).Nodup/\∀ t∈ts,H7 t=none/\H' t=some (.lst []))/\∃ u,Z=[u])
   (λ D i rr Z H' p=>p.2.1.tup q1) (λ D hD=>⟨hD,aK.new hD,aB,⟨[],rfl,rfl,by simp,λ t ht=>(nomatch ht)⟩,none,rfl⟩) ?_ ?_⟩)⟩
  rotate_left
  ·rintro D i v rr Z H8 hv ⟨hD,sm,hDl,⟨ts,rfl,hts,hnd,hall⟩,u,rfl⟩
   have hil:=(aad.mp hv).1
   refine dH ?_
   refine⟨Nat.zero_le _,λ t ht=>⟨aK.new ht _ _ hDl,aP (by simp;omega),hD,(sm.trans (aK.new ht)).put hD,aB,⟨ts++[t],by rw[aai];rfl,by simp [hts],?_,?_⟩,_,rfl⟩⟩
   ·have nDt:D≠t:=λ z=>by rw[<- z,hDl] at ht;cases ht
    have nts:t∉ts:=λ z=>by rw[(hall t z).2] at ht;cases ht
    rw[abi] at hnd ⊢
    refine⟨λ z=>?_,?_⟩
    ·rcases abc.1 z with z | z
     ·exact hnd.1 z
     ·exact nDt (by simpa using z)
    ·rw[List.nodup_append]
     exact⟨hnd.2,by simp,λ a ha b hb=>by rw[aaq] at hb;subst hb;exact λ z=>nts (z ▸ ha)⟩
   ·intro t' ht'
    have nDt:t≠D:=λ z=>by rw[z,hDl] at ht;cases ht
    rcases abc.1 ht' with z | z
    ·have h1:=hall t' z
     have ne1:t'≠D:=λ z2=>by rw[abi] at hnd;exact hnd.1 (z2 ▸ z)
     exact⟨h1.1,by rw[aM ne1];exact aK.new ht _ _ h1.2⟩
    ·have:t'=t:=by simpa using z
     subst this
     exact⟨sm.free ht,by rw[aM nDt];exact aB⟩
  ·rintro D rr Z H8 ⟨hD,sm,hDl,⟨ts,rfl,hts,hnd,hall⟩,_⟩
   refine⟨_,rfl,r,C,dx,_,rfl,sm _ _ i7,tx.cls,tx.tips,(show 3 < 1000 by decide),?_⟩
   have nDr:D≠r:=λ z=>by rw[z,i7] at hD;cases hD
   have nDR:D≠R:=λ z=>by rw[z,hR7] at hD;cases hD
   have nDM:D≠M:=λ z=>by rw[z,hM7] at hD;cases hD
   have ntr:∀ t∈ts,t≠r:=λ t ht z=>by have:=(hall t ht).1;rw[z,i7] at this;cases this
   have ntR:∀ t∈ts,t≠R:=λ t ht z=>by have:=(hall t ht).1;rw[z,hR7] at this;cases this
   have ntM:∀ t∈ts,t≠M:=λ t ht z=>by have:=(hall t ht).1;rw[z,hM7] at this;cases this
   have mu8:iF (H8 r):=by rw[sm _ _ i7];exact trivial
   have ts8:bM K H7 (upd H8 r (.ins C dx (cB "tip_ticks" (.ref D) (cB "moments" (.ref M) (cB "rows" (.ref R) (cB "net" (.ref a) [])))))):=sm.ts.trans (cA.ts cA.upd mu8)
   refine k (R::M::D::ts) _ (λ y hy=>?_) ((b7.trans sm.but).trans cA.upd) ⟨dx,.ref a,R,M,D,ts,[],[],.ref p,?_,rfl⟩
   ·rcases List.mem_cons.1 hy with rfl | hy
    ·exact fR
    rcases List.mem_cons.1 hy with rfl | hy
    ·exact fM
    rcases List.mem_cons.1 hy with rfl | hy
    ·exact b7.free nDr hD
    exact b7.free (ntr y hy) (hall y hy).1
   ·exact {
     ins:=aB
     net:=Is.mono ts8 _ _ hx7
     hR:=by rw[aM nRr];exact sm _ _ hR7
     lR:=.nil
     hM:=by rw[aM nMr];exact sm _ _ hM7
     lM:=.nil
     cM:=Is.mono ts8 _ _ cm7
     hT:=by rw[aM nDr];exact hDl
     tl:=by rw[hts,exl];simp [uP]
     ti:=λ i t l h1 h2=>by
      have hm:=aaj h1
      have hl:=aaj h2
      have:=List.eq_of_mem_replicate (show l∈List.replicate net.vs.length [] from hl)
      subst this
      rw[aM (ntr t hm)];exact (hall t hm).2
     nd:=by
      rw[abi]
      refine⟨λ z=>?_,?_⟩
      ·rcases List.mem_cons.1 z with z | z
       ·exact nMR z.symm
       rcases List.mem_cons.1 z with z | z
       ·exact nDR z.symm
       exact ntR R z rfl
      rw[abi]
      refine⟨λ z=>?_,hnd⟩
      rcases List.mem_cons.1 z with z | z
      ·exact nDM z.symm
      exact ntM M z rfl
     ok:=uO nok }
noncomputable def lI (K:aaa) (C:Addr) (cu:RunS->V->Hp->Prop):Sp:=λ vs H Q _=>∃ (r:Addr) (S:RunS) (fp:List Addr),vs=[.ref r]/\bV K C H r S fp/\∀ v,cu S v H->Q v H
theorem AK:FnScope ["self"] ["self"] (aJ (bD (aQ 41) 7)):=⟨rfl,rfl,rfl,by decide +kernel,rfl,by decide +kernel,by decide +kernel⟩
theorem J2 {f:Addr}{fd:FuncData} (F:Fun K "came" "Run.came" (bD (aQ 41) 7) f fd) (T:Txt mg) (tx:RunTx K C):FnOk P w K mg base gC 1 f fd ["self"] (lI K C λ S v H=>v=.int S.cur.came):=by
 refine F.ok AK (λ vs H Q E h=>?_) (λ cdv A outer s H vs Q E hr h=>?_)
 ·obtain⟨r,S,fp,rfl,_⟩:=h;rfl
 ·obtain⟨r,S,fp,rfl,⟨dx,np,R,M,T',ts,rs,ms,mv,c,rfl⟩,k⟩:=h
  have sc:=AK
  refine⟨_,(aL (aZ (b0 (aO (K:=K) rfl) (b0 (aO (K:=K) rfl) (eI (K:=K) rfl (pv 0) rfl) (wV pQ aH) (λ _ _=>rfl)) aH (λ _ _=>rfl)))),?_⟩
  obtain⟨a,po,st,rfl,q,hs,hp⟩:=nZ c.cM
  exact⟨_,rfl,r,C,dx,_,_,rfl,c.ins,tx.cls,tx.moments,fK,1,rfl,.inl ⟨M,_,-1,_,rfl,rfl,bO.of c.hM,kD _ _,.inr (.inl ⟨a,_,3,_,rfl,rfl,q,rfl,k _ rfl⟩)⟩⟩
theorem oP:FnScope ["self"] ["self"] (aJ (bD (aQ 41) 8)):=⟨rfl,rfl,rfl,by decide +kernel,rfl,by decide +kernel,by decide +kernel⟩
theorem xE {f:Addr}{fd:FuncData} (F:Fun K "grounded" "Run.grounded" (bD (aQ 41) 8) f fd) (T:Txt mg) (tx:RunTx K C):FnOk P w K mg base gC 1 f fd ["self"] (lI K C λ S v H=>v=.int S.cur.ground):=by
 refine F.ok oP (λ vs H Q E h=>?_) (λ cdv A outer s H vs Q E hr h=>?_)
 ·obtain⟨r,S,fp,rfl,_⟩:=h;rfl
 ·obtain⟨r,S,fp,rfl,⟨dx,np,R,M,T',ts,rs,ms,mv,c,rfl⟩,k⟩:=h
  have sc:=oP
  refine⟨_,(aL (aZ (b0 (aO (K:=K) rfl) (b0 (aO (K:=K) rfl) (eI (K:=K) rfl (pv 0) rfl) (wV pQ aH) (λ _ _=>rfl)) aH (λ _ _=>rfl)))),?_⟩
  obtain⟨a,po,st,rfl,q,hs,hp⟩:=nZ c.cM
  exact⟨_,rfl,r,C,dx,_,_,rfl,c.ins,tx.cls,tx.moments,fK,1,rfl,.inl ⟨M,_,-1,_,rfl,rfl,bO.of c.hM,kD _ _,.inr (.inl ⟨a,_,4,_,rfl,rfl,q,rfl,k _ rfl⟩)⟩⟩
noncomputable def yP (K:aaa) (C:Addr):Sp:=λ vs H Q _=>∃ (r:Addr) (S:RunS) (fp:List Addr) (v a:Int) (B:Nat),vs=[.ref r,.int v,.int a]/\bV K C H r S fp/\RunSz S B/\B<=1000000/\0<=v/\v < S.net.vs.length/\
 ∀ H',iC fp H H'->bV K C H' r (S.pour v a) fp->Q .non H'
theorem AI:FnScope ["self","vessel","amount"] ["self","vessel","amount"] (aJ (bD (aQ 41) 1)):=⟨rfl,rfl,rfl,by decide +kernel,rfl,by decide +kernel,by decide +kernel⟩
theorem J0 {f f1 f2:Addr}{fd fd1 fd2:FuncData} (F:Fun K "pour" "Run.pour" (bD (aQ 41) 1) f fd) (T:Txt mg) (tx:RunTx K C) (G_need_vessel:Callee P w K mg base "need_vessel" ["net","number"] 2 (uF K) f1 fd1)
  (G_moment_poured:Callee P w K mg base "moment_poured" ["moment","vessel","amount"] 1 (nJ K) f2 fd2):FnOk P w K mg base gC 3 f fd ["self","vessel","amount"] (yP K C):=by
 refine F.ok AI (λ vs H Q E h=>?_) (λ cdv A outer s H vs Q E hr h=>?_)
 ·obtain⟨r,S,fp,v,a,B,rfl,_⟩:=h;rfl
 ·obtain⟨r,S,fp,v,a,B,rfl,⟨dx,np,R,M,T',ts,rs,ms,mv,c,rfl⟩,sz,hB,v0,v1,k⟩:=h
  have sc:=AI
  refine⟨_,(aE (bW (cU G_need_vessel hr (aA (eI (K:=K) rfl (pv 0) rfl) (aA (pv 1) aD))))
   (aE (bW (dF (K:=K) rfl aar aba abb cE (eI (K:=K) rfl (pv 0) rfl) (aA (cU G_moment_poured hr (aA (b0 (aO (K:=K) rfl) (eI (K:=K) rfl (pv 0) rfl) (wV pQ aH) (λ _ _=>rfl)) (aA (pv 1) (aA (pv 2) aD)))) aD)))
   (aL (bW (dF (K:=K) rfl aar aba abb cE (eI (K:=K) rfl (pv 0) rfl) (aA (bS (aA hJ (aA (pv 1) (aA (pv 2) aD)))) aD)))))),?_⟩
  obtain⟨ma,po,st,rfl,q,hs,hp⟩:=nZ c.cM
  have pl:=c.ok.cur.pl
  have nd:=c.nd
  have nRM:R≠M:=λ z=>by rw[abi] at nd;exact nd.1 (by rw[z];simp)
  have hnh:=c.ok.nok.hi
  have lrs:rs.length<=B:=by rw[c.lR.length,aac];exact sz.rows
  have lms:ms.length<=B:=by rw[c.lM.length,aac];exact sz.pre
  refine⟨_,rfl,r,C,dx,_,_,rfl,c.ins,tx.cls,tx.net,zS,_,rfl,np,S.net,v,rfl,c.net,v0,v1,?_⟩
  refine⟨_,rfl,r,C,dx,_,_,rfl,c.ins,tx.cls,tx.moments,fK,.inl ⟨rfl,_,bO.of c.hM⟩,?_⟩
  refine⟨_,rfl,r,C,dx,_,_,rfl,c.ins,tx.cls,tx.moments,fK,1,rfl,.inl ⟨M,_,-1,_,rfl,rfl,bO.of c.hM,kD _ _,_,rfl,_,rfl,.ref ma,S.net.vs.length,S.cur,v,a,rfl,c.cM,pl,hnh,v0,v1,λ p2 H2 s2 cm2=>?_⟩⟩
  refine⟨M,_,_,rfl,rfl,s2 _ _ c.hM,kG (by simp;omega),?_⟩
  have muM:iF (H2 M):=by rw[s2 _ _ c.hM];exact trivial
  have ts3:bM K H2 (upd H2 M (.lst (ms++[V.ref ma]++[.ref p2]))):=cA.ts cA.upd muM
  have ne_rM:r≠M:=λ z=>c.r_notin (by rw[z];simp)
  have ne_rR:r≠R:=λ z=>c.r_notin (by rw[z];simp)
  refine⟨_,rfl,r,C,dx,_,_,rfl,by rw[aM ne_rM];exact s2 _ _ c.ins,tx.cls,tx.rows,B7,.inl ⟨rfl,_,bO.of (by rw[aM nRM];exact s2 _ _ c.hR)⟩,?_⟩
  refine⟨_,rfl,_,rfl,(show 3<=sizeLine by decide),λ p3 hp3=>?_⟩
  have m4:aK (upd H2 M (.lst (ms++[V.ref ma]++[.ref p2]))) (upd (upd H2 M (.lst (ms++[V.ref ma]++[.ref p2]))) p3 (.tup [.str "pour",.int v,.int a])):=aK.new hp3
  have hR4:upd (upd H2 M (.lst (ms++[V.ref ma]++[.ref p2]))) p3 (.tup [.str "pour",.int v,.int a]) R=some (.lst rs):=m4 _ _ (by rw[aM nRM];exact s2 _ _ c.hR)
  refine⟨R,_,_,rfl,rfl,hR4,kG (by omega),?_⟩
  have muR:iF (upd (upd H2 M (.lst (ms++[V.ref ma]++[.ref p2]))) p3 (.tup [.str "pour",.int v,.int a]) R):=by rw[hR4];exact trivial
  have ts5:bM K (upd (upd H2 M (.lst (ms++[V.ref ma]++[.ref p2]))) p3 (.tup [.str "pour",.int v,.int a])) (upd (upd (upd H2 M (.lst (ms++[V.ref ma]++[.ref p2]))) p3 (.tup [.str "pour",.int v,.int a])) R (.lst (rs++[.ref p3]))):=cA.ts cA.upd muR
  have tsH:bM K H (upd (upd (upd H2 M (.lst (ms++[V.ref ma]++[.ref p2]))) p3 (.tup [.str "pour",.int v,.int a])) R (.lst (rs++[.ref p3]))):=((s2.ts.trans ts3).trans m4.ts).trans ts5
  have keep:∀ (b:Addr) (o:HO),b≠M->b≠R->H b=some o->upd (upd (upd H2 M (.lst (ms++[V.ref ma]++[.ref p2]))) p3 (.tup [.str "pour",.int v,.int a])) R (.lst (rs++[.ref p3])) b=some o:=λ b o h1 h2 e=>by
   rw[aM h2];exact m4 _ _ (by rw[aM h1];exact s2 _ _ e)
  refine k _ (λ b o hb e=>keep b o (λ z=>hb (by rw[z];simp)) (λ z=>hb (by rw[z];simp)) e) ⟨dx,np,R,M,T',ts,rs++[.ref p3],ms++[.ref ma],.ref p2,?_,rfl⟩
  rw[abi] at nd
  have nd2:=nd.2
  rw[abi] at nd2
  exact {
   ins:=keep _ _ ne_rM ne_rR c.ins
   net:=Is.mono tsH _ _ c.net
   hR:=aB
   lR:=by
    show IsL K _ ((S.rows++[Row.pour v a]).map IB) _
    rw[aai]
    exact L2.IsL.snoc (Is.tupOf (ds:=[.str "pour",.int v,.int a]) (ts5 _ _ (bN.of aB)) (.cons (Is.s _) (.cons (Is.i _) (.cons (Is.i _) .nil)))) (L2.IsL.mono tsH _ _ c.lR)
   hM:=by rw[aM (Ne.symm nRM)];exact m4 _ _ aB
   lM:=by
    show IsL K _ ((S.pre++[S.cur]).map lP) _
    rw[aai]
    exact L2.IsL.snoc (Is.mono tsH _ _ c.cM) (L2.IsL.mono tsH _ _ c.lM)
   cM:=Is.mono ((ts3.trans m4.ts).trans ts5) _ _ cm2
   hT:=keep _ _ (λ z=>nd2.1 (by rw[<- z];simp)) (λ z=>nd.1 (by rw[<- z];simp)) c.hT
   tl:=c.tl
   ti:=λ i t l h1 h2=>by
    have hm:=aaj h1
    exact keep _ _ (λ z=>nd2.1 (by rw[<- z];simp [hm])) (λ z=>nd.1 (by rw[<- z];simp [hm])) (c.ti i t l h1 h2)
   nd:=c.nd
   ok:=c.ok.pour v a }
end
end Tw
namespace Tw
open PySem L2
section
variable {K:aaa}{C r dx R M T:Addr}{H H':Hp}{S:RunS}{fp:List Addr}{np mv:V}{ts:List Addr}{rs ms:List V}
theorem FR {ar:Type}{xs:List ar} (h:xs.Nodup) {i j:Nat}{x:ar} (h1:xs[i]? = some x) (h2:xs[j]? = some x):i=j:=by
 obtain⟨a1,b1⟩:=aad.mp h1
 obtain⟨a2,b2⟩:=aad.mp h2
 exact (List.getElem_inj h (h₀:=a1) (h₁:=a2)).1 (b1.trans b2.symm)
theorem RunC.addTip (c:RunC K C H r S dx np R M T ts rs ms mv) {p:Int×Nat}{t:Addr}{l:List Int} (h1:ts[p.2]? = some t) (h2:S.tips[p.2]? = some l) :
  RunC K C (upd H t (.lst ((l++[p.1]).map V.int))) r { S with tips:=addTip S.tips p } dx np R M T ts rs ms mv:=by
 have hm:=aaj h1
 have ht:=c.ti _ _ _ h1 h2
 have mu:iF (H t):=by rw[ht];exact trivial
 have tst:bM K H (upd H t (.lst ((l++[p.1]).map V.int))):=cA.ts cA.upd mu
 have nd:=c.nd
 rw[abi] at nd
 have nd2:=nd.2
 rw[abi] at nd2
 have nd3:=nd2.2
 rw[abi] at nd3
 have nR:R≠t:=λ z=>nd.1 (by rw[z];simp [hm])
 have nM:M≠t:=λ z=>nd2.1 (by rw[z];simp [hm])
 have nT:T≠t:=λ z=>nd3.1 (by rw[z];exact hm)
 have nr:r≠t:=λ z=>c.r_notin (by rw[z];simp [hm])
 have hlt:p.2 < S.tips.length:=(aad.mp h2).1
 have hgd:S.tips.getD p.2 []=l:=by rw[aae,h2];rfl
 exact {
  ins:=by rw[aM nr];exact c.ins
  net:=Is.mono tst _ _ c.net
  hR:=by rw[aM nR];exact c.hR
  lR:=IsL.mono tst _ _ c.lR
  hM:=by rw[aM nM];exact c.hM
  lM:=IsL.mono tst _ _ c.lM
  cM:=Is.mono tst _ _ c.cM
  hT:=by rw[aM nT];exact c.hT
  tl:=by show _=(List.set S.tips p.2 _).length;rw[acl];exact c.tl
  ti:=λ i t' l' e1 e2=>by
   by_cases hi:i=p.2
   ·subst hi
    rw[h1] at e1
    cases e1
    have e3:(S.tips.set p.2 (S.tips.getD p.2 []++[p.1]))[p.2]? = some l':=e2
    rw[hgd,abw hlt] at e3
    cases e3
    exact aB
   ·have e3:(S.tips.set p.2 (S.tips.getD p.2 []++[p.1]))[i]? = some l':=e2
    rw[aca (Ne.symm hi)] at e3
    have ne:t'≠t:=λ z=>hi (FR nd3.2 (by rw[<- z];exact e1) h1)
    rw[aM ne]
    exact c.ti i t' l' e1 e3
  nd:=c.nd
  ok:=⟨c.ok.nok,c.ok.cur,by show (List.set S.tips p.2 _).length=_;rw[acl];exact c.ok.tl⟩ }
end
section
variable {P:Program}{w:World}{K:aaa}{mg:Str->Option Value}{base:Heap}{C:Addr}
noncomputable def HY (K:aaa) (C:Addr):Sp:=λ vs H Q _=>∃ (r:Addr) (S:RunS) (fp:List Addr) (k B:Nat),vs=[.ref r,.int (k:Int)]/\bV K C H r S fp/\RunSz S B/\B<=1000000/\k<=100000/\
 ∀ H',iC fp H H'->bV K C H' r (S.go k) fp->Q .non H'
theorem JV:FnScope ["self","many","moment","tipped","tick","number"] ["self","many"] (aJ (bD (aQ 41) 2)):=⟨rfl,rfl,rfl,by decide +kernel,rfl,by decide +kernel,by decide +kernel⟩
theorem N8 {f f1:Addr}{fd fd1:FuncData} (F:Fun K "go" "Run.go" (bD (aQ 41) 2) f fd) (T:Txt mg) (tx:RunTx K C) (G_moment_gone:Callee P w K mg base "moment_gone" ["net","moment","many"] 6 (uG K) f1 fd1) :
  FnOk P w K mg base gC 7 f fd ["self","many"] (HY K C):=by
 refine F.ok JV (λ vs H Q E h=>?_) (λ cdv A outer s H vs Q E hr h=>?_)
 ·obtain⟨r,S,fp,k,B,rfl,_⟩:=h;rfl
 ·obtain⟨r,S,fp,n,B,rfl,⟨dx,np,R,M,T',ts,rs,ms,mv,c,rfl⟩,sz,hB,hn,k⟩:=h
  have sc:=JV
  refine⟨_,(aE (bZ (cU G_moment_gone hr (aA (eI (K:=K) rfl (pv 0) rfl) (aA (b0 (aO (K:=K) rfl) (eI (K:=K) rfl (pv 0) rfl) (wV pQ aH) (λ _ _=>rfl)) (aA (pv 1) aD)))) (aX (K:=K) (n:=2) rfl rfl (aF (aG (i:=2) sc.nd rfl (Or.inl rfl)) (aF (aG (i:=3) sc.nd rfl (Or.inl rfl)) aW))))
   (aE (bW (dF (K:=K) rfl aar aba abb cE (eI (K:=K) rfl (pv 0) rfl) (aA (pv 2) aD)))
   (aE (bW (dF (K:=K) rfl aar aba abb cE (eI (K:=K) rfl (pv 0) rfl) (aA (bS (aA hJ (aA (pv 1) (aA (pv 3) aD)))) aD)))
   (aL (dY PassesOwn.never rfl (d6 (K:=K) rfl (pv 3)) (aX (K:=K) (n:=2) rfl rfl (aF (aG (i:=4) sc.nd rfl (Or.inl rfl)) (aF (aG (i:=5) sc.nd rfl (Or.inl rfl)) aW))) (aL (bW (dF (K:=K) rfl aar aba abb cE (b0 (aO (K:=K) rfl) (eI (K:=K) rfl (pv 0) rfl) (pv 5) (λ _ _=>rfl)) (aA (pv 4) aD))))))))),?_⟩
  have nok:=c.ok.nok
  have mok:=c.ok.cur
  have nd:=c.nd
  have lrs:rs.length<=B:=by rw[c.lR.length,aac];exact sz.rows
  have lms:ms.length<=B:=by rw[c.lM.length,aac];exact sz.pre
  refine⟨_,rfl,r,C,dx,_,_,rfl,c.ins,tx.cls,tx.net,zS,_,rfl,r,C,dx,_,_,rfl,c.ins,tx.cls,tx.moments,fK,1,rfl,.inl ⟨M,_,-1,_,rfl,rfl,bO.of c.hM,kD _ _,_,rfl,np,mv,S.net,S.cur,n,rfl,c.net,c.cM,nok,mok,hn,λ pp mi tl tvs H1 s1 qpp cm1 qtl lt1=>?_⟩⟩
  refine⟨pp,_,rfl,qpp,rfl,_,_,rfl,_,_,rfl,rfl,?_⟩
  have ltv:tvs.length<=12 * n:=by rw[lt1.length,aac];exact jM nok n
  have nRM:R≠M:=λ z=>by rw[abi] at nd;exact nd.1 (by rw[z];simp)
  have ne_rM:r≠M:=λ z=>c.r_notin (by rw[z];simp)
  have ne_rR:r≠R:=λ z=>c.r_notin (by rw[z];simp)
  refine⟨_,rfl,r,C,dx,_,_,rfl,s1 _ _ c.ins,tx.cls,tx.moments,fK,.inl ⟨rfl,_,bO.of (s1 _ _ c.hM)⟩,_,rfl,M,_,_,rfl,rfl,s1 _ _ c.hM,kG (by simp;omega),?_⟩
  have muM:iF (H1 M):=by rw[s1 _ _ c.hM];exact trivial
  have ts2:bM K H1 (upd H1 M (.lst (ms++[mv]++[mi]))):=cA.ts cA.upd muM
  have tl2:=ts2 _ _ qtl
  have k2:∀ (b:Addr) (o:HO),b≠M->H b=some o->upd H1 M (.lst (ms++[mv]++[mi])) b=some o:=λ b o h e=>by rw[aM h];exact s1 _ _ e
  have hM2:upd H1 M (.lst (ms++[mv]++[mi])) M=some (.lst (ms++[mv]++[mi])):=aB
  have tsH2:bM K H (upd H1 M (.lst (ms++[mv]++[mi]))):=s1.ts.trans ts2
  have cm2:=Is.mono ts2 _ _ cm1
  have lt2:=L2.IsL.mono ts2 _ _ lt1
  generalize upd H1 M (.lst (ms++[mv]++[mi]))=H2 at tl2 k2 hM2 tsH2 cm2 lt2
  refine⟨_,rfl,r,C,dx,_,_,rfl,k2 _ _ ne_rM c.ins,tx.cls,tx.rows,B7,.inl ⟨rfl,_,bO.of (k2 _ _ nRM c.hR)⟩,?_⟩
  refine⟨_,rfl,_,rfl,(show 3<=sizeLine by decide),λ p3 hp3=>?_⟩
  have s24:aK H2 (upd H2 p3 (.tup [.str "go",.int (n:Int),.ref tl])):=aK.new hp3
  have row4:Is K (upd H2 p3 (.tup [.str "go",.int (n:Int),.ref tl])) (IB (.go (n:Int) (fT S.net S.cur n))) (.ref p3):=
   Is.tupOf (ds:=[.str "go",.int (n:Int),.tup ((fT S.net S.cur n).map wB)]) (bN.of aB) (.cons (Is.s _) (.cons (Is.i _) (.cons (Is.tupOf (s24.tup tl2) (L2.IsL.mono s24.ts _ _ lt2)) .nil)))
  generalize upd H2 p3 (.tup [.str "go",.int (n:Int),.ref tl])=H4 at row4 s24
  have hR4:=s24 _ _ (k2 _ _ nRM c.hR)
  refine⟨R,_,_,rfl,rfl,hR4,kG (by omega),?_⟩
  have muR:iF (H4 R):=by rw[hR4];exact trivial
  have ts5:bM K H4 (upd H4 R (.lst (rs++[.ref p3]))):=cA.ts cA.upd muR
  have tsH5:bM K H (upd H4 R (.lst (rs++[.ref p3]))):=(tsH2.trans s24.ts).trans ts5
  have keep:∀ (b:Addr) (o:HO),b≠M->b≠R->H b=some o->upd H4 R (.lst (rs++[.ref p3])) b=some o:=λ b o h1 h2 e=>by
   rw[aM h2];exact s24 _ _ (k2 _ _ h1 e)
  have tl5:=ts5 _ _ (s24.tup tl2)
  have lt5:=L2.IsL.mono (s24.ts.trans ts5) _ _ lt2
  rw[abi] at nd
  have nd2:=nd.2
  rw[abi] at nd2
  have c5:RunC K C (upd H4 R (.lst (rs++[.ref p3]))) r { S with
   rows:=S.rows++[.go (n:Int) (fT S.net S.cur n)],pre:=S.pre++[S.cur],cur:=hU S.net S.cur n } dx np R M T' ts (rs++[.ref p3]) (ms++[mv]) mi:={
   ins:=keep _ _ ne_rM ne_rR c.ins
   net:=Is.mono tsH5 _ _ c.net
   hR:=aB
   lR:=by
    show IsL K _ ((S.rows++[Row.go (n:Int) (fT S.net S.cur n)]).map IB) _
    rw[aai]
    exact L2.IsL.snoc (Is.mono ts5 _ _ row4) (L2.IsL.mono tsH5 _ _ c.lR)
   hM:=by rw[aM (Ne.symm nRM)];exact s24 _ _ hM2
   lM:=by
    show IsL K _ ((S.pre++[S.cur]).map lP) _
    rw[aai]
    exact L2.IsL.snoc (Is.mono tsH5 _ _ c.cM) (L2.IsL.mono tsH5 _ _ c.lM)
   cM:=Is.mono (s24.ts.trans ts5) _ _ cm2
   hT:=keep _ _ (λ z=>nd2.1 (by rw[<- z];simp)) (λ z=>nd.1 (by rw[<- z];simp)) c.hT
   tl:=c.tl
   ti:=λ i t l h1 h2=>by
    have hm:=aaj h1
    exact keep _ _ (λ z=>nd2.1 (by rw[<- z];simp [hm])) (λ z=>nd.1 (by rw[<- z];simp [hm])) (c.ti i t l h1 h2)
   nd:=c.nd
   ok:=⟨c.ok.nok,pF mok n,c.ok.tl⟩ }
  have b5:iC (R::M::T'::ts) H (upd H4 R (.lst (rs++[.ref p3]))):=λ b o hb e=>keep b o (λ z=>hb (by rw[z];simp)) (λ z=>hb (by rw[z];simp)) e
  generalize upd H4 R (.lst (rs++[.ref p3]))=H5 at tl5 lt5 c5 b5
  refine⟨_,rfl,tl,rfl,⟨_,tl5⟩,pK (K:=K) (a:=tl) (xs:=tvs)
   (λ i Z H'=>bN K H' tl tvs/\IsL K H' ((fT S.net S.cur n).map wB) tvs/\iC (R::M::T'::ts) H H'/\
    RunC K C H' r { S with rows:=S.rows++[.go (n:Int) (fT S.net S.cur n)],pre:=S.pre++[S.cur],cur:=hU S.net S.cur n,tips:=((fT S.net S.cur n).take i).foldl addTip S.tips } dx np R M T' ts (rs++[V.ref p3]) (ms++[mv]) mi/\
    ∃ v4 v5,Z=[some (.ref r),some (.int (n:Int)),some mi,some (.ref tl),v4,v5])
   ⟨tl5,lt5,b5,by rw[List.take_zero];exact c5,_,_,rfl⟩ (λ i Z H' _ p=>p.1) ?_ ?_⟩
  ·rintro i x Z H6 hx ⟨tl6,lt6,b6,c6,v4,v5,rfl⟩
   obtain⟨d,hd,ix⟩:=L2.IsL.get' lt6 hx
   rw[aah] at hd
   obtain⟨⟨tk,nu⟩,hp',rfl⟩:=aap.mp hd
   have hil:=(aad.mp hp').1
   have hnu:nu < S.net.vs.length:=A8 n _ (aaj hp')
   obtain⟨e,zs,rfl,qe,le⟩:=(show Is K H6 (.tup [.int tk,.int (nu:Int)]) x from ix).un
   obtain⟨x1,rr,rfl,h1,le⟩:=le.un
   obtain⟨x2,rr,rfl,h2,le⟩:=le.un
   have:=le.un0
   subst this
   have:=h1.ui
   subst this
   have:=h2.ui
   subst this
   refine⟨e,_,rfl,qe,rfl,_,_,rfl,_,_,rfl,rfl,?_⟩
   have lt6':=c6.ok.tl
   have hts:nu < ts.length:=by rw[c.tl,c.ok.tl];exact hnu
   have htt:ts[nu]? = some ts[nu]:=by simp [hts]
   have hli:nu < (((fT S.net S.cur n).take i).foldl addTip S.tips).length:=by rw[kE,c.ok.tl];exact hnu
   have hll:(((fT S.net S.cur n).take i).foldl addTip S.tips)[nu]? = some (((fT S.net S.cur n).take i).foldl addTip S.tips)[nu]:=by simp [hli]
   have hsz:=lV (B:=B) ((fT S.net S.cur n).take i) S.tips sz.tips _ (abf hli)
   generalize (((fT S.net S.cur n).take i).foldl addTip S.tips)[nu]=l at hll hsz
   have htk:=jM (m:=S.cur) nok n
   rw[abl] at hsz
   have hti:=c6.ti nu _ l htt hll
   refine⟨_,rfl,r,C,dx,_,_,rfl,c6.ins,tx.cls,tx.tips,B6,_,rfl,.inl ⟨T',_,(nu:Int),.ref ts[nu],rfl,rfl,bO.of c6.hT,dO (by rw[aah,htt];rfl),.inl ⟨rfl,_,bO.of hti⟩,_,rfl,ts[nu],_,_,rfl,rfl,hti,kG (by rw[aac];omega),?_⟩⟩
   have c7:=c6.addTip (p:=(tk,nu)) htt hll
   have hmem:ts[nu]∈R::M::T'::ts:=by simp
   have mu6:iF (H6 ts[nu]):=by rw[hti];exact trivial
   rw[aai] at c7
   refine⟨cA.ts (K:=K) cA.upd mu6 _ _ tl6,L2.IsL.mono (cA.ts cA.upd mu6) _ _ lt6,b6.trans (iC.upd hmem),?_,_,_,rfl⟩
   rw[cF hp',List.foldl_append]
   exact c7
  ·rintro Z H6 ⟨tl6,lt6,b6,c6,_⟩
   have el:tvs.length=(fT S.net S.cur n).length:=by rw[lt1.length,aac]
   rw[el,abe] at c6
   exact k _ b6 ⟨dx,np,R,M,T',ts,_,_,_,c6,rfl⟩
end
end Tw
namespace Tw
open PySem L2
end Tw
namespace Tw
open PySem L2
section
variable {K:aaa}{t sl:Addr}{σ:St}{H0:Hp}
end
theorem JB {np:V}{R M T:Addr} (m:Str) (h:(vM np R M T).lookup m=none):(vM np R M T).lookup m=none:=h
section
variable {K:aaa}{C:Addr}{H:Hp}{r:Addr}{S:RunS}{fp:List Addr}
theorem bV.ins (c:bV K C H r S fp):∃ dx np R M T,H r=some (.ins C dx (vM np R M T)):=by
 obtain⟨dx,np,R,M,T,ts,rs,ms,mv,c,_⟩:=c
 exact⟨dx,np,R,M,T,c.ins⟩
theorem bV.butL {H':Hp}{fq:List Addr} (c:bV K C H r S fp) (s:iC fq H H') (hm:∀ b∈fq,iF (H b)) (h1:r∉fq) (h2:∀ b∈fp,b∉fq):bV K C H' r S fp:=by
 obtain⟨dx,np,R,M,T,ts,rs,ms,mv,c,rfl⟩:=c
 refine⟨dx,np,R,M,T,ts,rs,ms,mv,c.keep (s.ts hm) λ b hb=>?_,rfl⟩
 rcases List.mem_cons.1 hb with rfl | hb
 ·rw[s _ _ h1 c.ins,c.ins]
 ·obtain⟨xs,e⟩:=c.lists b hb
  rw[s _ _ (h2 b hb) e,e]
theorem dU.butL {H':Hp}{t sl:Addr} (h:dU H t sl) (s:iC fp H H') (h1:t∉fp) (h2:sl∉fp):dU H' t sl:=by
 obtain⟨ns,pos,cell,e,f,g⟩:=h;exact⟨ns,pos,cell,s _ _ h1 e,s _ _ h2 f,g⟩
end
end Tw
namespace Tw
open PySem L2
end Tw
namespace Tw
open PySem L2
section
variable {P:Program}{w:World}{K:aaa}{mg:Str->Option Value}{base:Heap}
end
end Tw
namespace L2
open PySem PySem.Spec PyProof.Rows
section
variable {M:Model}{A:Around}{E:Value->Shared->Prop}{s:Shared}
end
section
variable {X:Cx}
end
end L2
namespace Tw
open PySem L2
section
variable {P:Program}{w:World}{K:aaa}{mg:Str->Option Value}{base:Heap}
end
end Tw
namespace L2
open PySem PySem.Spec PyProof.Rows TwZ
noncomputable def EqE (K:aaa) (H:Hp) (x y:V):Prop:=(∃ d:D,d.depth<=20/\Is K H d x/\Is K H d y)\/
 ∃ a b xs ys ds,x=.ref a/\y=.ref b/\bO K H a xs/\bO K H b ys/\IsL K H ds xs/\IsL K H ds ys/\bK ds<=20
noncomputable def lW (K:aaa) (H:Hp) (x y:V):Prop:=∃ a b xs ys,x=.ref a/\y=.ref b/\bO K H a xs/\bO K H b ys/\xs.length=ys.length/\∀ (i:Nat) u v,xs[i]? = some u->ys[i]? = some v->EqE K H u v
section
variable {X:Cx}{pins:List (Addr×Obj)}{σ:St}{H:Hp}{s:Shared}
theorem EqE.at (I:Inv X pins σ H s) {A:Around}{x y:V}{u v:Value} (hu:A.units+22 < cLine) (h:EqE X.K H x y) (rx:bE x u) (ry:bE y v):SeqAt.EqAt A s u v true:=by
 rcases h with ⟨d,hd,h1,h2⟩ | ⟨a,b,xs,ys,ds,rfl,rfl,q1,q2,l1,l2,hd⟩
 ·exact Is.eqAt I d A x y u v (by omega) h1 h2 rx ry
 ·cases rx
  cases ry
  by_cases hab:a=b
  ·subst hab;exact SeqAt.EqAt.same _
  ·obtain⟨us,r1,p1,_⟩:=I.list q1
   obtain⟨vs,r2,p2,_⟩:=I.list q2
   have e1:=r1.length
   have e2:=r2.length
   have e3:=l1.length
   have e4:=l2.length
   have hin:A.in1.units=A.units+1:=rfl
   have all:=IsL.eqAt I ds A.in1 xs ys us vs (by omega) l1 l2 r1 r2
   have:=SeqAt.RcAt.lists (A:=A) (s:=s) (e:=λ _=>true) p1.isList p2.isList (by simp;omega) (by omega) λ j h1 h2=>all j us.toArray[j] vs.toArray[j] (by simp) (by simp)
   have e5:((List.range us.toArray.size).all (λ _=>true))=true:=by simp
   rw[e5] at this
   exact SeqAt.EqAt.of_refs hab this
noncomputable def wQ (K:aaa):R2:=λ x y H Q=>lW K H x y/\Q (.bl true) H
noncomputable def wO (K:aaa):R2:=λ x y H Q=>lW K H x y/\Q (.bl false) H
theorem zH (hu:X.A.units+64 < cLine):g7 X (compareOp .Eq) (wQ X.K):=by
 intro pins s σ H x y v u Q I rx ry h
 obtain⟨⟨a,b,xs,ys,rfl,rfl,q1,q2,hl,he⟩,q⟩:=h
 cases rx
 cases ry
 obtain⟨us,r1,p1,_⟩:=I.list q1
 obtain⟨vs,r2,p2,_⟩:=I.list q2
 have e1:=r1.length
 have e2:=r2.length
 have hin:X.A.in1.units=X.A.units+1:=rfl
 refine SeqAt.eq_listAt (e:=λ _=>true) p1.isList p2.isList (by simp;omega) (by omega) (λ j h1 h2=>?_) ?_
 ·have j1:j < xs.length:=by rw[e1];simpa using h1
  have j2:j < ys.length:=by rw[e2];simpa using h2
  obtain⟨w1,g1,t1⟩:=r1.get (i:=j) (x:=xs[j]) (by simp)
  obtain⟨w2,g2,t2⟩:=r2.get (i:=j) (x:=ys[j]) (by simp)
  have k1:us.toArray[j]=w1:=by
   have:us[j]? = some us.toArray[j]:=by simp
   rw[this] at g1;exact abp g1
  have k2:vs.toArray[j]=w2:=by
   have:vs[j]? = some vs.toArray[j]:=by simp
   rw[this] at g2;exact abp g2
  rw[k1,k2]
  exact (he j _ _ (by simp) (by simp)).at I (by omega) t1 t2
 ·have e5:((List.range us.toArray.size).all (λ _=>true))=true:=by simp
  rw[e5]
  exact⟨.bl true,H,I,rfl,q⟩
theorem zE (hu:X.A.units+64 < cLine):g7 X (compareOp .NotEq) (wO X.K):=by
 intro pins s σ H x y v u Q I rx ry h
 obtain⟨⟨a,b,xs,ys,rfl,rfl,q1,q2,hl,he⟩,q⟩:=h
 cases rx
 cases ry
 obtain⟨us,r1,p1,_⟩:=I.list q1
 obtain⟨vs,r2,p2,_⟩:=I.list q2
 have e1:=r1.length
 have e2:=r2.length
 have hin:X.A.in1.units=X.A.units+1:=rfl
 refine SeqAt.RcNeAt.lists (A:=X.A) (s:=s) (e:=λ _=>true) p1.isList p2.isList (by simp;omega) (by omega) (λ j h1 h2=>?_) X.prog X.w X.xe _ ?_
 ·have j1:j < xs.length:=by rw[e1];simpa using h1
  have j2:j < ys.length:=by rw[e2];simpa using h2
  obtain⟨w1,g1,t1⟩:=r1.get (i:=j) (x:=xs[j]) (by simp)
  obtain⟨w2,g2,t2⟩:=r2.get (i:=j) (x:=ys[j]) (by simp)
  have k1:us.toArray[j]=w1:=by
   have:us[j]? = some us.toArray[j]:=by simp
   rw[this] at g1;exact abp g1
  have k2:vs.toArray[j]=w2:=by
   have:vs[j]? = some vs.toArray[j]:=by simp
   rw[this] at g2;exact abp g2
  rw[k1,k2]
  exact (he j _ _ (by simp) (by simp)).at I (by omega) t1 t2
 ·have e5:((List.range us.toArray.size).all (λ _=>true))=true:=by simp
  rw[e5]
  exact⟨.bl false,H,I,rfl,q⟩
theorem x8 {K:aaa} (hK:X.K=K) (hu:X.A.units+64 < cLine):g7 X (compareOp .Eq) (wQ K):=by subst hK;exact zH hu
theorem oV {K:aaa} (hK:X.K=K) (hu:X.A.units+64 < cLine):g7 X (compareOp .NotEq) (wO K):=by subst hK;exact zE hu
end
section
variable {K:aaa}{H:Hp}
theorem lW.data {a b:Addr}{xs ys:List V}{ds:List D} (q1:bO K H a xs) (q2:bO K H b ys) (l1:IsL K H ds xs) (l2:IsL K H ds ys) (hd:bK ds<=20):lW K H (.ref a) (.ref b):=by
 refine⟨a,b,xs,ys,rfl,rfl,q1,q2,by rw[l1.length,l2.length],λ i u v h1 h2=>?_⟩
 obtain⟨d,hd1,i1⟩:=l1.get' h1
 obtain⟨v',hv',i2⟩:=l2.get hd1
 rw[h2] at hv'
 cases hv'
 refine .inl ⟨d,?_,i1,i2⟩
 have:∀ (ds:List D) (d:D),d∈ds->d.depth<=bK ds:=by
  intro ds
  induction ds with
  | nil=>intro d h;cases h
  | cons e r ih=>
   intro d h
   rw[bK]
   rcases List.mem_cons.1 h with rfl | h
   ·omega
   ·have:=ih d h;omega
 have:=this ds d (aaj hd1)
 omega
end
end L2
namespace L2
open PySem PySem.Spec PyProof.Rows TwZ
theorem cN.some {P:Program}{w:World}{H:Hp}{h:Heap}{a:Addr}{o:HO} (x:cN P w H h a o):∃ ob,h.get? a=some ob:=by
 cases o with
 | lst xs=>obtain⟨_,_,_,_,e⟩:=x;exact⟨_,e⟩
 | tup xs=>obtain⟨_,_,_,ob,e,_⟩:=x;exact⟨_,e⟩
 | dK kvs=>obtain⟨_,_,_,_,o,_,_,e,_⟩:=x;exact⟨_,e⟩
 | dT kvs=>obtain⟨_,_,_,_,o,_,_,e,_⟩:=x;exact⟨_,e⟩
 | set S n=>obtain⟨o,_,_,_,e,_⟩:=x;exact⟨_,e⟩
 | ins C dx fs=>obtain⟨_,_,_,e,_⟩:=x;exact⟨_,e⟩
 | own y=>obtain⟨_,e⟩:=x;exact⟨_,e⟩
 | xd fs=>obtain⟨_,⟨_,_,_,e,_⟩,_⟩:=x;exact⟨_,e⟩
 | rng lo hi=>obtain⟨_,_,_,e⟩:=x;exact⟨_,e⟩
 | frz ob u=>obtain⟨e,_⟩:=x;exact⟨_,e⟩
 | tbl ps=>exact⟨_,(show h.get? a=Option.some _ from x)⟩
 | met f y=>exact⟨_,(show h.get? a=Option.some _ from x)⟩
 | ext cu=>obtain⟨_,⟨_,e⟩,_⟩:=x;exact⟨_,e⟩
structure Fly (P:Program) (w:World) (stack:List Env) (H:Hp) (h:Heap) (ea:Addr) (cls a0:Value) (H':Hp) (h' B:Heap):Prop where
 fl:Heap.FlyingW B stack ea cls a0 h'
 keep:∀ b o,h.get? b=some o->H b=none->b∉mC stack->B.get? b=some o
 slot:∀ b o,h.get? b=some o->H b=none->b∈mC stack->∃ sl,h'.get? b=some { o with slots:=sl }
 free:∀ b o,h.get? b=some o->H b=none->H' b=none
 there:∀ b o,h.get? b=some o->b∉mC stack->∃ o',B.get? b=some o'
 tups:∀ b xs,H b=some (.tup xs)->H' b=some (.tup xs)
 frzs:∀ b o u,H b=some (.frz o u)->H' b=some (.frz o u)
 tbls:∀ b ps,H b=some (.tbl ps)->∃ more,H' b=some (.tbl (ps++more))
 hok:lY P w H' B
noncomputable def BV (P:Program) (w:World):DZ:=λ outer H s E e s'=>∃ (ea:Addr) (cls a0:Value) (H':Hp) (B:Heap),e=.ref ea/\s'.os=s.os/\AllBare s'.gens/\Fly P w outer H s.heap ea cls a0 H' s'.heap B/\E cls none H'
structure Leaves (X:Cx) (E:XK):Prop where
 stk:X.stack=X.env::X.outer
 fr:X.env.frame=some X.env.locals
 ex:X.ex=[]
 xe:∀ e s',wpAny (model X.prog X.w) X.A (leaving X.env e) (λ _ s''=>BV X.prog X.w X.outer X.H₀ X.s₀ E e s'') (λ e' s''=>BV X.prog X.w X.outer X.H₀ X.s₀ E e' s'') s'->X.xe e s'
section
variable {X:Cx}{pins:List (Addr×Obj)}{σ:St}{H H':Hp}{s s':Shared}{E:XK}
theorem J9 {l:List Env}{b:Addr}{env:Env} (he:env∈l) (hf:env.frame=some b):b∈mC l:=List.mem_filterMap.mpr ⟨env,he,hf⟩
theorem mX {l:List Env}{b L:Addr}{env:Env} (hf:env.frame=some L) (h:b∈mC (env::l)):b=L\/b∈mC l:=by
 unfold mC at h ⊢
 rw[List.filterMap_cons,hf] at h
 exact List.mem_cons.1 h
theorem ET {h':Heap}{ea:Addr}{cls:Value}{vs:List Value} (L:Leaves X E) (I:Inv X pins σ H s) (hx:Heap.MadeExcOf s.heap h' ea cls vs) (hE:E cls none H):X.xe (.ref ea) { s with heap:=h' }:=by
 refine L.xe _ _ ?_
 have fr:X.A.frames=some (X.env::X.outer):=by rw[<- L.stk];exact I.ok.frames
 have hs:s.heap.FunFrames X.base (X.env::X.outer):=by rw[<- L.stk];exact I.stack
 have hfree:∀ b∈mC (X.env::X.outer),H b=none:=by rw[<- L.stk];exact I.stkFree
 have nex:∀ b:Addr,b∉X.ex:=λ b z=>by rw[L.ex] at z;cases z
 have out:∀ b o,X.s₀.heap.get? b=some o->b∉mC X.outer->b∉mC (X.env::X.outer):=λ b o e hb z=>by
  rcases mX L.fr z with z | z
  ·exact absurd (aau (aan e) I.ok.above) (by rw[z];exact abx _)
  ·exact hb z
 refine wpAny_leaves_madeW (base:=PySem.W.hideAll s.heap (mC (X.env::X.outer))) fr L.fr (λ b o q=>PySem.W.of_hideAll _ q) (PySem.W.funFrames_hide hs λ env he a hf=>J9 he hf) hx λ h2 t x1 x2 x3 x4=>?_
 refine⟨ea,cls,.ref t,H,_,rfl,I.os,I.bare,⟨x1,λ b o e n hb=>?_,λ b o e n hb=>?_,λ b o e n=>I.base.free b o e n (nex b),λ b o e hb=>?_,I.base.tups,I.base.frzs,I.base.tbls,λ a o e=>?_⟩,hE⟩
 ·exact PySem.W.hideAll_get _ (I.base.keep b o e n hb (nex b)) (out b o e hb)
 ·obtain⟨sl,e1⟩:=I.base.slot b o e n hb (nex b)
  obtain⟨_,o',ho',hd⟩:=I.ok.funs.mem hb
  rw[e] at ho'
  cases ho'
  obtain⟨sl',e2⟩:=x4 b _ (hx.keeps _ _ e1) hd
  exact⟨sl',e2⟩
 ·obtain⟨o',e1⟩:=I.base.there b o e (nex b)
  exact⟨o',PySem.W.hideAll_get _ e1 (out b o e hb)⟩
 ·refine (I.hok a o e).stay (λ b u hb q=>PySem.W.hideAll_get _ q λ z=>?_) (λ _ q=>q) λ _ _ q=>q
  have:=hfree b z
  rcases hb with rfl | hb
  ·rw[e] at this;cases this
  ·rw[hb] at this;cases this
theorem AZ (L:Leaves X E):gT (BV X.prog X.w) X E:=by
 intro pins σ H s e s' I h
 obtain⟨ea,cls,a0,H',B,rfl,os,bare,F,hE⟩:=h
 refine L.xe _ _ ?_
 have fr:X.A.frames=some (X.env::X.outer):=by rw[<- L.stk];exact I.ok.frames
 have nex:∀ b:Addr,b∉X.ex:=λ b z=>by rw[L.ex] at z;cases z
 have out:∀ b o,X.s₀.heap.get? b=some o->b∉mC X.outer->b∉mC X.stack:=λ b o e hb z=>by
  rw[L.stk] at z
  rcases mX L.fr z with z | z
  ·exact absurd (aau (aan e) I.ok.above) (by rw[z];exact abx _)
  ·exact hb z
 have inn:∀ b,b∈mC X.outer->b∈mC X.stack:=λ b hb=>by
  rw[L.stk];unfold mC at hb ⊢;rw[List.filterMap_cons,L.fr];exact aam _ hb
 refine wpAny_leaves_onW fr L.fr (by rw[<- L.stk];exact F.fl) λ h2 x1 x2=>?_
 refine⟨ea,cls,a0,H',B,rfl,os.trans I.os,bare,⟨x1,λ b o e n hb=>?_,λ b o e n hb=>?_,λ b o e n=>?_,λ b o e hb=>?_,λ b xs e=>F.tups b xs (I.base.tups b xs e),λ b o u e=>F.frzs b o u (I.base.frzs b o u e),λ b ps e=>?_,F.hok⟩,hE⟩
 ·exact F.keep b o (I.base.keep b o e n hb (nex b)) (I.base.free b o e n (nex b)) (out b o e hb)
 ·obtain⟨sl,e1⟩:=I.base.slot b o e n hb (nex b)
  obtain⟨sl',e2⟩:=F.slot b _ e1 (I.base.free b o e n (nex b)) (inn b hb)
  obtain⟨_,o',ho',hd⟩:=I.ok.funs.mem hb
  rw[e] at ho'
  cases ho'
  obtain⟨sl'',e3⟩:=x2 b _ e2 hd
  exact⟨sl'',e3⟩
 ·obtain⟨o',e1⟩:=I.base.there b o e (nex b)
  exact F.free b o' e1 (I.base.free b o e n (nex b))
 ·obtain⟨o',e1⟩:=I.base.there b o e (nex b)
  exact F.there b o' e1 (out b o e hb)
 ·obtain⟨m1,e1⟩:=I.base.tbls b ps e
  obtain⟨m2,e2⟩:=F.tbls b _ e1
  exact⟨m1++m2,by rw[e2,Array.append_assoc]⟩
theorem FH {P:Program}{w:World}:gT (BV P w) X E0:=λ _ _ _ _ _ _ _ h=>by
 obtain⟨_,_,_,_,_,_,_,_,_,h⟩:=h
 exact h.elim
noncomputable def LQ (ea:Addr) (cls:Value):HO:=.ext λ h=>∃ o,h.get? ea=some o/\o.cls=cls
theorem Inv.caught {ea:Addr}{cls a0:Value}{B:Heap} (I:Inv X pins σ H s) (os:s'.os=s.os) (bare:AllBare s'.gens) (F:Fly X.prog X.w X.stack H s.heap ea cls a0 H' s'.heap B):H' ea=none/\Inv X pins σ (upd H' ea (LQ ea cls)) s':=by
 obtain⟨ob,hob,hcls⟩:=F.fl.there
 obtain⟨oe,vs,hoe,_,hfd,_⟩:=F.fl.first
 have hea:H' ea=none:=by
  cases q:H' ea with
  | none=>rfl
  | some o=>
   obtain⟨o',e⟩:=(F.hok ea o q).some
   rw[F.fl.2.1] at e;cases e
 have frne:∀ b∈mC X.stack,b≠ea:=λ b hb z=>by
  obtain⟨_,o',ho',hd⟩:=F.fl.2.2.1.mem hb
  rw[z,hoe] at ho'
  cases ho'
  exact hd _ hfd
 have ne:∀ b o,s.heap.get? b=some o->b≠ea:=λ b o e z=>by
  by_cases hb:b∈mC X.stack
  ·exact frne b hb z
  ·obtain⟨o',e'⟩:=F.there b o e hb
   rw[z,F.fl.2.1] at e';cases e'
 have kb:∀ b u,B.get? b=some u->s'.heap.get? b=some u:=F.fl.1
 refine⟨hea,I.call' (ch:=[]) os ⟨λ b o e n hb _=>kb _ _ (F.keep b o e n hb),λ b o e n hb _=>F.slot b o e n hb,λ b o e n _=>?_,λ b o e _=>?_,λ b xs e=>?_,λ b o u e=>?_,λ b ps e=>?_⟩ (λ b u e=>?_) bare (λ b z=>absurd z (by simp))⟩
 ·rw[aM (ne b o e)];exact F.free b o e n
 ·by_cases hb:b∈mC X.stack
  ·obtain⟨_,o',ho',_⟩:=F.fl.2.2.1.mem hb
   exact⟨o',ho'⟩
  ·obtain⟨o',e'⟩:=F.there b o e hb
   exact⟨o',kb _ _ e'⟩
 ·have:=F.tups b xs e
  rw[aM (aN this hea)];exact this
 ·have:=F.frzs b o u e
  rw[aM (aN this hea)];exact this
 ·obtain⟨m,e1⟩:=F.tbls b ps e
  exact⟨m,by rw[aM (aN e1 hea)];exact e1⟩
 ·by_cases hb:b=ea
  ·subst hb
   rw[aB] at e
   cases e
   exact⟨⟨ob,hob,hcls⟩,⟨ob,hob⟩,λ h1 h2 ⟨o,e1,e2⟩ k=>⟨o,k _ e1,e2⟩⟩
  ·rw[aM hb] at e
   exact (F.hok b u e).stay (λ c v _ q=>kb c v q) (λ c q=>by rw[aM (aN q hea)];exact q) λ c xs q=>by rw[aM (aN q hea)];exact q
noncomputable def KM (E:XK) (C:Addr) (t:TA):TS:=λ _ σ H=>t σ H λ vs H1=>vs.length<=100/\E (.ref C) none H1
theorem wT {x:Str}{C:Addr}{bm:List Value}{newId initId B:String}{np cpos pos:Pos}{dy:Expr}{rest:List Expr}{t:TA} (L:Leaves X E) (hc:X.calm=true) (hg:Gl X x) (O:PySem.W.excIn X.K C bm newId=true) (hm:PySem.W.nsIn X.K mainGlobals x=some (some (.ref C))) (FB:ExcBaseFacts B newId initId bm) (ha:PA X (dy::rest) t)
  (he:starEach (dy::rest) X.env=(false,eval dy X.env)::starEach rest X.env:=by rfl) (hplain:(backTo cpos (starEach rest X.env)).any (·.1)=false:=by rfl) (hd:(x == ("__debug__" : Str))=false:=by decide) :
  PS X (.Raise (some (.Call (.Name x np) (dy::rest) [] cpos)) none pos) (KM E C t):=by
 intro pins s σ H D I h
 have G:X.mg x=some (.ref C):=aak I.ok.mod.kin I.ok.mod.glob hm
 have ocl:OwnCls x C bm newId X.mg X.base:=by
  refine⟨G,?_⟩
  have q:=O
  unfold PySem.W.excIn at q
  split at q
  ·rename_i dd cd sl ho
   split at q
   ·rename_i C' bm' k0 k1 k2 k3 n k5 hm' hs
    simp only [Bool.and_eq_true,Bool.not_eq_true',beq_iff_eq] at q;obtain⟨⟨⟨⟨⟨rfl,rfl⟩,hdel⟩,ht⟩,hok⟩,hni⟩:=q
    obtain⟨nm,bs,mro,ns,qn,hd',sn,sub,ab,col,del⟩:=cd
    dsimp only at hm' hdel hok hni
    subst hm' hdel
    have hsl:sl = #[k0,k1,k2,k3,some (.builtin n),k5]:=by obtain⟨l⟩:=sl;simp only at hs;rw[hs]
    subst hsl
    exact⟨bm',ns,nm,qn,bs,hd',sn,sub,ab,col,dd,k0,k1,k2,k3,k5,_,I.ok.mod.kin _ _ ho,.of_isNs (PySem.W.isNs_of_in I.ok.mod.kin hok),PySem.W.nsMap_none_of_in I.ok.mod.kin hok hni,PySem.W.tail_of_in I.ok.mod.kin ht⟩
   ·cases q
  ·cases q
 obtain⟨tl,N,nm,q,bs,hdct,sn,sub,ab,col,dd,k0,k1,k2,k3,k5,mN,hC,hN,hni,T⟩:=ocl.obj
 refine wpAny_Raise_call_subT (C:=C) (nm:=nm) (q:=q) (N:=N) (bs:=bs) (bm:=tl) (hdct:=hdct) (sn:=sn) (sub:=sub) (ab:=ab) (col:=col) (dd:=dd) (k0:=k0) (k1:=k1) (k2:=k2) (k3:=k3) (k5:=k5) FB (mN:=mN) (T.hasType FB.hasBase) (I.ok.hd hc) (by rw[he];show (false || (backTo cpos (starEach rest X.env)).any (·.1))=false;rw[hplain];rfl) hni (mZ I hg G ⟨rfl,?_⟩ hd)
 have ha':=ha cpos pins s σ H _ I h
 rw[he] at ha' ⊢
 refine Calls.evalArgs_plain (wpAny_mono ha' (λ us cj ⟨vs,H1,I1,r1,hlen,hE⟩=>⟨rfl,?_,I1.bk _ _ hC,hN.keeps I1.bk,T.keeps I1.bk,λ h' e hme=>ET L I1 hme hE⟩) λ _ _ y=>y)
 have:=r1.length
 show us.length<=sizeLine
 rw[sizeLine_eq];omega
end
end L2
namespace L2
open PySem PySem.Spec PyProof.Rows TwZ
noncomputable abbrev Cx.within (X:Cx) (pn:List (Addr×Obj)) (E:Value->Shared->Prop):Cx:={ X with pn:=pn,xe:=E }
noncomputable abbrev Cx.caughtIn (X:Cx) (ea:Addr):Cx:={ X with A:=X.A.mark (some (.ref ea)),calm:=false,xe:=λ _ _=>False }
section
variable {X:Cx}{pins:List (Addr×Obj)}{σ:St}{H:Hp}{s:Shared}{pn:List (Addr×Obj)}{E:Value->Shared->Prop}{ea:Addr}
theorem Cx.Ok.within (ok:X.Ok):(X.within pn E).Ok:=
 ⟨ok.mod,ok.kind,ok.glob,ok.blt,ok.above,ok.inj,ok.has,ok.cab,ok.hd,ok.frames,ok.stk,ok.exf,ok.bs,ok.bsz,ok.noex,ok.exfs,ok.funs,ok.frf⟩
theorem Cx.Ok.unwithin (ok:(X.within pn E).Ok):X.Ok:=
 ⟨ok.mod,ok.kind,ok.glob,ok.blt,ok.above,ok.inj,ok.has,ok.cab,ok.hd,ok.frames,ok.stk,ok.exf,ok.bs,ok.bsz,ok.noex,ok.exfs,ok.funs,ok.frf⟩
theorem Inv.within (I:Inv X pins σ H s):Inv (X.within (X.pn++pins) E) [] σ H s:=
 ⟨I.ok.within,I.os,I.bare,I.base,I.loc,I.cell,I.free,I.freeC,λ p hp=>I.pin p (by simpa using hp),I.hok,I.len⟩
theorem Inv.unwithin {p2:List (Addr×Obj)} (I:Inv (X.within (X.pn++pins) E) p2 σ H s):Inv X pins σ H s:=
 ⟨I.ok.unwithin,I.os,I.bare,I.base,I.loc,I.cell,I.free,I.freeC,λ p hp=>I.pin p (abz _ hp),I.hok,I.len⟩
theorem Inv.mark (I:Inv X pins σ H s):Inv (X.caughtIn ea) pins σ H s:=
 ⟨⟨I.ok.mod,I.ok.kind,I.ok.glob,I.ok.blt,I.ok.above,I.ok.inj,I.ok.has,I.ok.cab,λ z=>Bool.noConfusion z,I.ok.frames,I.ok.stk,I.ok.exf,I.ok.bs,I.ok.bsz,I.ok.noex,I.ok.exfs,I.ok.funs,I.ok.frf⟩,I.os,I.bare,I.base,I.loc,I.cell,I.free,I.freeC,I.pin,I.hok,I.len⟩
theorem Inv.unmark (ok:X.Ok) (I:Inv (X.caughtIn ea) pins σ H s):Inv X pins σ H s:=
 ⟨ok,I.os,I.bare,I.base,I.loc,I.cell,I.free,I.freeC,I.pin,I.hok,I.len⟩
end
end L2
namespace L2
open PySem PySem.Spec PyProof.Rows TwZ PySem.Builtin PySem.Builtin.ObjectAttr PySem.Builtin.Getset_descriptor
section
variable {prog:Program}{w:World}{K:aaa}{x D:Addr}
end
section
variable {X:Cx}
end
end L2
namespace L2
open PySem PySem.Spec PyProof.Rows TwZ
section
variable {X:Cx}{K:aaa}
noncomputable def EV (K:aaa):R2:=λ x y H Q=>∃ a b xs ys,x=.ref a/\y=.ref b/\bN K H a xs/\bN K H b ys/\xs.length+ys.length<=sizeLine/\∀ p H',aK H H'->bN K H' p (xs++ys)->Q (.ref p) H'
theorem FO:g7 X (binaryOp .Add) (EV X.K):=by
 intro pins s σ H x y v u Q I rx ry h
 obtain⟨a,b,xs,ys,rfl,rfl,ha,hb,hz,q⟩:=h
 by_cases hx:xs=[]
 ·subst hx
  cases rx
  cases ry
  obtain⟨its,r1,p1,_⟩:=I.tuple ha
  obtain⟨its2,r2,p2,_⟩:=I.tuple hb
  cases r1
  obtain⟨⟨cls,dd,data,sl⟩,ho,hc,n,hd⟩:=id p1
  obtain⟨⟨cls2,dd2,data2,sl2⟩,ho2,hc2,n2,hd2⟩:=id p2
  simp only at hc hd hc2 hd2
  subst hc hd hc2 hd2
  exact concat_meets ⟨_,ho,rfl⟩ ⟨_,ho2,rfl⟩ noFill_tuple_add seq_tuple_add PySem.F.slot_tuple_add PySem.F.entry_tuple_add (PySem.F.args_tuple_add_2 _ _) (tuple_addW0 a b _ its2.toArray n n2 dd dd2 sl sl2 (by simp)) ⟨ho,ho2,⟨.ref b,H,I,rfl,q b H (aK.refl H) hb⟩⟩
 ·refine B1 pins s σ H _ _ v u Q I rx ry ⟨a,b,xs,ys,rfl,rfl,ha,hb,hx,hz,λ e=>?_,λ _ p hp=>?_⟩
  ·subst e
   exact q a H (aK.refl H) (by rw[ack];exact ha)
  ·exact q p _ (aK.new hp) (bN.of aB)
theorem CU (hK:X.K=K):g7 X (binaryOp .Add) (EV K):=by subst hK;exact FO
theorem I0 (hK:X.K=K):SlR X (MR K):=by subst hK;exact KR
end
end L2
namespace Tw
open PySem L2
section
variable {P:Program}{w:World}{K:aaa}{mg:Str->Option Value}{base:Heap}
end
end Tw
namespace L2
open PySem PySem.Spec PyProof.Rows TwZ
section
variable {P:Program}{w:World}{K:aaa}{mg:Str->Option Value}{base:Heap}
theorem Fun.okR {x qual:Str}{st:Stmt}{f:Addr}{fd:FuncData}{N ps:List Str}{k:Nat}{sp:Sp} (F:Fun K x qual st f fd) (S:FnScope N ps (aJ st)) (len:∀ vs H Q E,sp vs H Q E->vs.length=ps.length)
  (hbody:∀ (cdv:Value) (A:Around) (outer:List Env) (s:Shared) (H:Hp) (vs:List V) (Q:VK) (E:XK),Room k (A.deeper (envOfC qual (aJ st) s.heap.objs.size f cdv))->sp vs H Q E->
   Leaves (xW (BV P w) P w K mg base N qual (aJ st) f cdv A outer s H E) E->
   ∃ t,yC (xW (BV P w) P w K mg base N qual (aJ st) f cdv A outer s H E) (aT st) t/\t { nx:=λ _ H'=>Q .non H',rt:=Q } (mE N vs) H):FnOk P w K mg base (BV P w) (k+1) f fd ps sp:=by
 obtain⟨oc,od,kV,doc,pm,an,cdv,ct,osl,rfl,lk,hcd⟩:=F.ex
 exact K9 lk hcd S len λ A outer s H vs Q E hr hsp=>hbody cdv A outer s H vs Q E hr hsp ⟨rfl,rfl,rfl,λ _ _ h=>h⟩
end
structure CalleeR (P:Program) (w:World) (K:aaa) (mg:Str->Option Value) (base:Heap) (x:Str) (ps:List Str) (k:Nat) (sp:Sp) (f:Addr) (fd:FuncData):Prop where
 ok:FnOk P w K mg base (BV P w) k f fd ps sp
 mg:mg x=some (.ref f)
 kp:PySem.W.keepIn K (.ref f)=true
 bd:iU K fd ps []
structure ExC (K:aaa) (x:Str) (C:Addr):Prop where
 ns:PySem.W.nsIn K mainGlobals x=some (some (.ref C))
 exc:PySem.W.excIn K C [.type "ValueError",.type "Exception",.type "BaseException",.type "object"] "ValueError.__new__" = true
end L2
namespace Tw
open PySem L2
section
variable {P:Program}{w:World}{K:aaa}{mg:Str->Option Value}{base:Heap}{C c_TipError c_NoNet c_NoVessel c_TooLong c_TooMany c_TooMuch c_Nothing c_NoText c_NoRow:Addr}
noncomputable def qA:Sp:=λ vs H Q _=>∃ (n lo hi:Int),vs=[.int n,.int lo,.int hi]/\Q (.bl (decide (lo<=n) && decide (n<=hi))) H
theorem uZ {f:Addr}{fd:FuncData} (F:Fun K "is_whole" "is_whole" (aQ 39) f fd) (T:Txt mg):FnOk P w K mg base gC 1 f fd ["thing","least","most"] qA:=by
 refine F.ok gY (λ vs H Q E h=>?_) (λ cdv A outer s H vs Q E hr h=>?_)
 ·obtain⟨n,lo,hi,rfl,_⟩:=h;rfl
 ·obtain⟨n,lo,hi,rfl,k⟩:=h
  have sc:=gY
  refine⟨_,(aL (aZ (fI (aU (fP (K:=K) rfl) rfl T.b_isinstance gQ (aA (pv 0) (aA (j5 (v:=.ty "int") rfl T.b_int lT rfl) aD))) (fI (uU (aU (fP (K:=K) rfl) rfl T.b_isinstance gQ (aA (pv 0) (aA (j5 (v:=.ty "bool") rfl T.b_bool pL rfl) aD)))) (gL (qV tF tF (pv 1) (pv 0) (pv 2))))))),?_⟩
  refine⟨_,rfl,_,"int",_,true,rfl,.inl (.int _),G1 K,_,rfl,gA ?_⟩
  refine⟨_,rfl,_,"bool",_,false,rfl,.inl (.int _),G2 K,_,rfl,_,rfl,gA ?_⟩
  refine⟨_,rfl,_,rfl,_,_,rfl,rfl,_,rfl,n6 (λ h1=>?_) λ h1=>?_⟩
  ·rw[h1,Bool.true_and] at k
   exact⟨_,rfl,_,_,rfl,rfl,k⟩
  ·rw[Bool.not_eq_true] at h1
   rw[h1,Bool.false_and] at k
   exact k
noncomputable def uE (K:aaa) (cV:Addr):Sp:=λ vs H Q E=>∃ (x:V) (net:Net) (v:Int),vs=[x,.int v]/\Is K H (fC net) x/\((0<=v/\v < net.vs.length/\Q .non H)\/(¬ (0<=v/\v < net.vs.length)/\E (.ref cV) none H))
theorem p6 {f f1:Addr}{fd fd1:FuncData} (F:Fun K "need_vessel" "need_vessel" (aQ 37) f fd) (T:Txt mg) (XC_NoVessel:ExC K "NoVessel" c_NoVessel) (G_is_whole:Callee P w K mg base "is_whole" ["thing","least","most"] 1 qA f1 fd1) :
  FnOk P w K mg base (BV P w) 2 f fd ["net","number"] (uE K c_NoVessel):=by
 refine F.okR eY (λ vs H Q E h=>?_) (λ cdv A outer s H vs Q E hr h L=>?_)
 ·obtain⟨x,net,v,rfl,_⟩:=h;rfl
 ·obtain⟨x,net,v,rfl,hx,k⟩:=h
  have sc:=eY
  refine⟨_,(aE (bZ (pv 0) (aX (K:=K) (n:=2) rfl rfl (aF (aG (i:=2) sc.nd rfl (Or.inl rfl)) (aF (aG (i:=3) sc.nd rfl (Or.inl rfl)) aW))))
   (aL (d8 (eP (dL (cU G_is_whole hr (aA (pv 1) (aA aH (aA (bA fJ (aU (bL (K:=K) rfl) rfl T.b_len abj (aA (pv 2) aD)) aH) aD)))))) (aL (wT L rfl rfl XC_NoVessel.exc XC_NoVessel.ns PySem.F.excBase_ValueError (aA hJ aD))) bJ))),?_⟩
  obtain⟨a,b,c,xs,ys,rfl,q,q1,l1,q2,l2⟩:=fY hx
  have exl:xs.length=net.vs.length:=by rw[l1.length,aac]
  refine⟨_,rfl,a,_,rfl,q,rfl,_,_,rfl,_,_,rfl,rfl,?_⟩
  refine⟨_,rfl,_,rfl,b,xs,rfl,.inr q1,_,_,rfl,rfl,v,0,_,rfl,_,rfl,?_⟩
  rcases k with ⟨h0,h1,k⟩ | ⟨hn,k⟩
  ·rw[decide_eq_true h0,decide_eq_true (show v<=((xs.length:Nat):Int) - 1 by omega)]
   exact eU k
  ·have:(decide (0<=v) && decide (v<=((xs.length:Nat):Int) - 1))=false:=by
    rw[Bool.eq_false_iff]
    intro z
    rw[Bool.and_eq_true,decide_eq_true_eq,decide_eq_true_eq] at z
    exact hn ⟨z.1,by omega⟩
   rw[this]
   exact gA ⟨by show 1<=100;decide,k⟩
end
end Tw
namespace Tw
open PySem L2
noncomputable abbrev sS:=List (Int×Int)
noncomputable def jJ (ms:sS) (i:Int):Option Int:=(ms.find? λ p=>decide (p.1=i)).map (·.2)
noncomputable def nS (nv:sS) (o:Option Int×Int):Option Int×Int:=(o.1.bind (jJ nv),o.2)
noncomputable def gW (ms:sS) (a:Str×Int):Option (Str×Int):=(jJ ms a.2).map λ s=>(a.1,s)
noncomputable def kU (nv ms:sS) (v:Vs):Vs:=⟨v.size,v.brim,v.outs.map (nS nv),v.holds,v.spill.bind (jJ nv),v.acts.filterMap (gW ms)⟩
noncomputable def jU (nv:sS) (s:sE):sE:=((jJ nv s.1).getD 0,s.2)
noncomputable def cI:Vs:=⟨1,1,[],false,none,[]⟩
noncomputable def MO (net:Net) (nv ms:sS):Net:=⟨nv.map λ p=>kU nv ms (net.vs.getD p.1.toNat cI),ms.map λ p=>jU nv (net.sps.getD p.1.toNat (0,0,false))⟩
theorem sN {ar cg:Type} (f:ar->Option cg) (l:List ar):(l.filterMap f).length<=l.length:=List.length_filterMap_le f l
section
variable {P:Program}{w:World}{K:aaa}{mg:Str->Option Value}{base:Heap}{C c_TipError c_NoNet c_NoVessel c_TooLong c_TooMany c_TooMuch c_Nothing c_NoText c_NoRow aw:Addr}
end
end Tw
namespace Tw
open PySem L2
noncomputable def dJ (n:Nat) (f:Nat->Int):Int:=((List.range n).map f).sum
theorem oI (n:Nat) (f:Nat->Int):dJ (n+1) f=dJ n f+f n:=by
 unfold dJ;rw[List.range_succ,aai,List.sum_append];simp
theorem eR (f:Nat->Int):∀ n:Nat,dJ (n+1) f=f 0+dJ n λ k=>f (k+1)
 | 0=>by simp [dJ]
 | n+1=>by rw[oI,eR f n,oI n λ k=>f (k+1)];omega
theorem eW {n:Nat}{f g:Nat->Int} (h:∀ k,k < n->f k=g k):dJ n f=dJ n g:=by
 unfold dJ
 congr 1
 exact List.map_congr_left λ k hk=>h k (abk.1 hk)
theorem wD (l:List Nat) (f:Nat->Int):(l.map f).sum=dJ l.length λ q=>f (l.getD q 0):=by
 induction l with
 | nil=>rfl
 | cons a l ih=>rw[aaw,acq,ih,aax,eR];rfl
noncomputable def kT:sE:=(0,0,false)
noncomputable def o6 (ss:List sE) (ds:List Bool) (j:Nat) (k:Nat):Int:=if ds.getD k false=true/\(ss.getD k kT).1=(j:Int) then (ss.getD k kT).2.1 else 0
theorem BK (j:Nat):∀ (ss:List sE) (ds:List Bool) (has:List Int),ss.length=ds.length->(∀ s∈ss,0<=s.1/\s.1 < has.length)->(fE has ss ds).getD j 0=has.getD j 0+dJ ss.length (o6 ss ds j)
 | [],[],has,_,_=>by simp [fE,dJ]
 | [],_::_,_,h,_=>by simp at h
 | _::_,[],_,h,_=>by simp at h
 | s::ss,d::ds,has,h,hs=>by
  have h0:=hs s aas
  have ih:=BK j ss ds (lD has s d) (by simpa using h) λ x hx=>by rw[tP];exact hs x (aam _ hx)
  show (fE (lD has s d) ss ds).getD j 0=_
  rw[ih,aax,eR]
  have e:(lD has s d).getD j 0=has.getD j 0+o6 (s::ss) (d::ds) j 0:=by
   unfold lD o6
   show (if d=true then has.set s.1.toNat (has.getD s.1.toNat 0+s.2.1) else has).getD j 0=has.getD j 0+if d=true/\s.1=(j:Int) then s.2.1 else 0
   cases d with
   | false=>simp
   | true=>
    rw[if_pos rfl]
    by_cases c:s.1=(j:Int)
    ·rw[if_pos ⟨rfl,c⟩,c,aav,aae,abw (by omega)];rfl
    ·rw[if_neg (λ z=>c z.2),aae,aca (by omega),<- aae];omega
  rw[e,Int.add_assoc];rfl
theorem BS (j:Nat):∀ (a b c:List Int),a.length=b.length->a.length=c.length->(jG a b c).getD j 0=a.getD j 0+b.getD j 0+c.getD j 0
 | [],[],[],_,_=>by simp [jG]
 | x::a,y::b,z::c,h1,h2=>by
  show ((x+y+z)::jG a b c).getD j 0=_
  cases j with
  | zero=>rfl
  | succ j=>exact BS j a b c (by simpa using h1) (by simpa using h2)
 | [],[],_::_,_,h=>by simp at h
 | [],_::_,_,h,_=>by simp at h
 | _::_,[],_,h,_=>by simp at h
 | _::_,_::_,[],_,h=>by simp at h
theorem GL {net:Net}{h c p:List Int}{d:List Bool} (ok:NetOk net) (st:StOk net h c d) (pl:p.length=net.vs.length) (j:Nat) :
  (bC net h c p d).getD j 0=h.getD j 0+c.getD j 0+p.getD j 0+dJ net.sps.length (o6 net.sps d j):=by
 unfold bC
 rw[BK j net.sps d _ st.d.symm λ s hs=>by rw[gR st.h st.c pl];exact ok.sps s hs,BS j h c p (by rw[st.h,st.c]) (by rw[st.h,pl])]
theorem n9 {net:Net}{h c p:List Int}{d:List Bool} (st:StOk net h c d) (pl:p.length=net.vs.length):(bC net h c p d).length=net.vs.length:=by
 unfold bC;rw[gG,gR st.h st.c pl]
theorem pH (t:Option Int):∀ (vs:List Vs) (hs:List Int),vs.length=hs.length->bQ t (dI vs hs)=dJ vs.length λ i=>bQ t (dZ (vs.getD i cI) (hs.getD i 0))
 | [],[],_=>rfl
 | [],_::_,h=>by simp at h
 | _::_,[],h=>by simp at h
 | v::vs,a::hs,h=>by
  show bQ t (dZ v a++dI vs hs)=_
  rw[hG,pH t vs hs (by simpa using h),aax,eR];rfl
theorem wF:∀ (vs:List Vs) (hs:List Int) (j:Nat),vs.length=hs.length->j < vs.length->(eN vs hs).getD j 0=gI (vs.getD j cI) (hs.getD j 0)
 | [],_,j,_,h=>by simp at h
 | _::_,[],_,h,_=>by simp at h
 | v::vs,a::hs,0,_,_=>rfl
 | v::vs,a::hs,j+1,h,hj=>wF vs hs j (by simpa using h) (by simpa using hj)
theorem pW:∀ (i:Nat) (vs:List Vs) (hs:List Int),vs.length=hs.length->cQ i vs hs=((List.range vs.length).filter λ j=>dD (vs.getD j cI) (hs.getD j 0)).map (i + ·)
 | _,[],[],_=>rfl
 | _,[],_::_,h=>by simp at h
 | _,_::_,[],h=>by simp at h
 | i,v::vs,a::hs,h=>by
  have ih:=pW (i+1) vs hs (by simpa using h)
  rw[aax,List.range_succ_eq_map]
  have e:((List.map Nat.succ (List.range vs.length)).filter λ j=>dD ((v::vs).getD j cI) ((a::hs).getD j 0))=((List.range vs.length).filter λ j=>dD (vs.getD j cI) (hs.getD j 0)).map Nat.succ:=by
   rw[List.filter_map];rfl
  have e2:∀ l:List Nat,(l.map Nat.succ).map (i + ·)=l.map (i+1 + ·):=λ l=>by
   rw[abv];exact List.map_congr_left λ k _=>by show i+(k+1)=i+1+k;omega
  show (if dD v a=true then i::cQ (i+1) vs hs else cQ (i+1) vs hs)=_
  by_cases c:dD v a=true
  ·rw[if_pos c,aco (by exact c),e,aaw,e2,ih];rfl
  ·rw[if_neg c,acn (by exact c),e,e2,ih]
noncomputable def vY (w:Str) (b:Bool):Bool:=if w = "open" then true else if w = "turn" then !b else false
noncomputable def cX (k:Nat) (as:List (Str×Int)) (b:Bool):Bool:=as.foldl (λ b a=>if a.2.toNat=k then vY a.1 b else b) b
theorem sC (k:Nat):∀ (as:List (Str×Int)) (ds:List Bool),k < ds.length->(dS ds as).getD k false=cX k as (ds.getD k false)
 | [],_,_=>rfl
 | a::as,ds,h=>by
  show (dS (pA ds a) as).getD k false=cX k as (if a.2.toNat=k then vY a.1 (ds.getD k false) else ds.getD k false)
  rw[sC k as (pA ds a) (by unfold pA;rw[acl];exact h)]
  congr 1
  unfold pA
  by_cases c:a.2.toNat=k
  ·rw[if_pos c,c,aae,abw h];rfl
  ·rw[if_neg c,aae,aca c,<- aae]
theorem y8 (as:List (Str×Int)):∀ ds:List Bool,(dS ds as).length=ds.length:=by
 induction as with
 | nil=>intro ds;rfl
 | cons a as ih=>intro ds;show (dS (pA ds a) as).length=_;rw[ih];unfold pA;rw[acl]
theorem xT (vs:List Vs) (k:Nat):∀ (tip:List Nat) (ds:List Bool),k < ds.length->(∀ i∈tip,i < vs.length)->(cJ vs ds tip).getD k false=tip.foldl (λ b i=>cX k (vs.getD i cI).acts b) (ds.getD k false)
 | [],_,_,_=>rfl
 | i::tip,ds,h,ht=>by
  have hi:=ht i aas
  have e:vs[i]? = some (vs.getD i cI):=by rw[aae,aaf hi];rfl
  show (cJ vs (match vs[i]? with | some v=>dS ds v.acts | none=>ds) tip).getD k false=_
  rw[e]
  show (cJ vs (dS ds (vs.getD i cI).acts) tip).getD k false=_
  rw[xT vs k tip _ (by rw[y8];exact h) λ i hi=>ht i (aam _ hi),sC k _ ds h];rfl
theorem G0 (n:Nat) (gs:List (Option Int×Int)) {k:Nat} (h:k < n):(eQ n gs).getD k 0=bQ (some (k:Int)) gs:=by
 unfold eQ
 rw[aae,aah,List.getElem?_range h];rfl
theorem pX {net:Net}{h c p:List Int}{d:List Bool} (st:StOk net h c d) (pl:p.length=net.vs.length) :
  (cO net h c p d).tip=(List.range net.vs.length).filter λ j=>dD (net.vs.getD j cI) ((bC net h c p d).getD j 0):=by
 show cQ 0 net.vs (bC net h c p d)=_
 rw[pW 0 net.vs _ (n9 st pl).symm]
 simp
theorem sX {net:Net}{h c p:List Int}{d:List Bool} (st:StOk net h c d) (pl:p.length=net.vs.length) {j:Nat} (hj:j < net.vs.length) :
  (cO net h c p d).held.getD j 0=gI (net.vs.getD j cI) ((bC net h c p d).getD j 0):=wF _ _ j (n9 st pl).symm hj
theorem oH {net:Net}{h c p:List Int}{d:List Bool} (st:StOk net h c d) (pl:p.length=net.vs.length) {j:Nat} (hj:j < net.vs.length) :
  (cO net h c p d).coming.getD j 0=dJ net.vs.length λ i=>bQ (some (j:Int)) (dZ (net.vs.getD i cI) ((bC net h c p d).getD i 0)):=by
 show (eQ net.vs.length _).getD j 0=_
 rw[G0 _ _ hj,pH _ _ _ (n9 st pl).symm]
theorem pY {net:Net}{h c p:List Int}{d:List Bool} (st:StOk net h c d) (pl:p.length=net.vs.length) {k:Nat} (hk:k < net.sps.length) :
  (cO net h c p d).doors.getD k false=(List.range net.vs.length).foldl (λ b i=>if dD (net.vs.getD i cI) ((bC net h c p d).getD i 0)=true then cX k (net.vs.getD i cI).acts b else b) (d.getD k false):=by
 show (cJ net.vs d (cO net h c p d).tip).getD k false=_
 rw[xT net.vs k _ d (by rw[st.d];exact hk) λ i hi=>?_]
 ·rw[pX st pl,List.foldl_filter]
 ·rw[pX st pl] at hi
  exact abk.1 (acp.1 hi).1
theorem sB (p:Nat):∀ (l:List (Int×Nat)) (ts:List (List Int)),p < ts.length->(l.foldl addTip ts).getD p []=ts.getD p []++(l.filter λ t=>decide (t.2=p)).map (·.1)
 | [],_,_=>by simp
 | t::l,ts,h=>by
  rw[abt,sB p l (addTip ts t) (by unfold addTip;rw[acl];exact h)]
  unfold addTip
  by_cases c:t.2=p
  ·rw[aco (by simpa using c),c,aae,abw h,aaw]
   show (ts.getD p []++[t.1])++_=_
   rw[ach];rfl
  ·rw[acn (by simpa using c),aae,aca c,<- aae]
theorem A7 (tk:Int) (p:Nat):∀ l:List Nat,l.Nodup->((l.map λ k=>(tk,k)).filter λ t=>decide (t.2=p)).map (·.1)=if p∈l then [tk] else []
 | [],_=>rfl
 | k::l,nd=>by
  rw[abi] at nd
  have ih:=A7 tk p l nd.2
  rw[aaw]
  by_cases c:k=p
  ·subst c
   rw[aco (by simp),aaw,ih,if_neg nd.1,if_pos aas]
  ·rw[acn (by simpa using c),ih]
   by_cases e:p∈l
   ·rw[if_pos e,if_pos (aam _ e)]
   ·rw[if_neg e,if_neg (λ z=>(List.mem_cons.1 z).elim (λ q=>c q.symm) e)]
theorem BG {S:RunS} (ok:RunOk S) {p:Nat} (h:p < S.net.vs.length):(S.go 1).tips.getD p []=S.tips.getD p []++if dD (S.net.vs.getD p cI) ((bC S.net S.cur.held S.cur.coming S.cur.poured S.cur.doors).getD p 0)=true then [S.cur.tick] else []:=by
 show (([]++nH S.net S.cur).foldl addTip S.tips).getD p []=_
 rw[List.nil_append,sB p _ _ (by rw[ok.tl];exact h)]
 unfold nH
 have e:(S.cur.tk S.net).tip=_:=pX ok.cur.st ok.cur.pl
 rw[e,A7 _ _ _ (List.Pairwise.filter _ List.nodup_range)]
 congr 1
 by_cases c:dD (S.net.vs.getD p cI) ((bC S.net S.cur.held S.cur.coming S.cur.poured S.cur.doors).getD p 0)=true
 ·rw[if_pos c,if_pos (acp.2 ⟨abk.2 h,c⟩)]
 ·rw[if_neg c,if_neg]
  intro z
  exact c (acp.1 z).2
end Tw
namespace Tw
open PySem L2
noncomputable def tZ (net:Net) (k:Nat):Vs:=net.vs.getD k ⟨1,1,[],false,none,[]⟩
noncomputable def sG (net:Net) (k:Int):Int:=(net.sps.getD k.toNat (0,0,false)).1
noncomputable def eE (net:Net) (v:Vs):List (Option Int):=v.outs.map (·.1)++[v.spill]++v.acts.map λ a=>some (sG net a.2)
noncomputable def eG (net:Net) (x:Nat) (f:List Nat):Nat->List Nat
 | 0=>f
 | k+1=>if k∉eG net x f k/\some (x:Int)∈eE net (tZ net k) then eG net x f k++[k] else eG net x f k
theorem gO (net:Net) (x:Nat) (f:List Nat) (k:Nat):eG net x f (k+1)=if k∉eG net x f k/\some (x:Int)∈eE net (tZ net k) then eG net x f k++[k] else eG net x f k:=rfl
theorem iP (net:Net) (x:Nat) (f:List Nat):∀ k,∃ g,eG net x f k=f++g
 | 0=>⟨[],by rw[ack];rfl⟩
 | k+1=>by
  obtain⟨g,e⟩:=iP net x f k
  rw[gO]
  split
  ·exact⟨g++[k],by rw[e,ach]⟩
  ·exact⟨g,e⟩
theorem rN {net:Net}{x n:Nat}{f:List Nat} (nd:f.Nodup) (hf:∀ y∈f,y < n):∀ k,k<=n->(eG net x f k).Nodup/\∀ y∈eG net x f k,y < n
 | 0,_=>⟨nd,hf⟩
 | k+1,hk=>by
  obtain⟨h1,h2⟩:=rN (net:=net) (x:=x) nd hf k (by omega)
  rw[gO]
  split
  ·rename_i c
   refine⟨?_,λ y hy=>?_⟩
   ·rw[List.nodup_append]
    refine⟨h1,by simp,λ a ha b hb e=>?_⟩
    have:=aaq.1 hb
    subst this e
    exact c.1 ha
   ·rcases abc.1 hy with z | z
    ·exact h2 y z
    ·have:=aaq.1 z
     omega
  ·exact⟨h1,h2⟩
theorem jX:∀ (n:Nat) (l:List Nat),l.Nodup->(∀ y∈l,y < n)->l.length<=n
 | 0,[],_,_=>Nat.le_refl _
 | 0,x::l,_,h=>absurd (h x aas) (aci _)
 | n+1,l,nd,h=>by
  have ih:=jX n (l.erase n) (nd.erase n) λ y hy=>by
   have h1:=nd.mem_erase_iff.1 hy
   have:=h y h1.2
   omega
  by_cases m:n∈l
  ·rw[List.length_erase_of_mem m] at ih
   omega
  ·rw[List.erase_of_not_mem m] at ih
   omega
noncomputable def oG (net:Net):Nat->Nat->List Nat->List Nat
 | 0,_,f=>f
 | fuel+1,p,f=>match f[p]? with
  | none=>f
  | some x=>oG net fuel (p+1) (eG net x f net.vs.length)
theorem E5 {net:Net}{fuel p x:Nat}{f:List Nat} (h:f[p]? = some x):oG net (fuel+1) p f=oG net fuel (p+1) (eG net x f net.vs.length):=by
 show (match f[p]? with | none=>f | some x=>oG net fuel (p+1) (eG net x f net.vs.length))=_
 rw[h]
theorem CA {net:Net}{fuel p:Nat}{f:List Nat} (h:f.length<=p):oG net fuel p f=f:=by
 cases fuel with
 | zero=>rfl
 | succ fuel=>
  show (match f[p]? with | none=>f | some x=>oG net fuel (p+1) (eG net x f net.vs.length))=_
  rw[acd h]
noncomputable def eT (net:Net) (w:Nat):List Nat:=oG net 13 0 [w]
structure WalkAt (net:Net) (w p:Nat) (f:List Nat):Prop where
 nd:f.Nodup
 lt:∀ y∈f,y < net.vs.length
 has:w∈f
 le:p<=f.length
 eq:oG net (13 - p) p f=eT net w
theorem WalkAt.first {net:Net}{w:Nat} (h:w < net.vs.length):WalkAt net w 0 [w]:=
 ⟨by simp,λ y hy=>by have:=aaq.1 hy;omega,aaq.2 rfl,Nat.zero_le _,rfl⟩
theorem WalkAt.len {net:Net}{w p:Nat}{f:List Nat} (a:WalkAt net w p f):f.length<=net.vs.length:=jX _ _ a.nd a.lt
theorem WalkAt.go {net:Net}{w p x:Nat}{f:List Nat} (a:WalkAt net w p f) (h12:net.vs.length<=12) (h:f[p]? = some x):WalkAt net w (p+1) (eG net x f net.vs.length):=by
 have hl:=a.len
 have hp:=(aad.mp h).1
 obtain⟨h1,h2⟩:=rN (net:=net) (x:=x) a.nd a.lt net.vs.length (Nat.le_refl _)
 obtain⟨g,e⟩:=iP net x f net.vs.length
 refine⟨h1,h2,by rw[e];exact abz _ a.has,by rw[e,aat];omega,?_⟩
 rw[<- a.eq,show 13 - p=(13 - (p+1))+1 by omega,E5 h]
theorem WalkAt.done {net:Net}{w p:Nat}{f:List Nat} (a:WalkAt net w p f) (h:f.length<=p):f=eT net w:=by
 rw[<- a.eq,CA h]
theorem FU {net:Net}{w:Nat} (h12:net.vs.length<=12):∀ (m p:Nat) (f:List Nat),WalkAt net w p f->13 - p=m->∃ p',WalkAt net w p' (eT net w)
 | 0,p,f,a,e=>by
  have:=a.len;have:=a.le
  omega
 | m+1,p,f,a,e=>by
  rcases Nat.lt_or_ge p f.length with z | z
  ·exact FU h12 m (p+1) _ (a.go h12 (aaf z)) (by omega)
  ·exact⟨p,a.done z ▸ a⟩
theorem lQ {net:Net}{w:Nat} (h12:net.vs.length<=12) (h:w < net.vs.length):(eT net w).Nodup/\(∀ y∈eT net w,y < net.vs.length)/\w∈eT net w:=by
 obtain⟨p,a⟩:=FU h12 13 0 _ (WalkAt.first h) rfl
 exact⟨a.nd,a.lt,a.has⟩
end Tw
namespace TwS
open PySem
noncomputable def Up (xs:Array Nat):Prop:=∀ i j a b:Nat,i < j->xs[i]? = some a->xs[j]? = some b->a < b
theorem rY (xs:Array Nat) (h:Up xs) (j:Nat):∀ (fuel lo hi:Nat),hi<=xs.size->lo<=hi->hi - lo<=fuel->(∀ i a,i < lo->xs[i]? = some a->a < j)->(∀ i a,hi<=i->xs[i]? = some a->j<=a)->
  (∀ i a,i < SetTable.below.go xs j fuel lo hi->xs[i]? = some a->a < j)/\(∀ i a,SetTable.below.go xs j fuel lo hi<=i->xs[i]? = some a->j<=a)/\SetTable.below.go xs j fuel lo hi<=xs.size
 | 0,lo,hi,h1,h2,h3,l,r=>by
  have:lo=hi:=by omega
  subst this
  show (∀ i a,i < lo->_)/\(∀ i a,lo<=i->_)/\lo<=_
  exact⟨l,r,h1⟩
 | fuel+1,lo,hi,h1,h2,h3,l,r=>by
  have e0:SetTable.below.go xs j (fuel+1) lo hi=if lo < hi then (if xs.getD ((lo+hi) / 2) j < j then SetTable.below.go xs j fuel ((lo+hi) / 2+1) hi else SetTable.below.go xs j fuel lo ((lo+hi) / 2)) else lo:=rfl
  rw[e0]
  by_cases hlt:lo < hi
  ·rw[if_pos hlt]
   have hm:(lo+hi) / 2 < xs.size:=by omega
   have hg:xs[(lo+hi) / 2]? = some (xs.getD ((lo+hi) / 2) j):=by
    rw[abg hm,Array.getD_eq_getD_getElem?,abg hm];rfl
   by_cases hc:xs.getD ((lo+hi) / 2) j < j
   ·rw[if_pos hc]
    refine rY xs h j fuel ((lo+hi) / 2+1) hi h1 (by omega) (by omega) (λ i a hi' e=>?_) r
    rcases Nat.lt_or_ge i ((lo+hi) / 2) with z | z
    ·exact Nat.lt_trans (h _ _ _ _ z e hg) hc
    ·have:i=(lo+hi) / 2:=by omega
     subst this
     rw[hg] at e;cases e;exact hc
   ·rw[if_neg hc]
    refine rY xs h j fuel lo ((lo+hi) / 2) (by omega) (by omega) (by omega) l (λ i a hi' e=>?_)
    rcases Nat.lt_or_ge ((lo+hi) / 2) i with z | z
    ·exact abq (Nat.le_of_not_lt hc) (ace (h _ _ _ _ z hg e))
    ·have:i=(lo+hi) / 2:=by omega
     subst this
     rw[hg] at e;cases e;exact Nat.le_of_not_lt hc
  ·rw[if_neg hlt]
   have:lo=hi:=by omega
   subst this
   exact⟨l,r,h1⟩
theorem rZ {xs:Array Nat} (h:Up xs) (j:Nat):(∀ i a,i < SetTable.below xs j->xs[i]? = some a->a < j)/\(∀ i a,SetTable.below xs j<=i->xs[i]? = some a->j<=a)/\SetTable.below xs j<=xs.size:=
 rY xs h j xs.size 0 xs.size (Nat.le_refl _) (Nat.zero_le _) (by omega) (λ i a hi _=>absurd hi (aci _)) (λ i a hi e=>by
  have:=(Array.getElem?_eq_some_iff.mp e).1
  omega)
theorem A3 {xs:Array Nat} (h:Up xs) {i a:Nat} (e:xs[i]? = some a):SetTable.below xs (a+1)=i+1:=by
 obtain⟨h1,h2,h3⟩:=rZ h (a+1)
 have hi:=(Array.getElem?_eq_some_iff.mp e).1
 rcases Nat.lt_trichotomy (SetTable.below xs (a+1)) (i+1) with z | z | z
 ·have:=h2 i a (by omega) e;omega
 ·exact z
 ·have hlt:i+1 < xs.size:=by omega
  have e2:xs[i+1]? = some xs[i+1]:=abg hlt
  have l1:=h1 (i+1) _ z e2
  have l2:=h i (i+1) _ _ (Nat.lt_succ_self _) e e2
  omega
theorem JM {xs:Array Nat} (h:Up xs):SetTable.below xs 0=0:=by
 obtain⟨h1,_,h3⟩:=rZ h 0
 rcases Nat.eq_zero_or_pos (SetTable.below xs 0) with z | z
 ·exact z
 ·have e2:xs[0]? = some xs[0]:=abg (by omega)
  have:=h1 0 _ z e2
  omega
theorem KJ:Up #[]:=λ i j a b _ e _=>by simp at e
theorem pC {xs:Array Nat}:Up xs↔xs.toList.Pairwise (· < ·):=by
 rw[List.pairwise_iff_getElem]
 constructor
 ·intro h i j hi hj hij
  exact h i j _ _ hij (by rw[<- abn];exact aaf hi) (by rw[<- abn];exact aaf hj)
 ·intro h i j a b hij e1 e2
  rw[<- abn] at e1 e2
  obtain⟨p1,rfl⟩:=aad.mp e1
  obtain⟨p2,rfl⟩:=aad.mp e2
  exact h i j p1 p2 hij
theorem KI {xs:Array Nat} (h:Up xs) {j:Nat} (hn:xs[SetTable.below xs j]?≠some j):Up (SetTable.insertAt xs (SetTable.below xs j) j):=by
 obtain⟨h1,h2,h3⟩:=rZ h j
 rw[pC,SetTable.toList_insertAt,List.pairwise_append,List.pairwise_cons]
 have hl:=pC.1 h
 refine⟨hl.take,⟨λ a ha=>?_,hl.drop⟩,λ a ha b hb=>?_⟩
 ·obtain⟨i,hi⟩:=aby.1 ha
  rw[List.getElem?_drop,abn] at hi
  have le:=h2 _ _ (Nat.le_add_right _ _) hi
  rcases Nat.lt_or_ge j a with z | z
  ·exact z
  ·have ej:j=a:=by omega
   subst ej
   rcases Nat.eq_zero_or_pos i with e0 | e0
   ·subst e0;exact absurd hi hn
   ·have hlt:SetTable.below xs j < xs.size:=by
     have:=(Array.getElem?_eq_some_iff.mp hi).1;omega
    have e2:xs[SetTable.below xs j]? = some xs[SetTable.below xs j]:=abg hlt
    have l2:=h2 _ _ (Nat.le_refl _) e2
    have l3:=h _ _ _ _ (show SetTable.below xs j < SetTable.below xs j+i by omega) e2 hi
    omega
 ·obtain⟨i,hi⟩:=aby.1 ha
  rw[List.getElem?_take] at hi
  split at hi
  ·rename_i hlt
   rw[abn] at hi
   have l1:=h1 _ _ hlt hi
   rcases List.mem_cons.1 hb with z | z
   ·subst z;exact l1
   ·obtain⟨i2,hi2⟩:=aby.1 z
    rw[List.getElem?_drop,abn] at hi2
    have:=h2 _ _ (Nat.le_add_right _ _) hi2
    omega
  ·cases hi
theorem E7 (n:Nat):Up (Array.range n):=by
 rw[pC,Array.toList_range]
 exact List.pairwise_lt_range
structure Tidy (b:Bool) (t:SetTable):Prop where
 led:t.led=b
 up:Up t.place
 dm:t.dummies = #[]
theorem yM (b:Bool):Tidy b (.fresh 0 0 b):=⟨rfl,KJ,rfl⟩
theorem iV {b:Bool}{t:SetTable} (h:Tidy b t) (n:Nat):Tidy b (t.standIn n):=⟨h.led,E7 n,rfl⟩
theorem HV {b:Bool}{t:SetTable} (h:Tidy b t) (n:Nat):Tidy b (t.orStandIn n):=by
 unfold SetTable.orStandIn
 split
 ·exact h
 ·exact iV h n
theorem xP (j:Nat):SetTable.has #[] j=false:=by
 unfold SetTable.has;simp
theorem CH {b:Bool}{t:SetTable} (h:Tidy b t) (j:Nat):t.slot j≠.dummy:=by
 unfold SetTable.slot
 rw[h.dm,xP]
 dsimp only
 by_cases c:(t.place[SetTable.below t.place j]? == some j)=true
 ·rw[if_pos c];intro z;cases z
 ·rw[if_neg c,if_neg (by decide)];intro z;cases z
theorem qQ {b:Bool}{t:SetTable} (h:Tidy b t) (hash:Int):∀ (fuel:Nat) (p:SetTable.Probe) (m:SetTable.Met),p.dummy=none->SetTable.probe.go t (λ _=>hash+1) hash fuel p=some m->
  ∃ j,m=.empty j none/\t.place[SetTable.below t.place j]?≠some j
 | 0,p,m,_,e=>by cases e
 | fuel+1,p,m,hd,e=>by
  unfold SetTable.probe.go at e
  have adv:(t.advance p).dummy=none:=by
   unfold SetTable.advance
   split <;> exact hd
  split at e
  ·rename_i hs
   cases e
   refine⟨p.j,by rw[hd],λ z=>?_⟩
   unfold SetTable.slot at hs
   simp [z] at hs
  ·rename_i hs
   exact absurd hs (CH h _)
  ·rename_i i hs
   split at e
   ·rename_i hh
    simp at hh
    omega
   ·exact qQ h hash fuel _ m adv e
theorem E9 {b:Bool}{t:SetTable} (h:Tidy b t) (es:Array (Int×Value)) (hash:Int) (x:Value):Tidy b (layNew t es hash x).2.1:=by
 unfold layNew
 split
 ·rename_i slot wasDummy hf
  unfold SetTable.freeSlot at hf
  split at hf
  ·rename_i j dummy hp
   obtain⟨j',e,hn⟩:=qQ h hash _ (t.probeStart hash) _ rfl hp
   cases e
   cases hf
   refine HV (t:=(t.put _).1) ⟨h.led,KI h.up hn,?_⟩ _
   show (if SetTable.has t.dummies _ then _ else t.dummies) = #[]
   rw[h.dm,xP]
   rfl
  ·cases hf
 ·exact iV h _
theorem yL {b:Bool}{t:SetTable} (h:Tidy b t) (es:Array (Int×Value)) (n:Nat):Tidy b (relayAll t es n).2.1:=by
 unfold relayAll
 split
 ·rename_i t' order hr
  dsimp only
  split
  ·show Tidy b t'
   unfold SetTable.relaid SetTable.laid at hr
   obtain⟨owner,ho,e⟩:=Option.bind_eq_some_iff.mp hr
   cases e
   refine⟨h.led,?_,rfl⟩
   rw[pC]
   dsimp only
   rw[List.pairwise_map,List.pairwise_filterMap]
   refine List.pairwise_lt_range.imp λ {a c} hac x hx y hy=>?_
   obtain⟨x',_,rfl⟩:=aap.mp hx
   obtain⟨y',_,rfl⟩:=aap.mp hy
   exact hac
  ·exact iV h _
 ·exact iV h _
end TwS
namespace TwS
open PySem PyProof.Rows
noncomputable def xO:Value->Int
 | .int i _=>i
 | _=>0
structure Cnt (prog:Program) (w:World) (b:Bool) (L:List Int) (es:Array (Int×Value)) (t:SetTable):Prop where
 el:ElemsOf (intKind prog w) es.toList
 pm:(es.toList.map λ e=>xO e.2).Perm L
 bd:es.size < scanBound
 ft:t.fits es.size=true
 td:Tidy b t
noncomputable def kF (prog:Program) (w:World) (b:Bool) (h:Heap) (a:Addr) (L:List Int):Prop:=
 ∃ o es ep t,h.get? a=some o/\o.ExactSet/\o.data=.set es ep t/\Cnt prog w b L es t
section
variable {prog:Program}{w:World}{b:Bool}{A:Around}{E:Value->Shared->Prop}{s:Shared}{a:Addr}{L:List Int}
theorem GX {es:List (Int×Value)} (h:ElemsOf (intKind prog w) es) {e:Int×Value} (he:e∈es):∃ i t,e.2=.int i t:=by
 obtain⟨⟨k,hk,_⟩,_⟩:=h e he
 obtain⟨t,z⟩:=Value.isInt_shape hk
 exact⟨k,t,z⟩
theorem GC {es:List (Int×Value)} (h:ElemsOf (intKind prog w) es) {e:Int×Value} (he:e∈es) (k:Int):(intKind prog w).is k e.2=decide (xO e.2=k):=by
 obtain⟨i,t,z⟩:=GX h he
 rw[z]
 show (i == k)=decide (i=k)
 rfl
theorem B3 {es:Array (Int×Value)}{t:SetTable} (c:Cnt prog w b L es t) (k:Int):k∈L↔∃ e∈es.toList,(intKind prog w).is k e.2=true:=by
 rw[<- c.pm.mem_iff,aaz]
 constructor
 ·rintro⟨e,he,z⟩
  exact⟨e,he,by rw[GC c.el he];exact decide_eq_true z⟩
 ·rintro⟨e,he,z⟩
  rw[GC c.el he] at z
  exact⟨e,he,of_decide_eq_true z⟩
theorem B9 {es:Array (Int×Value)}{t:SetTable} (c:Cnt prog w b L es t):es.size=L.length:=by
 rw[<- c.pm.length_eq,aac,abd]
theorem tS {o:Obj}{es es':Array (Int×Value)}{ep:Nat}{t t':SetTable}{h:Heap}{L':List Int} (g:h.get? a=some o) (x:o.ExactSet) (d:o.data=.set es ep t) (c:Cnt prog w b L' es' t') :
  (h.update a (Obj.putSet es' t')).get? a=some { o with data:=.set es' (ep+1) t' }/\kF prog w b (h.update a (Obj.putSet es' t')) a L':=by
 have u:(h.update a (Obj.putSet es' t')).get? a=some { o with data:=.set es' (ep+1) t' }:=by
  have:=acf (Obj.putSet es' t') g (by rw[putSet_of es' t' d];rfl)
  rw[putSet_of es' t' d] at this
  exact this
 exact⟨u,_,_,_,_,u,x,rfl,c⟩
theorem tN (q:Bool) {s1:Shared}{R:Unit->Shared->Prop} (h:R () s1):wpAny (model prog w) A (match q with | true=>rule "set.scan.the-table-gave-way" | false=>pure ()) R E s1:=by
 cases q
 ·exact wpAny_pure h
 ·exact wpAny_rule h
theorem HJ {k:Int}{tk:Tok}{R:Bool->Shared->Prop} (hS:kF prog w b s.heap a L) (room:L.length+1 < scanBound)
  (hR:∀ h',Heap.SameBut a s.heap h'->kF prog w b h' a (if k∈L then L else L++[k])->R (!decide (k∈L)) { s with heap:=h' }) :
  wpAny (model prog w) A (setAddHashed a (.int k tk) ((intKind prog w).hash k)) R E s:=by
 obtain⟨o,es,ep,t,g,x,d,c⟩:=hS
 have ln:=B9 c
 have isk:(intKind prog w).is k (.int k tk)=true:=intKind_is _ _ _ _
 have sc:(Value.int k tk).scannable=true:=rfl
 unfold setAddHashed setAddHashedIn
 refine wpAny_holding (wpAny_bind (wpAny_setState_of (prog:=prog) g d c.ft ?_))
 dsimp only
 rw[byScan_of sc c.bd c.el,if_pos rfl]
 unfold setAddByScan
 refine wpAny_bind (wpAny_bind (wpAny_rule (wpAny_bind (wpAny_setScan_of isk g d c.ft c.el ?_))))
 by_cases m:k∈L
 ·obtain⟨e,he,z⟩:=(B3 c k).1 m
  cases q:es.toList.findIdx? (λ e=>(intKind prog w).is k e.2) with
  | none=>have:=List.findIdx?_eq_none_iff.mp q e he;rw[z] at this;cases this
  | some j=>
   have r:=hR s.heap (Heap.SameBut.refl a s.heap)
   rw[if_pos m,decide_eq_true m] at r
   exact wpAny_pure (wpAny_pure (r ⟨o,es,ep,t,g,x,d,c⟩))
 ·cases q:es.toList.findIdx? (λ e=>(intKind prog w).is k e.2) with
  | some j=>
   obtain⟨hj,z,_⟩:=List.findIdx?_eq_some_iff_getElem.mp q
   exact absurd ((B3 c k).2 ⟨_,abf hj,z⟩) m
  | none=>
   dsimp only
   rw[if_neg m,decide_eq_false m] at hR
   have p1:=layNew_perm t es ((intKind prog w).hash k) (.int k tk)
   have f1:=layNew_fits t es ((intKind prog w).hash k) (.int k tk)
   have t1:=E9 c.td es ((intKind prog w).hash k) (.int k tk)
   generalize layNew t es ((intKind prog w).hash k) (.int k tk)=Y at p1 f1 t1 ⊢
   obtain⟨es1,tb1,wd,gv⟩:=Y
   dsimp only at p1 f1 t1 ⊢
   rw[Array.toList_push] at p1
   have c1:Cnt prog w b (L++[k]) es1 tb1:=by
    refine⟨(c.el.push isk sc).perm p1,?_,?_,f1,t1⟩
    ·refine (p1.map _).trans ?_
     rw[aai]
     exact c.pm.append_right _
    ·rw[<- abd,p1.length_eq,aat,abd,ln]
     exact room
   have fin:∀ (tb2:SetTable),Cnt prog w b (L++[k]) es1 tb2->wpAny (model prog w) A (do
     storeSet a es1 tb2
     if (!wd && tb2.tooFull)=true then do
       (match (relayAll tb2 es1 (SetTable.grown es1.size)).2.2 with | true=>rule "set.scan.the-table-gave-way" | false=>pure ())
       storeSet a (relayAll tb2 es1 (SetTable.grown es1.size)).1 (relayAll tb2 es1 (SetTable.grown es1.size)).2.1
       pure (some true)
      else pure (some true)) (λ r s'=>wpAny (model prog w) A (match r with | some added=>pure added | none=>setAddHashedIn a (.int k tk) ((intKind prog w).hash k) 99999) R E s') E s:=by
    intro tb2 c2
    refine wpAny_bind (wpAny_storeSet_of g d ?_ (fits_of_scanBound c2.bd))
    obtain⟨g1,S1⟩:=tS g x d c2
    have sb:=Heap.SameBut.update s.heap a (Obj.putSet es1 tb2)
    split
    ·have p3:=relayAll_perm tb2 es1 (SetTable.grown es1.size)
     have f3:=relayAll_fits tb2 es1 (SetTable.grown es1.size)
     have t3:=yL c2.td es1 (SetTable.grown es1.size)
     generalize relayAll tb2 es1 (SetTable.grown es1.size)=Y at p3 f3 t3 ⊢
     obtain⟨es3,tb3,gv3⟩:=Y
     dsimp only at p3 f3 t3 ⊢
     have c3:Cnt prog w b (L++[k]) es3 tb3:=⟨c2.el.perm p3,(p3.map _).trans c2.pm,by rw[<- abd,p3.length_eq,abd];exact c2.bd,f3,t3⟩
     refine wpAny_bind (tN gv3 (wpAny_bind (wpAny_storeSet_of g1 rfl ?_ (fits_of_scanBound c3.bd))))
     exact wpAny_pure (wpAny_pure (hR _ (sb.trans (Heap.SameBut.update _ a _)) (tS g1 x rfl c3).2))
    ·exact wpAny_pure (wpAny_pure (hR _ sb S1))
   refine wpAny_bind (tN gv ?_)
   split
   ·refine wpAny_bind ?_
    rw[hashByValue_scannable 8 sc]
    refine wpAny_pure ?_
    exact fin _ c1
   ·refine wpAny_bind (wpAny_pure ?_)
    exact fin _ c1
end
end TwS
namespace TwS
open PySem PySem.Spec PyProof.Rows
noncomputable def dd (val:Nat->Int):Nat->List Int
 | 0=>[]
 | i+1=>if val i∈dd val i then dd val i else dd val i++[val i]
theorem vO (val:Nat->Int) (i:Nat):dd val (i+1)=if val i∈dd val i then dd val i else dd val i++[val i]:=rfl
theorem A1 (val:Nat->Int):∀ i,(dd val i).length<=i
 | 0=>Nat.le_refl _
 | i+1=>by
  have ih:=A1 val i
  rw[vO]
  split
  ·omega
  ·rw[aat,List.length_singleton];omega
theorem HF (val:Nat->Int) (k:Int):∀ n,k∈dd val n↔∃ i,i < n/\val i=k
 | 0=>⟨λ z=>(by cases z),λ z=>(by obtain⟨i,hi,_⟩:=z;exact absurd hi (aci _))⟩
 | n+1=>by
  have ih:=HF val k n
  have key:k∈dd val (n+1)↔k∈dd val n\/val n=k:=by
   rw[vO]
   split
   ·rename_i z
    exact⟨.inl,λ y=>y.elim id λ e=>e ▸ z⟩
   ·rw[abc,aaq]
    exact⟨λ y=>y.imp id Eq.symm,λ y=>y.imp id Eq.symm⟩
  rw[key,ih]
  constructor
  ·rintro (⟨i,hi,e⟩ | e)
   ·exact⟨i,by omega,e⟩
   ·exact⟨n,by omega,e⟩
  ·rintro⟨i,hi,e⟩
   rcases Nat.lt_or_ge i n with z | z
   ·exact .inl ⟨i,z,e⟩
   ·have:i=n:=by omega
    subst this
    exact .inr e
theorem xV (val:Nat->Int):∀ n,(dd val n).Nodup
 | 0=>List.nodup_nil
 | n+1=>by
  have ih:=xV val n
  rw[vO]
  split
  ·exact ih
  ·rename_i z
   rw[List.nodup_append]
   refine⟨ih,by simp,λ x hx y hy=>?_⟩
   rw[aaq] at hy
   subst hy
   exact λ e=>z (e ▸ hx)
section
variable {prog:Program}{w:World}{b:Bool}{A:Around}{R:Result->Shared->Prop}{I:Addr}{fp wr:List Addr}{G:Array GenState->Array GenState->Prop}{n:Nat}{P:Nat->Value->Prop}{St:Nat->Shared->Prop}
theorem kF.at {h h':Heap}{a:Addr}{L:List Int} (x:kF prog w b h a L) (e:∀ o,h.get? a=some o->h'.get? a=some o):kF prog w b h' a L:=by
 obtain⟨o,es,ep,t,g,r⟩:=x
 exact⟨o,es,ep,t,e o g,r⟩
theorem EI (Wk:WalksS prog w A.in1 I fp wr G n P St) (S:Addr) (off:S∉fp) (val:Nat->Int) (vals:∀ i v,P i v->∃ t,v=.int (val i) t) (small:n+1 < scanBound) :
  ∀ (m i:Nat) (s:Shared),n - i=m->i<=n->St i s->kF prog w b s.heap S (dd val i)->(∀ s',Moved (S::wr) G s s'->kF prog w b s'.heap S (dd val n)->R (.ok (.ret .none)) s')->
   codeAny (model prog w) A (.builtin "set.update.loop" ⟨[.ref S,.ref I],[]⟩) R s:=by
 have offw:S∉wr:=λ z=>off (Wk.sub _ z)
 have more:∀ c∈wr,c∈S::wr:=λ c hc=>aam _ hc
 intro m
 induction m with
 | zero=>
  intro i s hm hi st hS k
  obtain rfl:i=n:=by omega
  refine codeAny_builtin F.entry_set_update_loop ?_
  rw[Around.under_plainId F.plain_set_update_loop _]
  show wpAny _ A.in1 (pyNext (.ref I) >>= _) _ _ s
  refine wpAny_bind (Wk.done s _ _ st λ s1 mv=>?_)
  exact wpAny_pure (k s1 (mv.mono more) (hS.at λ o e=>mv.heap S o offw e))
 | succ m ih=>
  intro i s hm hi st hS k
  have lt:i < n:=by omega
  refine codeAny_builtin F.entry_set_update_loop ?_
  rw[Around.under_plainId F.plain_set_update_loop _]
  show wpAny _ A.in1 (pyNext (.ref I) >>= _) _ _ s
  refine wpAny_bind (Wk.item i s _ _ lt st λ v s1 hv st1 mv=>?_)
  obtain⟨t,rfl⟩:=vals i v hv
  have hS1:kF prog w b s1.heap S (dd val i):=hS.at λ o e=>mv.heap S o offw e
  show wpAny _ A.in1 (holding [Value.int (val i) t] (setAdd S (.int (val i) t)) >>= _) _ _ s1
  refine wpAny_bind (wpAny_holding ?_)
  unfold setAdd
  refine wpAny_holding (wpAny_bind ((intKind prog w).pyHash (k:=val i) (intKind_is _ _ _ _) ?_))
  have rm:(dd val i).length+1 < scanBound:=by have:=A1 val i;omega
  refine HJ (s:={ s1 with toks:=s1.toks+1 }) hS1 rm λ h2 sb hS2=>?_
  refine wpAny_pure ⟨plainId_quiet F.plain_set_update_loop _,ih (i+1) _ (by omega) lt (Wk.frame _ s1 _ _ st1 (Nat.le_succ _) λ c hc o e=>?_) hS2 λ s3 mv3 hS3=>?_⟩
  ·rw[sb.2 c λ z:c=S=>off (z ▸ hc)];exact e
  ·refine k s3 (Moved.trans Wk.gtrans ((mv.mono more).then_heap (Nat.le_succ _) λ c o hc e=>?_) mv3) hS3
   rw[sb.2 c λ z:c=S=>hc (by rw[z];exact aas)];exact e
end
section
variable {prog:Program}{w:World}{A:Around}{E:Value->Shared->Prop}{s:Shared}
noncomputable abbrev hW (w:World):Obj:={ cls:=.type "set",dict:=none,data:=.set #[] 0 (.fresh 0 0 (!w.params.followText "set-order")) }
theorem J4 (v:Value) {Q:Value->Shared->Prop} (k:Q (.ref s.heap.objs.size) { s with heap:=s.heap.push (hW w) }) :
  codeAny (model prog w) A (.call (.builtin "set.__new__") ⟨[.type "set",v],[]⟩) (wants Q E) s:=by
 refine codeAny_of_tree ?_
 show wpAny _ A.in1 (checkBuiltinCall "set.__new__" ⟨[.type "set",v],[]⟩ >>= λ _=>again (.builtin "set.__new__" ⟨[.type "set",v],[]⟩)) _ _ s
 refine wpAny_bind (wpAny_of_eq (F.newCall_set_1 v) (wpAny_pure ⟨plainId_quiet F.plain_set_new _,codeAny_builtin F.entry_set_new ?_⟩))
 rw[Around.under_plainId F.plain_set_new _]
 unfold Builtin.«set.__new__» Builtin.Frozenset.newClass
 have su:=sub_set_self
 obtain⟨hp,g,d,tk,os⟩:=s
 dsimp only
 wp_walk
 refine wpAny_askSetting (wpAny_pure ?_)
 dsimp only
 simp only [newObj]
 exact wpAny_bind (wpAny_alloc (wpAny_pure (wpAny_pure k)))
theorem DJ:Cnt prog w (!w.params.followText "set-order") [] #[] (.fresh 0 0 (!w.params.followText "set-order")):=
 ⟨λ e he=>by simp at he,by simp,by unfold scanBound;decide,by rfl,yM _⟩
theorem HH {l:Addr}{items:Array Value}{ns:List Int}{Q:Value->Shared->Prop} (hh:A.handled=none) (hl:s.heap.IsList l items) (hi:IntsAre items.toList ns) (small:items.size+1 < scanBound)
  (k:∀ (h':Heap) (tk:Nat),kF prog w (!w.params.followText "set-order") h' s.heap.objs.size (dd (λ i=>ns.getD i 0) items.size)->(∀ c o,c < s.heap.objs.size->s.heap.get? c=some o->h'.get? c=some o)->
   Q (.ref s.heap.objs.size) { s with heap:=h',toks:=tk }) :
  wpAny (model prog w) A (call (.type "set") [.ref l]) Q E s:=by
 obtain⟨c0,tl0,mro0⟩:=F.called_set.mro
 have made0:=F.called_set.made
 have sub0:=F.called_set.sub
 refine wpAny_call (codeAny_of_tree ?_)
 show wpAny _ _ (callAny (.type "set") _) _ _ _
 refine wpAny_pure ⟨Code.quiet_builtin _ (by decide +kernel),codeAny_builtin F.entry_type_call ?_⟩
 rw[Around.under_plain (weight_type_call_type "set" [.ref l] []) rfl]
 have nt:=F.called_set.notType
 have cc:=F.called_set.canCreate
 have tc:=F.typeCall_set_1 (.ref l)
 repeat (any_goals (first | assumption | wp_step))
 refine codeAny_mono (J4 (.ref l) (E:=E) (Q:=λ v s1=>v=.ref s.heap.objs.size/\s1={ s with heap:=s.heap.push (hW w) }) ⟨rfl,rfl⟩) λ r s1 hr=>?_
 cases r with
 | error e=>exact hr
 | ok fl=>
  cases fl with
  | ret obj=>
   obtain⟨rfl,rfl⟩:=hr
   have gS:(s.heap.push (hW w)).get? s.heap.objs.size=some (hW w):=aag _ rfl
   have ty:Shared.TypeIs { s with heap:=s.heap.push (hW w) } (.ref s.heap.objs.size) "set" := ⟨_,gS,rfl⟩
   have il:=F.called_set.init.lookup
   have ib:=F.called_set.init.bind (.ref s.heap.objs.size)
   repeat (any_goals (first | assumption | wp_step))
   refine codeAny_mono (codeAny_call_builtin (R:=wants (λ r s2=>r=.none/\∃ h' tk,s2={ s with heap:=h',toks:=tk }/\kF prog w (!w.params.followText "set-order") h' s.heap.objs.size (dd (λ i=>ns.getD i 0) items.size)/\
     (∀ c o,c < s.heap.objs.size->s.heap.get? c=some o->h'.get? c=some o)) E) F.called_set.init.plain F.entry_set_init (check_set_init_1 ty ?_)) λ r2 s2 hr2=>?_
   ·obtain⟨ol,hol,cl,nl,dl⟩:=hl
    obtain⟨ocls,odict,odata,oslots⟩:=ol
    simp only at cl dl
    subst cl dl
    have hol1:(s.heap.push (hW w)).get? l=some { cls:=.type "list",dict:=odict,data:=.seq items nl,slots:=oslots }:=aab _ hol
    have s1:=F.sub_list_set
    have s2:=F.sub_list_frozenset
    have ne:(Value.type "list" == Value.type "dict")=false:=by decide
    have hl1:(s.heap.push (hW w)).IsList l items:=⟨_,hol1,rfl,nl,rfl⟩
    unfold Builtin.«set.__init__» noKeywords Builtin.Frozenset.updateFrom
    generalize hPI:pyIter=PI
    wp_walk
    subst hPI
    refine wpAny_pyIter_list hl1 (wpAny_bind (wpAny_runValue ?_))
    have ll:l < s.heap.objs.size:=aan hol
    have h3:A.in1.in1.in1.handled=none:=by simp [hh]
    have zz:(s.heap.push (hW w)).objs.size=s.heap.objs.size+1:=abo _ _
    have neI:l≠(s.heap.push (hW w)).objs.size:=by rw[zz];exact aay (Nat.lt_succ_of_lt ll)
    have offS:s.heap.objs.size∉[(s.heap.push (hW w)).objs.size,l]:=by
     rw[zz];simp only [List.mem_cons,aaq,List.not_mem_nil,or_false,not_or]
     exact⟨aay (Nat.lt_succ_self _),Nat.ne_of_gt ll⟩
    refine EI ((Walks.list h3 _ l neI items).toS) s.heap.objs.size offS (λ i=>ns.getD i 0) (λ i v hv=>IntsAre.int_at hi i v (by rw[abn];exact hv)) small (items.size - 0) 0 _ (by omega) (Nat.zero_le _)
     ⟨⟨_,aag _ rfl,rfl,rfl⟩,hl1.push _⟩ ⟨_,#[],0,_,aab _ gS,⟨rfl,rfl,rfl⟩,rfl,DJ⟩ ?_
    intro s4 mv hS4
    obtain⟨h4,g4,d4,tk4,os4⟩:=s4
    obtain rfl:g4=s.gens:=mv.gens
    obtain rfl:d4=s.drawn:=mv.drawn
    obtain rfl:os4=s.os:=mv.os
    show wpAny _ _ _ _ _ _
    refine wpAny_pure ?_
    show wpAny _ _ (ret Value.none) _ _ _
    refine wpAny_pure ⟨rfl,h4,tk4,rfl,hS4,λ c o hc e=>?_⟩
    exact mv.heap c o (by
     simp only [List.mem_cons,aaq,List.not_mem_nil,or_false,not_or]
     exact⟨aay hc,by rw[zz];exact aay (Nat.lt_succ_of_lt hc)⟩) (aab _ (aab _ e))
   ·cases r2 with
    | error e=>exact hr2
    | ok fl2=>
     cases fl2 with
     | ret r=>
      obtain⟨rfl,h',tk,rfl,hS2,hk2⟩:=hr2
      repeat (any_goals (first | assumption | wp_step))
      exact k _ _ hS2 hk2
     | _=>exact hr2.elim
  | _=>exact hr.elim
end
end TwS
namespace TwS
open PySem PySem.Spec PyProof.Rows
theorem eX:Slot "set_iterator" "__next__" "set_iterator.__next__" :=
 .of (owner := "set_iterator") (n := "__next__") (by rw[typeLookup_type,builtinLookup_eq_fast];kernel_rfl) (by decide +kernel) (by decide +kernel) (by decide +kernel)
  (by first | exact .inl (by decide +kernel) | exact .inr (by decide +kernel)) (by rw[isSubtype_type];kernel_rfl)
theorem sO:entryFor table "set_iterator.__next__" = some Builtin.«set_iterator.__next__»:=entryFor_of_fast (by kernel_rfl)
theorem vW (a:Value):argsOk "set_iterator.__next__" ⟨[a],[]⟩:=by unfold argsOk;kernel_rfl
theorem kW:Slot "set" "__iter__" "set.__iter__" :=
 .of (owner := "set") (n := "__iter__") (by rw[typeLookup_type,builtinLookup_eq_fast];kernel_rfl) (by decide +kernel) (by decide +kernel) (by decide +kernel)
  (by first | exact .inl (by decide +kernel) | exact .inr (by decide +kernel)) (by rw[isSubtype_type];kernel_rfl)
theorem rX:entryFor table "set.__iter__" = some Builtin.«frozenset.__iter__»:=entryFor_alias (id' := "frozenset.__iter__") (by kernel_rfl) rfl (by decide +kernel) (by kernel_rfl)
theorem mF:Slot "set_iterator" "__iter__" "set_iterator.__iter__" :=
 .of (owner := "set_iterator") (n := "__iter__") (by rw[typeLookup_type,builtinLookup_eq_fast];kernel_rfl) (by decide +kernel) (by decide +kernel) (by decide +kernel)
  (by first | exact .inl (by decide +kernel) | exact .inr (by decide +kernel)) (by rw[isSubtype_type];kernel_rfl)
theorem sP:entryFor table "set_iterator.__iter__" = some Builtin.«dict_keyiterator.__iter__»:=entryFor_alias (id' := "dict_keyiterator.__iter__") (by kernel_rfl) rfl (by decide +kernel) (by kernel_rfl)
theorem vX (a:Value):argsOk "set_iterator.__iter__" ⟨[a],[]⟩:=by unfold argsOk;kernel_rfl
theorem sR (a:Value):argsOk "set.__iter__" ⟨[a],[]⟩:=by unfold argsOk;kernel_rfl
noncomputable abbrev GB (f:Value) (i:Nat) (S:Addr) (n ep:Nat):Obj:={ cls:=.type "set_iterator",data:=.fields #[f,rawInt (i:Int),.ref S,rawInt (n:Int),rawInt (ep:Int)] }
section
variable {prog:Program}{w:World}{A:Around}{E:Value->Shared->Prop}{s:Shared}{I S:Addr}{o:Obj}{es:Array (Int×Value)}{ep i:Nat}{t:SetTable}
theorem wE {Q:Fin->Shared->Prop} (hh:A.handled=none) (hE:∀ h' e,(∀ c q,s.heap.get? c=some q->h'.get? c=some q)->(∃ q,h'.get? e=some q/\q.cls=.type "StopIteration")->E (.ref e) { s with heap:=h' }) :
  wpAny (model prog w) A (newExc (.type "StopIteration") [] >>= λ x=>raiseNew x) Q E s:=by
 refine wpAny_bind ?_
 simp only [newExc,newTuple]
 refine wpAny_bind (wpAny_newObj_type ?_ (by size_fits))
 refine wpAny_bind (m:=firstArgMember _ _) (wpAny_of_eq (a:=Value.none) (by first | rfl | (simp only [firstArgMember];rfl)) (wpAny_newObj_type ?_ (by size_fits)))
 simp only [raiseNew]
 refine wpAny_bind (wpAny_handled ?_)
 rw[hh]
 exact wpAny_bind (wpAny_pure (wpAny_throw (hE _ _ (λ c q e=>aab _ (aab _ e)) ⟨_,aag _ rfl,rfl⟩)))
theorem gE {f:Value}{n:Nat}{Q:Option Value->Shared->Prop} (hI:s.heap.get? I=some (GB f i S n ep))
  (h:wpAny (model prog w) A.in1 (Builtin.«set_iterator.__next__» ⟨[.ref I],[]⟩) (λ fin s'=>∃ v,fin=.done (.ret v)/\Q (some v) s') (λ e s'=>(∃ a q,e=.ref a/\s'.heap.get? a=some q/\q.cls=.type "StopIteration")/\Q none s') s) :
  wpAny (model prog w) A (pyNext (.ref I)) Q E s:=by
 have ty:s.TypeIs (.ref I) "set_iterator" := ⟨_,hI,rfl⟩
 unfold pyNext
 refine wpAny_bind (wpAny_attempt (wpAny_callSpecial?_slot (name:=Str.ofString "__next__") ty eX
  (wpAny_call_entry eX ty sO (wpAny_mono h (λ fin s' z=>?_) λ e s' z=>?_) (vW _))))
 ·obtain⟨v,rfl,q⟩:=z
  exact⟨v,rfl,wpAny_pure q⟩
 ·obtain⟨⟨a,q,rfl,ho,hc⟩,z⟩:=z
  exact wpAny_bind (wpAny_isInstance (T := "StopIteration") (b:=true) ⟨q,ho,hc⟩ isSubtype_stop (wpAny_pure z))
theorem nU {f:Value}{n:Nat}{Q:Value->Shared->Prop} (hI:s.heap.get? I=some (GB f i S n ep)) (k:Q (.ref I) s):wpAny (model prog w) A (pyIter (.ref I)) Q E s:=by
 have ty:s.TypeIs (.ref I) "set_iterator" := ⟨_,hI,rfl⟩
 refine wpAny_pyIter_slot ty mF (wpAny_call_entry mF ty sP ?_ (vX _))
 show wpAny _ _ (ret (.ref I)) _ _ s
 exact wpAny_pure ⟨_,rfl,"set_iterator",_,ty,eX.lookup,k⟩
theorem xH {slot nx:Nat}{x:Value}{Q:Fin->Shared->Prop} (hI:s.heap.get? I=some (GB (rawInt (slot:Int)) i S es.size ep)) (g:s.heap.get? S=some o) (d:o.data=.set es ep t) (ft:t.fits es.size=true)
  (hn:∀ (R:Option (Value×Nat)->Shared->Prop),R (some (x,nx)) s->wpAny (model prog w) A (setNext S slot i ep) R E s)
  (k:∀ h',h'.get? I=some (GB (rawInt (nx:Int)) (i+1) S es.size ep)->Heap.SameBut I s.heap h'->Q (.done (.ret x)) { s with heap:=h' }) :
  wpAny (model prog w) A (Builtin.«set_iterator.__next__» ⟨[.ref I],[]⟩) Q E s:=by
 show wpAny _ _ (fieldsOf (.ref I) >>= _) _ _ s
 refine wpAny_bind (wpAny_fieldsOf hI rfl ?_)
 show wpAny _ _ (setEntries S >>= _) _ _ s
 unfold setEntries
 refine wpAny_bind (wpAny_bind (wpAny_setState_of g d ft (wpAny_pure ?_)))
 dsimp only
 rw[if_neg (by simp)]
 show wpAny _ _ (setNext S (slot:Int).toNat (i:Int).toNat (ep:Int).toNat >>= _) _ _ s
 rw[aav,aav,aav]
 refine wpAny_bind (hn _ ?_)
 refine wpAny_bind (wpAny_setField_rec hI (by simp) λ h1 g1 b1=>?_)
 refine wpAny_bind (wpAny_setField_rec (s:={ s with heap:=h1 }) g1 (by simp) λ h2 g2 b2=>?_)
 exact wpAny_pure (k h2 (by simp at g2;exact g2) (b1.trans b2))
theorem BL {slot:Nat}{Q:Fin->Shared->Prop} (hh:A.handled=none) (hI:s.heap.get? I=some (GB (rawInt (slot:Int)) i S es.size ep)) (g:s.heap.get? S=some o) (d:o.data=.set es ep t) (ft:t.fits es.size=true)
  (hn:∀ (R:Option (Value×Nat)->Shared->Prop),R none s->wpAny (model prog w) A (setNext S slot i ep) R E s)
  (hE:∀ h' e,(∀ c q,c≠I->s.heap.get? c=some q->h'.get? c=some q)->(∃ q,h'.get? e=some q/\q.cls=.type "StopIteration")->E (.ref e) { s with heap:=h' }) :
  wpAny (model prog w) A (Builtin.«set_iterator.__next__» ⟨[.ref I],[]⟩) Q E s:=by
 show wpAny _ _ (fieldsOf (.ref I) >>= _) _ _ s
 refine wpAny_bind (wpAny_fieldsOf hI rfl ?_)
 show wpAny _ _ (setEntries S >>= _) _ _ s
 unfold setEntries
 refine wpAny_bind (wpAny_bind (wpAny_setState_of g d ft (wpAny_pure ?_)))
 dsimp only
 rw[if_neg (by simp)]
 show wpAny _ _ (setNext S (slot:Int).toNat (i:Int).toNat (ep:Int).toNat >>= _) _ _ s
 rw[aav,aav,aav]
 refine wpAny_bind (hn _ ?_)
 refine wpAny_bind (wpAny_setField_rec hI (by simp) λ h1 g1 b1=>?_)
 exact wE (s:={ s with heap:=h1 }) hh λ h' e kp st=>hE h' e (λ c q hc z=>kp c q (by rw[b1.2 c hc];exact z)) st
theorem zK {T:Addr}{ps:Array Value}{m p:Nat}{tk:Tok}{hx:Int}{x:Value}{Q:Fin->Shared->Prop} (hI:s.heap.get? I=some (GB (.ref T) i S es.size ep)) (g:s.heap.get? S=some o) (d:o.data=.set es ep t) (ft:t.fits es.size=true)
  (hT:s.heap.get? T=some { cls:=.type "tuple",data:=.seq ps m }) (hp:ps[i]? = some (.int (p:Int) tk)) (hx:es[p]? = some (hx,x))
  (k:∀ h',h'.get? I=some (GB (.ref T) (i+1) S es.size ep)->Heap.SameBut I s.heap h'->Q (.done (.ret x)) { s with heap:=h' }) :
  wpAny (model prog w) A (Builtin.«set_iterator.__next__» ⟨[.ref I],[]⟩) Q E s:=by
 show wpAny _ _ (fieldsOf (.ref I) >>= _) _ _ s
 refine wpAny_bind (wpAny_fieldsOf hI rfl ?_)
 show wpAny _ _ (setEntries S >>= _) _ _ s
 unfold setEntries
 refine wpAny_bind (wpAny_bind (wpAny_setState_of g d ft (wpAny_pure ?_)))
 dsimp only
 rw[if_neg (by simp)]
 show wpAny _ _ (seqItems? (.ref T) >>= _) _ _ s
 refine wpAny_bind (wpAny_seqItems hT rfl ?_)
 dsimp only
 rw[aav,hp]
 dsimp only
 unfold setNextDrawn
 refine wpAny_bind (wpAny_bind (wpAny_setState_of g d ft ?_))
 dsimp only
 rw[aav,aav,if_neg (by simp),hx]
 refine wpAny_pure (wpAny_bind (wpAny_setField_rec hI (by simp) λ h1 g1 b1=>?_))
 exact wpAny_pure (k h1 (by simp at g1;exact g1) b1)
theorem DM {T:Addr}{ps:Array Value}{m:Nat}{Q:Fin->Shared->Prop} (hh:A.handled=none) (hI:s.heap.get? I=some (GB (.ref T) i S es.size ep)) (g:s.heap.get? S=some o) (d:o.data=.set es ep t) (ft:t.fits es.size=true)
  (hT:s.heap.get? T=some { cls:=.type "tuple",data:=.seq ps m }) (hp:ps[i]? = none)
  (hE:∀ h' e,(∀ c q,c≠I->s.heap.get? c=some q->h'.get? c=some q)->(∃ q,h'.get? e=some q/\q.cls=.type "StopIteration")->E (.ref e) { s with heap:=h' }) :
  wpAny (model prog w) A (Builtin.«set_iterator.__next__» ⟨[.ref I],[]⟩) Q E s:=by
 show wpAny _ _ (fieldsOf (.ref I) >>= _) _ _ s
 refine wpAny_bind (wpAny_fieldsOf hI rfl ?_)
 show wpAny _ _ (setEntries S >>= _) _ _ s
 unfold setEntries
 refine wpAny_bind (wpAny_bind (wpAny_setState_of g d ft (wpAny_pure ?_)))
 dsimp only
 rw[if_neg (by simp)]
 show wpAny _ _ (seqItems? (.ref T) >>= _) _ _ s
 refine wpAny_bind (wpAny_seqItems hT rfl ?_)
 dsimp only
 rw[aav,hp]
 dsimp only
 refine wpAny_bind (wpAny_setField_rec hI (by simp) λ h1 g1 b1=>?_)
 refine wpAny_bind (wpAny_setField_rec (s:={ s with heap:=h1 }) g1 (by simp) λ h2 g2 b2=>?_)
 exact wE (s:={ s with heap:=h2 }) hh λ h' e kp st=>hE h' e (λ c q hc z=>kp c q (by rw[b2.2 c hc,b1.2 c hc];exact z)) st
theorem mG {slot:Nat}{R:Option (Value×Nat)->Shared->Prop} (tx:w.params.followText "set-order" = true) (g:s.heap.get? S=some o) (d:o.data=.set es ep t) (ft:t.fits es.size=true)
  (k:R (((pickOrder (w.params.setOrder S ep) es)[i]?).map λ e=>(e.2,slot)) s):wpAny (model prog w) A (setNext S slot i ep) R E s:=by
 unfold setNext
 refine wpAny_bind (wpAny_setState_of g d ft ?_)
 dsimp only
 refine wpAny_bind (wpAny_bind (wpAny_askSetting (wpAny_pure ?_)))
 rw[show (Setting.mk (model prog w).prog (model prog w).w.params).params.followText "set-order" = true from tx,if_pos rfl,if_neg (by simp)]
 unfold setWalk
 refine wpAny_bind (wpAny_bind (wpAny_setState_of g d ft ?_))
 dsimp only
 refine wpAny_bind (wpAny_bind (wpAny_askSetting (wpAny_pure ?_)))
 rw[show (Setting.mk (model prog w).prog (model prog w).w.params).params.followText "set-order" = true from tx,if_pos rfl]
 exact wpAny_bind (wpAny_askSetting (wpAny_pure (wpAny_pure k)))
theorem kX {slot:Nat}{R:Option (Value×Nat)->Shared->Prop} (tx:w.params.followText "set-order" = false) (g:s.heap.get? S=some o) (d:o.data=.set es ep t) (ft:t.fits es.size=true) (pl:t.plain=true\/es.size<=1) (ld:t.led=true)
  (k:R (match es[SetTable.below t.place slot]?,t.place[SetTable.below t.place slot]? with | some (_,x),some j=>some (x,j+1) | _,_=>none) s):wpAny (model prog w) A (setNext S slot i ep) R E s:=by
 unfold setNext
 refine wpAny_bind (wpAny_setState_of g d ft ?_)
 dsimp only
 refine wpAny_bind (wpAny_bind (wpAny_askSetting (wpAny_pure ?_)))
 rw[show (Setting.mk (model prog w).prog (model prog w).w.params).params.followText "set-order" = false from tx,if_neg (by simp)]
 have nd:¬ ((!t.plain && decide (es.size > 1))=true):=by
  rcases pl with z | z
  ·rw[z];simp
  ·rw[decide_eq_false (by omega)];simp
 show wpAny _ _ (if (!t.plain && decide (es.size > 1))=true then _ else _) _ _ s
 rw[if_neg nd]
 refine wpAny_bind ?_
 show wpAny _ _ (if (!t.led && !es.isEmpty)=true then _ else _) _ _ s
 rw[ld,if_neg (by simp)]
 exact wpAny_pure (wpAny_pure k)
end
end TwS
namespace TwS
open PySem PySem.Spec PyProof.Rows
theorem fN {ar:Type}:∀ {l:List ar}{i:Nat}{x:ar},l[i]? = some x->(x::l.eraseIdx i).Perm l
 | [],_,_,h=>by cases h
 | y::l,0,x,h=>by cases h;exact List.Perm.refl _
 | y::l,i+1,x,h=>by
  have ih:=fN (l:=l) (i:=i) (x:=x) h
  exact (List.Perm.swap y x _).trans (ih.cons y)
theorem AW {ar:Type} (next:Nat->Nat):∀ (fuel k:Nat) (left:List ar) (out:Array ar),left.length=fuel->(pickOrder.go next fuel k left out).toList.Perm (out.toList++left)
 | 0,k,left,out,h=>by
  have:left=[]:=List.eq_nil_of_length_eq_zero h
  subst this
  show out.toList.Perm _
  rw[ack]
 | fuel+1,k,left,out,h=>by
  have hm:next k % left.length < left.length:=Nat.mod_lt _ (by omega)
  have e:left[next k % left.length]? = some left[next k % left.length]:=aaf hm
  show (match left[next k % left.length]? with | some x=>pickOrder.go next fuel (k+1) (left.eraseIdx (next k % left.length)) (out.push x) | none=>out).toList.Perm _
  rw[e]
  refine (AW next fuel (k+1) _ _ (by rw[List.length_eraseIdx,if_pos hm];omega)).trans ?_
  rw[Array.toList_push,ach]
  exact (fN e).append_left _
theorem nV {ar:Type} (next:Nat->Nat) (xs:Array ar):(pickOrder next xs).toList.Perm xs.toList:=by
 have:=AW next xs.size 0 xs.toList #[] (abd)
 simpa [pickOrder] using this
section
variable {prog:Program}{w:World}{A:Around}{E:Value->Shared->Prop}
theorem A2 {src:Source}{n:Nat}{s:Shared}{R:Nat->Shared->Prop} (hn:n≠0) (k:∀ i d,i < n->R i { s with drawn:=d }):wpAny (model prog w) A (choose src n) R E s:=λ Γ p _=>by
 unfold choose
 rw[Sem.wp_choose]
 refine⟨hn,?_⟩
 rw[Sem.wp_pure]
 exact k _ _ (Nat.mod_lt _ (Nat.pos_of_ne_zero hn))
theorem xS {ar:Type}:∀ (n:Nat) (xs:List ar) (s:Shared) (R:List ar->Shared->Prop),xs.length=n->(∀ ys d,ys.Perm xs->R ys { s with drawn:=d })->wpAny (model prog w) A (drawOrder n xs) R E s
 | 0,xs,s,R,h,k=>by
  have:xs=[]:=List.eq_nil_of_length_eq_zero h
  subst this
  exact wpAny_pure (k [] s.drawn (List.Perm.refl _))
 | n+1,[],s,R,h,k=>by cases h
 | n+1,x::xs,s,R,h,k=>by
  unfold drawOrder
  refine wpAny_bind (A2 (by simp) λ i d hi=>?_)
  have e:(x::xs)[i]? = some (x::xs)[i]:=aaf hi
  rw[e]
  refine wpAny_bind (xS n _ _ _ (by rw[List.length_eraseIdx,if_pos hi];omega) λ ys d2 p=>?_)
  exact wpAny_pure (k _ _ ((p.cons _).trans (fN e)))
end
theorem BC:∀ (vs:List Value),(∀ v∈vs,∃ i t,v=.int i t)->IntsAre vs (vs.map xO)
 | [],_=>.nil
 | v::vs,h=>by
  obtain⟨i,t,rfl⟩:=h v aas
  exact .cons i t (BC vs λ v hv=>h v (aam _ hv))
theorem gF {P:Nat->Value->Prop}{acc:Array Value}{vs:List Value} (h:ItemsOf P acc vs.length) (hP:∀ j v,P j v->vs[j]? = some v):acc.toList=vs:=by
 apply List.ext_getElem?
 intro j
 rcases Nat.lt_or_ge j acc.size with hj | hj
 ·have e:acc[j]? = some acc[j]:=abg hj
  rw[abn,e,hP j _ (h.2 j _ e)]
 ·rw[acd (by rw[abd];exact hj),acd (by rw[<- h.1];exact hj)]
section
variable {prog:Program}{w:World}{S I T:Addr}{o:Obj}{es:Array (Int×Value)}{ep:Nat}{t:SetTable}{L:List Int}
theorem yD {b:Bool}{vs:List Value}{es':List (Int×Value)} (c:Cnt prog w b L es t) (hp:es'.Perm es.toList) (e:vs=es'.map (·.2)):IntsAre vs (vs.map xO)/\(vs.map xO).Perm L:=by
 subst e
 refine⟨BC _ λ v hv=>?_,?_⟩
 ·obtain⟨x,hx,rfl⟩:=aaz.1 hv
  exact GX c.el (hp.mem_iff.1 hx)
 ·rw[abv]
  exact (hp.map _).trans c.pm
noncomputable def yU (pl:Array Nat):Nat->Nat
 | 0=>0
 | i+1=>pl.getD i 0+1
theorem qH {pl:Array Nat} (h:Up pl):∀ i,i<=pl.size->SetTable.below pl (yU pl i)=i
 | 0,_=>JM h
 | i+1,hi=>by
  have e:pl[i]? = some (pl.getD i 0):=by rw[Array.getD_eq_getD_getElem?,abg (by omega)];rfl
  exact A3 h e
theorem BZ {A:Around} (hh:A.handled=none) (tx:w.params.followText "set-order" = true) (d:o.data=.set es ep t) (ft:t.fits es.size=true) (ne:S≠I) :
  Walks prog w A I [I,S] [I] es.size (λ i v=>((pickOrder (w.params.setOrder S ep) es).toList.map (·.2))[i]? = some v) (λ i h=>h.get? I=some (GB (rawInt ((0:Nat):Int)) i S es.size ep)/\h.get? S=some o) where
 sub:=λ c hc=>by simp at hc;simp [hc]
 frame:=λ _ _ _ st k=>⟨k I (by simp) _ st.1,k S (by simp) _ st.2⟩
 item:=λ i s Q E hi st k=>by
  have ln:(pickOrder (w.params.setOrder S ep) es).size=es.size:=by rw[<- abd,(nV _ es).length_eq,abd]
  have e:(pickOrder (w.params.setOrder S ep) es)[i]? = some ((pickOrder (w.params.setOrder S ep) es)[i]'(by omega)):=abg _
  refine gE st.1 (xH (x:=((pickOrder (w.params.setOrder S ep) es)[i]'(by omega)).2) (nx:=0) st.1 st.2 d ft (λ R r=>mG tx st.2 d ft (by rw[e];exact r)) λ h' g b=>⟨_,rfl,?_⟩)
  refine k _ h' s.toks ?_ ⟨g,by rw[b.2 S ne];exact st.2⟩ λ c q hc z=>by rw[b.2 c (λ y=>hc (by simp [y]))];exact z
  rw[aah,abn,e];rfl
 done:=λ s Q E st k=>by
  have ln:(pickOrder (w.params.setOrder S ep) es).size=es.size:=by rw[<- abd,(nV _ es).length_eq,abd]
  have e:(pickOrder (w.params.setOrder S ep) es)[es.size]? = none:=Array.getElem?_eq_none (by omega)
  refine gE st.1 (BL hh st.1 st.2 d ft (λ R r=>mG tx st.2 d ft (by rw[e];exact r)) λ h' x kp sp=>⟨?_,k h' s.toks λ c q hc z=>kp c q (λ y=>hc (by simp [y])) z⟩)
  obtain⟨q,e1,e2⟩:=sp
  exact⟨_,q,rfl,e1,e2⟩
 self:=λ i s Q E st k=>nU st.1 k
theorem yE {A:Around} (hh:A.handled=none) (tx:w.params.followText "set-order" = false) (d:o.data=.set es ep t) (ft:t.fits es.size=true) (pl:t.plain=true\/es.size<=1) (td:Tidy true t) (ne:S≠I) :
  Walks prog w A I [I,S] [I] es.size (λ i v=>(es.toList.map (·.2))[i]? = some v) (λ i h=>h.get? I=some (GB (rawInt ((yU t.place i:Nat):Int)) i S es.size ep)/\h.get? S=some o) where
 sub:=λ c hc=>by simp at hc;simp [hc]
 frame:=λ _ _ _ st k=>⟨k I (by simp) _ st.1,k S (by simp) _ st.2⟩
 item:=λ i s Q E hi st k=>by
  have psz:t.place.size=es.size:=by
   simp only [SetTable.fits,Bool.and_eq_true,beq_iff_eq] at ft
   exact ft.1
  have e1:es[i]? = some es[i]:=abg hi
  have e2:t.place[i]? = some (t.place.getD i 0):=by rw[Array.getD_eq_getD_getElem?,abg (by omega)];rfl
  have sb:=qH td.up i (by omega)
  refine gE st.1 (xH (x:=es[i].2) (nx:=yU t.place (i+1)) st.1 st.2 d ft (λ R r=>kX tx st.2 d ft pl td.led (by rw[sb,e1,e2];exact r)) λ h' g b=>⟨_,rfl,?_⟩)
  refine k _ h' s.toks ?_ ⟨g,by rw[b.2 S ne];exact st.2⟩ λ c q hc z=>by rw[b.2 c (λ y=>hc (by simp [y]))];exact z
  rw[aah,abn,e1];rfl
 done:=λ s Q E st k=>by
  have psz:t.place.size=es.size:=by
   simp only [SetTable.fits,Bool.and_eq_true,beq_iff_eq] at ft
   exact ft.1
  have e1:es[es.size]? = none:=Array.getElem?_eq_none (Nat.le_refl _)
  have sb:=qH td.up es.size (by omega)
  refine gE st.1 (BL hh st.1 st.2 d ft (λ R r=>kX tx st.2 d ft pl td.led (by rw[sb,e1];exact r)) λ h' x kp sp=>⟨?_,k h' s.toks λ c q hc z=>kp c q (λ y=>hc (by simp [y])) z⟩)
  obtain⟨q,e1,e2⟩:=sp
  exact⟨_,q,rfl,e1,e2⟩
 self:=λ i s Q E st k=>nU st.1 k
theorem GV {ar cg:Type}{f:ar->Option cg}:∀ (l:List ar) (j:Nat),(∀ p∈l,∃ y,f p=some y)->(l.filterMap f)[j]? = l[j]?.bind f
 | [],j,_=>by simp
 | p::l,j,h=>by
  obtain⟨y,hy⟩:=h p aas
  rw[List.filterMap_cons_some hy]
  cases j with
  | zero=>simp [hy]
  | succ j=>simpa using GV l j λ q hq=>h q (aam _ hq)
theorem yF {A:Around} (hh:A.handled=none) (d:o.data=.set es ep t) (ft:t.fits es.size=true) {ord:List Nat}{m:Nat} (hord:ord.Perm (List.range es.size)) (ne:S≠I) (neT:T≠I) :
  Walks prog w A I [I,S,T] [I] es.size (λ i v=>((ord.filterMap λ p=>es[p]?).map (·.2))[i]? = some v)
   (λ i h=>h.get? I=some (GB (.ref T) i S es.size ep)/\h.get? S=some o/\h.get? T=some { cls:=.type "tuple",data:=.seq (ord.map λ (i:Nat)=>rawInt (i:Int)).toArray m }) where
 sub:=λ c hc=>by simp at hc;simp [hc]
 frame:=λ _ _ _ st k=>⟨k I (by simp) _ st.1,k S (by simp) _ st.2.1,k T (by simp) _ st.2.2⟩
 item:=λ i s Q E hi st k=>by
  have ln:ord.length=es.size:=by rw[hord.length_eq,acb]
  have all:∀ p∈ord,∃ y,es[p]? = some y:=λ p hp=>⟨_,abg (abk.1 (hord.mem_iff.1 hp))⟩
  have e0:ord[i]? = some (ord[i]'(by omega)):=aaf _
  obtain⟨y,hy⟩:=all _ (aaj e0)
  have e1:(ord.map λ (i:Nat)=>rawInt (i:Int)).toArray[i]? = some (.int (((ord[i]'(by omega)):Nat):Int) 0):=by
   rw[List.getElem?_toArray,aah,e0];rfl
  refine gE st.1 (zK (x:=y.2) st.1 st.2.1 d ft st.2.2 e1 (show es[ord[i]'(by omega)]? = some (y.1,y.2) from hy) λ h' g b=>⟨_,rfl,?_⟩)
  refine k _ h' s.toks ?_ ⟨g,by rw[b.2 S ne];exact st.2.1,by rw[b.2 T neT];exact st.2.2⟩ λ c q hc z=>by rw[b.2 c (λ y=>hc (by simp [y]))];exact z
  rw[aah,GV _ _ all,e0]
  show Option.map _ (es[ord[i]'(by omega)]?)=_
  rw[hy];rfl
 done:=λ s Q E st k=>by
  have ln:ord.length=es.size:=by rw[hord.length_eq,acb]
  have e1:(ord.map λ (i:Nat)=>rawInt (i:Int)).toArray[es.size]? = none:=by
   rw[List.getElem?_toArray,aah,acd (by omega)];rfl
  refine gE st.1 (DM hh st.1 st.2.1 d ft st.2.2 e1 λ h' x kp sp=>⟨?_,k h' s.toks λ c q hc z=>kp c q (λ y=>hc (by simp [y])) z⟩)
  obtain⟨q,e1,e2⟩:=sp
  exact⟨_,q,rfl,e1,e2⟩
 self:=λ i s Q E st k=>nU st.1 k
theorem EJ {A:Around}{E:Value->Shared->Prop}{s:Shared}{Q:Value->Shared->Prop} (hS:kF prog w (!w.params.followText "set-order") s.heap S L)
  (k:∀ (I:Addr) (h':Heap) (d':Drawn) (fp:List Addr) (P:Nat->Value->Prop) (St:Nat->Heap->Prop),(∀ A':Around,A'.handled=none->Walks prog w A' I fp [I] L.length P St)->St 0 h'->I∈fp->(∀ c∈fp,c=S\/s.heap.objs.size<=c)->
   s.heap.objs.size<=I->(∀ c q,s.heap.get? c=some q->h'.get? c=some q)->(∀ acc:Array Value,ItemsOf P acc L.length->∃ ms,IntsAre acc.toList ms/\ms.Perm L)->Q (.ref I) { s with heap:=h',drawn:=d' }) :
  wpAny (model prog w) A (pyIter (.ref S)) Q E s:=by
 obtain⟨o,es,ep,t,g,x,d,c⟩:=hS
 have ln:=B9 c
 rw[<- ln] at k
 have ty:s.TypeIs (.ref S) "set" := ⟨o,g,x.1⟩
 have sz:S < s.heap.objs.size:=aan g
 refine wpAny_pyIter_slot ty kW (wpAny_call_entry kW ty rX ?_ (sR _))
 show wpAny _ _ (Builtin.Frozenset.sizeOf S >>= _) _ _ s
 unfold Builtin.Frozenset.sizeOf setEntries
 refine wpAny_bind (wpAny_bind (wpAny_bind (wpAny_setState_of g d c.ft (wpAny_pure (wpAny_pure ?_)))))
 dsimp only
 unfold setDrawn
 refine wpAny_bind (wpAny_bind (wpAny_setState_of g d c.ft ?_))
 dsimp only
 refine wpAny_bind (wpAny_bind (wpAny_askSetting (wpAny_pure (wpAny_pure ?_))))
 show wpAny _ _ (if (!w.params.followText "set-order" && (!t.plain && decide (es.size > 1)))=true then _ else _) _ _ s
 by_cases cd:(!w.params.followText "set-order" && (!t.plain && decide (es.size > 1)))=true
 ·rw[if_pos cd]
  refine wpAny_bind (xS es.size _ _ _ (by rw[acb]) λ ord d' hord=>?_)
  refine wpAny_bind (wpAny_newTuple ?_ (by rw[aac,hord.length_eq,acb];exact fits_of_scanBound c.bd))
  unfold setEpoch
  refine wpAny_bind (wpAny_bind (wpAny_setState_of (aab _ g) d c.ft (wpAny_pure ?_)))
  refine wpAny_bind (wpAny_newObj_type (wpAny_pure ⟨_,rfl,"set_iterator",_,⟨_,aag _ rfl,rfl⟩,eX.lookup,?_⟩))
  have z1:(s.heap.push { cls:=.type "tuple",data:=.seq (ord.map λ (i:Nat)=>rawInt (i:Int)).toArray }).objs.size=s.heap.objs.size+1:=abo _ _
  refine k _ _ d' _ _ _ (λ A' hh=>yF hh d c.ft hord (T:=s.heap.objs.size) (aay (by rw[z1];exact Nat.lt_succ_of_lt sz)) (aay (by rw[z1];exact Nat.lt_succ_self _)))
   ⟨aag _ rfl,aab _ (aab _ g),aab _ (aag _ rfl)⟩ (by simp) (λ b hb=>?_) (by rw[z1];exact Nat.le_succ _) (λ b q e=>aab _ (aab _ e)) λ acc ha=>?_
  ·simp only [List.mem_cons,aaq,List.not_mem_nil,or_false] at hb
   rcases hb with rfl | rfl | rfl
   ·right;rw[z1];exact Nat.le_succ _
   ·exact .inl rfl
   ·exact .inr (Nat.le_refl _)
  ·have pm:(ord.filterMap λ p=>es[p]?).Perm es.toList:=(hord.filterMap _).trans (by rw[filterMap_getElem?_range])
   have hv:=yD c pm rfl
   rw[show es.size=((ord.filterMap λ p=>es[p]?).map (·.2)).length by rw[aac,pm.length_eq,abd]] at ha
   rw[gF ha λ j v h=>h]
   exact⟨_,hv⟩
 ·rw[if_neg cd]
  refine wpAny_bind (wpAny_pure ?_)
  unfold setEpoch
  refine wpAny_bind (wpAny_bind (wpAny_setState_of g d c.ft (wpAny_pure ?_)))
  refine wpAny_bind (wpAny_newObj_type (wpAny_pure ⟨_,rfl,"set_iterator",_,⟨_,aag _ rfl,rfl⟩,eX.lookup,?_⟩))
  have fr:∀ b∈[s.heap.objs.size,S],b=S\/s.heap.objs.size<=b:=λ b hb=>by
   simp only [List.mem_cons,aaq,List.not_mem_nil,or_false] at hb
   rcases hb with rfl | rfl
   ·exact .inr (Nat.le_refl _)
   ·exact .inl rfl
  cases tx:w.params.followText "set-order" with
  | true=>
   refine k s.heap.objs.size _ s.drawn _ _ _ (λ A' hh=>BZ hh tx d c.ft (aay sz)) ⟨aag _ rfl,aab _ g⟩ (by simp) fr (Nat.le_refl _) (λ b q e=>aab _ e) λ acc ha=>?_
   have pm:=nV (w.params.setOrder S ep) es
   have hv:=yD c pm rfl
   rw[show es.size=((pickOrder (w.params.setOrder S ep) es).toList.map (·.2)).length by rw[aac,pm.length_eq,abd]] at ha
   rw[gF ha λ j v h=>h]
   exact⟨_,hv⟩
  | false=>
   rw[tx] at cd c
   have pl:t.plain=true\/es.size<=1:=by
    cases hp:t.plain with
    | true=>exact .inl rfl
    | false=>
     rw[hp] at cd
     refine .inr (Nat.le_of_not_lt λ z=>cd ?_)
     simp [z]
   refine k s.heap.objs.size _ s.drawn _ _ _ (λ A' hh=>yE hh tx d c.ft pl c.td (aay sz)) ⟨aag _ rfl,aab _ g⟩ (by simp) fr (Nat.le_refl _) (λ b q e=>aab _ e) λ acc ha=>?_
   have hv:=yD c (List.Perm.refl _) rfl
   rw[show es.size=(es.toList.map (·.2)).length by rw[aac,abd]] at ha
   rw[gF ha λ j v h=>h]
   exact⟨_,hv⟩
end
end TwS
namespace TwS
open PySem PySem.Spec PyProof.Rows
theorem FW:typeLookup (.type "set") "__len__" = pure (some (.builtin "set.__len__")):=by rw[typeLookup_type,builtinLookup_eq_fast];kernel_rfl
theorem EH:isSubtype (.type "set") (.type "set")=pure true:=by rw[isSubtype_type];kernel_rfl
section
variable {prog:Program}{w:World}{A:Around}{E:Value->Shared->Prop}{s:Shared}{S:Addr}{L:List Int}
theorem GA {ar:Type}{M:Model}{c:Prop} [Decidable c] {x y:Sem ar}{Q:ar->Shared->Prop} (hc:c) (h:wpAny M A x Q E s):wpAny M A (if c then x else y) Q E s:=by rw[if_pos hc];exact h
theorem GH {Q:Bool->Shared->Prop} (ty:s.TypeIs (.ref S) "set") (k:Q false s):wpAny (model prog w) A (Builtin.List.listLengthHint (.ref S)) Q E s:=by
 unfold Builtin.List.listLengthHint
 refine wpAny_bind (wpAny_specialOf ty FW ?_)
 show wpAny _ _ (isInstance (.ref S) (.type "set") >>= _) _ _ s
 refine wpAny_bind (wpAny_isInstance ty EH ?_)
 rw[if_neg (by simp)]
 refine GA (by decide +kernel) ?_
 exact wpAny_bind (wpAny_typeOf ty (wpAny_pure k))
theorem xY {Q:List Value->Shared->Prop} (hh:A.handled=none) (hS:kF prog w (!w.params.followText "set-order") s.heap S L) (hL:L.length<=sizeLine)
  (k:∀ (h':Heap) (d':Drawn) (tk:Nat) (vs:List Value) (ms:List Int),IntsAre vs ms->ms.Perm L->(∀ c q,s.heap.get? c=some q->h'.get? c=some q)->s.heap.objs.size<=h'.objs.size->Q vs { s with heap:=h',drawn:=d',toks:=tk }) :
  wpAny (model prog w) A (collect (.ref S)) Q E s:=by
 obtain⟨o,_,_,_,g,x,_⟩:=id hS
 have sz:S < s.heap.objs.size:=aan g
 unfold collect
 refine wpAny_bind (wpAny_runValue (codeAny_builtin F.entry_proto_collect ?_))
 rw[Around.under_plainId F.plain_proto_collect _]
 show wpAny _ A.in1 (newList [] >>= λ l=>again (.builtin "list.__iadd__" ⟨[l,.ref S],[]⟩)) _ _ s
 refine wpAny_bind (wpAny_newObj_type (wpAny_pure ⟨plainId_quiet F.plain_list_iadd _,codeAny_builtin F.entry_list_iadd ?_⟩))
 rw[Around.under_plainId F.plain_list_iadd _]
 show wpAny _ A.in1 (Builtin.List.listExtendWith (.ref s.heap.objs.size) (.ref S) (.ref s.heap.objs.size)) _ _ { s with heap:=s.heap.push { cls:=.type "list",data:=.seq ([]:List Value).toArray } }
 have hl1:(s.heap.push { cls:=.type "list",data:=.seq ([]:List Value).toArray }).get? s.heap.objs.size=some { cls:=.type "list",data:=.seq ([]:List Value).toArray }:=aag _ rfl
 have kp1:∀ c q,s.heap.get? c=some q->(s.heap.push { cls:=.type "list",data:=.seq ([]:List Value).toArray }).get? c=some q:=λ c q e=>aab _ e
 have zz:(s.heap.push { cls:=.type "list",data:=.seq ([]:List Value).toArray }).objs.size=s.heap.objs.size+1:=abo _ _
 generalize s.heap.push { cls:=.type "list",data:=.seq ([]:List Value).toArray }=h1 at hl1 kp1 zz ⊢
 have hS1:kF prog w (!w.params.followText "set-order") h1 S L:=hS.at λ q e=>kp1 S q e
 unfold Builtin.List.listExtendWith
 refine wpAny_bind (wpAny_typeOf (T := "set") ⟨o,kp1 S o g,x.1⟩ ?_)
 have e1:Builtin.List.listSameRef (.ref s.heap.objs.size) (.ref S)=false:=by
  have:s.heap.objs.size≠S:=Nat.ne_of_gt sz
  simp [Builtin.List.listSameRef,this]
 have e2:(Value.type "set" == Value.type "list")=false:=by decide
 have e3:(Value.type "set" == Value.type "tuple")=false:=by decide
 simp only [e1,e2,e3,Bool.or_false,Bool.false_eq_true,if_false]
 refine wpAny_bind (EJ (s:={ s with heap:=h1 }) hS1 λ I h2 d2 fp P St Wk st0 hI hfp hIge kp2 yl=>?_)
 refine wpAny_bind (wpAny_holding (GH ⟨o,kp2 S o (kp1 S o g),x.1⟩ ?_))
 refine GA (by decide +kernel) ?_
 refine wpAny_bind (wpAny_rule (wpAny_bind ?_))
 show wpAny _ A.in1 (updateSeq s.heap.objs.size (·.push .none) >>= λ _=>updateSeq s.heap.objs.size (·.pop)) _ _ _
 have hl2:=kp2 _ _ hl1
 refine wpAny_bind (wpAny_updateSeq hl2 rfl ?_)
 have hl3:=acf (Obj.mapSeq (·.push Value.none)) hl2 rfl
 refine wpAny_updateSeq hl3 rfl ?_
 have hl4:=acf (Obj.mapSeq (·.pop)) hl3 rfl
 have kp4:∀ c q,c≠s.heap.objs.size->h2.get? c=some q->((h2.update s.heap.objs.size (Obj.mapSeq (·.push Value.none))).update s.heap.objs.size (Obj.mapSeq (·.pop))).get? c=some q:=
  λ c q hc e=>(acm _ _ (Ne.symm hc)).trans ((acm _ _ (Ne.symm hc)).trans e)
 have off:s.heap.objs.size∉fp:=λ z=>by
  rcases hfp _ z with e | e
  ·exact absurd e (Nat.ne_of_gt sz)
  ·rw[zz] at e;exact absurd e (Nat.not_succ_le_self _)
 have neI:∀ c,c < s.heap.objs.size->c≠I:=λ c hc e=>by
  rw[zz] at hIge
  exact absurd (aau (Nat.lt_succ_of_lt hc) hIge) (by rw[e];exact abx _)
 refine wpAny_pure ⟨plainId_quiet F.plain_extend_loop _,codeAny_extend_loopS ((Wk A.in1 hh).toS) hL _ off _ L.length 0 _ _ _ rfl (Nat.zero_le _)
  ((Wk A.in1 hh).frame 0 h2 _ st0 λ c hc q e=>kp4 c q (λ z=>off (z ▸ hc)) e) hl4 (ItemsOf.nil P) λ s5 acc n5 mv hl5 ha=>?_⟩
 obtain⟨h5,g5,d5,tk5,os5⟩:=s5
 obtain rfl:g5=s.gens:=mv.gens
 obtain rfl:d5=d2:=mv.drawn
 obtain rfl:os5=s.os:=mv.os
 show wpAny _ A (load s.heap.objs.size >>= _) _ _ _
 refine wpAny_bind (wpAny_load hl5 (wpAny_pure ?_))
 obtain⟨ms,i1,i2⟩:=yl acc ha
 have keep:∀ c q,s.heap.get? c=some q->h5.get? c=some q:=λ c q e=>by
  have hc:=aan e
  refine mv.heap c q ?_ (kp4 c q (aay hc) (kp2 c q (kp1 c q e)))
  simp only [List.mem_cons,aaq,List.not_mem_nil,or_false,not_or]
  exact⟨aay hc,neI c hc⟩
 refine k h5 _ tk5 _ ms i1 i2 keep ?_
 exact ace (aan hl5)
theorem yT {Q:Value->Shared->Prop} (hh:A.handled=none) (hS:kF prog w (!w.params.followText "set-order") s.heap S L) (h64:L.length < 64)
  (k:∀ (l:Addr) (h':Heap) (d':Drawn) (tk:Nat) (out:Array Value) (ms:List Int) (e:Nat),IntsAre out.toList ms->ms.Perm L->ms.Pairwise (·<=·)->s.heap.objs.size<=l->h'.get? l=some (seqObj "list" out e)->
   (∀ c q,s.heap.get? c=some q->h'.get? c=some q)->Q (.ref l) { s with heap:=h',drawn:=d',toks:=tk }) :
  wpAny (model prog w) A (call (.builtin "sorted") [.ref S]) Q E s:=by
 refine Calls.call_function_entry kind_sorted plain_sorted entry_sorted (args_sorted1 _) ?_
 unfold Builtin.«sorted»
 refine wpAny_bind (m:=checkCount "sorted" 1 1 _) (wpAny_pure ?_)
 refine wpAny_bind (xY hh hS (by rw[sizeLine_eq];omega) λ h1 d1 tk1 vs ns i1 i2 keep le=>?_)
 have hv:vs.length < 64:=by rw[IntsAre.length i1,i2.length_eq];exact h64
 refine wpAny_bind (wpAny_newList ?_)
 have hoL:(h1.push (seqObj "list" vs.toArray 0)).get? h1.objs.size=some (seqObj "list" vs.toArray 0):=aag _ rfl
 refine wpAny_bind (wpAny_holding (wpAny_call_entry slot_list_sort ⟨_,hoL,rfl⟩ entry_list_sort (list_sort_tree hoL i1 hv λ out ms a1 a2 a3=>⟨_,rfl,?_⟩) (args_list_sort _)))
 obtain⟨e,he⟩:=sortedHeap_at (vs:=vs) (out:=out) hoL
 refine wpAny_pure ⟨_,rfl,k h1.objs.size _ _ _ out ms e a1 (a2.trans i2) a3 le he λ c q hc=>?_⟩
 have hlt:=aan (keep c q hc)
 rw[sortedHeap_old (aay hlt) (by rw[size_push'];exact Nat.lt_succ_of_lt hlt)]
 exact aab _ (keep c q hc)
end
end TwS
namespace L2
open PySem PySem.Spec PyProof.Rows TwZ TwS
noncomputable def uN (P:Program) (w:World) (a:Addr) (L:List Int):HO:=.ext λ h=>kF P w (!w.params.followText "set-order") h a L
noncomputable def DP (ns:List Int):List Int:=dd (λ i=>ns.getD i 0) ns.length
theorem JJ {ns:List Int}{k:Int}:k∈DP ns↔k∈ns:=by
 unfold DP
 rw[HF]
 constructor
 ·rintro⟨i,hi,e⟩
  rw[aae,aaf hi] at e
  rw[<- e]
  exact abf hi
 ·intro h
  obtain⟨i,hi,e⟩:=List.mem_iff_getElem.1 h
  exact⟨i,hi,by rw[aae,aaf hi,e];rfl⟩
theorem DO (ns:List Int):(DP ns).Nodup:=xV _ _
theorem vP (ns:List Int):(DP ns).length<=ns.length:=A1 _ _
section
variable {X:Cx}{pins:List (Addr×Obj)}{σ:St}{H:Hp}{s:Shared}
theorem Inv.drew {d:Drawn} (I:Inv X pins σ H s):Inv X pins σ H { s with drawn:=d }:=⟨I.ok,I.os,I.bare,I.base,I.loc,I.cell,I.free,I.freeC,I.pin,I.hok,I.len⟩
noncomputable def MS (P:Program) (w:World) (K:aaa):List V->Hp->VK->Prop:=λ xs H Q=>∃ (p:Addr) (ns:List Int),xs=[.ref p]/\bO K H p (ns.map V.int)/\ns.length<=1000/\∀ a,H a=none->Q (.ref a) (upd H a (uN P w a (DP ns)))
theorem DV (hc:X.calm=true):eS X (.type "set") (MS X.prog X.w X.K):=by
 intro pins s σ H xs us Q I r h
 obtain⟨p,ns,rfl,hq,hn,q⟩:=h
 obtain⟨u,rfl,ru⟩:=r.one
 cases ru
 obtain⟨its,rv,p1,hz⟩:=I.list hq
 have ia:=rK rv
 have il:its.length=ns.length:=IntsAre.length ia
 refine HH (I.ok.hd hc) p1.isList (by simpa using ia) (by rw[aao,il];unfold scanBound;omega) λ h' tk hS hk=>?_
 rw[show its.toArray.size=ns.length by rw[aao,il]] at hS
 obtain⟨o,es,ep,t,g,r⟩:=id hS
 exact⟨.ref s.heap.objs.size,_,I.laid (λ b u e=>hk b u (aan e) e) (Nat.le_refl _) (show cN X.prog X.w _ h' _ (uN X.prog X.w s.heap.objs.size (DP ns)) from ⟨hS,⟨o,g⟩,λ h1 h2 x e=>x.at e⟩),rfl,q _ I.fresh⟩
noncomputable def MQ (P:Program) (w:World):List V->Hp->VK->Prop:=λ xs H Q=>∃ (a:Addr) (L:List Int),xs=[.ref a]/\H a=some (uN P w a L)/\L.length < 64/\∀ (l:Addr) (ms:List Int),H l=none->ms.Perm L->ms.Pairwise (·<=·)->Q (.ref l) (upd H l (.lst (ms.map V.int)))
theorem pO:∀ {vs:List Value}{ns:List Int},IntsAre vs ns->bG (ns.map V.int) vs
 | _,_,.nil=>.nil
 | _,_,.cons n t h=>.cons ⟨t,rfl⟩ (pO h)
theorem DU (hc:X.calm=true):eS X (.builtin "sorted") (MQ X.prog X.w):=by
 intro pins s σ H xs us Q I r h
 obtain⟨a,L,rfl,hq,hn,q⟩:=h
 obtain⟨u,rfl,ru⟩:=r.one
 cases ru
 obtain⟨hS,_,_⟩:kF X.prog X.w (!X.w.params.followText "set-order") s.heap a L/\_:=I.hok a _ hq
 refine yT (I.ok.hd hc) hS hn λ l h' d' tk out ms e i1 i2 i3 le hl keep=>?_
 refine⟨.ref l,upd H l (.lst (ms.map V.int)),(I.drew (d:=d')).laid keep le (show cN X.prog X.w _ h' _ (.lst (ms.map V.int)) from ⟨?_,out.toList,e,pO i1,by rw[Array.toArray_toList];exact hl⟩),rfl,q l ms (I.hok.fresh le) i2 i3⟩
 rw[aac,i2.length_eq,sizeLine_eq]
 omega
theorem oA {P:Program}{w:World}{K:aaa} (hP:X.prog=P) (hw:X.w=w) (hK:X.K=K) (hc:X.calm=true):eS X (.type "set") (MS P w K):=by
 subst hP hw hK
 exact DV hc
theorem o9 {P:Program}{w:World} (hP:X.prog=P) (hw:X.w=w) (hc:X.calm=true):eS X (.builtin "sorted") (MQ P w):=by
 subst hP hw
 exact DU hc
theorem oC:bootBuiltins "set" = some (.type "set"):=by decide +kernel
end
structure Rises (ns ms:List Int):Prop where
 up:ms.Pairwise (· < ·)
 mem:∀ k,k∈ms↔k∈ns
theorem qO {ns ms:List Int} (p:ms.Perm (DP ns)) (h:ms.Pairwise (·<=·)):Rises ns ms where
 up:=by
  have nd:ms.Nodup:=p.nodup_iff.2 (DO ns)
  exact (h.and nd).imp λ {a b} z=>by have:=z.1;have:=z.2;omega
 mem:=λ k=>by rw[p.mem_iff,JJ]
end L2
namespace Tw
open PySem L2
section
variable {P:Program}{w:World}{K:aaa}{mg:Str->Option Value}{base:Heap}
end
end Tw
namespace L2
open PySem PySem.Spec PyProof.Rows TwZ
mutual
noncomputable def eV (h:Heap):D->Value->Prop
 | .int i,v=>∃ t,v=.int i t
 | .bl b,v=>v=.bool b
 | .tup ds,v=>∃ a o items n,v=.ref a/\h.get? a=some o/\o.cls=.type "tuple" /\ o.data=.seq items n/\dW h ds items.toList
 | .non,_=>False
 | .str _,_=>False
noncomputable def dW (h:Heap):List D->List Value->Prop
 | [],vs=>vs=[]
 | d::ds,vs=>∃ v r,vs=v::r/\eV h d v/\dW h ds r
end
mutual
noncomputable def sh:D->D
 | .int _=>.int 0
 | .bl _=>.bl false
 | .tup ds=>.tup (mB ds)
 | d=>d
noncomputable def mB:List D->List D
 | []=>[]
 | d::ds=>sh d::mB ds
end
mutual
noncomputable def rM:D->Int
 | .int i=>hashInt i
 | .bl b=>hashInt (if b=true then 1 else 0)
 | .tup ds=>reduceHash (Builtin.Tuple.tupleHashOf (eF ds))
 | _=>0
noncomputable def eF:List D->List Int
 | []=>[]
 | d::ds=>rM d::eF ds
end
mutual
noncomputable def lS:D->Nat
 | .tup ds=>eA ds+1
 | _=>1
noncomputable def eA:List D->Nat
 | []=>0
 | d::ds=>lS d+eA ds
end
mutual
theorem eV.inj {h:Heap}:∀ {x y:D}{v:Value},sh x=sh y->eV h x v->eV h y v->x=y
 | .int i,.int j,v,_,hx,hy=>by
  rw[eV] at hx hy
  obtain⟨t,rfl⟩:=hx
  obtain⟨t',e⟩:=hy
  injection e with e _
  rw[e]
 | .bl i,.bl j,v,_,hx,hy=>by
  rw[eV] at hx hy
  subst hx
  injection hy with e
  rw[e]
 | .tup ds,.tup es,v,hs,hx,hy=>by
  rw[eV] at hx hy
  obtain⟨a,o,items,n,rfl,h1,h2,h3,l1⟩:=hx
  obtain⟨a',o',items',n',e,h1',h2',h3',l2⟩:=hy
  cases e
  rw[h1] at h1'
  cases h1'
  rw[h3] at h3'
  cases h3'
  rw[sh,sh] at hs
  injection hs with hs
  rw[dW.inj hs l1 l2]
 | .non,_,_,_,hx,_=>by rw[eV] at hx;exact hx.elim
 | .str _,_,_,_,hx,_=>by rw[eV] at hx;exact hx.elim
 | .int _,.bl _,_,hs,_,_=>by rw[sh,sh] at hs;cases hs
 | .int _,.tup _,_,hs,_,_=>by rw[sh,sh] at hs;cases hs
 | .int _,.non,_,_,_,hy=>by rw[eV] at hy;exact hy.elim
 | .int _,.str _,_,_,_,hy=>by rw[eV] at hy;exact hy.elim
 | .bl _,.int _,_,hs,_,_=>by rw[sh,sh] at hs;cases hs
 | .bl _,.tup _,_,hs,_,_=>by rw[sh,sh] at hs;cases hs
 | .bl _,.non,_,_,_,hy=>by rw[eV] at hy;exact hy.elim
 | .bl _,.str _,_,_,_,hy=>by rw[eV] at hy;exact hy.elim
 | .tup _,.int _,_,hs,_,_=>by rw[sh,sh] at hs;cases hs
 | .tup _,.bl _,_,hs,_,_=>by rw[sh,sh] at hs;cases hs
 | .tup _,.non,_,_,_,hy=>by rw[eV] at hy;exact hy.elim
 | .tup _,.str _,_,_,_,hy=>by rw[eV] at hy;exact hy.elim
theorem dW.inj {h:Heap}:∀ {x y:List D}{vs:List Value},mB x=mB y->dW h x vs->dW h y vs->x=y
 | [],[],_,_,_,_=>rfl
 | [],_::_,_,hs,_,_=>by rw[mB,mB] at hs;cases hs
 | _::_,[],_,hs,_,_=>by rw[mB,mB] at hs;cases hs
 | x::xs,y::ys,vs,hs,hx,hy=>by
  rw[dW] at hx hy
  obtain⟨v,r,rfl,h1,l1⟩:=hx
  obtain⟨v',r',e,h2,l2⟩:=hy
  cases e
  rw[mB,mB] at hs
  injection hs with e1 e2
  rw[eV.inj e1 h1 h2,dW.inj e2 l1 l2]
end
mutual
theorem eV.keeps {h h':Heap} (k:∀ a o items n,h.get? a=some o->o.data=.seq items n->h'.get? a=some o):∀ {x:D}{v:Value},eV h x v->eV h' x v
 | .int i,v,hx=>by rw[eV] at hx ⊢;exact hx
 | .bl i,v,hx=>by rw[eV] at hx ⊢;exact hx
 | .tup ds,v,hx=>by
  rw[eV] at hx ⊢
  obtain⟨a,o,items,n,e,h1,h2,h3,l1⟩:=hx
  exact⟨a,o,items,n,e,k a o items n h1 h3,h2,h3,dW.keeps k l1⟩
 | .non,_,hx=>by rw[eV] at hx;exact hx.elim
 | .str _,_,hx=>by rw[eV] at hx;exact hx.elim
theorem dW.keeps {h h':Heap} (k:∀ a o items n,h.get? a=some o->o.data=.seq items n->h'.get? a=some o):∀ {x:List D}{vs:List Value},dW h x vs->dW h' x vs
 | [],_,hx=>by rw[dW] at hx ⊢;exact hx
 | x::xs,vs,hx=>by
  rw[dW] at hx ⊢
  obtain⟨v,r,e,h1,l1⟩:=hx
  exact⟨v,r,e,eV.keeps k h1,dW.keeps k l1⟩
end
theorem dW.length {h:Heap}:∀ {x:List D}{vs:List Value},dW h x vs->vs.length=x.length
 | [],_,hx=>by rw[dW] at hx;subst hx;rfl
 | x::xs,vs,hx=>by
  rw[dW] at hx
  obtain⟨v,r,rfl,_,l⟩:=hx
  rw[aax,aax,dW.length l]
theorem dW.get {h:Heap}:∀ {x:List D}{vs:List Value}{j:Nat}{d:D}{v:Value},dW h x vs->x[j]? = some d->vs[j]? = some v->eV h d v
 | [],_,_,_,_,_,e,_=>by simp at e
 | d::ds,vs,0,d',v,hx,e1,e2=>by
  rw[dW] at hx
  obtain⟨v',r,rfl,h1,_⟩:=hx
  simp at e1 e2
  subst e1 e2
  exact h1
 | d::ds,vs,j+1,d',v,hx,e1,e2=>by
  rw[dW] at hx
  obtain⟨v',r,rfl,_,l⟩:=hx
  exact dW.get l (by simpa using e1) (by simpa using e2)
section
variable {prog:Program}{w:World}
theorem mD {A:Around}{E:Value->Shared->Prop}{s:Shared}{b:Bool}{Q:Int->Shared->Prop} (h:Q (hashInt (if b=true then 1 else 0)) { s with toks:=s.toks+1 }):wpAny (model prog w) A (pyHash (.bool b)) Q E s:=by
 have hT:s.TypeIs (.bool b) "bool" := rfl
 have hr:=rawHash_range (if b=true then 1 else 0)
 unfold pyHash;have hv:[Value.bool b].any Value.onHeap=false:=rfl
 refine wpAny_bind ?_;rw[cRoomFor,if_neg (by rw[hv];exact aal)];refine wpAny_pure (wpAny_bind (wpAny_specialOf hT F.slot_bool_hash.lookup ?_))
 show wpAny _ _ (if (some (Value.builtin "int.__hash__") == some Value.none)=true then _ else _) Q E s;rw[if_neg (by rw[beq_builtin_none];exact aal)]
 refine wpAny_bind (wpAny_specialOf hT F.slot_bool_hash.lookup ?_);show wpAny _ _ (callSpecialIfBoundUnlessNone? (.bool b) "__hash__" _ >>= _) Q E s
 refine wpAny_bind (wpAny_callSpecialIfBoundUnlessNone?_slot hT F.slot_bool_hash (wpAny_call_entry F.slot_bool_hash hT F.entry_int_hash (show wpAny _ _ (do ret (<- mkInt (rawHash (if b=true then 1 else 0)))) _ _ s from wpAny_ret_mkInt ?_) (F.args_int_hash_1 _)))
 show wpAny _ _ (if (decide (-(2:Int) ^ 63<=rawHash (if b=true then 1 else 0)) && decide (rawHash (if b=true then 1 else 0) < 2 ^ 63))=true then _ else _) Q E _;rw[if_pos (by rw[decide_eq_true hr.1,decide_eq_true hr.2];rfl)]
 exact wpAny_pure h
theorem lB:∀ (a b:List D),eF (a++b)=eF a++eF b
 | [],b=>by rw[eF];rfl
 | d::a,b=>by rw[List.cons_append,eF,eF,lB a b];rfl
theorem kB:∀ (a b:List D),eA (a++b)=eA a+eA b
 | [],b=>by rw[eA,List.nil_append,Nat.zero_add]
 | d::a,b=>by rw[List.cons_append,eA,eA,kB a b,Nat.add_assoc]
theorem o7:∀ (ds:List D) (d:D),d∈ds->d.depth<=bK ds:=by
 intro ds
 induction ds with
 | nil=>intro d h;cases h
 | cons e r ih=>
  intro d h
  rw[bK]
  rcases List.mem_cons.1 h with rfl | h
  ·omega
  ·have:=ih d h;omega
noncomputable def HM (prog:Program) (w:World) (d:D):Prop:=∀ (A:Around) (E:Value->Shared->Prop) (s:Shared) (v:Value) (Q:Int->Shared->Prop),A.units+d.depth < cLine->eV s.heap d v->Q (rM d) { s with toks:=s.toks+lS d }->wpAny (model prog w) A (pyHash v) Q E s
mutual
theorem GK:∀ (d:D),HM prog w d
 | .int i=>λ A E s v Q _ hx h=>by
  rw[eV] at hx
  obtain⟨t,rfl⟩:=hx
  rw[rM,lS] at h
  ·exact wpAny_pyHash_int h
  ·intros;contradiction
 | .bl b=>λ A E s v Q _ hx h=>by
  rw[eV] at hx
  subst hx
  rw[rM,lS] at h
  ·exact mD h
  ·intros;contradiction
 | .tup ds=>λ A E s v Q hu hx h=>by
  have all:=BE ds
  rw[eV] at hx
  obtain⟨a,o,items,n,rfl,ho,hc,hd,hi⟩:=hx
  have hT:s.TypeIs (.ref a) "tuple" := ⟨o,ho,hc⟩
  have hdep:D.depth (.tup ds)=bK ds+1:=by rw[D.depth]
  rw[hdep] at hu
  rw[rM,lS] at h
  unfold pyHash
  first | unfold pyHashByItsType | skip
  first | refine wpAny_bind (wpAny_cRoomFor_or (.inr (by omega)) ?_) | skip
  refine wpAny_bind (wpAny_specialOf hT F.slot_tuple_hash.lookup ?_);show wpAny _ _ (if (some (Value.builtin "tuple.__hash__") == some Value.none)=true then _ else _) Q E s
  rw[if_neg (by rw[beq_builtin_none];exact aal)];refine wpAny_bind (wpAny_specialOf hT F.slot_tuple_hash.lookup ?_)
  show wpAny _ _ (callSpecialIfBoundUnlessNone? (.ref a) "__hash__" _ >>= _) Q E s;refine wpAny_bind (wpAny_callSpecialIfBoundUnlessNone?_slot hT F.slot_tuple_hash (wpAny_call_entry F.slot_tuple_hash hT F.entry_tuple_hash ?_ (F.args_tuple_hash_1 _)))
  show wpAny _ _ (Builtin.Tuple.tupleItemsOf (.ref a) >>= _) _ _ s;refine wpAny_bind (wpAny_tupleItemsOf ho hd (wpAny_bind ?_))
  rw[<- Array.forIn_toList]
  refine wpAny_forIn_list _ (λ rest (b:Array Int) s'=>∃ done left,ds=done++left/\dW s.heap left rest/\b.toList=eF done/\s'={ s with toks:=s.toks+eA done }) _ ?_ ?_ _ _ ⟨[],ds,rfl,hi,by rw[eF],by rw[eA];rfl⟩
  ·rintro x rest b s' ⟨done,left,rfl,hl,hb,rfl⟩
   cases left with
   | nil=>rw[dW] at hl;cases hl
   | cons k ks'=>
    rw[dW] at hl
    obtain⟨v',r',e,h1,l1⟩:=hl
    cases e
    have hk:=all k (by simp)
    have hdk:=o7 (done++k::ks') k (by simp)
    have fin:∃ done' left',done++k::ks'=done'++left'/\dW s.heap left' rest/\(b.push (rM k)).toList=eF done'/\({ s with toks:=s.toks+eA done+lS k }:Shared)={ s with toks:=s.toks+eA done' }:=
     ⟨done++[k],ks',by simp,l1,by rw[Array.toList_push,hb,lB,eF,eF],by rw[kB,eA,eA,Nat.add_zero,Nat.add_assoc]⟩
    refine wpAny_bind (hk _ _ _ _ _ ?_ h1 ?_)
    ·have hin:A.in1.units=A.units+1:=rfl
     omega
    ·first
      | exact wpAny_pure fin
      | exact wpAny_bind (wpAny_pure (wpAny_pure fin))
  ·rintro b s' ⟨done,left,rfl,hl,hb,rfl⟩
   cases left with
   | cons k ks'=>rw[dW] at hl;obtain⟨_,_,e,_⟩:=hl;cases e
   | nil=>
    rw[ack] at h
    show wpAny _ _ (retInt (Builtin.Tuple.tupleHashOf b.toList)) _ _ _;rw[hb];refine wpAny_ret_mkInt ?_
    show wpAny _ _ (if (decide (-(2:Int) ^ 63<=Builtin.Tuple.tupleHashOf (eF done)) && decide (Builtin.Tuple.tupleHashOf (eF done) < 2 ^ 63))=true then _ else _) Q E _
    unfold reduceHash at h
    by_cases hr:(decide (-(2:Int) ^ 63<=Builtin.Tuple.tupleHashOf (eF done)) && decide (Builtin.Tuple.tupleHashOf (eF done) < 2 ^ 63))=true
    ·rw[if_pos hr] at h ⊢;exact wpAny_pure (by simpa [Nat.add_assoc] using h)
    ·rw[if_neg hr] at h ⊢;exact wpAny_bind (wpAny_rule (wpAny_pure (by simpa [Nat.add_assoc] using h)))
 | .non=>λ _ _ _ _ _ _ hx _=>by rw[eV] at hx;exact hx.elim
 | .str _=>λ _ _ _ _ _ _ hx _=>by rw[eV] at hx;exact hx.elim
theorem BE:∀ (ds:List D),∀ d∈ds,HM prog w d
 | [],_,h=>(nomatch h)
 | e::es,d,h=>by
  have h0:=GK e
  have h1:=BE es
  rcases List.mem_cons.1 h with z | z
  ·rw[z];exact h0
  ·exact h1 d z
end
end
noncomputable instance decD:DecidableEq D:=λ a b=>Classical.propDecidable (a=b)
mutual
theorem HC:∀ (d:D),(sh d).depth=d.depth
 | .int _=>by rw[sh,D.depth,D.depth] <;> (intros;contradiction)
 | .bl _=>by rw[sh,D.depth,D.depth] <;> (intros;contradiction)
 | .tup ds=>by rw[sh,D.depth,D.depth,tR ds]
 | .non=>by rw[sh] <;> (intros;contradiction)
 | .str _=>by rw[sh] <;> (intros;contradiction)
theorem tR:∀ (ds:List D),bK (mB ds)=bK ds
 | []=>by rw[mB]
 | d::ds=>by rw[mB,bK,bK,HC d,tR ds]
end
theorem uM:∀ (ds:List D),(mB ds).length=ds.length
 | []=>by rw[mB]
 | d::ds=>by rw[mB,aax,aax,uM ds]
noncomputable def NM (x y:D):Prop:=∀ (A:Around) (s:Shared) (u v:Value),A.units+x.depth < cLine->eV s.heap x u->eV s.heap y v->SeqAt.EqAt A s u v (decide (x=y))
mutual
theorem NG:∀ (x y:D),sh x=sh y->NM x y
 | .int i,.int j,_=>λ A s u v _ hx hy=>by
  rw[eV] at hx hy
  obtain⟨t,rfl⟩:=hx
  obtain⟨t',rfl⟩:=hy
  have:=SeqAt.EqAt.int_int (A:=A) (s:=s) i t j t'
  have e:decide (D.int i=D.int j)=(i == j):=by
   rw[Bool.eq_iff_iff,decide_eq_true_eq,beq_iff_eq,D.int.injEq]
  rw[e];exact this
 | .bl i,.bl j,_=>λ A s u v _ hx hy=>by
  rw[eV] at hx hy
  subst hx hy
  have:=SeqAt.EqAt.bool_bool (A:=A) (s:=s) i j
  have e:decide (D.bl i=D.bl j)=(i == j):=by
   rw[Bool.eq_iff_iff,decide_eq_true_eq,beq_iff_eq,D.bl.injEq]
  rw[e];exact this
 | .tup ds,.tup es,hs=>λ A s u v hu hx hy=>by
  rw[sh,sh] at hs
  injection hs with hs
  have all:=KA ds es hs
  have hl:ds.length=es.length:=by rw[<- uM ds,hs,uM]
  have hinj:=λ (a:Value) (h1:eV s.heap (.tup ds) a) (h2:eV s.heap (.tup es) a)=>eV.inj (by rw[sh,sh,hs]) h1 h2
  have hx0:=hx
  have hy0:=hy
  rw[eV] at hx hy
  obtain⟨a,o,items,n,rfl,h1,h2,h3,l1⟩:=hx
  obtain⟨b,o',items',n',rfl,h1',h2',h3',l2⟩:=hy
  by_cases hab:a=b
  ·subst hab
   rw[decide_eq_true (hinj _ hx0 hy0)]
   exact SeqAt.EqAt.same _
  ·have hdep:D.depth (.tup ds)=bK ds+1:=by rw[D.depth]
   rw[hdep] at hu
   have hin:A.in1.units=A.units+1:=rfl
   have k1:=l1.length
   have k2:=l2.length
   have z1:items.size=ds.length:=by rw[<- k1];simp
   have z2:items'.size=es.length:=by rw[<- k2];simp
   have:=SeqAt.RcAt.tuples (A:=A) (s:=s) (e:=λ j=>match ds[j]?,es[j]? with | some x,some y=>decide (x=y) | _,_=>true) (show s.heap.IsTuple a items from ⟨o,h1,h2,n,h3⟩) (show s.heap.IsTuple b items' from ⟨o',h1',h2',n',h3'⟩) (by omega) λ j j1 j2=>by
    have i1:j < ds.length:=by omega
    have i2:j < es.length:=by omega
    rw[aaf i1,aaf i2]
    have hd:=o7 ds ds[j] (abf i1)
    exact all j ds[j] es[j] (by simp) (by simp) A.in1 s items[j] items'[j] (by omega) (dW.get (j:=j) l1 (by simp) (by simp)) (dW.get (j:=j) l2 (by simp) (by simp))
   have e5:((List.range (min items.size items'.size)).all (λ j=>match ds[j]?,es[j]? with | some x,some y=>decide (x=y) | _,_=>true) && items.size == items'.size)=decide (D.tup ds=D.tup es):=by
    have e0:(items.size == items'.size)=true:=by rw[beq_iff_eq];omega
    rw[e0,Bool.and_true,Bool.eq_iff_iff,decide_eq_true_eq,abu,D.tup.injEq]
    constructor
    ·intro h
     apply List.ext_getElem hl
     intro j j1 j2
     have:=h j (abk.mpr (by omega))
     rw[aaf j1,aaf j2] at this
     exact of_decide_eq_true this
    ·rintro rfl j hj
     cases ds[j]? with
     | none=>rfl
     | some x=>exact decide_eq_true rfl
   rw[e5] at this
   exact SeqAt.EqAt.of_refs hab this
 | .non,_,_=>λ _ _ _ _ _ hx _=>by rw[eV] at hx;exact hx.elim
 | .str _,_,_=>λ _ _ _ _ _ hx _=>by rw[eV] at hx;exact hx.elim
 | .int _,.bl _,hs=>by rw[sh,sh] at hs;cases hs
 | .int _,.tup _,hs=>by rw[sh,sh] at hs;cases hs
 | .int _,.non,_=>λ _ _ _ _ _ _ hy=>by rw[eV] at hy;exact hy.elim
 | .int _,.str _,_=>λ _ _ _ _ _ _ hy=>by rw[eV] at hy;exact hy.elim
 | .bl _,.int _,hs=>by rw[sh,sh] at hs;cases hs
 | .bl _,.tup _,hs=>by rw[sh,sh] at hs;cases hs
 | .bl _,.non,_=>λ _ _ _ _ _ _ hy=>by rw[eV] at hy;exact hy.elim
 | .bl _,.str _,_=>λ _ _ _ _ _ _ hy=>by rw[eV] at hy;exact hy.elim
 | .tup _,.int _,hs=>by rw[sh,sh] at hs;cases hs
 | .tup _,.bl _,hs=>by rw[sh,sh] at hs;cases hs
 | .tup _,.non,_=>λ _ _ _ _ _ _ hy=>by rw[eV] at hy;exact hy.elim
 | .tup _,.str _,_=>λ _ _ _ _ _ _ hy=>by rw[eV] at hy;exact hy.elim
theorem KA:∀ (ds es:List D),mB ds=mB es->∀ (j:Nat) (x y:D),ds[j]? = some x->es[j]? = some y->NM x y
 | [],_,_,j,x,y,h,_=>by simp at h
 | _::_,[],_,j,x,y,_,h=>by simp at h
 | d::ds,e::es,hs,j,x,y,h1,h2=>by
  rw[mB,mB] at hs
  injection hs with s1 s2
  have k0:=NG d e s1
  have k1:=KA ds es s2
  cases j with
  | zero=>simp at h1 h2;rw[<- h1,<- h2];exact k0
  | succ j=>exact k1 j x y (by simpa using h1) (by simpa using h2)
end
noncomputable def BT (prog:Program) (w:World) (d:D):Prop:=∀ (n:Nat) (A:Around) (E:Value->Shared->Prop) (s:Shared) (v:Value) (Q:Bool->Shared->Prop),d.depth<=n->eV s.heap d v->Q true s->wpAny (model prog w) A (eqIsQuiet n v) Q E s
section
variable {prog:Program}{w:World}
mutual
theorem AO:∀ (d:D),BT prog w d
 | .int i=>λ n A E s v Q _ hx h=>by
  rw[eV] at hx
  obtain⟨t,rfl⟩:=hx
  rw[eqIsQuiet_byValue n (v:=.int i t) rfl]
  exact wpAny_pure h
 | .bl b=>λ n A E s v Q _ hx h=>by
  rw[eV] at hx
  subst hx
  rw[eqIsQuiet_byValue n (v:=.bool b) rfl]
  exact wpAny_pure h
 | .tup ds=>λ n A E s v Q hn hx h=>by
  have all:=wR ds
  have hdep:D.depth (.tup ds)=bK ds+1:=by rw[D.depth]
  rw[hdep] at hn
  rw[eV] at hx
  obtain⟨a,o,items,m,rfl,ho,hc,hd,hi⟩:=hx
  have hT:s.TypeIs (.ref a) "tuple" := ⟨o,ho,hc⟩
  obtain⟨n',rfl⟩:∃ n',n=n'+1:=⟨n - 1,by omega⟩
  unfold eqIsQuiet
  refine wpAny_bind (wpAny_specialOf hT F.slot_tuple_eq.lookup ?_);show wpAny _ _ (isInstance (.ref a) (.type "tuple") >>= _) _ _ s
  refine wpAny_bind (wpAny_isInstance hT isSubtype_tuple_tuple ?_);simp only [Bool.not_true,Bool.false_eq_true,if_false]
  refine wpAny_bind (wpAny_seqItems ho hd (wpAny_bind ?_));show wpAny _ _ (forIn items _ _) _ _ s
  rw[<- Array.forIn_toList]
  refine wpAny_forIn_list _ (λ rest r s'=>r.1=none/\s'=s/\∃ left,dW s.heap left rest/\∀ d∈left,d∈ds) _ ?_ ?_ _ _ ⟨rfl,rfl,ds,hi,λ _ z=>z⟩
  ·rintro v rest r s' ⟨hr,rfl,left,hl,hsub⟩
   cases left with
   | nil=>rw[dW] at hl;cases hl
   | cons k ks=>
    rw[dW] at hl
    obtain⟨v',r',e,h1,l1⟩:=hl
    cases e
    have hk:=hsub k (by simp)
    refine wpAny_bind (all k hk n' _ _ _ _ _ (by have:=o7 ds k hk;omega) h1 ?_)
    simp only [Bool.not_true,Bool.false_eq_true,if_false]
    exact wpAny_pure ⟨rfl,rfl,ks,l1,λ d hd=>hsub d (aam _ hd)⟩
  ·rintro⟨r1,r2⟩ s' ⟨hr,rfl,_⟩
   simp only at hr
   subst hr
   exact wpAny_pure h
 | .non=>λ _ _ _ _ _ _ _ hx _=>by rw[eV] at hx;exact hx.elim
 | .str _=>λ _ _ _ _ _ _ _ hx _=>by rw[eV] at hx;exact hx.elim
theorem wR:∀ (ds:List D),∀ d∈ds,BT prog w d
 | [],_,h=>(nomatch h)
 | e::es,d,h=>by
  have h0:=AO e
  have h1:=wR es
  rcases List.mem_cons.1 h with z | z
  ·rw[z];exact h0
  ·exact h1 d z
end
noncomputable def fH (prog:Program) (w:World) (S:D):HeapKind prog w D where
 is:=λ h d a=>sh d=S/\d.depth<=7/\eV h d (.ref a)
 hash:=rM
 draws:=lS
 room:=λ A=>A.units+8 < cLine
 inj:=λ hx hy=>eV.inj (hx.1.trans hy.1.symm) hx.2.2 hy.2.2
 keeps:=λ {h h' k a d o es ep} x ho hd hs=>⟨x.1,x.2.1,eV.keeps (λ a' o' items n h1 h3=>by
  by_cases e:a'=d
  ·subst e
   rw[ho] at h1
   cases h1
   rw[hd] at h3
   cases h3
  ·exact (hs.2 a' e).trans h1) x.2.2⟩
 pyHash:=λ {A E s k a Q} hu hk h=>GK k A E s _ Q (by have:=hk.2.1;omega) hk.2.2 h
 eqBool:=λ {A E s x y a b Q} hu hx hy h=>NG x y (hx.1.trans hy.1.symm) A s _ _ (by have:=hx.2.1;omega) hx.2.2 hy.2.2 prog w E Q h
 quiet:=λ {A E s k a Q} hk h=>AO k 8 A E s _ Q (by have:=hk.2.1;omega) hk.2.2 h
end
end L2
namespace L2
open PySem PySem.Spec PyProof.Rows TwZ
mutual
noncomputable def fA:D->Prop
 | .int _=>True
 | .bl _=>True
 | .tup ds=>eB ds
 | .non=>False
 | .str _=>False
noncomputable def eB:List D->Prop
 | []=>True
 | d::ds=>fA d/\eB ds
end
section
variable {X:Cx}{pins:List (Addr×Obj)}{σ:St}{H:Hp}{s:Shared}
mutual
theorem Is.toU (I:Inv X pins σ H s):∀ (d:D) (v:V) (u:Value),fA d->Is X.K H d v->bE v u->eV s.heap d u
 | .int i,v,u,_,h,r=>by rw[Is] at h;subst h;rw[eV];exact r
 | .bl b,v,u,_,h,r=>by rw[Is] at h;subst h;rw[eV];exact r
 | .tup ds,v,u,p,h,r=>by
  rw[Is] at h
  obtain⟨a,xs,rfl,q,l⟩:=h
  cases r
  obtain⟨its,rv,⟨o,e,c,n,d⟩,_⟩:=I.tuple q
  rw[eV]
  exact⟨a,o,its.toArray,n,rfl,e,c,d,by simpa using IsL.toU I ds xs its (by rw[fA] at p;exact p) l rv⟩
 | .non,_,_,p,_,_=>by rw[fA] at p;exact p.elim
 | .str _,_,_,p,_,_=>by rw[fA] at p;exact p.elim
theorem IsL.toU (I:Inv X pins σ H s):∀ (ds:List D) (vs:List V) (us:List Value),eB ds->IsL X.K H ds vs->bG vs us->dW s.heap ds us
 | [],vs,us,_,h,r=>by rw[IsL] at h;subst h;cases r;rw[dW]
 | d::ds,vs,us,p,h,r=>by
  rw[IsL] at h
  obtain⟨x,xs,rfl,h1,h2⟩:=h
  rw[eB] at p
  cases r with
  | cons r1 r2=>
   rw[dW]
   exact⟨_,_,rfl,Is.toU I d x _ p.1 h1 r1,IsL.toU I ds xs _ p.2 h2 r2⟩
end
end
structure KeyD (K:aaa) (H:Hp) (S:D) (k:D) (v:V):Prop where
 sh:sh k=S
 dp:k.depth<=7
 pl:fA k
 is:Is K H k v
 tup:∃ b,v=.ref b
theorem KeyD.mono {K:aaa}{H H':Hp}{S k:D}{v:V} (h:KeyD K H S k v) (t:bM K H H'):KeyD K H' S k v:=⟨h.sh,h.dp,h.pl,Is.mono t _ _ h.is,h.tup⟩
noncomputable def BM (P:Program) (w:World) (S:D) (a:Addr) (xs:List (D×Addr×Value)) (h:Heap):Prop:=
 ∃ o es ep,h.get? a=some o/\o.ExactDict/\o.data=.dict es ep/\es.toList=xs.map (entryOfKey (fH P w S))/\(xs.map (·.1)).Nodup
noncomputable abbrev KD (K:aaa) (H:Hp) (S:D):List (D×V)->List (D×Addr×Value)->Prop:=Paired λ p q=>p.1=q.1/\KeyD K H S p.1 (.ref q.2.1)/\bE p.2 q.2.2
noncomputable def fG (P:Program) (w:World) (K:aaa) (H:Hp) (a:Addr) (S:D) (kvs:List (D×V)):Prop:=
 (H a=some (.dK [])/\kvs=[])\/∃ xs,H a=some (.ext (BM P w S a xs))/\(a == sysModules)=false/\kvs.length<=sizeLine/\KD K H S kvs xs
section
variable {P:Program}{w:World}{K:aaa}{H H':Hp}{a:Addr}{S:D}{kvs:List (D×V)}
theorem KD.mono {xs:List (D×Addr×Value)} (h:KD K H S kvs xs) (t:bM K H H'):KD K H' S kvs xs:=Paired.mapP h λ p q z=>⟨z.1,z.2.1.mono t,z.2.2⟩
theorem fG.mono (h:fG P w K H a S kvs) (t:bM K H H') (e:∀ o,H a=some o->H' a=some o):fG P w K H' a S kvs:=by
 rcases h with ⟨h,z⟩ | ⟨xs,h,y,z,p⟩
 ·exact .inl ⟨e _ h,z⟩
 ·exact .inr ⟨xs,e _ h,y,z,KD.mono p t⟩
theorem fG.same (h:fG P w K H a S kvs) (m:aK H H'):fG P w K H' a S kvs:=h.mono m.ts λ o e=>m _ _ e
theorem fG.mut (h:fG P w K H a S kvs):iF (H a):=by
 rcases h with ⟨h,_⟩ | ⟨_,h,_⟩ <;> (rw[h];exact trivial)
theorem fG.new (h:H a=Option.some (.dK [])):fG P w K H a S []:=.inl ⟨h,rfl⟩
theorem KD.val {xs:List (D×Addr×Value)} (k:D):∀ {kvs:List (D×V)},KD K H S kvs xs->jI (eC kvs k) ((atKey xs k).map (·.2))
 | [],h=>by cases h;exact trivial
 | p::r,h=>by
  cases h with
  | cons h1 h2=>
   rename_i q m
   by_cases e:p.1=k
   ·rw[dP e]
    have:atKey (q::m) k=Option.some q.2:=by unfold atKey;rw[List.find?_cons_of_pos (by rw[<- h1.1];exact decide_eq_true e)];rfl
    rw[this];exact h1.2.2
   ·rw[dQ e]
    have:atKey (q::m) k=atKey m k:=by unfold atKey;rw[List.find?_cons_of_neg (by rw[<- h1.1];simpa using e)]
    rw[this];exact KD.val k h2
theorem KD.put {xs:List (D×Addr×Value)}{k:D}{v:V}{b:Addr}{u:Value} (h:KD K H S kvs xs) (hk:KeyD K H S k (.ref b)) (r:bE v u):KD K H S (gK kvs k v) (storedH xs k b u):=by
 unfold gK storedH
 have e:(kvs.any λ kv=>decide (kv.1=k))=(atKey xs k).isSome:=by
  rw[jL,(KD.val k h).isSome_eq,Option.isSome_map]
 rw[e]
 by_cases c:(atKey xs k).isSome=true
 ·rw[if_pos c,if_pos c]
  clear e c
  induction h with
  | nil=>exact .nil
  | cons h1 h2 ih=>
   rename_i p q l m
   refine .cons ?_ ih
   unfold putAt
   dsimp only
   by_cases z:p.1=k
   ·rw[if_pos z,if_pos (by rw[<- h1.1];exact z)];exact⟨h1.1,h1.2.1,r⟩
   ·rw[if_neg z,if_neg (by rw[<- h1.1];exact z)];exact h1
 ·rw[if_neg c,if_neg c]
  clear e c
  induction h with
  | nil=>exact .cons ⟨rfl,hk,r⟩ .nil
  | cons h1 h2 ih=>exact .cons h1 ih
end
section
variable {X:Cx}{pins:List (Addr×Obj)}{σ:St}{H:Hp}{s:Shared}{a:Addr}{S:D}{kvs:List (D×V)}
theorem KD.keys (I:Inv X pins σ H s):∀ {kvs:List (D×V)}{xs:List (D×Addr×Value)},KD X.K H S kvs xs->∀ x∈xs,(fH X.prog X.w S).is s.heap x.1 x.2.1
 | _,_,.nil,x,hx=>by simp at hx
 | _,_,.cons h1 h2,x,hx=>by
  rcases List.mem_cons.mp hx with e | hx
  ·subst e
   have k:=h1.2.1
   rw[h1.1] at k
   exact⟨k.sh,k.dp,Is.toU I _ _ _ k.pl k.is rfl⟩
  ·exact KD.keys I h2 x hx
theorem fG.at (I:Inv X pins σ H s) (g:fG X.prog X.w X.K H a S kvs):(a == sysModules)=false/\kvs.length<=sizeLine/\∃ xs,KD X.K H S kvs xs/\s.heap.DictOfH (fH X.prog X.w S) a xs:=by
 rcases g with ⟨e,rfl⟩ | ⟨xs,e,y,z,p⟩
 ·obtain⟨z,hd,vs,rel,o,es,ep,h1,h2,h3,_,h4,_⟩:=KB I.hok e
  cases rel
  have e0:es.toList=[]:=by
   revert h4
   generalize es.toList=l
   intro h4
   cases h4
   rfl
  exact⟨hd,Nat.zero_le _,[],.nil,o,es,ep,h1,h2,h3,by rw[e0];rfl,λ x hx=>(nomatch hx),List.nodup_nil⟩
 ·obtain⟨⟨o,es,ep,h1,h2,h3,h4,h5⟩,_⟩:=(show cN X.prog X.w H s.heap a (.ext (BM X.prog X.w S a xs)) from I.hok a _ e)
  exact⟨y,z,xs,p,o,es,ep,h1,h2,h3,h4,KD.keys I p,h5⟩
theorem KeyD.at (I:Inv X pins σ H s) {k:D}{b:Addr} (h:KeyD X.K H S k (.ref b)):(fH X.prog X.w S).is s.heap k b:=⟨h.sh,h.dp,Is.toU I _ _ _ h.pl h.is rfl⟩
noncomputable def MZ (P:Program) (w:World) (K:aaa):R2:=λ x y H Q=>∃ a S kvs k,y=.ref a/\fG P w K H a S kvs/\KeyD K H S k x/\Q (.bl (eC kvs k).isSome) H
theorem LD (hu:X.A.units+64 < cLine):g7 X (compareOp .In) (MZ X.prog X.w X.K):=by
 intro pins s σ H x y v u Q I rx ry h
 obtain⟨a,S,kvs,k,rfl,g,hk,q⟩:=h
 obtain⟨b,rfl⟩:=hk.tup
 cases rx
 cases ry
 obtain⟨hd,hz,xs,p,dd⟩:=g.at I
 refine wpAny_in_heap (knd:=fH X.prog X.w S) (show X.A.in1.units+8 < cLine by show X.A.units+1+8 < cLine;omega) (hk.at I) hd dd ?_
 have e:=(KD.val k p).isSome_eq
 rw[Option.isSome_map] at e
 rw[<- e]
 exact⟨.bl _,H,I.tok _,rfl,q⟩
noncomputable def MX (P:Program) (w:World) (K:aaa):R2:=λ x y H Q=>∃ a S kvs k v,x=.ref a/\fG P w K H a S kvs/\KeyD K H S k y/\eC kvs k=some v/\Q v H
theorem ix_D (hu:X.A.units+64 < cLine):E2 X (MX X.prog X.w X.K):=by
 intro value slice pins s σ H x y v u Q I rx ry h hs
 obtain⟨a,S,kvs,k,z,rfl,g,hk,hv,q⟩:=h
 obtain⟨b,rfl⟩:=hk.tup
 cases rx
 cases ry
 obtain⟨hd,hz,xs,p,dd⟩:=g.at I
 obtain⟨w',hw,rw'⟩:=jI.some_of (v:=z) (o:=(atKey xs k).map (·.2)) (by rw[<- hv];exact KD.val k p)
 obtain⟨pp,hp,hp2⟩:=aap.mp hw
 refine subscriptTail_builtinR (x:=w') dd.typeIs PySem.F.slot_dict_getitem.lookup
  (wpAny_getItem_heap (knd:=fH X.prog X.w S) (Q:=λ r s'=>r=w'/\EP X pins σ Q r s') (show X.A.in1.units+8 < cLine by show X.A.units+1+8 < cLine;omega) (hk.at I) dd hp ⟨hp2,?_⟩) hs
 rw[hp2]
 exact⟨z,H,I.tok _,rw',q⟩
noncomputable def EL (P:Program) (w:World) (K:aaa) (td ty tv:TE):TS:=λ D σ H=>tv σ H λ v H1=>td σ H1 λ x H2=>ty σ H2 λ y H3=>∃ a S kvs k,x=.ref a/\fG P w K H3 a S kvs/\KeyD K H3 S k y/\kvs.length < sizeLine/\
 ∀ H4,cA a H3 H4->fG P w K H4 a S (gK kvs k v)->D.nx σ H4
theorem EY {o i value:Expr}{pos pos':Pos}{td ty tv:TE} (hu:X.A.units+64 < cLine) (ho:PE X o td) (hi:PE X i ty) (hv:PE X value tv) (hs:swapsWith value (some (.Subscript o i pos')) pos.line X.env=pure false) :
  PS X (.Assign [.Subscript o i pos'] value pos) (EL X.prog X.w X.K td ty tv):=by
 intro pins s σ H D I h
 refine wpAny_Assign_Subscript (cW (hv pins s σ H _ I h) λ r s1 ⟨v,H1,I1,rv,q1⟩=>cW (ho pins s1 σ H1 _ I1 q1) λ u s2 ⟨x,H2,I2,rx,q2⟩=>cW (hi pins s2 σ H2 _ I2 q2) λ iv s3 ⟨y,H3,I3,ry,a,S,kvs,k,ex,g,hk,hl,q3⟩=>?_) hs
 subst ex
 obtain rfl:u=Value.ref a:=rx
 obtain⟨b,rfl⟩:=hk.tup
 cases ry
 obtain⟨hd,hz,xs,p,dd⟩:=g.at I3
 have hz':xs.length<=sizeLine:=by rw[<- Paired.length p];exact hz
 have hlp:(gK kvs k v).length<=sizeLine:=by have:=fU kvs k v;omega
 refine wpAny_setItem_heap (knd:=fH X.prog X.w S) (hsz:=hz') (show X.A.in1.units+8 < cLine by show X.A.units+1+8 < cLine;omega) (hk.at I3) dd λ h' dd' hsb=>?_
 obtain⟨qo,es,ep,hq,h2,h3,h4,_,h5⟩:=dd'
 have mu:=g.mut
 have bt:cA a H3 (upd H3 a (.ext (BM X.prog X.w S a (storedH xs k b r)))):=cA.upd
 have ts:=bt.ts (K:=X.K) mu
 refine⟨σ,_,vQ I3 mu hsb ⟨qo,hq⟩ (ob:=.ext (BM X.prog X.w S a (storedH xs k b r))) ⟨⟨qo,es,ep,hq,h2,h3,h4,h5⟩,⟨qo,hq⟩,λ h1 h2' ⟨o',es',ep',z1,z⟩ kk=>⟨o',es',ep',kk _ z1,z⟩⟩,q3 _ bt (.inr ⟨_,aB,hd,hlp,KD.mono (KD.put p hk rv) ts⟩)⟩
theorem IW {P:Program}{w:World}{K:aaa} (hP:X.prog=P) (hw:X.w=w) (hK:X.K=K) (hu:X.A.units+64 < cLine):g7 X (compareOp .In) (MZ P w K):=by subst hP hw hK;exact LD hu
theorem N9 {P:Program}{w:World}{K:aaa} (hP:X.prog=P) (hw:X.w=w) (hK:X.K=K) (hu:X.A.units+64 < cLine):E2 X (MX P w K):=by subst hP hw hK;exact ix_D hu
theorem CL {P:Program}{w:World}{K:aaa}{o i value:Expr}{pos pos':Pos}{td ty tv:TE} (hP:X.prog=P) (hw:X.w=w) (hK:X.K=K) (hu:X.A.units+64 < cLine) (ho:PE X o td) (hi:PE X i ty) (hv:PE X value tv)
  (hs:swapsWith value (some (.Subscript o i pos')) pos.line X.env=pure false):PS X (.Assign [.Subscript o i pos'] value pos) (EL P w K td ty tv):=by subst hP hw hK;exact EY hu ho hi hv hs
end
end L2
namespace Tw
open PySem L2
structure Sta where
 held:List Int
 coming:List Int
 doors:List Bool
noncomputable def sta0 (net:Net):Sta:=⟨cG net.vs.length,cG net.vs.length,net.sps.map (·.2.2)⟩
noncomputable def Sta.tk (net:Net) (s:Sta):Tick:=cO net s.held s.coming (cG net.vs.length) s.doors
noncomputable def Sta.next (net:Net) (s:Sta):Sta:=⟨(s.tk net).held,(s.tk net).coming,(s.tk net).doors⟩
noncomputable def cC (net:Net):Nat->Sta
 | 0=>sta0 net
 | t+1=>(cC net t).next net
noncomputable def fB (s:Sta):L2.D:=AC s.held s.coming s.doors
noncomputable def eJ (net:Net):Nat->List (L2.D×V)
 | 0=>[]
 | t+1=>gK (eJ net t) (fB (cC net t)) (.int (t:Int))
noncomputable def oS (net:Net) (t:Nat):Option V:=eC (eJ net t) (fB (cC net t))
noncomputable def yB (net:Net) (t:Nat) (j:Int):Prop:=t<=2000/\oS net t=some (.int j)/\∀ i,i < t->oS net i=none
noncomputable def vZ (net:Net):Prop:=∀ i,i<=2000->oS net i=none
theorem wJ (net:Net):∀ t,(eJ net t).length<=t
 | 0=>Nat.le_refl _
 | t+1=>by
  have h1:=fU (eJ net t) (fB (cC net t)) (.int (t:Int))
  have h2:=wJ net t
  show (gK _ _ _).length<=_
  omega
theorem qK (net:Net) (k:L2.D) (v:V):∀ t,eC (eJ net t) k=some v->∃ j,v=.int j
 | 0,h=>by cases h
 | t+1,h=>by
  rw[show eJ net (t+1)=gK (eJ net t) (fB (cC net t)) (.int (t:Int)) from rfl,jK] at h
  by_cases e:k=fB (cC net t)
  ·rw[if_pos e] at h;cases h;exact⟨_,rfl⟩
  ·rw[if_neg e] at h;exact qK net k v t h
theorem pB (n:Nat):(cG n).length=n:=by simp [cG]
theorem jP {net:Net} (nok:NetOk net):∀ t,StOk net (cC net t).held (cC net t).coming (cC net t).doors
 | 0=>⟨pB _,pB _,by show (net.sps.map _).length=_;rw[aac]⟩
 | t+1=>by
  have ih:=jP nok t
  have hs:(bC net (cC net t).held (cC net t).coming (cG net.vs.length) (cC net t).doors).length=net.vs.length:=by
   unfold bC;rw[gG,gR ih.h ih.c (pB _)]
  exact⟨iW _ _ hs.symm,by show (eQ _ _).length=_;unfold eQ;simp,by show (cJ _ _ _).length=_;rw[j9];exact ih.d⟩
noncomputable def M5 (net:Net):L2.D:=.tup [.tup (List.replicate net.vs.length (.int 0)),.tup (List.replicate net.vs.length (.int 0)),.tup (List.replicate net.sps.length (.bl false))]
theorem qJ:∀ xs:List Int,mB (xs.map L2.D.int)=List.replicate xs.length (.int 0)
 | []=>by rw[List.map_nil,mB];rfl
 | x::xs=>by rw[aaw,mB,sh,qJ xs];rfl
theorem AF:∀ xs:List Bool,mB (xs.map L2.D.bl)=List.replicate xs.length (.bl false)
 | []=>by rw[List.map_nil,mB];rfl
 | x::xs=>by rw[aaw,mB,sh,AF xs];rfl
theorem jV:∀ xs:List Int,eB (xs.map L2.D.int)
 | []=>by rw[List.map_nil,eB];trivial
 | x::xs=>by rw[aaw,eB,fA];exact⟨trivial,jV xs⟩
theorem qR:∀ xs:List Bool,eB (xs.map L2.D.bl)
 | []=>by rw[List.map_nil,eB];trivial
 | x::xs=>by rw[aaw,eB,fA];exact⟨trivial,qR xs⟩
theorem KS {net:Net}{s:Sta} (ok:StOk net s.held s.coming s.doors):sh (fB s)=M5 net:=by
 show sh (.tup [.tup (s.held.map L2.D.int),.tup (s.coming.map L2.D.int),.tup (s.doors.map L2.D.bl)])=_
 rw[sh,mB,mB,mB,mB,sh,sh,sh,qJ,qJ,AF,ok.h,ok.c,ok.d];rfl
theorem CN (s:Sta):fA (fB s):=by
 show fA (.tup [.tup (s.held.map L2.D.int),.tup (s.coming.map L2.D.int),.tup (s.doors.map L2.D.bl)])
 rw[fA,eB,eB,eB,eB,fA,fA,fA]
 exact⟨jV _,jV _,qR _,trivial⟩
theorem DN (s:Sta):(fB s).depth<=7:=by
 show (L2.D.tup [.tup (s.held.map L2.D.int),.tup (s.coming.map L2.D.int),.tup (s.doors.map L2.D.bl)]).depth<=7
 rw[L2.D.depth,HB];decide
theorem JE {K:aaa}{H:Hp}{net:Net}{s:Sta}{v:V} (ok:StOk net s.held s.coming s.doors) (h:Is K H (fB s) v):KeyD K H (M5 net) (fB s) v:=by
 refine⟨KS ok,DN s,CN s,h,?_⟩
 obtain⟨a,xs,rfl,_⟩:=(show Is K H (.tup [.tup (s.held.map L2.D.int),.tup (s.coming.map L2.D.int),.tup (s.doors.map L2.D.bl)]) v from h).un
 exact⟨a,rfl⟩
theorem wK (net:Net):(∃ t j,yB net t j)\/vZ net:=by
 by_cases h:vZ net
 ·exact .inr h
 ·left
  have:∃ t,t<=2000/\oS net t≠none:=by
   apply Classical.byContradiction
   intro hn
   exact h λ i hi=>Classical.byContradiction λ hne=>hn ⟨i,hi,hne⟩
  obtain⟨t,ht,hne⟩:=this
  have key:∀ n t,t<=n->t<=2000->oS net t≠none->∃ t j,yB net t j:=by
   intro n
   induction n with
   | zero=>
    intro t h0 h1 h2
    have:t=0:=by omega
    subst this
    exact absurd rfl h2
   | succ n ih=>
    intro t h0 h1 h2
    by_cases hm:∃ i,i < t/\oS net i≠none
    ·obtain⟨i,hi,hie⟩:=hm
     exact ih i (by omega) (by omega) hie
    ·obtain⟨v,hv⟩:=Option.ne_none_iff_exists'.1 h2
     obtain⟨j,rfl⟩:=qK net _ v t hv
     exact⟨t,j,h1,hv,λ i hi=>Classical.byContradiction λ hne=>hm ⟨i,hi,hne⟩⟩
  exact key t t (Nat.le_refl _) ht hne
end Tw
namespace L2
open PySem PySem.Spec PyProof.Rows TwZ
section
variable {X:Cx}
theorem AT {st:Stmt}{t:TS} (h:∀ pn:List (Addr×Obj),PS (X.within pn λ _ _=>False) st t):PS X st t:=by
 intro pins s σ H D I h1
 refine wpAny_mono (h (X.pn++pins) [] s σ H D I.within h1) (λ f ah hf=>?_) λ _ _ z=>z.elim
 cases f with
 | next=>obtain⟨Z,H',J,q⟩:=hf;exact⟨Z,H',J.unwithin,q⟩
 | brk=>obtain⟨Z,H',J,q⟩:=hf;exact⟨Z,H',J.unwithin,q⟩
 | cont=>obtain⟨Z,H',J,q⟩:=hf;exact⟨Z,H',J.unwithin,q⟩
 | ret u=>obtain⟨v,Z,H',J,r,q⟩:=hf;exact⟨v,Z,H',J.unwithin,r,q⟩
end
end L2
namespace L2
open PySem PySem.Spec PyProof.Rows TwZ
section
variable {X:Cx}{K:aaa}
noncomputable def JZ (K:aaa):R2:=λ x y H Q=>∃ a b xs,x=.ref a/\y=.ref b/\bO K H a xs/\bO K H b []/\Q (.bl (!xs.isEmpty)) H
theorem IV (hu:X.A.units+64 < cLine):g7 X (compareOp .NotEq) (JZ X.K):=by
 intro pins s σ H x y v u Q I rx ry h
 obtain⟨a,b,xs,rfl,rfl,q1,q2,q⟩:=h
 cases rx
 cases ry
 obtain⟨us,r1,p1,_⟩:=I.list q1
 obtain⟨vs,r2,p2,_⟩:=I.list q2
 have e1:=r1.length
 have e2:vs=[]:=by have:=r2.length;exact List.eq_nil_of_length_eq_zero (by simpa using this.symm)
 subst e2
 cases xs with
 | nil=>
  have:us=[]:=List.eq_nil_of_length_eq_zero (by simpa using e1.symm)
  subst this
  refine SeqAt.RcNeAt.lists (A:=X.A) (s:=s) (e:=λ _=>true) p1.isList p2.isList rfl (by omega) (λ j h1 h2=>absurd h1 (by simp)) X.prog X.w X.xe _ ?_
  exact⟨.bl false,H,I,rfl,q⟩
 | cons z zs=>
  refine SeqAt.RcNeAt.lists_lengths (A:=X.A) (s:=s) p1.isList p2.isList (by
   have:us.length=zs.length+1:=by rw[<- e1];rfl
   simp [this]) (by omega) X.prog X.w X.xe _ ?_
  exact⟨.bl true,H,I,rfl,q⟩
theorem FK (hK:X.K=K) (hu:X.A.units+64 < cLine):g7 X (compareOp .NotEq) (JZ K):=by subst hK;exact IV hu
end
end L2
namespace Tw
open PySem L2
theorem BD (k:Nat):∀ l:List Nat,E1 (.int (k:Int)) (l.map λ (i:Nat)=>V.int (i:Int))=decide (k∈l)
 | []=>rfl
 | x::l=>by
  show (zZ (.int (x:Int)) (.int (k:Int)) || E1 (.int (k:Int)) (l.map λ (i:Nat)=>V.int (i:Int)))=_
  rw[BD k l]
  show (((x:Int) == (k:Int)) || decide (k∈l))=decide (k∈x::l)
  by_cases h:k=x
  ·subst h;simp
  ·have h1:((x:Int) == (k:Int))=false:=by simp;omega
   have h2:decide (k∈x::l)=decide (k∈l):=by simp [h]
   rw[h1,h2,Bool.false_or]
theorem nA (l:List Nat):(l.map λ (i:Nat)=>V.int (i:Int)).all iQ=true:=by
 rw[abu]
 intro z hz
 obtain⟨i,_,rfl⟩:=aaz.1 hz
 rfl
end Tw
namespace L2
open PySem PySem.Spec PyProof.Rows TwZ
section
variable {X:Cx}{pins:List (Addr×Obj)}{σ:St}{H:Hp}{s:Shared}
end
section
variable {X:Cx}{pins:List (Addr×Obj)}{σ:St}{H:Hp}{s:Shared}
end
section
variable {K:aaa}{H:Hp}
end
end L2
namespace L2
open PySem PySem.Spec PyProof.Rows TwZ
section
variable {X:Cx}
theorem pN:∀ {xs:List V}{us:List Value},xs.length=us.length->(∀ (i:Nat) x u,xs[i]? = some x->us[i]? = some u->bE x u)->bG xs us
 | [],[],_,_=>.nil
 | [],_::_,h,_=>by simp at h
 | _::_,[],h,_=>by simp at h
 | x::xs,u::us,hl,h=>.cons (h 0 x u rfl rfl) (pN (by simpa using hl) λ i y v h1 h2=>h (i+1) y v (by simpa using h1) (by simpa using h2))
theorem yG {a c:Int}{n:Nat}{acc:Array Value} (h:ItemsOf (λ i v=>∃ t,v=.int (a+i * c) t) acc n):bG ((List.range n).map λ (i:Nat)=>V.int (a+i * c)) acc.toList:=by
 obtain⟨h1,h2⟩:=h
 refine pN (by simp [h1]) λ i x u e1 e2=>?_
 rw[aah] at e1
 obtain⟨k,hk,rfl⟩:=aap.mp e1
 have hi:=(aad.mp hk).1
 have:k=i:=by
  have:=(aad.mp hk).2
  simpa using this.symm
 subst this
 exact h2 k u (by simpa using e2)
noncomputable def MF (ta:TE):TE:=λ σ H Q=>ta σ H λ x H1=>∃ n:Nat,x=.int (n:Int)/\n<=1000000/\∀ l,H1 l=none->Q (.ref l) (upd H1 l (.lst ((List.range n).map λ (i:Nat)=>V.int (i:Int))))
theorem IP {a:Expr}{ta:TE}{p p2 pos pos2:Pos} (hc:X.calm=true) (hg:Gl X "list") (hm:X.mg "list" = none) (hg2:Gl X "range") (hm2:X.mg "range" = none) (ha:PE X a ta) (hs:starEach [a] X.env=[(false,eval a X.env)]:=by rfl)
  (hs2:starEach [Expr.Call (.Name "range" p2) [a] [] pos2] X.env=[(false,eval (Expr.Call (.Name "range" p2) [a] [] pos2) X.env)]:=by rfl):PE X (.Call (.Name "list" p) [.Call (.Name "range" p2) [a] [] pos2] [] pos) (MF ta):=by
 intro pins s σ H Q I h
 refine wpAny_Call_Name_kw (j8 I hg hm kQ ?_ (by decide) (by decide))
 refine PyProof.Rows.callWith_type1 ?_ hs2 rfl
 rw[hs2]
 show wpAny _ _ (spliced ((false,eval (Expr.Call (.Name "range" p2) [a] [] pos2) X.env)::backTo pos [])) _ _ s
 have h':dR ta jF σ H (λ xs H1=>∃ n:Nat,xs=[.int (n:Int)]/\n<=1000000/\∀ l,H1 l=none->Q (.ref l) (upd H1 l (.lst ((List.range n).map λ (i:Nat)=>V.int (i:Int))))):=by
  show ta σ H λ x H1=>∃ n:Nat,[x]=[V.int (n:Int)]/\_
  have e:(λ (x:V) (H1:Hp)=>∃ n:Nat,[x]=[V.int (n:Int)]/\n<=1000000/\∀ l,H1 l=none->Q (.ref l) (upd H1 l (.lst ((List.range n).map λ (i:Nat)=>V.int (i:Int))))) =
    (λ (x:V) (H1:Hp)=>∃ n:Nat,x=V.int (n:Int)/\n<=1000000/\∀ l,H1 l=none->Q (.ref l) (upd H1 l (.lst ((List.range n).map λ (i:Nat)=>V.int (i:Int))))):=by
   funext x H1;simp
  rw[e];exact h
 refine Calls.spliced_cons (wpAny_Call_Name_kw (j8 I hg2 hm2 boot_range (PyProof.Rows.callWith_type1 (cW (aA ha aD hs pos2 pins s σ H _ I h') λ us s1 ⟨vs,H1,I1,r1,q1⟩=>?_) hs rfl)))
 obtain⟨n,rfl,hn,q⟩:=q1
 obtain⟨u,rfl,t,rfl⟩:=pP r1
 refine call_range_1 (Calls.spliced_nil ?_)
 have hsz:Builtin.Range.rangeSize 0 (n:Int) 1=n:=by rw[rangeSize_one];split <;> omega
 refine call_list_range (n:=n) (I1.ok.hd hc) (IsRange.new ..) (small_one (by omega) (by omega) (by omega) (by omega)) hsz (by omega) λ h2 tk acc c' hk hS hacc=>?_
 have hv:=yG hacc
 simp only [Int.zero_add,Int.mul_one] at hv
 have e1:(s1.heap.push { cls:=.type "range",data:=.fields #[.int 0 s1.toks,.int (n:Int) t,.int 1 (s1.toks+1)] }).objs.size=s1.heap.objs.size+1:=abo ..
 refine⟨.ref (s1.heap.objs.size+1),_,I1.laid (t':=tk) (a:=s1.heap.objs.size+1) (λ b o e=>hk b o (aab _ e)) (Nat.le_succ _) (show cN X.prog X.w _ h2 _ (.lst ((List.range n).map λ (i:Nat)=>V.int (i:Int))) from ⟨?_,acc.toList,c',hv,?_⟩),?_,q _ (I1.hok.fresh (Nat.le_succ _))⟩
 ·rw[aac,acb,sizeLine_eq];omega
 ·rw[e1] at hS;simpa using hS
 ·show Value.ref _=_;rw[e1]
end
end L2
namespace Tw
open PySem L2
noncomputable def bR (l:List Nat):List V:=l.map λ (i:Nat)=>V.int (i:Int)
section
variable {P:Program}{w:World}{K:aaa}{mg:Str->Option Value}{base:Heap}
end
end Tw
namespace Tw
open PySem L2
section
variable {P:Program}{w:World}{K:aaa}{mg:Str->Option Value}{base:Heap}{C c_TipError c_NoNet c_NoVessel c_TooLong c_TooMany c_TooMuch c_Nothing c_NoText c_NoRow:Addr}
theorem MK {H:Hp}{net:Net}{ys:List V}{j:Nat} (l:IsL K H (net.sps.map AE) ys) (hj:j < net.sps.length):∃ a fl dr,ys[j]? = some (.ref a)/\bN K H a [.int (sG net (j:Int)),.int fl,.bl dr]:=by
 obtain⟨v,hv,iv⟩:=l.get (i:=j) (d:=AE net.sps[j]) (by rw[aah,aaf hj];rfl)
 obtain⟨a,xs,rfl,q,lx⟩:=(show Is K H (.tup [.int net.sps[j].1,.int net.sps[j].2.1,.bl net.sps[j].2.2]) v from iv).un
 obtain⟨x1,r,rfl,h1,lx⟩:=lx.un
 obtain⟨x2,r,rfl,h2,lx⟩:=lx.un
 obtain⟨x3,r,rfl,h3,lx⟩:=lx.un
 have:=lx.un0
 subst this
 have e:sG net (j:Int)=net.sps[j].1:=by
  unfold sG
  rw[aav,aae,aaf hj];rfl
 have e1:=h1.ui
 have e2:=h2.ui
 have e3:=h3.ub
 subst e1 e2 e3
 exact⟨a,_,_,hv,by rw[e];exact q⟩
noncomputable def uH (K:aaa):Sp:=λ vs H Q _=>∃ (x y:V) (net:Net) (v:Vs),vs=[x,y]/\Is K H (pM v) x/\Is K H (.tup (net.sps.map AE)) y/\VOk net.vs.length net.sps.length v/\
 ∀ l H',aK H H'->H l=none->H' l=some (.lst ((eE net v).map gU))->Q (.ref l) H'
theorem oM:FnScope ["vessel","spouts","size","brim","outs","holds","spill","acts"] ["vessel","spouts"] (aJ (aQ 44)):=⟨rfl,rfl,rfl,by decide +kernel,rfl,by decide +kernel,by decide +kernel⟩
theorem xA {f:Addr}{fd:FuncData} (F:Fun K "leads_to" "leads_to" (aQ 44) f fd) (T:Txt mg):FnOk P w K mg base gC 1 f fd ["vessel","spouts"] (uH K):=by
 refine F.ok oM (λ vs H Q E h=>?_) (λ cdv A outer s H vs Q E hr h=>?_)
 ·obtain⟨x,y,net,v,rfl,_⟩:=h;rfl
 ·obtain⟨x,y,net,v,rfl,hx,hy,ok,k⟩:=h
  have sc:=oM
  refine⟨_,(aE (bZ (pv 0) (aX (K:=K) (n:=6) rfl rfl (aF (aG (i:=2) sc.nd rfl (Or.inl rfl)) (aF (aG (i:=3) sc.nd rfl (Or.inl rfl)) (aF (aG (i:=4) sc.nd rfl (Or.inl rfl)) (aF (aG (i:=5) sc.nd rfl (Or.inl rfl)) (aF (aG (i:=6) sc.nd rfl (Or.inl rfl)) (aF (aG (i:=7) sc.nd rfl (Or.inl rfl)) aW))))))))
   (aL (aZ (bA qX (bA qX (fZ (λ _ _ h=>h) rfl (LcOk.mk (N':=["target","parts"]) (fr:=[none,none]) rfl trivial rfl rfl rfl rfl rfl trivial) (d6 (K:=K) rfl (pv 4)) (λ _ _ _=>(aX (K:=K) (n:=2) rfl rfl (aF (aG (i:=0) (show (["target","parts"]:List Str).Nodup by decide +kernel) rfl (Or.inl rfl) (Or.inr rfl)) (aF (aG (i:=1) (show (["target","parts"]:List Str).Nodup by decide +kernel) rfl (Or.inl rfl) (Or.inr rfl)) aW)))) (λ _ _ _=>cP) (λ _ _ _=>(pv 0))) (bP (aA (pv 6) aD))) (fZ (λ _ _ h=>h) rfl (LcOk.mk (N':=["word","spout","spouts"]) (fr:=[none,none,some 1]) rfl ⟨rfl,trivial⟩ rfl rfl rfl rfl rfl ⟨⟨_,rfl,rfl,rfl,rfl⟩,trivial⟩) (d6 (K:=K) rfl (pv 7)) (λ _ _ _=>(aX (K:=K) (n:=2) rfl rfl (aF (aG (i:=0) (show (["word","spout","spouts"]:List Str).Nodup by decide +kernel) rfl (Or.inl rfl) (Or.inr rfl)) (aF (aG (i:=1) (show (["word","spout","spouts"]:List Str).Nodup by decide +kernel) rfl (Or.inl rfl) (Or.inr rfl)) aW)))) (λ _ _ _=>cP) (λ _ _ _=>(b0 (aO (K:=K) rfl) (b0 (aO (K:=K) rfl) (pv 2) (pv 1) (λ _ _=>rfl)) aH (λ _ _=>rfl)))))))),?_⟩
  obtain⟨va,o,c,rfl,qv,ho,hc⟩:=sU hx
  obtain⟨oa,os,rfl,qo,lo⟩:=ho.un
  obtain⟨ca,cs,rfl,qc,lc⟩:=hc.un
  obtain⟨sa,ss,rfl,qs,ls⟩:=hy.un
  have eol:os.length=v.outs.length:=by rw[lo.length,aac]
  have ecl:cs.length=v.acts.length:=by rw[lc.length,aac]
  have o3:=ok.o3
  have a3:=ok.a3
  refine⟨_,rfl,va,_,rfl,qv,rfl,_,_,rfl,_,_,rfl,_,_,rfl,_,_,rfl,_,_,rfl,_,_,rfl,rfl,?_⟩
  refine⟨_,rfl,oa,rfl,⟨_,qo⟩,eZ (K:=K) (a:=oa) (xs:=os) (λ D i r Z H'=>H D=none/\aK H H'/\H' D=some (.lst r)/\r=(v.outs.take i).map (λ o=>gU o.1)/\∃ u1 u2,Z=[u1,u2])
   (λ D i r Z H' p=>p.2.1.tup qo) (λ D hD=>⟨hD,aK.new hD,aB,rfl,none,none,rfl⟩) ?_ ?_⟩
  rotate_left
  ·rintro D i y r Z H1 hy ⟨hD,sm,hDl,rfl,u1,u2,rfl⟩
   obtain⟨t,ht,ta,rfl,qt⟩:=mR lo hy
   refine⟨ta,_,rfl,sm.tup qt,rfl,_,_,rfl,_,_,rfl,rfl,?_⟩
   refine⟨_,rfl,hDl,aP (by rw[aac,abl];omega),hD,sm.put hD,aB,?_,_,_,rfl⟩
   rw[acg,ht,aai];rfl
  rintro D1 r Z H1 ⟨hD1,s1,hD1l,rfl,_⟩
  rw[eol,List.take_of_length_le (Nat.le_refl _)] at hD1l
  refine⟨_,rfl,(show 1<=sizeLine by decide),λ p2 hp2=>⟨D1,p2,_,_,rfl,rfl,aK.new hp2 _ _ hD1l,aB,ace (aP (by rw[aac];show v.outs.length+1<=1000;omega)),λ p3 hp3=>?_⟩⟩
  have s3:=(s1.trans (aK.new (o:=HO.lst [gU v.spill]) hp2)).trans (aK.new (o:=HO.lst (v.outs.map (λ o=>gU o.1)++[gU v.spill])) hp3)
  have g3:upd (upd H1 p2 (.lst [gU v.spill])) p3 (.lst (v.outs.map (λ o=>gU o.1)++[gU v.spill])) p3=some (.lst (v.outs.map (λ o=>gU o.1)++[gU v.spill])):=aB
  generalize upd (upd H1 p2 (.lst [gU v.spill])) p3 (.lst (v.outs.map (λ o=>gU o.1)++[gU v.spill]))=H3 at s3 g3 ⊢
  refine⟨_,rfl,ca,rfl,⟨_,s3.tup qc⟩,eZ (K:=K) (a:=ca) (xs:=cs) (λ D i r Z H'=>H3 D=none/\aK H3 H'/\H' D=some (.lst r)/\r=(v.acts.take i).map (λ a=>gU (some (sG net a.2)))/\∃ u1 u2,Z=[u1,u2,some (.ref sa)])
   (λ D i r Z H' p=>p.2.1.tup (s3.tup qc)) (λ D hD=>⟨hD,aK.new hD,aB,rfl,none,none,rfl⟩) ?_ ?_⟩
  rotate_left
  ·rintro D i y r Z H4 hy ⟨hD,sm,hDl,rfl,u1,u2,rfl⟩
   have s4:=s3.trans sm
   obtain⟨a,ha,ta,rfl,qt⟩:=kS (L2.IsL.mono s4.ts _ _ lc) hy
   have aok:=ok.acts a (aaj ha)
   obtain⟨j,hj⟩:∃ j:Nat,a.2=(j:Int):=⟨a.2.toNat,by have:=aok.lo;omega⟩
   have hjl:j < net.sps.length:=by have:=aok.hi;omega
   obtain⟨pa,fl,dr,hpa,qpa⟩:=MK (L2.IsL.mono s4.ts _ _ ls) hjl
   refine⟨ta,_,rfl,qt,rfl,_,_,rfl,_,_,rfl,rfl,?_⟩
   refine⟨_,rfl,_,rfl,.inr (.inl ⟨sa,_,_,_,rfl,rfl,s4.tup qs,by rw[hj];exact dO hpa,.inr (.inl ⟨pa,_,0,_,rfl,rfl,qpa,rfl,hDl,aP (by rw[aac,abl];omega),hD,sm.put hD,aB,?_,_,_,rfl⟩)⟩)⟩
   rw[acg,ha,aai,<- hj];rfl
  rintro D4 r Z H4 ⟨hD4,s4,hD4l,rfl,_⟩
  rw[ecl,List.take_of_length_le (Nat.le_refl _)] at hD4l
  refine⟨p3,D4,_,_,rfl,rfl,s4 _ _ g3,hD4l,ace (aP (by rw[aat,aac,aac];show v.outs.length+1+v.acts.length<=1000;omega)),λ p5 hp5=>?_⟩
  refine k p5 _ ((s3.trans s4).trans (aK.new hp5)) ((s3.trans s4).free hp5) ?_
  rw[aB]
  unfold eE
  rw[aai,aai,abv,abv]
  rfl
end
end Tw
namespace Tw
open PySem L2
theorem zV (j:Int):∀ l:List (Option Int),E1 (.int j) (l.map gU)=decide (some j∈l)
 | []=>rfl
 | none::l=>by
  show (zZ .non (.int j) || E1 (.int j) (l.map gU))=_
  rw[zV j l]
  show (false || decide (some j∈l))=_
  rw[Bool.false_or,decide_eq_decide];simp
 | some i::l=>by
  show (zZ (.int i) (.int j) || E1 (.int j) (l.map gU))=_
  rw[zV j l]
  show ((i == j) || decide (some j∈l))=_
  by_cases e:i=j
  ·subst e;simp
  ·have h1:(i == j)=false:=by simp [e]
   have h2:decide (some j∈some i::l)=decide (some j∈l):=by
    rw[decide_eq_decide]
    simp [Ne.symm e]
   rw[h1,h2,Bool.false_or]
theorem JI (l:List (Option Int)):(l.map gU).all iQ=true:=by
 rw[abu]
 intro z hz
 obtain⟨i,_,rfl⟩:=aaz.1 hz
 cases i <;> rfl
structure MatS (net:Net) (w:Nat) (S:List Nat):Prop where
 up:S.Pairwise (· < ·)
 mem:∀ x,x∈S↔x∈eT net w\/x=0
theorem D9 {net:Net}{w:Nat}{ms:List Int} (h:Rises ((eT net w++[0]).map λ (i:Nat)=>(i:Int)) ms):∃ S:List Nat,ms.map V.int=bR S/\MatS net w S:=by
 have nn:∀ x∈ms,∃ i:Nat,i∈eT net w++[0]/\x=(i:Int):=λ x hx=>by
  obtain⟨i,hi,rfl⟩:=aaz.1 ((h.mem x).1 hx)
  exact⟨i,hi,rfl⟩
 have mm:∀ x:Nat,x∈ms.map Int.toNat↔x∈eT net w++[0]:=λ x=>by
  constructor
  ·intro hx
   obtain⟨y,hy,rfl⟩:=aaz.1 hx
   obtain⟨i,hi,rfl⟩:=nn y hy
   exact hi
  ·intro hx
   exact aaz.2 ⟨(x:Int),(h.mem _).2 (aaz.2 ⟨x,hx,rfl⟩),by omega⟩
 refine⟨ms.map Int.toNat,?_,?_,λ x=>?_⟩
 ·unfold bR
  rw[abv]
  apply List.map_congr_left
  intro x hx
  obtain⟨i,_,rfl⟩:=nn x hx
  rfl
 ·rw[List.pairwise_map]
  refine h.up.imp_of_mem λ {a b} ha hb hab=>?_
  obtain⟨i,_,rfl⟩:=nn a ha
  obtain⟨j,_,rfl⟩:=nn b hb
  omega
 ·rw[mm x,abc,aaq]
theorem D6 (f:List Nat):bR f++[V.int 0]=((f++[0]).map λ (i:Nat)=>(i:Int)).map V.int:=by
 unfold bR
 rw[abv,aai]
 rfl
section
variable {P:Program}{w:World}{K:aaa}{mg:Str->Option Value}{base:Heap}{C c_TipError c_NoNet c_NoVessel c_TooLong c_TooMany c_TooMuch c_Nothing c_NoText c_NoRow:Addr}
noncomputable def nL (K:aaa) (cV:Addr):Sp:=λ vs H Q E=>∃ (x:V) (net:Net) (v:Int),vs=[x,.int v]/\Is K H (fC net) x/\NetOk net/\
 ((¬ (0<=v/\v < net.vs.length)/\E (.ref cV) none H)\/∃ j:Nat,v=(j:Int)/\j < net.vs.length/\∀ p S H',aK H H'->bN K H' p (bR S)->MatS net j S->Q (.ref p) H')
theorem qM:FnScope ["net","watched","vessels","spouts","found","place","number","vessel"] ["net","watched"] (aJ (aQ 43)):=⟨rfl,rfl,rfl,by decide +kernel,rfl,by decide +kernel,by decide +kernel⟩
theorem x9 {f f1 f2:Addr}{fd fd1 fd2:FuncData} (F:Fun K "matters" "matters" (aQ 43) f fd) (T:Txt mg) (G_need_vessel:CalleeR P w K mg base "need_vessel" ["net","number"] 2 (uE K c_NoVessel) f1 fd1)
  (G_leads_to:Callee P w K mg base "leads_to" ["vessel","spouts"] 1 (uH K) f2 fd2):FnOk P w K mg base (BV P w) 3 f fd ["net","watched"] (nL K c_NoVessel):=by
 refine F.okR qM (λ vs H Q E h=>?_) (λ cdv A outer s H vs Q E hr h L=>?_)
 ·obtain⟨x,net,v,rfl,_⟩:=h;rfl
 ·obtain⟨x,net,v,rfl,hx,nok,k⟩:=h
  have sc:=qM
  refine⟨_,(aE (bW (kJ G_need_vessel.ok (hr.mono (by decide)) rfl G_need_vessel.mg G_need_vessel.kp G_need_vessel.bd .nil (AZ L) (aA (pv 0) (aA (pv 1) aD))))
   (aE (bZ (pv 0) (aX (K:=K) (n:=2) rfl rfl (aF (aG (i:=2) sc.nd rfl (Or.inl rfl)) (aF (aG (i:=3) sc.nd rfl (Or.inl rfl)) aW))))
   (aE (yZ (i:=4) (j:=5) rfl sc.nd rfl rfl (by decide) rfl rfl (aA (bP (aA (pv 1) aD)) (aA aH aD)) rfl)
   (aE (AT λ pn=>(wS PassesOwn.never (cT wZ (pv 5) (aU (bL (K:=K) rfl) rfl T.b_len abj (aA (pv 4) aD)) (cR _)) (aE (dY PassesOwn.never rfl (qT (K:=K) rfl rfl T.b_enumerate (aA (pv 2) aD)) (aX (K:=K) (n:=2) rfl rfl (aF (aG (i:=6) sc.nd rfl (Or.inl rfl)) (aF (aG (i:=7) sc.nd rfl (Or.inl rfl)) aW))) (aL (d8 (PW.pt (EW (cT (IU (K:=K) rfl) (pv 6) (pv 4) (by rfl)) (AR (cT (FL (K:=K) rfl) (b0 (aO (K:=K) rfl) (pv 4) (pv 5) (λ _ _=>rfl)) (cU G_leads_to hr (aA (pv 7) (aA (pv 3) aD))) (by rfl))))) (aL (bW (dF (K:=K) rfl aar aba abb cE (pv 4) (aA (pv 6) aD)))) bJ)))
   (aL (zB (i:=5) sc.nd rfl (Or.inl rfl) aH vH)))))
   (aL (aZ (aY (bU (K:=K) rfl) rfl T.b_tuple cD (aA (aU (o9 (P:=P) (w:=w) rfl rfl rfl) rfl T.b_sorted PyProof.Rows.boot_sorted (aA (aY (oA (P:=P) (w:=w) (K:=K) rfl rfl rfl rfl) rfl T.b_set oC (aA (bA qX (pv 4) (bP (aA aH aD))) aD)) aD)) aD)))))))),?_⟩
  refine⟨_,rfl,_,rfl,x,net,v,rfl,hx,?_⟩
  rcases k with ⟨hn,k⟩ | ⟨j,rfl,hj,k⟩
  ·exact .inr ⟨hn,k⟩
  refine .inl ⟨by omega,by omega,?_⟩
  have n12:=nok.hi
  obtain⟨na,nb,nc,xs,ys,rfl,qn,qv,lv,qs,ls⟩:=fY hx
  have exl:xs.length=net.vs.length:=by rw[lv.length,aac]
  refine⟨_,rfl,na,_,rfl,qn,rfl,_,_,rfl,_,_,rfl,rfl,?_⟩
  refine⟨_,rfl,(show 1<=sizeLine by decide),λ fl hfl=>⟨_,_,rfl,?_⟩⟩
  refine⟨λ m Z H'=>∃ (p:Nat) (f:List Nat) (v6 v7:Option V),m=13 - p/\WalkAt net j p f/\aK H H'/\H' fl=some (.lst (bR f))/\Z=[some (.ref na),some (.int (j:Int)),some (.ref nb),some (.ref nc),some (.ref fl),some (.int (p:Int)),v6,v7],
   ⟨13,0,[j],none,none,rfl,WalkAt.first hj,aK.new hfl,aB,rfl⟩,?_⟩
  rintro m Z H1 ⟨p,f,v6,v7,rfl,wa,s1,hf1,rfl⟩
  have fle:=wa.len
  have nfl:(bR f).length=f.length:=by unfold bR;rw[aac]
  refine⟨_,rfl,_,rfl,fl,_,rfl,.inl (bO.of hf1),_,_,rfl,rfl,_,rfl,n6 (λ hT=>?_) λ hF=>?_⟩
  ·have hT:(p:Int) < ((bR f).length:Int):=of_decide_eq_true hT
   rw[nfl] at hT
   have hp:p < f.length:=by omega
   obtain⟨y,hy⟩:∃ y,f[p]? = some y:=⟨_,aaf hp⟩
   refine⟨λ Z H''=>∃ m',m' < 13 - p/\∃ (p:Nat) (f:List Nat) (v6 v7:Option V),m'=13 - p/\WalkAt net j p f/\aK H H''/\H'' fl=some (.lst (bR f))/\Z=[some (.ref na),some (.int (j:Int)),some (.ref nb),some (.ref nc),some (.ref fl),some (.int (p:Int)),v6,v7],
    λ _ _ p=>p,?_⟩
   refine⟨_,rfl,true,nb,rfl,⟨_,(s1.tup qv)⟩,rT (K:=K) (t:=true) (a:=nb) (xs:=xs) (λ i Z H'=>aK H H'/\H' fl=some (.lst (bR (eG net y f i)))/\∃ v6 v7,Z=[some (.ref na),some (.int (j:Int)),some (.ref nb),some (.ref nc),some (.ref fl),some (.int (p:Int)),v6,v7])
    (λ i Z H' q=>q.1.tup qv) ⟨s1,hf1,v6,v7,rfl⟩ ?_ ?_⟩
   ·rintro Z H2 ⟨s2,hf2,v6,v7,rfl⟩
    rw[exl] at hf2
    refine⟨_,rfl,_,_,rfl,rfl,13 - (p+1),by omega,p+1,_,v6,v7,rfl,wa.go n12 hy,s2,hf2,?_⟩
    rfl
   ·rintro i x0 Z H2 Tt hx0 ⟨s2,hf2,v6,v7,rfl⟩ hT
    have hil:i < net.vs.length:=by rw[<- exl];exact (aad.mp hx0).1
    have sT:=aK.new (o:=HO.tup [.int (i:Int),x0]) hT
    refine⟨Tt,_,rfl,bN.of aB,rfl,_,_,rfl,_,_,rfl,rfl,?_⟩
    have hf3:=sT _ _ hf2
    have s3:=s2.trans sT
    generalize upd H2 Tt (.tup [.int (i:Int),x0])=H3 at hf3 s3 ⊢
    obtain⟨gg,eg⟩:=iP net y f i
    have gok:=rN (net:=net) (x:=y) wa.nd wa.lt i (by omega)
    have gl:=jX _ _ gok.1 gok.2
    have hgp:(eG net y f i)[p]? = some y:=by rw[eg,abr hp];exact hy
    have hgs:=gO net y f i
    have iv:Is K H3 (pM (tZ net i)) x0:=by
     obtain⟨z,hz,iz⟩:=(L2.IsL.mono s3.ts _ _ lv).get (i:=i) (d:=pM net.vs[i]) (by rw[aah,aaf hil];rfl)
     rw[hx0] at hz
     cases hz
     rw[show tZ net i=net.vs[i] by unfold tZ;rw[aae,aaf hil];rfl]
     exact iz
    have vok:VOk net.vs.length net.sps.length (tZ net i):=by
     rw[show tZ net i=net.vs[i] by unfold tZ;rw[aae,aaf hil];rfl]
     exact nok.vs _ (abf hil)
    refine⟨_,rfl,_,rfl,fl,_,rfl,.inl (bO.of hf3),rfl,nA _,_,rfl,?_⟩
    rw[if_pos rfl,show E1 (.int (i:Int)) (bR (eG net y f i))=_ from BD _ _]
    refine n6 (λ h1=>?_) λ h1=>?_
    ·have h1:i∉eG net y f i:=by simpa using h1
     refine⟨_,rfl,_,rfl,.inl ⟨fl,_,_,_,rfl,rfl,bO.of hf3,dO (show (bR (eG net y f i))[p]? = some (V.int (y:Int)) by unfold bR;rw[aah,hgp];rfl),_,rfl,_,rfl,x0,.ref nc,net,tZ net i,rfl,iv,Is.tupOf (s3.tup qs) (L2.IsL.mono s3.ts _ _ ls),vok,λ l H4 s4 hln hl4=>?_⟩⟩
     refine⟨l,_,rfl,.inl (bO.of hl4),rfl,JI _,_,rfl,?_⟩
     rw[if_neg aal,show E1 (.int (y:Int)) ((eE net (tZ net i)).map gU)=_ from zV _ _]
     have hf4:=s4 _ _ hf3
     refine n6 (λ h2=>?_) λ h2=>?_
     ·rw[if_pos ⟨h1,of_decide_eq_true h2⟩] at hgs
      refine⟨_,rfl,.inl ⟨rfl,_,bO.of hf4⟩,_,rfl,fl,_,_,rfl,rfl,hf4,aP (by unfold bR;rw[aac];omega),(s3.trans s4).put hfl,?_,_,_,rfl⟩
      rw[aB,hgs]
      unfold bR
      rw[aai];rfl
     ·rw[if_neg (λ z=>h2 (decide_eq_true z.2))] at hgs
      exact⟨s3.trans s4,by rw[hgs];exact hf4,_,_,rfl⟩
    ·rw[if_neg (λ z=>h1 (by simpa using z.1))] at hgs
     exact⟨s3,by rw[hgs];exact hf3,_,_,rfl⟩
  ·have hF:f.length<=p:=by
    rcases Nat.lt_or_ge p f.length with z | z
    ·exact absurd (decide_eq_true (show (p:Int) < ((bR f).length:Int) by rw[nfl];omega)) hF
    ·exact z
   have ef:=wa.done hF
   subst ef
   refine⟨_,rfl,(show 1<=sizeLine by decide),λ p2 hp2=>⟨fl,p2,_,_,rfl,rfl,aK.new hp2 _ _ hf1,aB,ace (aP (by rw[nfl];show _+1<=1000;omega)),λ p3 hp3=>?_⟩⟩
   rw[D6]
   have lnz:((eT net j++[0]).map λ (i:Nat)=>(i:Int)).length=(eT net j).length+1:=by rw[aac,aat];rfl
   have dl:=vP ((eT net j++[0]).map λ (i:Nat)=>(i:Int))
   refine⟨p3,_,rfl,bO.of aB,by omega,λ sa hsa=>⟨sa,_,rfl,aB,by omega,λ l ms hl pm pw=>⟨l,_,rfl,.inl ⟨bO.of aB,λ q hq=>?_⟩⟩⟩⟩
   obtain⟨S,e1,mS⟩:=D9 (qO pm pw)
   refine k q S _ (((((s1.trans (aK.new hp2)).trans (aK.new hp3)).trans (aK.new hsa)).trans (aK.new hl)).trans (aK.new hq)) ?_ mS
   rw[<- e1]
   exact bN.of aB
end
end Tw
namespace Tw
open PySem L2
section
variable {P:Program}{w:World}{K:aaa}{mg:Str->Option Value}{base:Heap}{C c_TipError c_NoNet c_NoVessel c_TooLong c_TooMany c_TooMuch c_Nothing c_NoText c_NoRow:Addr}
end
end Tw
namespace Tw
open PySem L2
section
variable {P:Program}{w:World}{K:aaa}{mg:Str->Option Value}{base:Heap}{C c_TipError c_NoNet c_NoVessel c_TooLong c_TooMany c_TooMuch c_Nothing c_NoText c_NoRow aw:Addr}
end
end Tw
namespace L2
open PySem PySem.Spec PyProof.Rows
end L2
namespace Tw
open PySem L2
noncomputable def bB:Nat->List Nat->sS
 | _,[]=>[]
 | k,s::r=>((s:Int),(k:Int))::bB (k+1) r
theorem rB:∀ (r:List Nat) (k:Nat),(bB k r).length=r.length
 | [],_=>rfl
 | s::r,k=>by show (bB (k+1) r).length+1=r.length+1;rw[rB r]
section
variable {P:Program}{w:World}{K:aaa}{mg:Str->Option Value}{base:Heap}{C c_TipError c_NoNet c_NoVessel c_TooLong c_TooMany c_TooMuch c_Nothing c_NoText c_NoRow:Addr}
end
end Tw
namespace Tw
open PySem L2
structure TxtT (mg:Str->Option Value):Prop where
 g_LAST_TICK:∃ u,mg "LAST_TICK" = some u/\bE (.int 2000) u
theorem wG {n:Nat} (h:n<=10000000):n < sizeLine:=by rw[sizeLine_eq];omega
end Tw
namespace Tw
open PySem L2
section
variable {P:Program}{w:World}{K:aaa}{mg:Str->Option Value}{base:Heap}{C c_TipError c_NoNet c_NoVessel c_TooLong c_TooMany c_TooMuch c_Nothing c_NoText c_NoRow:Addr}
noncomputable def EG (K:aaa) (cL:Addr):Sp:=λ vs H Q E=>∃ (x:V) (net:Net),vs=[x]/\Is K H (fC net) x/\NetOk net/\
 (∀ t j p tl us H',yB net t j->aK H H'->bN K H' p [.int j,.ref tl]->H' tl=some (.lst us)->us.length=t->IsL K H' ((List.range t).map λ i=>EA ((cC net i).tk net)) us->H tl=none->Q (.ref p) H')/\(vZ net->∀ H',aK H H'->E (.ref cL) none H')
theorem oQ:FnScope ["net","state","nothing","seen","told","tick"] ["net"] (aJ (aQ 48)):=⟨rfl,rfl,rfl,by decide +kernel,rfl,by decide +kernel,by decide +kernel⟩
theorem vB {f f1 f2 f3:Addr}{fd fd1 fd2 fd3:FuncData} (F:Fun K "go_round" "go_round" (aQ 48) f fd) (T:Txt mg) (U:TxtT mg) (XC_TooLong:ExC K "TooLong" c_TooLong)
  (G_first_state:Callee P w K mg base "first_state" ["net"] 1 (pD K) f1 fd1) (G_pouring:Callee P w K mg base "pouring" ["net","amount"] 1 (iH K) f2 fd2) (G_tick_behind:Callee P w K mg base "tick_behind" ["net","state","poured"] 4 (u7 K) f3 fd3) :
  FnOk P w K mg base (BV P w) 5 f fd ["net"] (EG K c_TooLong):=by
 refine F.okR oQ (λ vs H Q E h=>?_) (λ cdv A outer s H vs Q E hr h L=>?_)
 ·obtain⟨x,net,rfl,_⟩:=h;rfl
 ·obtain⟨x,net,rfl,hx,nok,kR,kL⟩:=h
  have sc:=oQ
  refine⟨_,(aE (yZ (i:=1) (j:=2) rfl sc.nd rfl rfl (by decide) rfl rfl (aA (cU G_first_state hr (aA (pv 0) aD)) (aA (cU G_pouring hr (aA (pv 0) (aA aH aD))) aD)) rfl)
   (aE (yZ (i:=3) (j:=4) rfl sc.nd rfl rfl (by decide) rfl rfl (aA wX (aA (bP aD) aD)) rfl)
   (aE (AT λ pn=>(dY PassesOwn.never rfl (dX rfl T.b_range (aA (bA dG (eM rfl U.g_LAST_TICK) aH) aD)) (aG (i:=5) sc.nd rfl (Or.inl rfl)) (aE (d8 (cT (IW (P:=P) (w:=w) (K:=K) rfl rfl rfl hr.units) (pv 1) (pv 3) (by rfl)) (aL (aZ (bS (aA (b0 (N9 (P:=P) (w:=w) (K:=K) rfl rfl rfl hr.units) (pv 3) (pv 1) (λ _ _=>rfl)) (aA (pv 4) aD))))) bJ)
   (aE (CL (P:=P) (w:=w) (K:=K) rfl rfl rfl hr.units (pv 3) (pv 1) (pv 5) rfl)
   (aE (bW (dF (K:=K) rfl aar aba abb cE (pv 4) (aA (cU G_tick_behind hr (aA (pv 0) (aA (pv 1) (aA (pv 2) aD)))) aD)))
   (aL (b9 (i:=1) sc.nd rfl (Or.inl rfl) (b0 (aO (K:=K) rfl) (b0 (aO (K:=K) rfl) (pv 4) (wV pQ aH) (λ _ _=>rfl)) aH (λ _ _=>rfl)))))))))
   (aL (wT L rfl rfl XC_TooLong.exc XC_TooLong.ns PySem.F.excBase_ValueError (aA hJ aD)))))),?_⟩
  refine⟨_,rfl,x,net,rfl,hx,nok,λ st H1 sm1 hst=>⟨_,rfl,x,net,0,rfl,Is.mono sm1.ts _ _ hx,nok,λ z H2 sm2 qz=>⟨_,_,rfl,?_⟩⟩⟩
  have s2:=sm1.trans sm2
  have hst2:=Is.mono sm2.ts _ _ hst
  rw[lE nok.lo] at qz
  refine λ sd hsd=>⟨Nat.zero_le _,λ tl htl=>⟨_,_,rfl,?_⟩⟩
  have nst:sd≠tl:=aN (show upd H2 sd (.dK []) sd=_ from aB) htl
  have fs:H sd=none:=s2.free hsd
  have ft:H tl=none:=(s2.trans (aK.new hsd)).free htl
  have s3:aK H2 (upd (upd H2 sd (.dK [])) tl (.lst [])):=(aK.new hsd).trans (aK.new htl)
  have g1:upd (upd H2 sd (.dK [])) tl (.lst []) sd=some (.dK []):=by rw[aM nst];exact aB
  have g2:upd (upd H2 sd (.dK [])) tl (.lst []) tl=some (.lst []):=aB
  generalize upd (upd H2 sd (.dK [])) tl (.lst [])=H3 at s3 g1 g2
  refine⟨_,_,rfl,rfl,_,rfl,by decide,by decide,?_⟩
  refine fL (lo:=0) (n:=2001) (λ i Z H'=>aK H H'/\(∀ m,m < i->oS net m=none)/\fG P w K H' sd (M5 net) (eJ net i)/\(∃ us,H' tl=some (.lst us)/\IsL K H' ((List.range i).map λ i=>EA ((cC net i).tk net)) us)/\bN K H' z ((cG net.vs.length).map V.int)/\
   ∃ st v5,Is K H' (fB (cC net i)) st/\Z=[some x,some st,some (.ref z),some (.ref sd),some (.ref tl),v5]) ?_ ?_ ?_
  ·exact⟨s2.trans s3,λ m hm=>absurd hm (aci _),fG.new g1,⟨[],g2,.nil⟩,s3.tup qz,st,_,Is.mono s3.ts _ _ hst2,rfl⟩
  ·rintro i Z H4 hi ⟨s4,hno,dd,⟨us,htl4,lus⟩,qz4,st,v5,hst4,rfl⟩
   rw[Int.zero_add]
   have hul:us.length=i:=by rw[lus.length];simp
   have sok:=jP nok i
   have key:=JE sok hst4
   have hsl:=wJ net i
   dsimp only [iG]
   refine⟨_,rfl,_,rfl,sd,M5 net,eJ net i,fB (cC net i),rfl,dd,key,_,rfl,?_⟩
   cases hr:oS net i with
   | some v=>
    have hr':eC (eJ net i) (fB (cC net i))=some v:=hr
    rw[hr']
    refine gA ?_
    obtain⟨j,rfl⟩:=qK net _ v i hr'
    refine⟨_,rfl,_,rfl,sd,M5 net,eJ net i,fB (cC net i),.int j,rfl,dd,key,hr',_,rfl,(show 2<=sizeLine by decide),λ p hp=>?_⟩
    have s5:=aK.new (o:=HO.tup [.int j,.ref tl]) hp
    exact kR i j p tl us _ ⟨by omega,hr,hno⟩ (s4.trans s5) (bN.of aB) (s5 _ _ htl4) hul (L2.IsL.mono s5.ts _ _ lus) ft
   | none=>
    have hr':eC (eJ net i) (fB (cC net i))=none:=hr
    rw[hr']
    refine eU ?_
    refine⟨_,rfl,_,rfl,_,rfl,sd,M5 net,eJ net i,fB (cC net i),rfl,dd,key,wG (by omega),λ H5 b5 dd5=>?_⟩
    have ts5:=b5.ts (K:=K) dd.mut
    have s5:aK H H5:=λ b o e=>b5 b o (aN e fs) (s4 b o e)
    have ntl:tl≠sd:=Ne.symm nst
    have htl5:=b5 _ _ ntl htl4
    have hx5:=Is.mono s5.ts _ _ hx
    have hst5:=Is.mono ts5 _ _ hst4
    refine⟨_,rfl,.inl ⟨rfl,_,bO.of htl5⟩,_,rfl,_,rfl,_,rfl,x,st,z,net,_,_,cG net.vs.length,_,rfl,hx5,hst5,ts5 _ _ qz4,nok,sok,pB _,λ f ys H6 sm6 hf6 if6=>?_⟩
    have htl6:=sm6 _ _ htl5
    refine⟨tl,us,_,rfl,rfl,htl6,wG (by omega),?_⟩
    have mu6:iF (H6 tl):=by rw[htl6];exact trivial
    have b7:cA tl H6 (upd H6 tl (.lst (us++[.ref f]))):=cA.upd
    have ts7:=b7.ts (K:=K) mu6
    obtain⟨fa,gxs,ef,qf,lf⟩:=(show Is K H6 (.tup [AC ((cC net i).tk net).held ((cC net i).tk net).coming ((cC net i).tk net).doors,.tup (((cC net i).tk net).tip.map λ (i:Nat)=>L2.D.int (i:Int)),.int ((cC net i).tk net).ground]) (.ref f) from if6).un
    cases ef
    obtain⟨y1,r,rfl,j1,lf⟩:=lf.un
    refine⟨_,rfl,1,rfl,.inl ⟨tl,_,-1,_,rfl,rfl,bO.of aB,kD _ _,.inr (.inl ⟨f,_,0,_,rfl,rfl,ts7 _ _ qf,(show BR (y1::r) 0=some y1 from dO (xs:=y1::r) (j:=0) rfl),?_⟩)⟩⟩
    refine⟨(s5.trans sm6).put ft,λ m hm=>?_,(dd5.same sm6).mono ts7 λ o e=>b7 _ _ nst e,⟨_,aB,by rw[List.range_succ,aai];exact L2.IsL.snoc (Is.mono ts7 _ _ if6) (L2.IsL.mono ((ts5.trans sm6.ts).trans ts7) _ _ lus)⟩,ts7 _ _ (sm6.tup (ts5 _ _ qz4)),y1,_,Is.mono ts7 _ _ j1,rfl⟩
    rcases (show m < i\/m=i by omega) with h | rfl
    ·exact hno m h
    ·exact hr
  ·rintro Z H4 ⟨s4,hno,_⟩
   exact⟨by show 1<=100;decide,kL (λ i hi=>hno i (by omega)) _ s4⟩
end
end Tw
namespace L2
open PySem PySem.Spec PyProof.Rows TwZ
section
variable {X:Cx}{K:aaa}
end
end L2
namespace Tw
open PySem L2
section
variable {P:Program}{w:World}{K:aaa}{mg:Str->Option Value}{base:Heap}
end
end Tw
namespace Tw
open PySem L2
section
variable {P:Program}{w:World}{K:aaa}{mg:Str->Option Value}{base:Heap}{C c_TipError c_NoNet c_NoVessel c_TooLong c_TooMany c_TooMuch c_Nothing c_NoText c_NoRow:Addr}
end
end Tw
namespace Tw
open PySem L2
theorem wI {net:Net}{d:L2.D}{v:V}:∀ t,eC (eJ net t) d=some v->∃ a:Nat,a < t/\v=.int (a:Int)/\fB (cC net a)=d
 | 0,h=>by cases h
 | t+1,h=>by
  rw[show eJ net (t+1)=gK (eJ net t) (fB (cC net t)) (.int (t:Int)) from rfl,jK] at h
  by_cases e:d=fB (cC net t)
  ·rw[if_pos e] at h;cases h;exact⟨t,by omega,rfl,e.symm⟩
  ·rw[if_neg e] at h
   obtain⟨a,h1,h2,h3⟩:=wI t h
   exact⟨a,by omega,h2,h3⟩
theorem kN {ar:Type}{f:ar->L2.D} (hf:∀ a b,f a=f b->a=b):∀ {xs ys:List ar},xs.map f=ys.map f->xs=ys
 | [],[],_=>rfl
 | [],_::_,h=>by cases h
 | _::_,[],h=>by cases h
 | x::xs,y::ys,h=>by
  rw[aaw,aaw] at h
  injection h with h1 h2
  rw[hf _ _ h1,kN hf h2]
theorem nI {s s':Sta} (h:fB s=fB s'):s=s':=by
 have h':L2.D.tup [.tup (s.held.map L2.D.int),.tup (s.coming.map L2.D.int),.tup (s.doors.map L2.D.bl)]=.tup [.tup (s'.held.map L2.D.int),.tup (s'.coming.map L2.D.int),.tup (s'.doors.map L2.D.bl)]:=h
 injection h' with h'
 injection h' with h1 h'
 injection h' with h2 h'
 injection h' with h3 _
 injection h1 with h1
 injection h2 with h2
 injection h3 with h3
 obtain⟨a,b,c⟩:=s
 obtain⟨a',b',c'⟩:=s'
 have e1:a=a':=kN (λ x y e=>by injection e) h1
 have e2:b=b':=kN (λ x y e=>by injection e) h2
 have e3:c=c':=kN (λ x y e=>by injection e) h3
 rw[e1,e2,e3]
structure Rnd (net:Net) (a t:Nat):Prop where
 lt:a < t
 le:t<=2000
 eq:cC net a=cC net t
theorem yB.rnd {net:Net}{t:Nat}{j:Int} (h:yB net t j):∃ a:Nat,j=(a:Int)/\Rnd net a t:=by
 obtain⟨h1,h2,_⟩:=h
 obtain⟨a,h3,h4,h5⟩:=wI t h2
 injection h4 with h4
 exact⟨a,h4,h3,h1,nI h5⟩
theorem yB.uniq {net:Net}{t t':Nat}{j j':Int} (h:yB net t j) (h':yB net t' j'):t=t'/\j=j':=by
 have e:t=t':=by
  rcases Nat.lt_trichotomy t t' with hlt | e | hlt
  ·have:=h'.2.2 t hlt;rw[h.2.1] at this;cases this
  ·exact e
  ·have:=h.2.2 t' hlt;rw[h'.2.1] at this;cases this
 subst e
 have:=h.2.1.symm.trans h'.2.1
 injection this with this
 injection this with this
 exact⟨rfl,this⟩
end Tw
namespace Tw
open PySem L2
section
variable {P:Program}{w:World}{K:aaa}{mg:Str->Option Value}{base:Heap}{C c_TipError c_NoNet c_NoVessel c_TooLong c_TooMany c_TooMuch c_Nothing c_NoText c_NoRow:Addr}
end
end Tw
namespace Tw
open PySem L2
end Tw
namespace L2
open PySem PySem.Spec PyProof.Rows TwZ
end L2
namespace Tw
open PySem L2
section
variable {P:Program}{w:World}{K:aaa}{mg:Str->Option Value}{base:Heap}{C c_TipError c_NoNet c_NoVessel c_TooLong c_TooMany c_TooMuch c_Nothing c_NoText c_NoRow:Addr}
end
end Tw
namespace Tw
open PySem L2
theorem o0:∀ {r:List Nat}{k i x:Nat},r.Nodup->r[i]? = some x->jJ (bB k r) (x:Int)=some ((k+i:Nat):Int)
 | [],_,_,_,_,h=>by cases h
 | s::r,k,0,x,_,h=>by
  cases h
  unfold jJ
  show Option.map _ (List.find? _ (((s:Int),(k:Int))::bB (k+1) r))=_
  rw[List.find?_cons_of_pos (by simp)];rfl
 | s::r,k,i+1,x,nd,h=>by
  rw[abi] at nd
  have hx:x∈r:=aaj (show r[i]? = some x from h)
  have ne:¬ ((s:Int)=(x:Int)):=λ z=>nd.1 (by rw[show s=x by omega];exact hx)
  have ih:=o0 (r:=r) (k:=k+1) (i:=i) (x:=x) nd.2 h
  rw[show k+1+i=k+(i+1) by omega] at ih
  unfold jJ at ih ⊢
  show Option.map _ (List.find? _ (((s:Int),(k:Int))::bB (k+1) r))=_
  rw[List.find?_cons_of_neg (by simpa using ne)]
  exact ih
theorem mV:∀ {r:List Nat}{k:Nat}{p:Int×Int},p∈bB k r->∃ s∈r,p.1=(s:Int)
 | [],_,_,h=>by cases h
 | s::r,k,p,h=>by
  rcases List.mem_cons.1 h with z | z
  ·subst z;exact⟨s,aas,rfl⟩
  ·obtain⟨s',h1,h2⟩:=mV z
   exact⟨s',aam _ h1,h2⟩
theorem MatS.nd {net:Net}{w:Nat}{S:List Nat} (m:MatS net w S):S.Nodup:=m.up.imp λ z=>aay z
theorem MatS.lt {net:Net}{w:Nat}{S:List Nat} (m:MatS net w S) (h12:net.vs.length<=12) (hw:w < net.vs.length):∀ y∈S,y < net.vs.length:=λ y hy=>by
 rcases (m.mem y).1 hy with z | z
 ·exact (lQ h12 hw).2.1 y z
 ·omega
section
variable {P:Program}{w:World}{K:aaa}{mg:Str->Option Value}{base:Heap}{C c_TipError c_NoNet c_NoVessel c_TooLong c_TooMany c_TooMuch c_Nothing c_NoText c_NoRow:Addr}
end
end Tw
namespace Tw
open PySem L2
section
variable {P:Program}{w:World}{K:aaa}{mg:Str->Option Value}{base:Heap}{C c_TipError c_NoNet c_NoVessel c_TooLong c_TooMany c_TooMuch c_Nothing c_NoText c_NoRow:Addr}
theorem xL {z:Int}:∀ {r:List Nat}{k:Nat},(¬ ∃ s∈r,z=(s:Int))->jJ (bB k r) z=none
 | [],_,_=>rfl
 | s::r,k,h=>by
  have ih:=xL (r:=r) (k:=k+1) (z:=z) λ ⟨s',h1,h2⟩=>h ⟨s',aam _ h1,h2⟩
  have ne:¬ ((s:Int)=z):=λ y=>h ⟨s,aas,y.symm⟩
  unfold jJ at ih ⊢
  show Option.map _ (List.find? _ (((s:Int),(k:Int))::bB (k+1) r))=none
  rw[List.find?_cons_of_neg (by simpa using ne)]
  exact ih
end
end Tw
namespace Tw
open PySem L2
theorem B2:∀ {r:List Nat}{k i:Nat}{p:Int×Int},(bB k r)[i]? = some p->∃ s,r[i]? = some s/\p=((s:Int),((k+i:Nat):Int))
 | [],_,_,_,h=>by cases h
 | s::r,k,0,p,h=>by cases h;exact⟨s,rfl,rfl⟩
 | s::r,k,i+1,p,h=>by
  obtain⟨s',h1,h2⟩:=B2 (r:=r) (k:=k+1) (i:=i) h
  exact⟨s',h1,by rw[h2,show k+1+i=k+(i+1) by omega]⟩
theorem mY {r:List Nat}{z y:Int} (nd:r.Nodup) (h:jJ (bB 0 r) z=some y):∃ i s:Nat,r[i]? = some s/\z=(s:Int)/\y=(i:Int):=by
 by_cases c:∃ s∈r,z=(s:Int)
 ·obtain⟨s,hs,rfl⟩:=c
  obtain⟨i,hi⟩:=aby.1 hs
  rw[o0 nd hi,Nat.zero_add] at h
  injection h with h
  exact⟨i,s,hi,rfl,h.symm⟩
 ·rw[xL c] at h;cases h
end Tw
namespace Tw
open PySem L2
theorem tK {net:Net}{x:Nat}{f:List Nat}:∀ (n y:Nat),y < n->some (x:Int)∈eE net (tZ net y)->y∈eG net x f n
 | 0,_,h,_=>absurd h (aci _)
 | n+1,y,h,hl=>by
  rw[gO]
  by_cases c:y=n
  ·subst c
   by_cases m:y∈eG net x f y
   ·rw[if_neg λ z=>z.1 m];exact m
   ·rw[if_pos ⟨m,hl⟩];exact abm _ (aaq.2 rfl)
  ·have ih:=tK (f:=f) n y (by omega) hl
   split
   ·exact abz _ ih
   ·exact ih
theorem o5 {net:Net}{x:Nat}{f:List Nat}:∀ (n y:Nat),y∈eG net x f n->y∈f\/(y < n/\some (x:Int)∈eE net (tZ net y))
 | 0,y,h=>.inl h
 | n+1,y,h=>by
  rw[gO] at h
  split at h
  ·rename_i c
   rcases abc.1 h with z | z
   ·rcases o5 n y z with q | q
    ·exact .inl q
    ·exact .inr ⟨by omega,q.2⟩
   ·have:=aaq.1 z
    subst this
    exact .inr ⟨by omega,c.2⟩
  ·rcases o5 n y h with q | q
   ·exact .inl q
   ·exact .inr ⟨by omega,q.2⟩
noncomputable def HP (net:Net) (p:Nat) (f:List Nat):Prop:=∀ (i x y:Nat),i < p->f[i]? = some x->y < net.vs.length->some (x:Int)∈eE net (tZ net y)->y∈f
theorem lG {net:Net}{w:Nat} (h12:net.vs.length<=12) (Pr:Nat->Prop) (ps:∀ x y,x∈eT net w->Pr x->y < net.vs.length->some (x:Int)∈eE net (tZ net y)->Pr y) :
  ∀ (m p:Nat) (f:List Nat),WalkAt net w p f->HP net p f->(∀ y∈f,y∈eT net w->Pr y)->(∀ y∈f,y∈eT net w)->13 - p=m->
   (∀ x y:Nat,x∈eT net w->y < net.vs.length->some (x:Int)∈eE net (tZ net y)->y∈eT net w)/\∀ y∈eT net w,Pr y
 | 0,p,f,a,_,_,_,e=>by
  have:=a.len;have:=a.le
  omega
 | m+1,p,f,a,c,pr,inn,e=>by
  rcases Nat.lt_or_ge p f.length with z | z
  ·have hx:=aaf z
   generalize f[p]=x at hx
   have xm:=inn x (aaj hx)
   have a':=a.go h12 hx
   have sub:∀ (m p:Nat) (f:List Nat),WalkAt net w p f->13 - p=m->∀ y∈f,y∈eT net w:=by
    clear c pr inn a' z hx xm a e m p f x
    intro m
    induction m with
    | zero=>intro p f a e;have:=a.len;have:=a.le;omega
    | succ m ih=>
     intro p f a e y hy
     rcases Nat.lt_or_ge p f.length with z | z
     ·obtain⟨g,eg⟩:=iP net f[p] f net.vs.length
      exact ih (p+1) _ (a.go h12 (aaf z)) (by omega) y (by rw[eg];exact abz _ hy)
     ·rw[<- a.done z];exact hy
   obtain⟨g,eg⟩:=iP net x f net.vs.length
   refine lG h12 Pr ps m (p+1) _ a' (λ i x' y hi hf hy hl=>?_) (λ y hy ym=>?_) (λ y hy=>sub _ _ _ a' rfl y hy) (by omega)
   ·by_cases ci:i=p
    ·subst ci
     rw[eg,abr z,hx] at hf
     injection hf with hf
     subst hf
     exact tK _ _ hy hl
    ·rw[eg,abr (by omega)] at hf
     rw[eg]
     exact abz _ (c i x' y (by omega) hf hy hl)
   ·rcases o5 _ _ hy with q | q
    ·exact pr y q ym
    ·exact ps x y xm (pr x (aaj hx) xm) q.1 q.2
  ·have ef:=a.done z
   subst ef
   refine⟨λ x y hx hy hl=>?_,λ y hy=>pr y hy hy⟩
   obtain⟨i,hi⟩:=aby.1 hx
   have:=(aad.mp hi).1
   exact c i x y (by omega) hi hy hl
theorem rE {net:Net}{w:Nat} (h12:net.vs.length<=12) (h:w < net.vs.length) {x y:Nat} (hx:x∈eT net w) (hy:y < net.vs.length) (hl:some (x:Int)∈eE net (tZ net y)):y∈eT net w:=by
 have hm:=(lQ h12 h).2.2
 refine (lG h12 (λ _=>True) (λ _ _ _ _ _ _=>trivial) 13 0 [w] (WalkAt.first h) (λ i _ _ hi _ _ _=>absurd hi (aci _)) (λ _ _ _=>trivial) (λ y hy=>?_) rfl).1 x y hx hy hl
 have:=aaq.1 hy
 subst this;exact hm
theorem B4 {net:Net}{w:Nat} (h12:net.vs.length<=12) (h:w < net.vs.length) {Pr:Nat->Prop} (p0:Pr w) (ps:∀ x y,x∈eT net w->Pr x->y < net.vs.length->some (x:Int)∈eE net (tZ net y)->Pr y):∀ y∈eT net w,Pr y:=by
 have hm:=(lQ h12 h).2.2
 refine (lG h12 Pr ps 13 0 [w] (WalkAt.first h) (λ i _ _ hi _ _ _=>absurd hi (aci _)) (λ y hy _=>?_) (λ y hy=>?_) rfl).2
 ·have:=aaq.1 hy
  subst this;exact p0
 ·have:=aaq.1 hy
  subst this;exact hm
section
variable {net:Net}{w:Nat}{S:List Nat}
theorem rC:∀ {r:List Nat}{k i x:Nat},r[i]? = some x->(bB k r)[i]? = some ((x:Int),((k+i:Nat):Int))
 | [],_,_,_,h=>by cases h
 | s::r,k,0,x,h=>by cases h;rfl
 | s::r,k,i+1,x,h=>by
  have:=rC (r:=r) (k:=k+1) (i:=i) (x:=x) h
  rw[show k+1+i=k+(i+1) by omega] at this
  exact this
theorem gZ (nd:S.Nodup) {p s:Nat} (h:S[p]? = some s) (z:Int):jJ (bB 0 S) z=some (p:Int)↔z=(s:Int):=by
 constructor
 ·intro e
  obtain⟨i,s',h1,h2,h3⟩:=mY nd e
  have:i=p:=by omega
  subst this
  rw[h] at h1
  injection h1 with h1
  rw[h2,h1]
 ·rintro rfl
  rw[o0 nd h,Nat.zero_add]
theorem kC (nd:S.Nodup) {p s:Nat} (h:S[p]? = some s) (t:Option Int):t.bind (jJ (bB 0 S))=some (p:Int)↔t=some (s:Int):=by
 cases t with
 | none=>simp
 | some z=>show jJ (bB 0 S) z=some (p:Int)↔_;rw[gZ nd h];simp
theorem nQ (nv:sS) (outs:List (Option Int×Int)):whole (outs.map (nS nv))=whole outs:=by unfold whole;rw[abv];rfl
theorem AA (nd:S.Nodup) {p s:Nat} (h:S[p]? = some s):∀ gs:List (Option Int×Int),bQ (some (p:Int)) (gs.map λ g=>(g.1.bind (jJ (bB 0 S)),g.2))=bQ (some (s:Int)) gs
 | []=>rfl
 | g::gs=>by
  show (if g.1.bind (jJ (bB 0 S))=some (p:Int) then g.2 else 0)+bQ (some (p:Int)) (gs.map λ g=>(g.1.bind (jJ (bB 0 S)),g.2))=(if g.1=some (s:Int) then g.2 else 0)+bQ (some (s:Int)) gs
  rw[AA nd h gs]
  congr 1
  by_cases c:g.1=some (s:Int)
  ·rw[if_pos c,if_pos ((kC nd h _).2 c)]
  ·rw[if_neg c,if_neg λ z=>c ((kC nd h _).1 z)]
theorem wL (nv ms:sS) (v:Vs) (a:Int):dZ (kU nv ms v) a=(dZ v a).map λ g=>(g.1.bind (jJ nv),g.2):=by
 unfold dZ
 have e1:iY (kU nv ms v) (cK v a)=(iY v (cK v a)).map λ g=>(g.1.bind (jJ nv),g.2):=by
  unfold iY
  show (v.outs.map (nS nv)).map (λ o=>(o.1,cK v a / whole (v.outs.map (nS nv)) * o.2))=_
  rw[nQ,abv,abv];rfl
 show (v.spill.bind (jJ nv),a - cK v a)::(if dD v a=true then iY (kU nv ms v) (cK v a)++(if v.holds=true then [] else [(none,cK v a % whole (v.outs.map (nS nv)))]) else [])=_
 rw[e1,nQ,aaw]
 congr 1
 split
 ·rw[aai]
  congr 1
  split <;> rfl
 ·rfl
theorem EN (nv ms:sS) (v:Vs) (a:Int):gI (kU nv ms v) a=gI v a:=by
 unfold gI
 show (if dD v a=true then (if v.holds=true then cK v a % whole (v.outs.map (nS nv)) else 0) else cK v a)=_
 rw[nQ]
theorem sD {ms:List Nat} (nd:ms.Nodup) {q k:Nat} (h:ms[q]? = some k):∀ (as:List (Str×Int)) (b:Bool),(∀ a∈as,0<=a.2)->cX q (as.filterMap (gW (bB 0 ms))) b=cX k as b
 | [],_,_=>rfl
 | a::as,b,h0=>by
  have ih:=λ b=>sD nd h as b λ a ha=>h0 a (aam _ ha)
  have a0:=h0 a aas
  show _=cX k as (if a.2.toNat=k then vY a.1 b else b)
  cases e:jJ (bB 0 ms) a.2 with
  | none=>
   rw[List.filterMap_cons_none (by unfold gW;rw[e];rfl),ih,if_neg]
   intro z
   have:=(gZ nd h a.2).2 (by omega)
   rw[e] at this;cases this
  | some y=>
   rw[List.filterMap_cons_some (b:=(a.1,y)) (by unfold gW;rw[e];rfl)]
   show cX q (as.filterMap (gW (bB 0 ms))) (if y.toNat=q then vY a.1 b else b)=_
   rw[ih]
   congr 1
   obtain⟨i,s',h1,h2,h3⟩:=mY nd e
   by_cases c:a.2.toNat=k
   ·have:=(gZ nd h a.2).2 (by omega)
    rw[e] at this
    injection this with this
    rw[if_pos c,if_pos (by omega)]
   ·rw[if_neg c,if_neg]
    intro z
    have:i=q:=by omega
    subst this
    rw[h] at h1
    injection h1 with h1
    omega
end
end Tw
namespace Tw
open PySem L2
section
variable {A:Net}{w:Nat}{S:List Nat}
theorem DI {l:List Nat}{i:Nat} (h:i < l.length):l[i]? = some (l.getD i 0):=by rw[aae,aaf h];rfl
theorem NI (ok:NetOk A) {i:Nat}:∀ a∈(A.vs.getD i cI).acts,0<=a.2:=λ a ha=>by
 rcases Nat.lt_or_ge i A.vs.length with z | z
 ·rw[aae,aaf z] at ha
  exact ((ok.vs _ (abf z)).acts a ha).lo
 ·rw[aae,acd z] at ha
  exact nomatch ha
theorem DK {cg:Type} (l:List Nat) (f:cg->Nat->cg):∀ b,l.foldl f b=(List.range l.length).foldl (λ b q=>f b (l.getD q 0)) b:=by
 induction l with
 | nil=>intro b;rfl
 | cons a l ih=>
  intro b
  rw[abt,ih,aax,List.range_succ_eq_map,abt,List.foldl_map];rfl
theorem rV {cg:Type}{l:List Nat}{f g:cg->Nat->cg}:∀ b,(∀ i∈l,∀ b,f b i=g b i)->l.foldl f b=l.foldl g b:=by
 induction l with
 | nil=>intro b _;rfl
 | cons a l ih=>
  intro b h
  rw[abt,abt,h a aas]
  exact ih _ λ i hi=>h i (aam _ hi)
end
end Tw
namespace Tw
open PySem L2
section
variable {P:Program}{w:World}{K:aaa}{mg:Str->Option Value}{base:Heap}{C c_TipError c_NoNet c_NoVessel c_TooLong c_TooMany c_TooMuch c_Nothing c_NoText c_NoRow aw:Addr}
end
end Tw
namespace HT
open PySem PySem.Spec PyProof.Rows L2
section
variable {prog:Program}{w:World}{A:Around}{E:Value->Shared->Prop}{s:Shared}
end
end HT
namespace L2
open PySem
section
variable {X:Cx}{K:aaa}
end
end L2
namespace Tw
open PySem L2
section
variable {P:Program}{w:World}{K:aaa}{mg:Str->Option Value}{base:Heap}{C:Addr}
end
end Tw
namespace Tw
open PySem L2
section
variable {P:Program}{w:World}{K:aaa}{mg:Str->Option Value}{base:Heap}{C c_TipError c_NoNet c_NoVessel c_TooLong c_TooMany c_TooMuch c_Nothing c_NoText c_NoRow:Addr}
end
end Tw
namespace Tw
open PySem L2
theorem nP (net:Net) (d:L2.D):∀ t,eC (eJ net t) d=none↔∀ i,i < t->fB (cC net i)≠d
 | 0=>⟨λ _ i h=>absurd h (aci i),λ _=>rfl⟩
 | t+1=>by
  have ih:=nP net d t
  rw[show eJ net (t+1)=gK (eJ net t) (fB (cC net t)) (.int (t:Int)) from rfl,jK]
  by_cases e:d=fB (cC net t)
  ·rw[if_pos e]
   exact⟨λ h=>(by cases h),λ h=>absurd e.symm (h t (by omega))⟩
  ·rw[if_neg e,ih]
   constructor
   ·intro h i hi
    by_cases e2:i=t
    ·subst e2;exact Ne.symm e
    ·exact h i (by omega)
   ·intro h i hi;exact h i (by omega)
theorem wH (net:Net) (d:L2.D) (a:Nat) (e:fB (cC net a)=d):∀ t,a < t->(∀ i,i < t->i≠a->fB (cC net i)≠d)->eC (eJ net t) d=some (.int (a:Int))
 | 0,h,_=>by omega
 | t+1,h,hu=>by
  rw[show eJ net (t+1)=gK (eJ net t) (fB (cC net t)) (.int (t:Int)) from rfl,jK]
  by_cases q:d=fB (cC net t)
  ·rw[if_pos q]
   have:t=a:=Classical.byContradiction λ z=>hu t (by omega) z q.symm
   subst this;rfl
  ·rw[if_neg q]
   have:t≠a:=λ z=>by subst z;exact q e.symm
   exact wH net d a e t (by omega) λ i hi=>hu i (by omega)
structure Cyc (net:Net) (a l:Nat):Prop where
 l1:1<=l
 eq:cC net a=cC net (a+l)
 ne:∀ i j,i < j->j < a+l->cC net i≠cC net j
theorem yB.cyc {net:Net}{t a:Nat} (h:yB net t (a:Int)):Cyc net a (t - a)/\a < t/\t<=2000:=by
 obtain⟨a',e,r⟩:=h.rnd
 have:a'=a:=by omega
 subst this
 have hl:=r.lt
 refine⟨⟨by omega,by rw[show a'+(t - a')=t by omega];exact r.eq,λ i j hij hj e=>?_⟩,r.lt,r.le⟩
 have:=h.2.2 j (by omega)
 exact (nP net _ j).1 this i hij (by rw[e])
theorem Cyc.rep {net:Net}{a l:Nat} (c:Cyc net a l) (h:a+l<=2000):yB net (a+l) (a:Int):=by
 refine⟨h,?_,λ i hi=>?_⟩
 ·have hl:=c.l1
  refine wH net _ a (by rw[c.eq]) (a+l) (by omega) λ i hi hne e=>?_
  have e:=nI e
  rw[<- c.eq] at e
  rcases Nat.lt_or_gt_of_ne hne with z | z
  ·exact c.ne i a z (by omega) e
  ·exact c.ne a i z hi e.symm
 ·exact (nP net _ i).2 λ q hq e=>c.ne q i hq hi (nI e)
end Tw
namespace Tw
open PySem L2
noncomputable def AV (v:Vs):Vs:={ v with spill:=none,acts:=v.acts.map λ a=>("turn",a.2) }
noncomputable def N1 (net:Net):Net:=⟨net.vs.map AV,net.sps⟩
structure PlainN (net:Net):Prop where
 sp:∀ v∈net.vs,v.spill=none
 ac:∀ v∈net.vs,∀ a∈v.acts,a.1 = "turn"
theorem L7 {net:Net} (ok:NetOk net):NetOk (N1 net) where
 lo:=by show 1<=(net.vs.map AV).length;rw[aac];exact ok.lo
 hi:=by show (net.vs.map AV).length<=12;rw[aac];exact ok.hi
 sp:=ok.sp
 vs:=λ v hv=>by
  obtain⟨u,hu,rfl⟩:=aaz.1 (show v∈net.vs.map AV from hv)
  have k:=ok.vs u hu
  show VOk (net.vs.map AV).length net.sps.length (AV u)
  rw[aac]
  refine { size:=k.size,ne:=k.ne,o3:=k.o3,outs:=k.outs,spill:=λ t h=>(nomatch h),a3:=by show (u.acts.map _).length<=3;rw[aac];exact k.a3,acts:=λ a ha=>?_ }
  obtain⟨b,hb,rfl⟩:=aaz.1 (show a∈u.acts.map _ from ha)
  have:=k.acts b hb
  exact⟨.inr (.inr rfl),this.lo,this.hi⟩
 sps:=λ s hs=>by
  show 0<=s.1/\s.1 < ((net.vs.map AV).length:Int)
  rw[aac];exact ok.sps s hs
theorem EZ {net:Net} (fu:NetFull net):NetFull (N1 net) where
 vs:=λ i v hv=>by
  have hv:(net.vs.map AV)[i]? = some v:=hv
  rw[aah] at hv
  obtain⟨u,hu,rfl⟩:=aap.mp hv
  have k:=fu.vs i u hu
  exact⟨k.sz,k.br,k.bh,λ t h=>nomatch h⟩
 sps:=fu.sps
theorem CO (net:Net):PlainN (N1 net) where
 sp:=λ v hv=>by obtain⟨u,hu,rfl⟩:=aaz.1 (show v∈net.vs.map AV from hv);rfl
 ac:=λ v hv a ha=>by
  obtain⟨u,hu,rfl⟩:=aaz.1 (show v∈net.vs.map AV from hv)
  obtain⟨b,hb,rfl⟩:=aaz.1 (show a∈u.acts.map _ from ha);rfl
noncomputable def eL (net:Net) (o e:List Nat):Net:=MO net (bB 0 o) (bB 0 e)
noncomputable abbrev iE (n:Nat) (o:List Nat):Prop:=o.Perm (List.range n)
theorem iE.nd {n:Nat}{o:List Nat} (h:iE n o):o.Nodup:=h.nodup_iff.2 List.nodup_range
theorem iE.len {n:Nat}{o:List Nat} (h:iE n o):o.length=n:=by rw[h.length_eq,acb]
theorem iE.lt {n:Nat}{o:List Nat} (h:iE n o) {i s:Nat} (hi:o[i]? = some s):s < n:=abk.1 (h.mem_iff.1 (aaj hi))
theorem iE.il {n:Nat}{o:List Nat} (h:iE n o) {i s:Nat} (hi:o[i]? = some s):i < n:=by rw[<- h.len];exact (aad.mp hi).1
theorem iE.pos {n:Nat}{o:List Nat} (h:iE n o) {s:Nat} (hs:s < n):∃ i:Nat,o[i]? = some s:=aby.1 (h.mem_iff.2 (abk.2 hs))
theorem iE.get {n:Nat}{o:List Nat} (h:iE n o) {i:Nat} (hi:i < n):o[i]? = some (o.getD i 0):=DI (by rw[h.len];exact hi)
theorem FD (f:Nat->Int) {l l':List Nat} (h:l.Perm l'):(l.map f).sum=(l'.map f).sum:=by
 induction h with
 | nil=>rfl
 | cons x _ ih=>rw[aaw,aaw,acq,acq,ih]
 | swap x y l=>simp only [aaw,acq];omega
 | trans _ _ h1 h2=>rw[h1,h2]
theorem iE.sum {n:Nat}{o:List Nat} (h:iE n o) (f:Nat->Int):dJ n f=dJ n λ i=>f (o.getD i 0):=by
 have:=FD f h
 rw[wD,h.len] at this
 exact this.symm
theorem CP {cg:Type}{f:cg->Nat->cg} (hc:∀ b i j,f (f b i) j=f (f b j) i) {l l':List Nat} (h:l.Perm l'):∀ b,l.foldl f b=l'.foldl f b:=by
 induction h with
 | nil=>intro b;rfl
 | cons x _ ih=>intro b;rw[abt,abt,ih]
 | swap x y l=>intro b;rw[abt,abt,abt,abt,hc]
 | trans _ _ h1 h2=>intro b;rw[h1,h2]
section
variable {A:Net}{o e:List Nat}
theorem eO:(eL A o e).vs.length=o.length:=by show (List.map _ _).length=_;rw[aac,rB]
theorem kH:(eL A o e).sps.length=e.length:=by show (List.map _ _).length=_;rw[aac,rB]
theorem CK {p s:Nat} (h:o[p]? = some s):(eL A o e).vs.getD p cI=kU (bB 0 o) (bB 0 e) (A.vs.getD s cI):=by
 show (((bB 0 o).map λ p=>kU (bB 0 o) (bB 0 e) (A.vs.getD p.1.toNat cI)).getD p cI)=_
 rw[aae,aah,rC h];rfl
theorem IC {q k:Nat} (h:e[q]? = some k):(eL A o e).sps.getD q kT=jU (bB 0 o) (A.sps.getD k kT):=by
 show (((bB 0 e).map λ p=>jU (bB 0 o) (A.sps.getD p.1.toNat (0,0,false))).getD q kT)=_
 rw[aae,aah,rC h];rfl
theorem GG {t y:Int} (nd:o.Nodup) (h:jJ (bB 0 o) t=some y):0<=y/\y < (o.length:Int):=by
 obtain⟨i,s',h1,_,rfl⟩:=mY nd h
 have:=(aad.mp h1).1
 omega
theorem qP (ok:NetOk A) (ho:iE A.vs.length o) (he:iE A.sps.length e):NetOk (eL A o e):=by
 refine { lo:=by rw[eO,ho.len];exact ok.lo,hi:=by rw[eO,ho.len];exact ok.hi,sp:=by rw[kH,he.len];exact ok.sp,vs:=λ v hv=>?_,sps:=λ p hp=>?_ }
 ·obtain⟨q,hq,rfl⟩:=aaz.1 hv
  obtain⟨s,hs,eq⟩:=mV hq
  have hsl:=abk.1 (ho.mem_iff.1 hs)
  rw[eq,aav,aae,aaf hsl,eO,kH]
  have vok:=ok.vs _ (abf hsl)
  show VOk o.length e.length (kU (bB 0 o) (bB 0 e) A.vs[s])
  generalize A.vs[s]=v at vok
  have idx:∀ (t:Option Int) (y:Int),t.bind (jJ (bB 0 o))=some y->0<=y/\y < (o.length:Int):=λ t y h=>by
   cases t with
   | none=>cases h
   | some z=>exact GG ho.nd (show jJ (bB 0 o) z=some y from h)
  refine { size:=vok.size,ne:=λ z=>vok.ne (List.map_eq_nil_iff.1 z),o3:=by show (v.outs.map _).length<=3;rw[aac];exact vok.o3,outs:=λ x hx=>?_,spill:=λ t ht=>idx _ _ ht,a3:=abq (List.length_filterMap_le _ _) vok.a3,acts:=λ a ha=>?_ }
  ·obtain⟨x',hx',rfl⟩:=aaz.1 (show x∈v.outs.map (nS (bB 0 o)) from hx)
   have ook:=vok.outs x' hx'
   exact⟨λ t ht=>idx _ _ ht,ook.lo,ook.hi⟩
  ·obtain⟨a',ha',e'⟩:=List.mem_filterMap.1 (show a∈v.acts.filterMap (gW (bB 0 e)) from ha)
   have aok:=vok.acts a' ha'
   unfold gW at e'
   obtain⟨y,hy,rfl⟩:=aap.mp e'
   have:=GG he.nd hy
   exact⟨aok.word,this.1,this.2⟩
 ·obtain⟨q,hq,rfl⟩:=aaz.1 hp
  obtain⟨s,hs,eq⟩:=mV hq
  have hsl:=abk.1 (he.mem_iff.1 hs)
  have hk:=ok.sps _ (abf hsl)
  rw[eO,eq,aav,aae,aaf hsl]
  show 0<=(jU (bB 0 o) A.sps[s]).1/\(jU (bB 0 o) A.sps[s]).1 < _
  obtain⟨i,hi⟩:=ho.pos (s:=A.sps[s].1.toNat) (by omega)
  unfold jU
  rw[(gZ ho.nd hi _).2 (by omega)]
  have:=(aad.mp hi).1
  exact⟨by show (0:Int)<=(i:Int);omega,by show (i:Int) < _;omega⟩
theorem ID (fu:NetFull A) (pl:PlainN A) (ho:iE A.vs.length o) (he:iE A.sps.length e):NetFull (eL A o e) where
 vs:=λ i v hv=>by
  have hv:((bB 0 o).map λ p=>kU (bB 0 o) (bB 0 e) (A.vs.getD p.1.toNat cI))[i]? = some v:=hv
  rw[aah] at hv
  obtain⟨q,hq,rfl⟩:=aap.mp hv
  obtain⟨s,hs,rfl⟩:=B2 hq
  have hsl:=ho.lt hs
  have f:=fu.vs s A.vs[s] (aaf hsl)
  have p:=pl.sp _ (abf hsl)
  show VFull i (kU _ _ (A.vs.getD ((s:Int)).toNat cI))
  rw[aav,aae,aaf hsl]
  show VFull i (kU _ _ A.vs[s])
  refine⟨f.sz,f.br,f.bh,λ t ht=>?_⟩
  have ht:A.vs[s].spill.bind (jJ (bB 0 o))=some t:=ht
  rw[p] at ht;cases ht
 sps:=λ p hp=>by
  obtain⟨q,hq,rfl⟩:=aaz.1 (show p∈(bB 0 e).map λ p=>jU (bB 0 o) (A.sps.getD p.1.toNat (0,0,false)) from hp)
  obtain⟨s,hs,eq⟩:=mV hq
  have hsl:=abk.1 (he.mem_iff.1 hs)
  rw[eq,aav,aae,aaf hsl]
  have:=fu.sps _ (abf hsl)
  exact this
structure PeSt (o e:List Nat) (h c p:List Int) (d:List Bool) (h' c' p':List Int) (d':List Bool):Prop where
 held:∀ (i s:Nat),o[i]? = some s->h'.getD i 0=h.getD s 0
 coming:∀ (i s:Nat),o[i]? = some s->c'.getD i 0=c.getD s 0
 poured:∀ (i s:Nat),o[i]? = some s->p'.getD i 0=p.getD s 0
 doors:∀ (q k:Nat),e[q]? = some k->d'.getD q false=d.getD k false
variable {h c p h' c' p':List Int}{d d':List Bool}
theorem FG (ok:NetOk A) (ho:iE A.vs.length o) (he:iE A.sps.length e) (st:StOk A h c d) (pl:p.length=A.vs.length) (st':StOk (eL A o e) h' c' d') (pl':p'.length=(eL A o e).vs.length) (t:PeSt o e h c p d h' c' p' d') {i s:Nat} (hi:o[i]? = some s) :
  (bC (eL A o e) h' c' p' d').getD i 0=(bC A h c p d).getD s 0:=by
 rw[GL ok st pl,GL (qP ok ho he) st' pl',t.held i s hi,t.coming i s hi,t.poured i s hi]
 congr 1
 rw[he.sum (o6 A.sps d s),kH,he.len]
 refine eW λ q hq=>?_
 have hk:=he.get hq
 generalize e.getD q 0=k at hk
 have hkl:=he.lt hk
 unfold o6
 rw[IC hk,t.doors q k hk]
 have hin:=ok.sps _ (abf hkl)
 have eg:A.sps.getD k kT=A.sps[k]:=by rw[aae,aaf hkl];rfl
 rw[<- eg] at hin
 obtain⟨j,hj⟩:=ho.pos (s:=(A.sps.getD k kT).1.toNat) (by omega)
 have e3:(jU (bB 0 o) (A.sps.getD k kT)).1=(j:Int):=by
  unfold jU
  rw[(gZ ho.nd hj _).2 (by omega)];rfl
 have ee:(jU (bB 0 o) (A.sps.getD k kT)).1=(i:Int)↔(A.sps.getD k kT).1=(s:Int):=by
  rw[e3]
  constructor
  ·intro z
   have:j=i:=by omega
   subst this
   rw[hi] at hj
   injection hj with hj
   omega
  ·intro z
   have l1:=aad.mp hi
   have l2:=aad.mp hj
   have:j=i:=(List.getElem_inj (h₀:=l2.1) (h₁:=l1.1) ho.nd).1 (by rw[l1.2,l2.2];omega)
   omega
 by_cases cc:d.getD k false=true/\(A.sps.getD k kT).1=(s:Int)
 ·rw[if_pos cc,if_pos ⟨cc.1,ee.2 cc.2⟩];rfl
 ·rw[if_neg cc,if_neg λ z=>cc ⟨z.1,ee.1 z.2⟩]
theorem oY {k:Nat}:∀ {as:List (Str×Int)} (b:Bool),(∀ a∈as,a.1 = "turn")->cX k as b=Bool.xor b (cX k as false)
 | [],b,_=>by simp [cX]
 | a::as,b,h=>by
  have ih:=λ b=>oY (k:=k) (as:=as) b λ a ha=>h a (aam _ ha)
  have ha:=h a aas
  have aw:∀ b,vY a.1 b = !b:=λ b=>by unfold vY;rw[ha];rw[if_neg (by decide),if_pos rfl]
  show cX k as (if a.2.toNat=k then vY a.1 b else b)=Bool.xor b (cX k as (if a.2.toNat=k then vY a.1 false else false))
  rw[ih,ih (if a.2.toNat=k then vY a.1 false else false)]
  by_cases c:a.2.toNat=k
  ·rw[if_pos c,if_pos c,aw,aw];cases b <;> cases cX k as false <;> rfl
  ·rw[if_neg c,if_neg c];cases b <;> cases cX k as false <;> rfl
theorem xF (ho:iE A.vs.length o):∀ gs:List (Option Int×Int),(∀ g∈gs,∀ t,g.1=some t->0<=t/\t < (A.vs.length:Int))->bQ none (gs.map λ g=>(g.1.bind (jJ (bB 0 o)),g.2))=bQ none gs
 | [],_=>rfl
 | g::gs,hg=>by
  show (if g.1.bind (jJ (bB 0 o))=none then g.2 else 0)+bQ none (gs.map λ g=>(g.1.bind (jJ (bB 0 o)),g.2))=(if g.1=none then g.2 else 0)+bQ none gs
  rw[xF ho gs λ g hx=>hg g (aam _ hx)]
  congr 1
  cases c:g.1 with
  | none=>rfl
  | some t=>
   have:=hg g aas t c
   obtain⟨j,hj⟩:=ho.pos (s:=t.toNat) (by omega)
   rw[if_neg,if_neg (by simp)]
   show ¬ jJ (bB 0 o) t=none
   rw[(gZ ho.nd hj _).2 (by omega)];simp
theorem yH {n m:Nat}{v:Vs} (vok:VOk n m v) (a:Int):∀ g∈dZ v a,∀ t,g.1=some t->0<=t/\t < (n:Int):=λ g hg t ht=>
 xQ (n:=n) (m:=m) [v] [a] (λ u hu=>by have:=aaq.1 hu;subst this;exact vok) g (by show g∈dZ v a++[];rw[ack];exact hg) t ht
theorem w8 (n i:Nat):(cG n).getD i 0=0:=by
 unfold cG
 rw[aae,List.getElem?_replicate]
 split <;> rfl
theorem AX (ok:NetOk A) (pn:PlainN A) (ho:iE A.vs.length o) (he:iE A.sps.length e) (st:StOk A h c d) (pl:p.length=A.vs.length) (st':StOk (eL A o e) h' c' d') (pl':p'.length=(eL A o e).vs.length) (t:PeSt o e h c p d h' c' p' d') :
  PeSt o e (cO A h c p d).held (cO A h c p d).coming (cG A.vs.length) (cO A h c p d).doors (cO (eL A o e) h' c' p' d').held (cO (eL A o e) h' c' p' d').coming (cG (eL A o e).vs.length) (cO (eL A o e) h' c' p' d').doors/\
  (cO (eL A o e) h' c' p' d').ground=(cO A h c p d).ground:=by
 have hh:∀ (i s:Nat),o[i]? = some s->(bC (eL A o e) h' c' p' d').getD i 0=(bC A h c p d).getD s 0:=λ i s hi=>FG ok ho he st pl st' pl' t hi
 have vokA:∀ s,s < A.vs.length->VOk A.vs.length A.sps.length (A.vs.getD s cI)/\∀ a∈(A.vs.getD s cI).acts,a.1 = "turn" := λ s hs=>by
  rw[aae,aaf hs]
  exact⟨ok.vs _ (abf hs),pn.ac _ (abf hs)⟩
 refine⟨⟨λ i s hi=>?_,λ i s hi=>?_,λ i s _=>by rw[w8,w8],λ q k hq=>?_⟩,?_⟩
 ·rw[sX st pl (ho.lt hi),sX st' pl' (by rw[eO,ho.len];exact ho.il hi),CK hi,EN,hh i s hi]
 ·rw[oH st pl (ho.lt hi),oH st' pl' (by rw[eO,ho.len];exact ho.il hi),eO,ho.len,ho.sum (λ i=>bQ (some (s:Int)) (dZ (A.vs.getD i cI) ((bC A h c p d).getD i 0)))]
  refine eW λ j hj=>?_
  have hy:=ho.get hj
  generalize o.getD j 0=y at hy
  rw[CK hy,wL,AA ho.nd hi,hh j y hy]
 ·rw[pY st pl (he.lt hq),pY st' pl' (by rw[kH,he.len];exact he.il hq),eO,ho.len,t.doors q k hq]
  have e1:(List.range A.vs.length).foldl (λ b i=>if dD (A.vs.getD i cI) ((bC A h c p d).getD i 0)=true then cX k (A.vs.getD i cI).acts b else b) (d.getD k false)=o.foldl (λ b i=>if dD (A.vs.getD i cI) ((bC A h c p d).getD i 0)=true then cX k (A.vs.getD i cI).acts b else b) (d.getD k false):=by
   have e2:∀ l:List Nat,(∀ i∈l,i < A.vs.length)->∀ b,l.foldl (λ b i=>if dD (A.vs.getD i cI) ((bC A h c p d).getD i 0)=true then cX k (A.vs.getD i cI).acts b else b) b=l.foldl (λ b i=>Bool.xor b (if dD (A.vs.getD i cI) ((bC A h c p d).getD i 0)=true then cX k (A.vs.getD i cI).acts false else false)) b:=λ l hl b=>by
    refine rV b λ i hi b=>?_
    by_cases cc:dD (A.vs.getD i cI) ((bC A h c p d).getD i 0)=true
    ·rw[if_pos cc,if_pos cc];exact oY b (vokA i (hl i hi)).2
    ·rw[if_neg cc,if_neg cc];cases b <;> rfl
   rw[e2 _ (λ i hi=>abk.1 hi),e2 _ (λ i hi=>abk.1 (ho.mem_iff.1 hi))]
   refine (CP (λ b i j=>?_) ho _).symm
   generalize (if dD (A.vs.getD i cI) ((bC A h c p d).getD i 0)=true then cX k (A.vs.getD i cI).acts false else false)=x
   generalize (if dD (A.vs.getD j cI) ((bC A h c p d).getD j 0)=true then cX k (A.vs.getD j cI).acts false else false)=y
   cases b <;> cases x <;> cases y <;> rfl
  rw[e1,DK o,ho.len]
  refine rV _ λ j hj b=>?_
  have hy:=ho.get (abk.1 hj)
  generalize o.getD j 0=y at hy
  rw[CK hy]
  show (if dD (A.vs.getD y cI) _=true then cX q ((A.vs.getD y cI).acts.filterMap (gW (bB 0 e))) b else b)=_
  rw[sD he.nd hq _ _ (NI ok),hh j y hy]
 ·show bQ none (dI (eL A o e).vs _)=bQ none (dI A.vs _)
  rw[pH none _ _ (n9 st' pl').symm,pH none _ _ (n9 st pl).symm,eO,ho.len,ho.sum (λ i=>bQ none (dZ (A.vs.getD i cI) ((bC A h c p d).getD i 0)))]
  refine eW λ j hj=>?_
  have hy:=ho.get hj
  generalize o.getD j 0=y at hy
  rw[CK hy,wL,hh j y hy,xF ho _ (yH (vokA y (ho.lt hy)).1 _)]
theorem uV:∀ (ss:List sE) (ds:List Bool),ss.length=ds.length->dA ss ds=dJ ss.length λ k=>if ds.getD k false=true then (ss.getD k kT).2.1 else 0
 | [],[],_=>rfl
 | [],_::_,h=>by simp at h
 | _::_,[],h=>by simp at h
 | s::ss,d::ds,h=>by
  show (if d=true then s.2.1 else 0)+dA ss ds=_
  rw[uV ss ds (by simpa using h),aax,eR];rfl
theorem EE (l:List Int):l.sum=dJ l.length λ i=>l.getD i 0:=by
 induction l with
 | nil=>rfl
 | cons a l ih=>rw[acq,ih,aax,eR];rfl
theorem IR (ho:iE A.vs.length o) (he:iE A.sps.length e) (st:StOk A h c d) (pl:p.length=A.vs.length) (st':StOk (eL A o e) h' c' d') (pl':p'.length=(eL A o e).vs.length) (t:PeSt o e h c p d h' c' p' d') :
  p'.sum+dA (eL A o e).sps d'=p.sum+dA A.sps d:=by
 rw[uV _ _ st'.d.symm,uV _ _ st.d.symm,EE p',EE p,pl,pl',eO,ho.len,kH,he.len,ho.sum (λ i=>p.getD i 0),he.sum (λ k=>if d.getD k false=true then (A.sps.getD k kT).2.1 else 0)]
 congr 1
 ·refine eW λ j hj=>t.poured j _ (ho.get hj)
 ·refine eW λ q hq=>?_
  have hk:=he.get hq
  generalize e.getD q 0=k at hk
  rw[IC hk,t.doors q k hk];rfl
end
end Tw
namespace Tw
open PySem L2
section
variable {A:Net}{o e:List Nat}
structure PeS (A:Net) (o e:List Nat) (S0 S1:RunS):Prop where
 n0:S0.net=A
 n1:S1.net=eL A o e
 ok0:RunOk S0
 ok1:RunOk S1
 st:PeSt o e S0.cur.held S0.cur.coming S0.cur.poured S0.cur.doors S1.cur.held S1.cur.coming S1.cur.poured S1.cur.doors
 tk:S0.cur.tick=S1.cur.tick
 came:S1.cur.came=S0.cur.came
 ground:S1.cur.ground=S0.cur.ground
 tips:∀ (i s:Nat),o[i]? = some s->S1.tips.getD i []=S0.tips.getD s []
theorem rR (l:List sE) (i:Nat):(l.map (·.2.2)).getD i false=(l.getD i kT).2.2:=by
 rw[aae,aah,aae]
 cases l[i]? <;> rfl
theorem wW:PeSt o e (cG A.vs.length) (cG A.vs.length) (cG A.vs.length) (A.sps.map (·.2.2)) (cG (eL A o e).vs.length) (cG (eL A o e).vs.length) (cG (eL A o e).vs.length) ((eL A o e).sps.map (·.2.2)):=
 ⟨λ i s _=>(w8 _ _).trans (w8 _ _).symm,λ i s _=>(w8 _ _).trans (w8 _ _).symm,λ i s _=>(w8 _ _).trans (w8 _ _).symm,λ q k hq=>by rw[rR,rR,IC hq];rfl⟩
theorem pe0 (ok:NetOk A) (ho:iE A.vs.length o) (he:iE A.sps.length e):PeS A o e (uP A) (uP (eL A o e)) where
 n0:=rfl
 n1:=rfl
 ok0:=uO ok
 ok1:=uO (qP ok ho he)
 st:=wW
 tk:=rfl
 came:=rfl
 ground:=rfl
 tips:=λ i s _=>by
  have zz:∀ n i:Nat,(List.replicate n ([]:List Int)).getD i []=[]:=λ n i=>by
   rw[aae,List.getElem?_replicate]
   split <;> rfl
  exact (zz _ _).trans (zz _ _).symm
theorem PeS.pour {S0 S1:RunS} (t:PeS A o e S0 S1) (ho:iE A.vs.length o) {v u:Nat} (hv:o[v]? = some u) (a:Int):PeS A o e (S0.pour (u:Int) a) (S1.pour (v:Int) a):=by
 refine { t with ok0:=t.ok0.pour _ a,ok1:=t.ok1.pour _ a,st:=⟨t.st.held,t.st.coming,λ i s hi=>?_,t.st.doors⟩ }
 show (S1.cur.poured.set (v:Int).toNat (S1.cur.poured.getD (v:Int).toNat 0+a)).getD i 0=(S0.cur.poured.set (u:Int).toNat (S0.cur.poured.getD (u:Int).toNat 0+a)).getD s 0
 rw[aav,aav]
 have l0:u < S0.cur.poured.length:=by rw[t.ok0.cur.pl,t.n0];exact ho.lt hv
 have l1:v < S1.cur.poured.length:=by rw[t.ok1.cur.pl,t.n1,eO,ho.len];exact ho.il hv
 have gs:∀ (l:List Int) (x:Int) (i:Nat),i < l.length->(l.set i x).getD i 0=x:=λ l x i h=>by rw[aae,abw h];rfl
 have gn:∀ (l:List Int) (x:Int) (i j:Nat),i≠j->(l.set i x).getD j 0=l.getD j 0:=λ l x i j h=>by rw[aae,aca h,<- aae]
 by_cases c:v=i
 ·subst c
  rw[hv] at hi
  injection hi with hi
  subst hi
  rw[gs _ _ _ l1,gs _ _ _ l0,t.st.poured v u hv]
 ·have c2:u≠s:=λ z=>by
   subst z
   have l2:=aad.mp hi
   have l3:=aad.mp hv
   exact c ((List.getElem_inj (h₀:=l3.1) (h₁:=l2.1) ho.nd).1 (by rw[l2.2,l3.2]))
  rw[gn _ _ _ _ c,gn _ _ _ _ c2]
  exact t.st.poured i s hi
theorem PeS.go {S0 S1:RunS} (t:PeS A o e S0 S1) (ok:NetOk A) (pn:PlainN A) (ho:iE A.vs.length o) (he:iE A.sps.length e):PeS A o e (S0.go 1) (S1.go 1):=by
 have c0:=t.ok0.cur
 have c1:=t.ok1.cur
 have g0:=λ (p:Nat)=>BG t.ok0 (p:=p)
 have g1:=λ (p:Nat)=>BG t.ok1 (p:=p)
 have st:=t.st
 have e0:=t.n0
 have e1:=t.n1
 have ct:=t.came
 have gt:=t.ground
 have tk:=t.tk
 have tp:=t.tips
 have k0:=t.ok0.go 1
 have k1:=t.ok1.go 1
 rw[e0] at c0
 rw[e1] at c1
 obtain⟨kt,kg⟩:=AX ok pn ho he c0.st c0.pl c1.st c1.pl st
 have kc:=IR ho he c0.st c0.pl c1.st c1.pl st
 refine { n0:=e0,n1:=e1,ok0:=k0,ok1:=k1,st:=?_,tk:=?_,came:=?_,ground:=?_,tips:=λ i s hi=>?_ }
 ·show PeSt o e (cO S0.net _ _ _ _).held (cO S0.net _ _ _ _).coming (cG S0.net.vs.length) (cO S0.net _ _ _ _).doors (cO S1.net _ _ _ _).held (cO S1.net _ _ _ _).coming (cG S1.net.vs.length) (cO S1.net _ _ _ _).doors
  rw[e0,e1]
  exact kt
 ·show S0.cur.tick+1=S1.cur.tick+1
  rw[tk]
 ·show S1.cur.came+(S1.cur.poured.sum+dA S1.net.sps S1.cur.doors)=S0.cur.came+(S0.cur.poured.sum+dA S0.net.sps S0.cur.doors)
  rw[e0,e1,ct,kc]
 ·show S1.cur.ground+(cO S1.net _ _ _ _).ground=S0.cur.ground+(cO S0.net _ _ _ _).ground
  rw[e0,e1,gt]
  exact congrArg (S0.cur.ground + ·) kg
 ·rw[g0 s (by rw[e0];exact ho.lt hi),g1 i (by rw[e1,eO,ho.len];exact ho.il hi),tp i s hi,tk,e0,e1,FG ok ho he c0.st c0.pl c1.st c1.pl st hi,CK hi];rfl
theorem zD (ok:NetOk A) (pn:PlainN A) (ho:iE A.vs.length o) (he:iE A.sps.length e):∀ t,PeSt o e (cC A t).held (cC A t).coming (cG A.vs.length) (cC A t).doors (cC (eL A o e) t).held (cC (eL A o e) t).coming (cG (eL A o e).vs.length) (cC (eL A o e) t).doors
 | 0=>wW
 | t+1=>(AX ok pn ho he (jP ok t) (gD _) (jP (qP ok ho he) t) (gD _) (zD ok pn ho he t)).1
theorem iR {ar:Type} (d:ar) {n:Nat}{a b:List ar} (ha:a.length=n) (hb:b.length=n) (h:∀ i,i < n->a.getD i d=b.getD i d):a=b:=by
 apply List.ext_getElem (by omega)
 intro i h1 h2
 have:=h i (by omega)
 rw[aae,aaf h1,aae,aaf h2] at this
 exact this
theorem AB {s u:Sta} (h:s.held=u.held) (c:s.coming=u.coming) (d:s.doors=u.doors):s=u:=by
 cases s;cases u;cases h;cases c;cases d;rfl
theorem N2 (ok:NetOk A) (pn:PlainN A) (ho:iE A.vs.length o) (he:iE A.sps.length e) (i j:Nat):cC A i=cC A j↔cC (eL A o e) i=cC (eL A o e) j:=by
 have pi:=zD ok pn ho he i
 have pj:=zD ok pn ho he j
 have ai:=jP ok i
 have aj:=jP ok j
 have bi:=jP (qP ok ho he) i
 have bj:=jP (qP ok ho he) j
 have lv:(eL A o e).vs.length=A.vs.length:=by rw[eO,ho.len]
 have ls:(eL A o e).sps.length=A.sps.length:=by rw[kH,he.len]
 constructor
 ·intro z
  refine AB ?_ ?_ ?_
  ·refine iR 0 bi.h bj.h λ k hk=>?_
   have hs:=ho.get (i:=k) (by omega)
   rw[pi.held k _ hs,pj.held k _ hs,z]
  ·refine iR 0 bi.c bj.c λ k hk=>?_
   have hs:=ho.get (i:=k) (by omega)
   rw[pi.coming k _ hs,pj.coming k _ hs,z]
  ·refine iR false bi.d bj.d λ k hk=>?_
   have hs:=he.get (i:=k) (by omega)
   rw[pi.doors k _ hs,pj.doors k _ hs,z]
 ·intro z
  refine AB ?_ ?_ ?_
  ·refine iR 0 ai.h aj.h λ k hk=>?_
   obtain⟨q,hq⟩:=ho.pos hk
   rw[<- pi.held q k hq,<- pj.held q k hq,z]
  ·refine iR 0 ai.c aj.c λ k hk=>?_
   obtain⟨q,hq⟩:=ho.pos hk
   rw[<- pi.coming q k hq,<- pj.coming q k hq,z]
  ·refine iR false ai.d aj.d λ k hk=>?_
   obtain⟨q,hq⟩:=he.pos hk
   rw[<- pi.doors q k hq,<- pj.doors q k hq,z]
theorem yY {B C:Net} (hh:∀ i j,cC B i=cC B j↔cC C i=cC C j) {t:Nat}{j:Int} (h:yB B t j):yB C t j:=by
 obtain⟨a,rfl,_⟩:=h.rnd
 obtain⟨c,h1,h2⟩:=h.cyc
 have c':Cyc C a (t - a):=⟨c.l1,(hh _ _).1 c.eq,λ i j hi hj z=>c.ne i j hi hj ((hh _ _).2 z)⟩
 have:=c'.rep (by omega)
 rw[show a+(t - a)=t by omega] at this
 exact this
theorem JA {B C:Net} (hh:∀ i j,cC B i=cC B j↔cC C i=cC C j) (h:vZ B):vZ C:=by
 rcases wK C with ⟨t,j,r⟩ | h'
 ·have r':=yY (λ i j=>(hh i j).symm) r
  have:=h t r'.1
  rw[r'.2.1] at this;cases this
 ·exact h'
theorem AM (ok:NetOk A) (ho:iE A.vs.length o) {q k i s:Nat} (hq:e[q]? = some k) (hk:sG A (k:Int)=(s:Int)) (hi:o[i]? = some s):sG (eL A o e) (q:Int)=(i:Int):=by
 show ((eL A o e).sps.getD (q:Int).toNat (0,0,false)).1=_
 rw[aav]
 have:=IC (A:=A) (o:=o) hq
 rw[show (eL A o e).sps.getD q (0,0,false)=(eL A o e).sps.getD q kT from rfl,this]
 have hk:(A.sps.getD k kT).1=(s:Int):=hk
 unfold jU
 rw[(gZ ho.nd hi _).2 hk];rfl
theorem wM (ok:NetOk A) (ho:iE A.vs.length o) (he:iE A.sps.length e) {i j s y:Nat} (hi:o[i]? = some s) (hj:o[j]? = some y):some (s:Int)∈eE A (tZ A y)↔some (i:Int)∈eE (eL A o e) (tZ (eL A o e) j):=by
 have hy:=ho.lt hj
 show some (s:Int)∈eE A (A.vs.getD y cI)↔some (i:Int)∈eE (eL A o e) ((eL A o e).vs.getD j cI)
 rw[CK hj]
 have vok:=ok.vs _ (abf hy)
 have eg:A.vs.getD y cI=A.vs[y]:=by rw[aae,aaf hy];rfl
 rw[<- eg] at vok
 generalize A.vs.getD y cI=v at vok
 have spi:∀ (k q:Nat),k < A.sps.length->e[q]? = some k->(sG A (k:Int)=(s:Int)↔sG (eL A o e) (q:Int)=(i:Int)):=λ k q hk hq=>by
  constructor
  ·intro z;exact AM ok ho hq z hi
  ·intro z
   have hin:=ok.sps _ (abf hk)
   have eg:sG A (k:Int)=(A.sps[k]).1:=by
    show (A.sps.getD (k:Int).toNat (0,0,false)).1=_
    rw[aav,aae,aaf hk];rfl
   obtain⟨m,hm⟩:=ho.pos (s:=(A.sps[k]).1.toNat) (by omega)
   have:=AM ok ho hq (s:=(A.sps[k]).1.toNat) (by rw[eg];omega) hm
   have em:m=i:=by omega
   subst em
   rw[hi] at hm
   injection hm with hm
   omega
 unfold eE
 rw[abc,abc,aaq,abc,abc,aaq]
 refine or_congr (or_congr ?_ ?_) ?_
 ·constructor
  ·intro z
   obtain⟨x,hx,ex⟩:=aaz.1 z
   exact aaz.2 ⟨nS (bB 0 o) x,aaz.2 ⟨x,hx,rfl⟩,(kC ho.nd hi _).2 ex⟩
  ·intro z
   obtain⟨x,hx,ex⟩:=aaz.1 z
   obtain⟨x',hx',rfl⟩:=aaz.1 (show x∈v.outs.map (nS (bB 0 o)) from hx)
   exact aaz.2 ⟨x',hx',(kC ho.nd hi _).1 ex⟩
 ·have:=kC ho.nd hi v.spill
  exact⟨λ z=>(this.2 z.symm).symm,λ z=>(this.1 z.symm).symm⟩
 ·constructor
  ·intro z
   obtain⟨a,ha,ea⟩:=aaz.1 z
   injection ea with ea
   have aok:=vok.acts a ha
   have e2:a.2=((a.2.toNat:Nat):Int):=by have:=aok.lo;omega
   have hk:a.2.toNat < A.sps.length:=by have:=aok.hi;have:=aok.lo;omega
   obtain⟨q,hq⟩:=he.pos hk
   refine aaz.2 ⟨(a.1,(q:Int)),List.mem_filterMap.2 ⟨a,ha,?_⟩,?_⟩
   ·unfold gW
    rw[(gZ he.nd hq a.2).2 e2];rfl
   ·rw[(spi _ q hk hq).1 (by rw[<- e2];exact ea)]
  ·intro z
   obtain⟨a,ha,ea⟩:=aaz.1 z
   injection ea with ea
   obtain⟨b,hb,eb⟩:=List.mem_filterMap.1 (show a∈v.acts.filterMap (gW (bB 0 e)) from ha)
   have aok:=vok.acts b hb
   unfold gW at eb
   obtain⟨y',hy',rfl⟩:=aap.mp eb
   obtain⟨q,k,h1,h2,h3⟩:=mY he.nd hy'
   refine aaz.2 ⟨b,hb,?_⟩
   rw[h2,(spi k q (he.lt h1) h1).2 (by rw[<- h3];exact ea)]
theorem EO (ok:NetOk A) (ho:iE A.vs.length o) (he:iE A.sps.length e) {w u:Nat} (hw:o[w]? = some u) {i s:Nat} (hi:o[i]? = some s):i∈eT (eL A o e) w↔s∈eT A u:=by
 have okB:=qP ok ho he
 have lv:(eL A o e).vs.length=A.vs.length:=by rw[eO,ho.len]
 have hwl:w < (eL A o e).vs.length:=by rw[lv];exact ho.il hw
 have hul:=ho.lt hw
 constructor
 ·intro z
  have key:∀ y∈eT (eL A o e) w,∀ s:Nat,o[y]? = some s->s∈eT A u:=by
   refine B4 okB.hi hwl (λ s hs=>?_) λ x y hx px hy hl s hs=>?_
   ·rw[hw] at hs
    injection hs with hs
    subst hs
    exact (lQ ok.hi hul).2.2
   ·have hxl:=(lQ okB.hi hwl).2.1 x hx
    rw[lv] at hxl
    have hsx:=ho.get hxl
    exact rE ok.hi hul (px _ hsx) (ho.lt hs) ((wM ok ho he hsx hs).2 hl)
  exact key i z s hi
 ·intro z
  have key:∀ y∈eT A u,∀ i:Nat,o[i]? = some y->i∈eT (eL A o e) w:=by
   refine B4 ok.hi hul (λ i hi=>?_) λ x y hx px hy hl i hi=>?_
   ·have l2:=aad.mp hi
    have l3:=aad.mp hw
    have:i=w:=(List.getElem_inj (h₀:=l2.1) (h₁:=l3.1) ho.nd).1 (by rw[l2.2,l3.2])
    subst this
    exact (lQ okB.hi hwl).2.2
   ·have hxl:=(lQ ok.hi hul).2.1 x hx
    obtain⟨q,hq⟩:=ho.pos hxl
    exact rE okB.hi hwl (px q hq) (by rw[lv];exact ho.il hi) ((wM ok ho he hq hi).1 hl)
  exact key s z i hi
end
end Tw
namespace Tw
open PySem L2
section
variable {P:Program}{w:World}{K:aaa}{mg:Str->Option Value}{base:Heap}{C c_TipError c_NoNet c_NoVessel c_TooLong c_TooMany c_TooMuch c_Nothing c_NoText c_NoRow:Addr}
theorem rL {S:List Nat}{x i:Nat} (nd:S.Nodup) (hi:S[i]? = some x):i < (bR S).length/\(∀ q,(bR S)[i]? = some q->zZ q (.int (x:Int))=true)/\∀ i' q,i' < i->(bR S)[i']? = some q->zZ q (.int (x:Int))=false:=by
 have hil:=(aad.mp hi).1
 refine⟨by unfold bR;rw[aac];exact hil,λ q hq=>?_,λ i' q hlt hq=>?_⟩
 ·unfold bR at hq
  rw[aah,hi] at hq
  cases hq
  show ((x:Int) == (x:Int))=true
  simp
 ·unfold bR at hq
  rw[aah] at hq
  obtain⟨y,hy,rfl⟩:=aap.mp hq
  have hyl:=(aad.mp hy).1
  have e1:=(aad.mp hy).2
  have e2:=(aad.mp hi).2
  have:=(List.nodup_iff_pairwise_ne.1 nd)
  rw[List.pairwise_iff_getElem] at this
  have ne:=this i' i hyl hil hlt
  rw[e1,e2] at ne
  show ((y:Int) == (x:Int))=false
  simp
  omega
end
end Tw
namespace Tw
open PySem L2
theorem bF (S:List Nat):(bR S).length=S.length:=by unfold bR;rw[aac]
theorem kM {S:List Nat}{i:Nat}{y:V} (h:(bR S)[i]? = some y):∃ x,S[i]? = some x/\y=.int (x:Int):=by
 unfold bR at h
 rw[aah] at h
 obtain⟨x,hx,rfl⟩:=aap.mp h
 exact⟨x,hx,rfl⟩
theorem iM {S:List Nat}{i x:Nat} (h:S[i]? = some x):(bR S)[i]? = some (.int (x:Int)):=by
 unfold bR;rw[aah,h];rfl
theorem fN:∀ {L:List Nat}{i x:Nat},L[i]? = some x->L.Perm (x::L.eraseIdx i)
 | [],_,_,h=>by cases h
 | a::L,0,x,h=>by cases h;exact List.Perm.refl _
 | a::L,i+1,x,h=>by
  have ih:=fN (L:=L) (i:=i) (x:=x) h
  show (a::L).Perm (x::a::L.eraseIdx i)
  exact (List.Perm.cons a ih).trans (List.Perm.swap x a _)
theorem tQ (f:Nat->V):∀ (L:List Nat) (i:Nat),(L.map f).eraseIdx i=(L.eraseIdx i).map f
 | [],_=>rfl
 | a::L,0=>rfl
 | a::L,i+1=>by
  show f a::(L.map f).eraseIdx i=f a::(L.eraseIdx i).map f
  rw[tQ f L i]
section
variable {P:Program}{w:World}{K:aaa}{mg:Str->Option Value}{base:Heap}{C c_TipError c_NoNet c_NoVessel c_TooLong c_TooMany c_TooMuch c_Nothing c_NoText c_NoRow:Addr}
noncomputable def uD (K:aaa):Sp:=λ vs H Q _=>∃ (t sl:Addr) (n:Nat),vs=[.ref t,.int (n:Int)]/\dU H t sl/\n<=12/\∀ l o H',Ext t sl H H'->H l=none->H' l=some (.lst (bR o))->iE n o->Q (.ref l) H'
theorem lA:FnScope ["tape","many","left","found"] ["tape","many"] (aJ (aQ 54)):=⟨rfl,rfl,rfl,by decide +kernel,rfl,by decide +kernel,by decide +kernel⟩
theorem sK {f f1:Addr}{fd fd1:FuncData} (F:Fun K "_law_order" "_law_order" (aQ 54) f fd) (T:Txt mg) (G__law_draw:Callee P w K mg base "_law_draw" ["tape","many"] 1 fX f1 fd1):FnOk P w K mg base gC 2 f fd ["tape","many"] (uD K):=by
 refine F.ok lA (λ vs H Q E h=>?_) (λ cdv A outer s H vs Q E hr h=>?_)
 ·obtain⟨t,sl,n,rfl,_⟩:=h;rfl
 ·obtain⟨t,sl,n,rfl,tp,n12,k⟩:=h
  have sc:=lA
  refine⟨_,(aE (b9 (i:=2) sc.nd rfl (Or.inl rfl) (IP rfl rfl T.b_list rfl T.b_range (pv 1)))
   (aE (b9 (i:=3) sc.nd rfl (Or.inl rfl) (bP aD))
   (aE (wS PassesOwn.never (cT (FK (K:=K) rfl hr.units) (pv 2) (bP aD) (cR _)) (aL (bW (dF (K:=K) rfl aar aba abb cE (pv 3) (aA (dF (K:=K) rfl aar PySem.F.slot_list_pop PySem.F.type_list_pop FS (pv 2) (aA (cU G__law_draw hr (aA (pv 0) (aA (aU (bL (K:=K) rfl) rfl T.b_len abj (aA (pv 2) aD)) aD))) aD)) aD)))))
   (aL (aZ (pv 3)))))),?_⟩
  refine⟨_,rfl,n,rfl,by omega,λ ll hll=>⟨Nat.zero_le _,λ fl hfl=>?_⟩⟩
  have nlf:ll≠fl:=aN (show upd H ll (.lst ((List.range n).map λ (i:Nat)=>V.int (i:Int))) ll=_ from aB) hfl
  have hfl0:H fl=none:=by
   cases e:H fl with
   | none=>rfl
   | some o=>rw[aK.new hll _ _ e] at hfl;cases hfl
  have e0:Ext t sl H (upd (upd H ll (.lst ((List.range n).map λ (i:Nat)=>V.int (i:Int)))) fl (.lst [])):=(Ext.new ⟨cA.refl _,tp⟩ hll).new hfl
  have l0:upd (upd H ll (.lst ((List.range n).map λ (i:Nat)=>V.int (i:Int)))) fl (.lst []) ll=some (.lst (bR (List.range n))):=by rw[aM nlf];exact aB
  have f0:upd (upd H ll (.lst ((List.range n).map λ (i:Nat)=>V.int (i:Int)))) fl (.lst []) fl=some (.lst (bR [])):=aB
  generalize upd (upd H ll (.lst ((List.range n).map λ (i:Nat)=>V.int (i:Int)))) fl (.lst [])=H0 at e0 l0 f0
  have nlt:ll≠t:=λ z=>by obtain⟨o,e⟩:=tp.some;rw[<- z,hll] at e;cases e
  have nft:fl≠t:=λ z=>by obtain⟨o,e⟩:=tp.some;rw[<- z,hfl0] at e;cases e
  have nls:ll≠sl:=tp.ne_sl hll
  have nfs:fl≠sl:=tp.ne_sl hfl0
  refine⟨λ m Z H'=>∃ (L F:List Nat),m=L.length/\(F++L).Perm (List.range n)/\Ext t sl H H'/\H' ll=some (.lst (bR L))/\H' fl=some (.lst (bR F))/\Z=[some (.ref t),some (.int (n:Int)),some (.ref ll),some (.ref fl)],
   ⟨n,List.range n,[],by rw[acb],List.Perm.refl _,e0,l0,f0,rfl⟩,?_⟩
  rintro m Z H1 ⟨L,F,rfl,hp,e1,l1,f1,rfl⟩
  have lens:=hp.length_eq
  rw[aat,acb] at lens
  refine⟨_,rfl,Nat.zero_le _,λ q hq=>⟨ll,q,_,rfl,rfl,bO.of (aK.new hq _ _ l1),bO.of aB,_,rfl,?_⟩⟩
  have s2:=aK.new (o:=HO.lst []) hq
  have e2:=e1.new (o:=HO.lst []) hq
  have l2:=s2 _ _ l1
  have f2:=s2 _ _ f1
  generalize upd H1 q (.lst [])=H2 at s2 e2 l2 f2
  refine n6 (λ hT=>?_) λ hF=>?_
  ·have hne:L≠[]:=λ z=>by subst z;exact absurd hT (by decide)
   have hL:0 < L.length:=List.length_pos_iff.2 hne
   refine⟨λ Z H''=>∃ m',m' < L.length/\∃ (L F:List Nat),m'=L.length/\(F++L).Perm (List.range n)/\Ext t sl H H''/\H'' ll=some (.lst (bR L))/\H'' fl=some (.lst (bR F))/\Z=[some (.ref t),some (.int (n:Int)),some (.ref ll),some (.ref fl)],λ _ _ p=>p,?_⟩
   refine⟨_,rfl,.inl ⟨rfl,_,bO.of f2⟩,_,rfl,.inl ⟨rfl,_,bO.of l2⟩,_,rfl,_,rfl,ll,_,rfl,.inl (bO.of l2),t,sl,_,rfl,e2.tp,by rw[bF];omega,by rw[bF];omega,λ r H3 b3 tp3 r0 r1=>?_⟩
   rw[bF] at r1
   obtain⟨i,rfl⟩:∃ i:Nat,r=(i:Int):=⟨r.toNat,by omega⟩
   have hi:i < L.length:=by omega
   have e3:Ext t sl H H3:=⟨e2.bt.trans b3,tp3⟩
   have l3:=b3 _ _ nlt l2
   have f3:=b3 _ _ nft f2
   have hx:=aaf hi
   generalize L[i]=x at hx
   have pe:L.Perm (x::L.eraseIdx i):=fN hx
   have hsi:seqIndex? (i:Int) (bR L).length=some i:=by
    rw[bF]
    unfold seqIndex?
    simp
    omega
   refine⟨ll,bR L,(i:Int),i,.int (x:Int),rfl,rfl,l3,by omega,by omega,hsi,iM hx,?_⟩
   have em:(bR L).eraseIdx i=bR (L.eraseIdx i):=tQ _ _ _
   rw[em]
   have f4:upd H3 ll (.lst (bR (L.eraseIdx i))) fl=some (.lst (bR F)):=by rw[aM (Ne.symm nlf)];exact f3
   have l4:upd H3 ll (.lst (bR (L.eraseIdx i))) ll=some (.lst (bR (L.eraseIdx i))):=aB
   have e4:Ext t sl H (upd H3 ll (.lst (bR (L.eraseIdx i)))):=⟨λ b o hb h=>by rw[aM (aN h hll)];exact e3.bt b o hb h,e3.tp.put nlt nls⟩
   generalize upd H3 ll (.lst (bR (L.eraseIdx i)))=H4 at f4 l4 e4 ⊢
   have lF:F.length<=12:=by omega
   refine⟨fl,bR F,_,rfl,rfl,f4,aP (by rw[bF];omega),(L.eraseIdx i).length,by rw[List.length_eraseIdx_of_lt hi];omega,L.eraseIdx i,F++[x],rfl,?_,⟨λ b o hb h=>by rw[aM (aN h hfl0)];exact e4.bt b o hb h,e4.tp.put nft nfs⟩,by rw[aM nlf];exact l4,?_,rfl⟩
   ·rw[ach]
    exact ((List.Perm.append_left F pe).symm).trans hp
   ·rw[aB]
    unfold bR
    rw[aai];rfl
  ·have hL:L=[]:=by
    cases L with
    | nil=>rfl
    | cons x L=>exact absurd (show (!(bR (x::L)).isEmpty)=true from rfl) hF
   subst hL
   rw[ack] at hp
   exact⟨_,rfl,k fl F _ e2 hfl0 f2 hp⟩
noncomputable def uB (K:aaa):Sp:=λ vs H Q _=>∃ (x:V) (net:Net),vs=[x]/\Is K H (fC net) x/\NetOk net/\∀ p H',aK H H'->Is K H' (fC (N1 net)) p->Q p H'
theorem kY:FnScope ["net","vessels","size","brim","outs","holds","spill","acts"] ["net"] (aJ (aQ 55)):=⟨rfl,rfl,rfl,by decide +kernel,rfl,by decide +kernel,by decide +kernel⟩
theorem sI {f:Addr}{fd:FuncData} (F:Fun K "_law_plain" "_law_plain" (aQ 55) f fd) (T:Txt mg):FnOk P w K mg base gC 1 f fd ["net"] (uB K):=by
 refine F.ok kY (λ vs H Q E h=>?_) (λ cdv A outer s H vs Q E hr h=>?_)
 ·obtain⟨x,net,rfl,_⟩:=h;rfl
 ·obtain⟨x,net,rfl,hx,nok,k⟩:=h
  have sc:=kY
  refine⟨_,(aE (b9 (i:=1) sc.nd rfl (Or.inl rfl) (bP aD))
   (aE (dY PassesOwn.never rfl (d6 (K:=K) rfl (b0 (aO (K:=K) rfl) (pv 0) aH (λ _ _=>rfl))) (aX (K:=K) (n:=6) rfl rfl (aF (aG (i:=2) sc.nd rfl (Or.inl rfl)) (aF (aG (i:=3) sc.nd rfl (Or.inl rfl)) (aF (aG (i:=4) sc.nd rfl (Or.inl rfl)) (aF (aG (i:=5) sc.nd rfl (Or.inl rfl)) (aF (aG (i:=6) sc.nd rfl (Or.inl rfl)) (aF (aG (i:=7) sc.nd rfl (Or.inl rfl)) aW))))))) (aL (bW (dF (K:=K) rfl aar aba abb cE (pv 1) (aA (bS (aA (pv 2) (aA (pv 3) (aA (pv 4) (aA (pv 5) (aA gM (aA (aY (bU (K:=K) rfl) rfl T.b_tuple cD (aA (fZ (λ _ _ h=>h) rfl (LcOk.mk (N':=["word","spout"]) (fr:=[none,none]) rfl trivial rfl rfl rfl rfl rfl trivial) (d6 (K:=K) rfl (pv 7)) (λ _ _ _=>(aX (K:=K) (n:=2) rfl rfl (aF (aG (i:=0) (show (["word","spout"]:List Str).Nodup by decide +kernel) rfl (Or.inl rfl) (Or.inr rfl)) (aF (aG (i:=1) (show (["word","spout"]:List Str).Nodup by decide +kernel) rfl (Or.inl rfl) (Or.inr rfl)) aW)))) (λ _ _ _=>cP) (λ _ _ _=>(bS (aA hJ (aA (pv 1) aD))))) aD)) aD))))))) aD)))))
   (aL (aZ (bS (aA (aY (bU (K:=K) rfl) rfl T.b_tuple cD (aA (pv 1) aD)) (aA (b0 (aO (K:=K) rfl) (pv 0) aH (λ _ _=>rfl)) aD))))))),?_⟩
  obtain⟨na,nb,nc,xs,ys,rfl,qn,qv,lv,qs,ls⟩:=fY hx
  have exl:xs.length=net.vs.length:=by rw[lv.length,aac]
  have n12:=nok.hi
  refine⟨Nat.zero_le _,λ D2 hD2=>?_⟩
  have s3:=aK.new (o:=HO.lst []) hD2
  have e3:upd H D2 (.lst []) D2=some (.lst []):=aB
  generalize upd H D2 (.lst [])=H3 at s3 e3
  have muD3:iF (H3 D2):=by rw[e3];exact trivial
  have qv3:=s3.tup qv
  refine⟨_,rfl,.inr (.inl ⟨na,_,0,_,rfl,rfl,s3.tup qn,rfl,nb,rfl,⟨_,qv3⟩,pK (K:=K) (a:=nb) (xs:=xs) (λ i Z H'=>cA D2 H3 H'/\∃ (r:List V) (v2 v3 v4 v5 v6 v7:Option V),H' D2=some (.lst r)/\IsL K H' (((net.vs.take i).map AV).map pM) r/\
    Z=[some (.ref na),some (.ref D2),v2,v3,v4,v5,v6,v7])
   ⟨cA.refl _,[],_,_,_,_,_,_,e3,.nil,rfl⟩ (λ i Z H' _ p=>p.1.ts muD3 _ _ qv3) ?_ ?_⟩)⟩
  ·rintro i y Z H4 hy ⟨b4,r,v2,v3,v4,v5,v6,v7,h4,lr,rfl⟩
   obtain⟨d,hd,iv⟩:=lv.get' hy
   rw[aah] at hd
   obtain⟨v,hv,rfl⟩:=aap.mp hd
   have hil:=(aad.mp hv).1
   have vok:=nok.vs v (aaj hv)
   have a3:=vok.a3
   have ts4:=s3.ts.trans (b4.ts (K:=K) muD3)
   obtain⟨a,o,c,ea,q,io,ic⟩:=sU (Is.mono ts4 _ _ iv)
   subst ea
   obtain⟨ca,cs,rfl,qc,lc⟩:=ic.un
   have ecl:cs.length=v.acts.length:=by rw[lc.length,aac]
   refine⟨a,_,rfl,q,rfl,_,_,rfl,_,_,rfl,_,_,rfl,_,_,rfl,_,_,rfl,_,_,rfl,rfl,?_⟩
   refine⟨_,rfl,.inl ⟨rfl,_,bO.of h4⟩,_,rfl,_,rfl,_,rfl,_,rfl,?_⟩
   refine⟨_,rfl,ca,rfl,⟨_,qc⟩,eZ (K:=K) (a:=ca) (xs:=cs) (λ D i r Z H'=>H4 D=none/\aK H4 H'/\H' D=some (.lst r)/\IsL K H' (((v.acts.take i).map λ (a:Str×Int)=>((("turn" : Str),a.2):Str×Int)).map nE) r/\∃ u1 u2,Z=[u1,u2])
    (λ D i r Z H' p=>p.2.1.tup qc) (λ D hD=>⟨hD,aK.new hD,aB,.nil,none,none,rfl⟩) ?_ ?_⟩
   rotate_left
   ·rintro D5 i y r Z H5 hy ⟨hD5,sm,hDl5,lr,u1,u2,rfl⟩
    obtain⟨t,ht,ta,rfl,qt⟩:=kS lc hy
    have hil:=(aad.mp ht).1
    refine⟨ta,_,rfl,sm.tup qt,rfl,_,_,rfl,_,_,rfl,rfl,?_⟩
    refine nF ?_
    refine⟨_,rfl,(show 2<=sizeLine by decide),λ e he=>?_⟩
    have m1:=aK.new (o:=HO.tup [.str "turn",.int t.2]) he
    have i1:Is K (upd H5 e (.tup [.str "turn",.int t.2])) (nE (("turn" : Str),t.2)) (.ref e):=Is.tupOf (ds:=[.str "turn",.int t.2]) (bN.of aB) (.cons (Is.s _) (.cons (Is.i _) .nil))
    generalize upd H5 e (.tup [.str "turn",.int t.2])=H6 at m1 i1 ⊢
    have hDl6:=m1 _ _ hDl5
    have muD:iF (H6 D5):=by rw[hDl6];exact trivial
    have hrl:r.length<=12:=by rw[lr.length,aac,aac,abl];omega
    refine⟨hDl6,aP (by omega),hD5,(sm.trans m1).put hD5,aB,?_,_,_,rfl⟩
    rw[acg,ht,aai,aai]
    exact L2.IsL.snoc (Is.mono (cA.ts cA.upd muD) _ _ i1) (L2.IsL.mono (m1.ts.trans (cA.ts cA.upd muD)) _ _ lr)
   rintro D5 r5 Z H5 ⟨hD5,sm5,hDl5,lr5,_⟩
   rw[ecl,abe] at lr5
   refine⟨D5,r5,rfl,.inl ⟨bO.of hDl5,λ p1 hp1=>?_⟩⟩
   have m6:=aK.new (o:=HO.tup r5) hp1
   have i6:Is K (upd H5 p1 (.tup r5)) (.tup ((v.acts.map λ (a:Str×Int)=>((("turn" : Str),a.2):Str×Int)).map nE)) (.ref p1):=Is.tupOf (bN.of aB) (L2.IsL.mono m6.ts _ _ lr5)
   have s46:=sm5.trans m6
   generalize upd H5 p1 (.tup r5)=H6 at m6 i6 s46 ⊢
   refine⟨(show 6<=sizeLine by decide),λ e he=>?_⟩
   have m7:=aK.new (o:=HO.tup [.int v.size,.int v.brim,o,.bl v.holds,.non,.ref p1]) he
   have i7:Is K (upd H6 e (.tup [.int v.size,.int v.brim,o,.bl v.holds,.non,.ref p1])) (pM (AV v)) (.ref e):=
    Is.tupOf (ds:=[.int v.size,.int v.brim,.tup (v.outs.map oZ),.bl v.holds,HR none,.tup ((v.acts.map λ (a:Str×Int)=>((("turn" : Str),a.2):Str×Int)).map nE)]) (bN.of aB)
     (.cons (Is.i _) (.cons (Is.i _) (.cons (Is.mono (s46.trans m7).ts _ _ io) (.cons (Is.b _) (.cons Is.n (.cons (Is.mono m7.ts _ _ i6) .nil))))))
   generalize upd H6 e (.tup [.int v.size,.int v.brim,o,.bl v.holds,.non,.ref p1])=H7 at m7 i7 ⊢
   have s47:=s46.trans m7
   have h7:=s47 _ _ h4
   have muD:iF (H7 D2):=by rw[h7];exact trivial
   have hrl:r.length<=12:=by rw[lr.length,aac,aac,abl];omega
   refine⟨D2,r,_,rfl,rfl,h7,aP (by omega),(b4.trans s47.but).trans cA.upd,_,_,_,_,_,_,_,aB,?_,rfl⟩
   rw[acg,hv,aai,aai]
   exact L2.IsL.snoc (Is.mono (cA.ts cA.upd muD) _ _ i7) (L2.IsL.mono (s47.ts.trans (cA.ts cA.upd muD)) _ _ lr)
  rintro Z H4 ⟨b4,rv,v2,v3,v4,v5,v6,v7,h4,lrv,rfl⟩
  rw[exl,abe] at lrv
  have ts4:=s3.ts.trans (b4.ts (K:=K) muD3)
  refine⟨_,rfl,D2,rv,rfl,.inl ⟨bO.of h4,λ p1 hp1=>?_⟩⟩
  have m5:=aK.new (o:=HO.tup rv) hp1
  have i5:Is K (upd H4 p1 (.tup rv)) (.tup ((net.vs.map AV).map pM)) (.ref p1):=Is.tupOf (bN.of aB) (L2.IsL.mono m5.ts _ _ lrv)
  generalize upd H4 p1 (.tup rv)=H5 at m5 i5 ⊢
  have ts5:=ts4.trans m5.ts
  refine⟨_,rfl,.inr (.inl ⟨na,_,1,_,rfl,rfl,ts5 _ _ qn,rfl,(show 2<=sizeLine by decide),λ pn hpn=>?_⟩)⟩
  have m6:=aK.new (o:=HO.tup [.ref p1,.ref nc]) hpn
  refine k _ _ (λ b o hb=>m6 _ _ (m5 _ _ (b4 _ _ (aN hb hD2) (s3 _ _ hb)))) (Is.tupOf (ds:=[.tup ((net.vs.map AV).map pM),.tup (net.sps.map AE)]) (bN.of aB) (.cons (Is.mono m6.ts _ _ i5) (.cons (Is.tupOf ((ts5.trans m6.ts) _ _ qs) (L2.IsL.mono (ts5.trans m6.ts) _ _ ls)) .nil)))
noncomputable def uC (K:aaa):Sp:=λ vs H Q _=>∃ (kp:Addr) (t:Option Int) (S:List Nat),vs=[.ref kp,gU t]/\H kp=some (.lst (bR S))/\S.Nodup/\(∀ z,t=some z->∃ s∈S,z=(s:Int))/\Q (gU (t.bind (jJ (bB 0 S)))) H
theorem kZ:FnScope ["order","target"] ["order","target"] (aJ (aQ 56)):=⟨rfl,rfl,rfl,by decide +kernel,rfl,by decide +kernel,by decide +kernel⟩
theorem sJ {f:Addr}{fd:FuncData} (F:Fun K "_law_place" "_law_place" (aQ 56) f fd) (T:Txt mg):FnOk P w K mg base gC 1 f fd ["order","target"] (uC K):=by
 refine F.ok kZ (λ vs H Q E h=>?_) (λ cdv A outer s H vs Q E hr h=>?_)
 ·obtain⟨kp,t,S,rfl,_⟩:=h;rfl
 ·obtain⟨kp,t,S,rfl,hk,nd,hin,k⟩:=h
  have sc:=kZ
  refine⟨_,(aE (d8 (cT zG (pv 1) gM (cR _)) (aL (aZ gM)) bJ)
   (aL (aZ (dF (K:=K) rfl aar PySem.F.slot_list_index PySem.F.type_list_index rD (pv 0) (aA (pv 1) aD))))),?_⟩
  cases t with
  | none=>exact⟨_,rfl,rfl,_,rfl,gA k⟩
  | some z=>
   obtain⟨s,hs,rfl⟩:=hin z rfl
   obtain⟨i,hi⟩:=aby.1 hs
   have ix:=rL nd hi
   refine⟨_,rfl,rfl,_,rfl,eU ?_⟩
   refine⟨_,rfl,.inl ⟨rfl,_,bO.of hk⟩,_,rfl,kp,_,_,i,rfl,rfl,hk,rfl,nA _,ix.1,ix.2.1,ix.2.2,?_⟩
   have e:(some (s:Int)).bind (jJ (bB 0 S))=some (i:Int):=by
    show jJ (bB 0 S) (s:Int)=_
    rw[o0 nd hi,Nat.zero_add]
   rw[e] at k
   exact k
end
end Tw
namespace Tw
open PySem L2
section
variable {P:Program}{w:World}{K:aaa}{mg:Str->Option Value}{base:Heap}{C c_TipError c_NoNet c_NoVessel c_TooLong c_TooMany c_TooMuch c_Nothing c_NoText c_NoRow:Addr}
theorem lO {ar:Type} (f:Nat->ar):∀ (r:List Nat) (k:Nat),(bB k r).map (λ p=>f p.1.toNat)=r.map f
 | [],_=>rfl
 | s::r,k=>by
  show f (((s:Int)).toNat)::(bB (k+1) r).map (λ p=>f p.1.toNat)=f s::r.map f
  rw[lO f r (k+1),aav]
noncomputable def uA (K:aaa):Sp:=λ vs H Q _=>∃ (x:V) (net:Net) (ol el:Addr) (o e:List Nat),vs=[x,.ref ol,.ref el]/\Is K H (fC net) x/\NetOk net/\PlainN net/\H ol=some (.lst (bR o))/\H el=some (.lst (bR e))/\iE net.vs.length o/\iE net.sps.length e/\
 ∀ p H',aK H H'->Is K H' (fC (eL net o e)) p->Q p H'
theorem gJ:FnScope ["net","order","doors","vessels","number","size","brim","outs","holds","spill","acts","flows"] ["net","order","doors"] (aJ (aQ 57)):=⟨rfl,rfl,rfl,by decide +kernel,rfl,by decide +kernel,by decide +kernel⟩
theorem lN {f f1:Addr}{fd fd1:FuncData} (F:Fun K "_law_renumbered" "_law_renumbered" (aQ 57) f fd) (T:Txt mg) (G__law_place:Callee P w K mg base "_law_place" ["order","target"] 1 (uC K) f1 fd1):FnOk P w K mg base gC 2 f fd ["net","order","doors"] (uA K):=by
 refine F.ok gJ (λ vs H Q E h=>?_) (λ cdv A outer s H vs Q E hr h=>?_)
 ·obtain⟨x,net,ol,el,o,e,rfl,_⟩:=h;rfl
 ·obtain⟨x,net,kp,D,S,W,rfl,hx1,nok,pn,qk,qe,ho,he,k⟩:=h
  have sc:=gJ
  refine⟨_,(aE (b9 (i:=3) sc.nd rfl (Or.inl rfl) (bP aD))
   (aE (dY PassesOwn.never rfl (jW (K:=K) rfl (pv 1)) (aG (i:=4) sc.nd rfl (Or.inl rfl)) (aE (bZ (b0 (aO (K:=K) rfl) (b0 (aO (K:=K) rfl) (pv 0) aH (λ _ _=>rfl)) (pv 4) (λ _ _=>rfl)) (aX (K:=K) (n:=6) rfl rfl (aF (aG (i:=5) sc.nd rfl (Or.inl rfl)) (aF (aG (i:=6) sc.nd rfl (Or.inl rfl)) (aF (aG (i:=7) sc.nd rfl (Or.inl rfl)) (aF (aG (i:=8) sc.nd rfl (Or.inl rfl)) (aF (aG (i:=9) sc.nd rfl (Or.inl rfl)) (aF (aG (i:=10) sc.nd rfl (Or.inl rfl)) aW))))))))
   (aE (b9 (i:=7) sc.nd rfl (Or.inl rfl) (aY (bU (K:=K) rfl) rfl T.b_tuple cD (aA (fZ (λ _ _ h=>h) rfl (LcOk.mk (N':=["target","parts","order"]) (fr:=[none,none,some 1]) rfl ⟨rfl,trivial⟩ rfl rfl rfl rfl rfl ⟨⟨_,rfl,rfl,rfl,rfl⟩,trivial⟩) (d6 (K:=K) rfl (pv 7)) (λ _ _ _=>(aX (K:=K) (n:=2) rfl rfl (aF (aG (i:=0) (show (["target","parts","order"]:List Str).Nodup by decide +kernel) rfl (Or.inl rfl) (Or.inr rfl)) (aF (aG (i:=1) (show (["target","parts","order"]:List Str).Nodup by decide +kernel) rfl (Or.inl rfl) (Or.inr rfl)) aW)))) (λ _ _ _=>cP) (λ _ _ _=>(bS (aA (cU G__law_place hr (aA (pv 2) (aA (pv 0) aD))) (aA (pv 1) aD))))) aD)))
   (aE (b9 (i:=10) sc.nd rfl (Or.inl rfl) (aY (bU (K:=K) rfl) rfl T.b_tuple cD (aA (fZ (λ _ _ h=>h) rfl (LcOk.mk (N':=["word","spout","doors"]) (fr:=[none,none,some 2]) rfl ⟨rfl,trivial⟩ rfl rfl rfl rfl rfl ⟨⟨_,rfl,rfl,rfl,rfl⟩,trivial⟩) (d6 (K:=K) rfl (pv 10)) (λ _ _ _=>(aX (K:=K) (n:=2) rfl rfl (aF (aG (i:=0) (show (["word","spout","doors"]:List Str).Nodup by decide +kernel) rfl (Or.inl rfl) (Or.inr rfl)) (aF (aG (i:=1) (show (["word","spout","doors"]:List Str).Nodup by decide +kernel) rfl (Or.inl rfl) (Or.inr rfl)) aW)))) (λ _ _ _=>cP) (λ _ _ _=>(bS (aA (pv 0) (aA (dF (K:=K) rfl aar PySem.F.slot_list_index PySem.F.type_list_index rD (pv 2) (aA (pv 1) aD)) aD))))) aD)))
   (aL (bW (dF (K:=K) rfl aar aba abb cE (pv 3) (aA (bS (aA (pv 5) (aA (pv 6) (aA (pv 7) (aA (pv 8) (aA (pv 9) (aA (pv 10) aD))))))) aD))))))))
   (aE (kI (i:=11) sc.nd rfl rfl (λ _ _ h=>h) rfl (LcOk.mk (N':=["k","order","net"]) (fr:=[none,some 1,some 0]) rfl ⟨rfl,rfl,trivial⟩ rfl rfl rfl rfl rfl ⟨⟨_,rfl,rfl,rfl,rfl⟩,⟨_,rfl,rfl,rfl,rfl⟩,trivial⟩) (jW (K:=K) rfl (pv 2)) (λ _ _ _=>(aG (i:=0) (show (["k","order","net"]:List Str).Nodup by decide +kernel) rfl (Or.inl rfl) (Or.inr rfl))) (λ _ _ _=>cP) (λ _ _ _=>(bA (CU (K:=K) rfl) (bS (aA (dF (K:=K) rfl aar PySem.F.slot_list_index PySem.F.type_list_index rD (pv 1) (aA (b0 (aO (K:=K) rfl) (b0 (aO (K:=K) rfl) (b0 (aO (K:=K) rfl) (pv 2) aH (λ _ _=>rfl)) (pv 0) (λ _ _=>rfl)) aH (λ _ _=>rfl)) aD)) aD)) (FE (I0 (K:=K) rfl) (b0 (aO (K:=K) rfl) (b0 (aO (K:=K) rfl) (pv 2) aH (λ _ _=>rfl)) (pv 0) (λ _ _=>rfl)) (II aH) IJ))))
   (aL (aZ (bS (aA (aY (bU (K:=K) rfl) rfl T.b_tuple cD (aA (pv 3) aD)) (aA (aY (bU (K:=K) rfl) rfl T.b_tuple cD (aA (pv 11) aD)) aD)))))))),?_⟩
  obtain⟨na,nb,nc,xs,ys,rfl,qn,qv,lv,qs,ls⟩:=fY hx1
  have exl:xs.length=net.vs.length:=by rw[lv.length,aac]
  have eyl:ys.length=net.sps.length:=by rw[ls.length,aac]
  have sl:S.length<=12:=by rw[ho.len];exact nok.hi
  have spl:W.length<=12:=by rw[he.len];exact nok.sp
  have snd:=ho.nd
  have knd:=he.nd
  refine⟨Nat.zero_le _,λ D2 hD2=>?_⟩
  have s3:=aK.new (o:=HO.lst []) hD2
  have e3:upd H D2 (.lst []) D2=some (.lst []):=aB
  generalize upd H D2 (.lst [])=H3 at s3 e3
  have hD3:=s3 _ _ qe
  have hk3:=s3 _ _ qk
  have nD:D≠D2:=aN qe hD2
  have nK:kp≠D2:=aN qk hD2
  have muD3:iF (H3 D2):=by rw[e3];exact trivial
  refine⟨_,rfl,kp,rfl,⟨_,bO.of hk3⟩,rS (K:=K) (a:=kp) (xs:=bR S) (λ i Z H'=>cA D2 H3 H'/\∃ (r:List V) (v4 v5 v6 v7 v8 v9 v10 v11:Option V),H' D2=some (.lst r)/\IsL K H' (((S.take i).map λ s=>kU (bB 0 S) (bB 0 W) (net.vs.getD s cI)).map pM) r/\
    Z=[some (.ref na),some (.ref kp),some (.ref D),some (.ref D2),v4,v5,v6,v7,v8,v9,v10,v11])
   ⟨cA.refl _,[],_,_,_,_,_,_,_,_,e3,.nil,rfl⟩ (λ i Z H' _ p=>bO.of (p.1 _ _ nK hk3)) ?_ ?_⟩
  ·rintro i y Z H4 hy ⟨b4,r,v4,v5,v6,v7,v8,v9,v10,v11,h4,lr,rfl⟩
   obtain⟨x,hxi,rfl⟩:=kM hy
   have hil:=(aad.mp hxi).1
   have hxl:=ho.lt hxi
   have hxx:x < xs.length:=by omega
   have hxj:xs[x]? = some xs[x]:=by simp
   obtain⟨d,hd,iv⟩:=lv.get' hxj
   rw[aah] at hd
   obtain⟨v,hv,rfl⟩:=aap.mp hd
   have vok:=nok.vs v (aaj hv)
   have vsp:=pn.sp v (aaj hv)
   have o3:=vok.o3
   have a3:=vok.a3
   have egd:net.vs.getD x cI=v:=by rw[aae,hv];rfl
   have ts4:=s3.ts.trans (b4.ts (K:=K) muD3)
   have hD4:=b4 _ _ nD hD3
   have hk4:=b4 _ _ nK hk3
   obtain⟨a,o,c,ea,q,io,ic⟩:=sU (Is.mono ts4 _ _ iv)
   obtain⟨oa,os,rfl,qo,lo⟩:=io.un
   obtain⟨ca,cs,rfl,qc,lc⟩:=ic.un
   have eol:os.length=v.outs.length:=by rw[lo.length,aac]
   have ecl:cs.length=v.acts.length:=by rw[lc.length,aac]
   dsimp only [eK]
   refine⟨_,rfl,.inr (.inl ⟨na,_,0,_,rfl,rfl,ts4 _ _ qn,rfl,_,rfl,.inr (.inl ⟨nb,xs,(x:Int),.ref a,rfl,rfl,ts4 _ _ qv,dO (by rw[hxj,ea]),a,_,rfl,q,rfl,_,_,rfl,_,_,rfl,_,_,rfl,_,_,rfl,_,_,rfl,_,_,rfl,rfl,?_⟩)⟩)⟩
   refine⟨_,rfl,oa,rfl,⟨_,qo⟩,eZ (K:=K) (a:=oa) (xs:=os) (λ D i r Z H'=>H4 D=none/\aK H4 H'/\H' D=some (.lst r)/\IsL K H' (((v.outs.take i).map (nS (bB 0 S))).map oZ) r/\∃ u1 u2,Z=[u1,u2,some (.ref kp)])
    (λ D i r Z H' p=>p.2.1.tup qo) (λ D hD=>⟨hD,aK.new hD,aB,.nil,none,none,rfl⟩) ?_ ?_⟩
   rotate_left
   ·rintro D5 i y r Z H5 hy ⟨hD5,sm,hDl5,lr,u1,u2,rfl⟩
    obtain⟨t,ht,ta,rfl,qt⟩:=mR lo hy
    have hil:=(aad.mp ht).1
    have ook:=vok.outs t (aaj ht)
    refine⟨ta,_,rfl,sm.tup qt,rfl,_,_,rfl,_,_,rfl,rfl,?_⟩
    refine nF ?_
    refine⟨_,rfl,_,rfl,kp,t.1,S,rfl,sm _ _ hk4,snd,(λ z hz=>?_),_,rfl,(show 2<=sizeLine by decide),λ e he=>?_⟩
    ·have:=ook.tg z hz
     exact⟨z.toNat,ho.mem_iff.2 (abk.2 (by omega)),by omega⟩
    have m1:=aK.new (o:=HO.tup [gU (t.1.bind (jJ (bB 0 S))),.int t.2]) he
    have i1:Is K (upd H5 e (.tup [gU (t.1.bind (jJ (bB 0 S))),.int t.2])) (oZ (nS (bB 0 S) t)) (.ref e):=Is.tupOf (ds:=[HR (t.1.bind (jJ (bB 0 S))),.int t.2]) (bN.of aB) (.cons (Is.tgOf _) (.cons (Is.i _) .nil))
    generalize upd H5 e (.tup [gU (t.1.bind (jJ (bB 0 S))),.int t.2])=H6 at m1 i1 ⊢
    have hDl6:=m1 _ _ hDl5
    have muD:iF (H6 D5):=by rw[hDl6];exact trivial
    have hrl:r.length<=12:=by rw[lr.length,aac,aac,abl];omega
    refine⟨hDl6,aP (by omega),hD5,(sm.trans m1).put hD5,aB,?_,_,_,rfl⟩
    rw[acg,ht,aai,aai]
    exact L2.IsL.snoc (Is.mono (cA.ts cA.upd muD) _ _ i1) (L2.IsL.mono (m1.ts.trans (cA.ts cA.upd muD)) _ _ lr)
   rintro D5 r5 Z H5 ⟨hD5,sm5,hDl5,lr5,_⟩
   rw[eol,abe] at lr5
   refine⟨D5,r5,rfl,.inl ⟨bO.of hDl5,λ p1 hp1=>?_⟩⟩
   have m6:=aK.new (o:=HO.tup r5) hp1
   have t6:bN K (upd H5 p1 (.tup r5)) p1 r5:=bN.of aB
   have i6:Is K (upd H5 p1 (.tup r5)) (.tup ((v.outs.map (nS (bB 0 S))).map oZ)) (.ref p1):=Is.tupOf t6 (L2.IsL.mono m6.ts _ _ lr5)
   have s46:=sm5.trans m6
   generalize upd H5 p1 (.tup r5)=H6 at m6 t6 i6 s46 ⊢
   dsimp only [eK]
   refine⟨_,rfl,ca,rfl,⟨_,s46.tup qc⟩,eZ (K:=K) (a:=ca) (xs:=cs) (λ Dd i r Z H'=>H6 Dd=none/\aK H6 H'/\H' Dd=some (.lst r)/\IsL K H' (((v.acts.take i).filterMap (gW (bB 0 W))).map nE) r/\∃ u1 u2,Z=[u1,u2,some (.ref D)])
    (λ D i r Z H' p=>p.2.1.tup (s46.tup qc)) (λ D hD=>⟨hD,aK.new hD,aB,.nil,none,none,rfl⟩) ?_ ?_⟩
   rotate_left
   ·rintro D7 i y r Z H7 hy ⟨hD7,sm,hDl7,lr,u1,u2,rfl⟩
    obtain⟨t,ht,ta,rfl,qt⟩:=kS lc hy
    have hil:=(aad.mp ht).1
    have aok:=vok.acts t (aaj ht)
    have sA:=s46.trans sm
    have hDD:=sA _ _ hD4
    refine⟨ta,_,rfl,sA.tup qt,rfl,_,_,rfl,_,_,rfl,rfl,?_⟩
    have hsn:(v.acts.take (i+1)).filterMap (gW (bB 0 W))=(v.acts.take i).filterMap (gW (bB 0 W))++(gW (bB 0 W) t).toList:=by
     rw[acg,ht,List.filterMap_append]
     show _++List.filterMap (gW (bB 0 W)) [t]=_
     cases hz:gW (bB 0 W) t <;> simp [List.filterMap_cons,hz]
    have hrl:r.length<=12:=by
     rw[lr.length,aac]
     have:=sN (gW (bB 0 W)) (v.acts.take i)
     rw[abl] at this
     omega
    refine nF ?_
    obtain⟨m,hm⟩:=he.pos (s:=t.2.toNat) (by have:=aok.lo;have:=aok.hi;omega)
    have ez:t.2=((t.2.toNat:Nat):Int):=by have:=aok.lo;omega
    have ix:=rL knd hm
    have hn:gW (bB 0 W) t=some (t.1,(m:Int)):=by
     unfold gW
     rw[ez,o0 knd hm,Nat.zero_add];rfl
    rw[hn] at hsn
    refine⟨_,rfl,_,rfl,.inl ⟨rfl,_,bO.of hDD⟩,_,rfl,D,_,_,m,rfl,rfl,hDD,rfl,nA _,ix.1,(λ q hq=>by rw[ez];exact ix.2.1 q hq),(λ i' q hl hq=>by rw[ez];exact ix.2.2 i' q hl hq),(show 2<=sizeLine by decide),λ e he=>?_⟩
    have m1:=aK.new (o:=HO.tup [.str t.1,.int (m:Int)]) he
    have i1:Is K (upd H7 e (.tup [.str t.1,.int (m:Int)])) (nE (t.1,(m:Int))) (.ref e):=Is.tupOf (ds:=[.str t.1,.int (m:Int)]) (bN.of aB) (.cons (Is.s _) (.cons (Is.i _) .nil))
    generalize upd H7 e (.tup [.str t.1,.int (m:Int)])=H8 at m1 i1 ⊢
    have hDl8:=m1 _ _ hDl7
    have muD:iF (H8 D7):=by rw[hDl8];exact trivial
    refine⟨hDl8,aP (by omega),hD7,(sm.trans m1).put hD7,aB,?_,_,_,rfl⟩
    rw[hsn,aai]
    exact L2.IsL.snoc (Is.mono (cA.ts cA.upd muD) _ _ i1) (L2.IsL.mono (m1.ts.trans (cA.ts cA.upd muD)) _ _ lr)
   rintro D7 r7 Z H7 ⟨hD7,sm7,hDl7,lr7,_⟩
   rw[ecl,abe] at lr7
   refine⟨D7,r7,rfl,.inl ⟨bO.of hDl7,λ p2 hp2=>?_⟩⟩
   have m8:=aK.new (o:=HO.tup r7) hp2
   have t8:bN K (upd H7 p2 (.tup r7)) p2 r7:=bN.of aB
   have i8:Is K (upd H7 p2 (.tup r7)) (.tup ((v.acts.filterMap (gW (bB 0 W))).map nE)) (.ref p2):=Is.tupOf t8 (L2.IsL.mono m8.ts _ _ lr7)
   have s68:=sm7.trans m8
   generalize upd H7 p2 (.tup r7)=H8 at m8 t8 i8 s68 ⊢
   dsimp only [eK]
   have s48:=s46.trans s68
   have h8:=s48 _ _ h4
   have i68:=Is.mono s68.ts _ _ i6
   refine⟨_,rfl,.inl ⟨rfl,_,bO.of h8⟩,_,rfl,_,rfl,_,rfl,_,rfl,_,rfl,_,rfl,(show 6<=sizeLine by decide),λ e he=>?_⟩
   have m9:=aK.new (o:=HO.tup [.int v.size,.int v.brim,.ref p1,.bl v.holds,gU v.spill,.ref p2]) he
   have i9:Is K (upd H8 e (.tup [.int v.size,.int v.brim,.ref p1,.bl v.holds,gU v.spill,.ref p2])) (pM (kU (bB 0 S) (bB 0 W) v)) (.ref e):=
    Is.tupOf (ds:=[.int v.size,.int v.brim,.tup ((v.outs.map (nS (bB 0 S))).map oZ),.bl v.holds,HR (v.spill.bind (jJ (bB 0 S))),.tup ((v.acts.filterMap (gW (bB 0 W))).map nE)]) (bN.of aB)
     (.cons (Is.i _) (.cons (Is.i _) (.cons (Is.mono m9.ts _ _ i68) (.cons (Is.b _) (.cons (by rw[vsp];exact Is.n) (.cons (Is.mono m9.ts _ _ i8) .nil))))))
   generalize upd H8 e (.tup [.int v.size,.int v.brim,.ref p1,.bl v.holds,gU v.spill,.ref p2])=H9 at m9 i9 ⊢
   have s49:=s48.trans m9
   have h9:=s49 _ _ h4
   have muD:iF (H9 D2):=by rw[h9];exact trivial
   have hrl:r.length<=12:=by rw[lr.length,aac,aac,abl];omega
   refine⟨D2,r,_,rfl,rfl,h9,aP (by omega),(b4.trans s49.but).trans cA.upd,_,_,_,_,_,_,_,_,_,aB,?_,rfl⟩
   rw[acg,hxi,aai,aai]
   refine L2.IsL.snoc ?_ (L2.IsL.mono (s49.ts.trans (cA.ts cA.upd muD)) _ _ lr)
   show Is K _ (pM (kU _ _ (net.vs.getD x cI))) _
   rw[egd]
   exact Is.mono (cA.ts cA.upd muD) _ _ i9
  rintro Z H4 ⟨b4,rv,v4,v5,v6,v7,v8,v9,v10,v11,h4,lrv,rfl⟩
  rw[bF,abe] at lrv
  have ts4:=s3.ts.trans (b4.ts (K:=K) muD3)
  have hD4:=b4 _ _ nD hD3
  have hk4:=b4 _ _ nK hk3
  have qn4:=ts4 _ _ qn
  have qs4:=ts4 _ _ qs
  have ls4:=L2.IsL.mono ts4 _ _ ls
  refine⟨_,rfl,D,rfl,⟨_,bO.of hD4⟩,BA (K:=K) (a:=D) (xs:=bR W) (λ Dd i r Z H'=>H4 Dd=none/\aK H4 H'/\H' Dd=some (.lst r)/\IsL K H' (((W.take i).map λ z=>jU (bB 0 S) (net.sps.getD z (0,0,false))).map AE) r/\∃ u,Z=[u,some (.ref kp),some (.ref na)])
   (λ Dd i r Z H' p=>bO.of (p.2.1 _ _ hD4)) (λ Dd hDd=>⟨hDd,aK.new hDd,aB,.nil,none,rfl⟩) ?_ ?_⟩
  rotate_left
  ·rintro Dd i y r Z H5 hy ⟨hDd,sm,hDl5,lr,u,rfl⟩
   obtain⟨z,hz,rfl⟩:=kM hy
   have hil:=(aad.mp hz).1
   have hzl:=he.lt hz
   have hzy:z < ys.length:=by omega
   have hyj:ys[z]? = some ys[z]:=by simp
   obtain⟨sp,hsp,sa,esa,qsa⟩:=q0 ls4 hyj
   have egd:net.sps.getD z (0,0,false)=sp:=by rw[aae,hsp];rfl
   have spok:=nok.sps sp (aaj hsp)
   obtain⟨m,hm⟩:=ho.pos (s:=sp.1.toNat) (by omega)
   have es1:sp.1=((sp.1.toNat:Nat):Int):=by omega
   have ix:=rL snd hm
   have hk5:=sm _ _ hk4
   refine dH ?_
   refine⟨_,rfl,.inl ⟨rfl,_,bO.of hk5⟩,_,rfl,.inr (.inl ⟨na,_,1,_,rfl,rfl,sm.tup qn4,rfl,_,rfl,.inr (.inl ⟨nc,ys,(z:Int),.ref sa,rfl,rfl,sm.tup qs4,dO (by rw[hyj,esa]),.inr (.inl ⟨sa,_,0,_,rfl,rfl,sm.tup qsa,rfl,
    kp,_,_,m,rfl,rfl,hk5,rfl,nA _,ix.1,(λ q hq=>by rw[es1];exact ix.2.1 q hq),(λ i' q hl hq=>by rw[es1];exact ix.2.2 i' q hl hq),(show 1<=sizeLine by decide),λ e he=>?_⟩)⟩)⟩)⟩
   have m6:=aK.new (o:=HO.tup [.int (m:Int)]) he
   have t6:bN K (upd H5 e (.tup [.int (m:Int)])) e [.int (m:Int)]:=bN.of aB
   generalize upd H5 e (.tup [.int (m:Int)])=H6 at m6 t6 ⊢
   have s46:=sm.trans m6
   refine⟨_,rfl,.inr (.inl ⟨na,_,1,_,rfl,rfl,s46.tup qn4,rfl,_,rfl,.inr (.inl ⟨nc,ys,(z:Int),.ref sa,rfl,rfl,s46.tup qs4,dO (by rw[hyj,esa]),1,rfl,sa,_,rfl,s46.tup qsa,(λ c=>absurd (show (1:Nat)=0 from c.1) (by decide)),λ p hp=>?_⟩)⟩)⟩
   have m7:=aK.new (o:=HO.tup (HG [.int sp.1,.int sp.2.1,.bl sp.2.2] (some 1) none)) hp
   refine⟨e,p,_,_,rfl,rfl,m7.tup t6,bN.of aB,(show 3<=sizeLine by decide),λ p' H8 s8 t8=>?_⟩
   have s48:=(s46.trans m7).trans s8
   have i8:Is K H8 (AE (jU (bB 0 S) sp)) (.ref p'):=by
    unfold jU
    rw[es1,o0 snd hm,Nat.zero_add]
    exact Is.tupOf (ds:=[.int (m:Int),.int sp.2.1,.bl sp.2.2]) t8 (.cons (Is.i _) (.cons (Is.i _) (.cons (Is.b _) .nil)))
   have s58:=(m6.trans m7).trans s8
   have h8:=s58 _ _ hDl5
   have muD:iF (H8 Dd):=by rw[h8];exact trivial
   have hrl:r.length<=12:=by
    rw[lr.length,aac,aac,abl]
    omega
   refine⟨h8,aP (by omega),hDd,s48.put hDd,aB,?_,_,rfl⟩
   rw[acg,hz,aai,aai]
   refine L2.IsL.snoc ?_ (L2.IsL.mono (s58.ts.trans (cA.ts cA.upd muD)) _ _ lr)
   show Is K _ (AE (jU _ (net.sps.getD z (0,0,false)))) _
   rw[egd]
   exact Is.mono (cA.ts cA.upd muD) _ _ i8
  rintro D5 r5 Z H5 ⟨hD5,sm5,hDl5,lr5,_⟩
  rw[bF,abe] at lr5
  dsimp only [eK]
  refine⟨_,rfl,D2,rv,rfl,.inl ⟨bO.of (sm5 _ _ h4),λ p1 hp1=>?_⟩⟩
  have m7:=aK.new (o:=HO.tup rv) hp1
  have i7:Is K (upd H5 p1 (.tup rv)) (.tup ((S.map λ s=>kU (bB 0 S) (bB 0 W) (net.vs.getD s cI)).map pM)) (.ref p1):=Is.tupOf (bN.of aB) (L2.IsL.mono (sm5.trans m7).ts _ _ lrv)
  generalize upd H5 p1 (.tup rv)=H7 at m7 i7 ⊢
  refine⟨_,rfl,D5,r5,rfl,.inl ⟨bO.of (m7 _ _ hDl5),λ p2 hp2=>?_⟩⟩
  have m6:=aK.new (o:=HO.tup r5) hp2
  have i6:Is K (upd H7 p2 (.tup r5)) (.tup ((W.map λ z=>jU (bB 0 S) (net.sps.getD z (0,0,false))).map AE)) (.ref p2):=Is.tupOf (bN.of aB) (L2.IsL.mono (m7.trans m6).ts _ _ lr5)
  generalize upd H7 p2 (.tup r5)=H6 at m6 i6 ⊢
  refine⟨(show 2<=sizeLine by decide),λ pn hpn=>?_⟩
  have m8:=aK.new (o:=HO.tup [.ref p1,.ref p2]) hpn
  have i8:Is K (upd H6 pn (.tup [.ref p1,.ref p2])) (fC (eL net S W)) (.ref pn):=by
   unfold eL MO
   rw[lO (λ s=>kU (bB 0 S) (bB 0 W) (net.vs.getD s cI)) S 0,lO (λ z=>jU (bB 0 S) (net.sps.getD z (0,0,false))) W 0]
   exact Is.tupOf (ds:=[_,_]) (bN.of aB) (.cons (Is.mono (m6.trans m8).ts _ _ i7) (.cons (Is.mono m8.ts _ _ i6) .nil))
  exact k _ _ (λ b o hb=>m8 _ _ (m6 _ _ (m7 _ _ (sm5 _ _ (b4 _ _ (aN hb hD2) (s3 _ _ hb)))))) i8
end
end Tw
namespace Tw
open PySem L2
section
variable {K:aaa}{C:Addr}{σ:St}{H:Hp}{Q:VK}{t sl r rl na nb:Addr}{S:RunS}{fp:List Addr}{i j l:Nat}{n m v x:Int}{xs ys:List V}{u:V}
theorem tY (h:σ[i]? = some (some (.ref t))) (tp:dU H t sl) (h1:0 < n) (h2:n < 1000000) (k:∀ (r:Int) H',cA t H H'->dU H' t sl->0<=r->r < n->Q (.int r) H'):pZ fX [] E0 (dR (cZ i) (dR (tC (.int n)) jF)) σ H Q:=
 ⟨_,h,t,sl,n,rfl,tp,h1,h2,k⟩
theorem JR (h:σ[i]? = some (some (.ref na))) (q:H na=some (.lst xs)) (e:BR xs m=some u) (k:Q u H):iD (wP K) (cZ i) (tC (.int m)) σ H Q:=⟨_,h,.inl ⟨na,xs,m,u,rfl,rfl,bO.of q,e,k⟩⟩
theorem vF {f:Str}{cu:RunS->V->Hp->Prop} (h:σ[i]? = some (some (.ref rl))) (hl:H rl=some (.lst xs)) (e:BR xs n=some (.ref r)) (lk:∀ np R M T,(vM np R M T).lookup f=none) (ra:bV K C H r S fp) (k:∀ v,cu S v H->Q v H) :
  wC C f (lI K C cu) [] E0 (iD (wP K) (cZ i) (tC (.int n))) jF σ H Q:=by
 obtain⟨dx,np,R,M,T,ei⟩:=ra.ins
 exact JR h hl e ⟨r,dx,_,rfl,ei,lk np R M T,r,S,fp,rfl,ra,k⟩
theorem K3 {B:Nat} (h:σ[i]? = some (some (.ref r))) (ra:bV K C H r S fp) (sz:RunSz S B) (hB:B<=1000000) (k:∀ H',iC fp H H'->bV K C H' r (S.go 1) fp->Q .non H'):wC C "go" (HY K C) [] E0 (cZ i) (dR (tC (.int 1)) jF) σ H Q:=by
 obtain⟨dx,np,R,M,T,ei⟩:=ra.ins
 exact⟨_,h,r,dx,_,rfl,ei,JB "go" rfl,r,S,fp,1,B,rfl,ra,sz,hB,by decide,k⟩
noncomputable def u6 (K:aaa) (C:Addr):Sp:=λ vs H Q _=>∃ (r:Addr) (S:RunS) (fp:List Addr) (v:Int) (l:List Int),vs=[.ref r,.int v]/\bV K C H r S fp/\0<=v/\v < S.net.vs.length/\S.tips[v.toNat]? = some l/\
 ∀ p,H p=none->Q (.ref p) (upd H p (.lst (l.map V.int)))
theorem B5 {tl:List Int} (h:σ[i]? = some (some (.ref rl))) (hj:σ[j]? = some (some (.int v))) (hl:H rl=some (.lst xs)) (e:BR xs n=some (.ref r)) (ra:bV K C H r S fp) (v0:0<=v) (v1:v < S.net.vs.length) (ht:S.tips[v.toNat]? = some tl)
  (k:∀ p,H p=none->Q (.ref p) (upd H p (.lst (tl.map V.int)))):wC C "tips" (u6 K C) [] E0 (iD (wP K) (cZ i) (tC (.int n))) (dR (cZ j) jF) σ H Q:=by
 obtain⟨dx,np,R,M,T,ei⟩:=ra.ins
 exact JR h hl e ⟨r,dx,_,rfl,ei,JB "tips" rfl,_,hj,r,S,fp,v,tl,rfl,ra,v0,v1,ht,k⟩
end
end Tw
namespace Tw
open PySem L2
end Tw
namespace L2
open PySem PySem.Spec PyProof.Rows TwZ
section
variable {X:Cx}
end
end L2
namespace Tw
open PySem L2
section
variable {K:aaa}{H:Hp}
end
section
variable {P:Program}{w:World}{K:aaa}{mg:Str->Option Value}{base:Heap}{C:Addr}
theorem AG:FnScope ["self","vessel"] ["self","vessel"] (aJ (bD (aQ 41) 6)):=⟨rfl,rfl,rfl,by decide +kernel,rfl,by decide +kernel,by decide +kernel⟩
theorem IY {f f1:Addr}{fd fd1:FuncData} (F:Fun K "tips" "Run.tips" (bD (aQ 41) 6) f fd) (T:Txt mg) (tx:RunTx K C) (G_need_vessel:Callee P w K mg base "need_vessel" ["net","number"] 2 (uF K) f1 fd1) :
  FnOk P w K mg base gC 3 f fd ["self","vessel"] (u6 K C):=by
 refine F.ok AG (λ vs H Q E h=>?_) (λ cdv A outer s H vs Q E hr h=>?_)
 ·obtain⟨r,S,fp,v,l,rfl,_⟩:=h;rfl
 ·obtain⟨r,S,fp,v,l,rfl,⟨dx,np,R,M,T',ts,rs,ms,mv,c,rfl⟩,v0,v1,hl,k⟩:=h
  have sc:=AG
  refine⟨_,(aE (bW (cU G_need_vessel hr (aA (eI (K:=K) rfl (pv 0) rfl) (aA (pv 1) aD))))
   (aL (aZ (aY (iS (K:=K) rfl) rfl T.b_list kQ (aA (b0 (aO (K:=K) rfl) (eI (K:=K) rfl (pv 0) rfl) (pv 1) (λ _ _=>rfl)) aD))))),?_⟩
  have hlt:v.toNat < ts.length:=by rw[c.tl];exact (aad.mp hl).1
  have htt:ts[v.toNat]? = some ts[v.toNat]:=by simp [hlt]
  have hti:=c.ti _ _ _ htt hl
  refine⟨_,rfl,r,C,dx,_,_,rfl,c.ins,tx.cls,tx.net,zS,_,rfl,np,S.net,v,rfl,c.net,v0,v1,?_⟩
  exact⟨_,rfl,r,C,dx,_,_,rfl,c.ins,tx.cls,tx.tips,B6,_,rfl,.inl ⟨T',_,v,.ref ts[v.toNat],rfl,rfl,bO.of c.hT,vU v0 (by rw[aah,htt];rfl),ts[v.toNat],_,rfl,.inl (bO.of hti),λ p hp=>k p hp⟩⟩
end
end Tw
namespace Tw
open PySem L2
section
variable {P:Program}{w:World}{K:aaa}{mg:Str->Option Value}{base:Heap}{C:Addr}
end
end Tw
namespace Tw
open PySem L2
theorem jA:∀ l:List Int,bK (l.map L2.D.int)=0
 | []=>by rw[List.map_nil,bK]
 | t::l=>by rw[aaw,bK,gH,jA l];rfl
section
variable {K:aaa}{C:Addr}{H:Hp}
theorem kP {H':Hp}{fq:List Addr} (s:iC fq H H') (hm:∀ b∈fq,iF (H b)):bM K H H':=by
 intro b xs h
 have ne:∀ {o:HO},H b=some o->¬ iF (some o)->b∉fq:=λ e n z=>by have:=hm b z;rw[e] at this;exact n this
 rcases h with (h | ⟨o,h⟩) | h
 ·exact .inl (.inl (s _ _ (ne h (λ z=>z)) h))
 ·exact .inl (.inr ⟨o,s _ _ (ne h (λ z=>z)) h⟩)
 ·exact .inr h
theorem bV.r_out {r r':Addr}{S S':RunS}{fp fp':List Addr} (c:bV K C H r S fp) (c':bV K C H r' S' fp'):r∉fp':=λ z=>by
 obtain⟨xs,e⟩:=c'.lists r z
 obtain⟨dx,np,R,M,T,ei⟩:=c.ins
 rw[ei] at e;cases e
structure L6 (K:aaa) (C:Addr) (H:Hp) (t sl rl r0 r1 r2:Addr) (fp0 fp1 fp2:List Addr) (vb:Addr) (zs:List V) (po:V) (B:Net) (S0 S1 S2:RunS):Prop where
 tp:dU H t sl
 rs:H rl=some (.lst [.ref r0,.ref r1,.ref r2])
 a0:bV K C H r0 S0 fp0
 a1:bV K C H r1 S1 fp1
 a2:bV K C H r2 S2 fp2
 n0:t∉fp0/\sl∉fp0/\rl∉fp0
 n1:t∉fp1/\sl∉fp1/\rl∉fp1
 n2:t∉fp2/\sl∉fp2/\rl∉fp2
 rt:rl≠t
 d01:∀ b∈fp0,b∉fp1
 d02:∀ b∈fp0,b∉fp2
 d12:∀ b∈fp1,b∉fp2
 hv:bN K H vb zs
 ho:Is K H (fC B) po
variable {t sl rl r0 r1 r2 vb:Addr}{fp0 fp1 fp2:List Addr}{zs:List V}{po:V}{B:Net}{S0 S1 S2:RunS}
theorem L6.tr {r:Addr}{S:RunS}{fp:List Addr} (tp:dU H t sl) (c:bV K C H r S fp):t≠r:=by
 obtain⟨dx,np,R,M,T,e⟩:=c.ins
 obtain⟨ns,pos,cell,e2,_⟩:=tp
 exact λ z=>by rw[z,e] at e2;cases e2
theorem RunSz.up06 {S:RunS}{a b:Nat} (h:RunSz S a) (hb:a<=b):RunSz S b:=⟨abq h.rows hb,abq h.pre hb,λ l hl=>abq (h.tips l hl) hb⟩
end
end Tw
namespace Tw
open PySem L2
section
variable {P:Program}{w:World}{K:aaa}{mg:Str->Option Value}{base:Heap}{C c_TipError c_NoNet c_NoVessel c_TooLong c_TooMany c_TooMuch c_Nothing c_NoText c_NoRow:Addr}
structure L22 (K:aaa) (C:Addr) (H:Hp) (t sl rl r0 r1:Addr) (fp0 fp1:List Addr) (S0 S1:RunS):Prop where
 tp:dU H t sl
 rs:H rl=some (.lst [.ref r0,.ref r1])
 a0:bV K C H r0 S0 fp0
 a1:bV K C H r1 S1 fp1
 n0:t∉fp0/\sl∉fp0/\rl∉fp0
 n1:t∉fp1/\sl∉fp1/\rl∉fp1
 rt:rl≠t
 d01:∀ b∈fp0,b∉fp1
variable {H:Hp}{t sl rl r0 r1:Addr}{fp0 fp1:List Addr}{S0 S1:RunS}
theorem L22.same {H':Hp} (h:L22 K C H t sl rl r0 r1 fp0 fp1 S0 S1) (s:aK H H'):L22 K C H' t sl rl r0 r1 fp0 fp1 S0 S1:=
 { h with tp:=h.tp.same s,rs:=s _ _ h.rs,a0:=h.a0.same s,a1:=h.a1.same s }
theorem L22.draw {H':Hp} (h:L22 K C H t sl rl r0 r1 fp0 fp1 S0 S1) (b:cA t H H') (tp':dU H' t sl):L22 K C H' t sl rl r0 r1 fp0 fp1 S0 S1:=
 { h with tp:=tp',rs:=b _ _ h.rt h.rs,a0:=h.a0.but b h.tp.mut (L6.tr h.tp h.a0) h.n0.1,a1:=h.a1.but b h.tp.mut (L6.tr h.tp h.a1) h.n1.1 }
theorem L22.on0 {H':Hp}{S':RunS} (h:L22 K C H t sl rl r0 r1 fp0 fp1 S0 S1) (b:iC fp0 H H') (ra:bV K C H' r0 S' fp0):L22 K C H' t sl rl r0 r1 fp0 fp1 S' S1:=
 { h with tp:=h.tp.butL b h.n0.1 h.n0.2.1,rs:=b _ _ h.n0.2.2 h.rs,a0:=ra,a1:=h.a1.butL b h.a0.mut (h.a1.r_out h.a0) (λ c hc z=>h.d01 c z hc) }
theorem L22.on1 {H':Hp}{S':RunS} (h:L22 K C H t sl rl r0 r1 fp0 fp1 S0 S1) (b:iC fp1 H H') (ra:bV K C H' r1 S' fp1):L22 K C H' t sl rl r0 r1 fp0 fp1 S0 S':=
 { h with tp:=h.tp.butL b h.n1.1 h.n1.2.1,rs:=b _ _ h.n1.2.2 h.rs,a1:=ra,a0:=h.a0.butL b h.a1.mut (h.a0.r_out h.a1) (λ c hc z=>h.d01 c hc z) }
end
end Tw
namespace Tw
open PySem L2
variable {A B:Net}{j:Nat}{led:Bool}{S0 S1 S2:RunS}{more:Int}
end Tw
namespace Tw
open PySem L2
section
variable {P:Program}{w:World}{K:aaa}{mg:Str->Option Value}{base:Heap}{C:Addr}
end
end Tw
namespace Tw
open PySem L2
section
variable {K:aaa}{C:Addr}{H:Hp}
theorem FY {te:TE}{σ:St}{Q:Addr->Hp->Prop}{fr:List (Option Nat)}{db:St}{n:Nat} (L:Nat->List Int) (hfr:BI fr σ=none::db) (h12:n<=12)
  (step:∀ (i:Nat) (H2:Hp) (Q:VK),i < n->aK H H2->(∀ p,H2 p=none->Q (.ref p) (upd H2 p (.lst ((L i).map V.int))))->te (some (.int (i:Int))::db) H2 Q)
  (k:∀ D H' (ns:List Addr),H D=none->aK H H'->H' D=some (.lst (ns.map V.ref))->ns.length=n->(∀ (i:Nat) (t:Addr),ns[i]? = some t->H' t=some (.lst ((L i).map V.int)))->Q D H') :
  hV (KF 0 n) (eK 0) EB te fr σ H Q:=by
 refine rG (n:=n) (λ D i rr Z H'=>H D=none/\aK H H'/\H' D=some (.lst rr)/\(∃ ns:List Addr,rr=ns.map V.ref/\ns.length=i/\(∀ t∈ns,t≠D)/\∀ (i:Nat) (t:Addr),ns[i]? = some t->H' t=some (.lst ((L i).map V.int)))/\∃ u,Z=u::db)
  (λ D hD=>⟨hD,aK.new hD,aB,⟨[],rfl,rfl,λ t ht=>(nomatch ht),λ i t h=>by simp at h⟩,none,hfr⟩) ?_ ?_
 rotate_left
 ·rintro D i rr Z H2 hi ⟨hD,s2,hDl,⟨ns,rfl,hns,hfr',hti⟩,u,rfl⟩
  refine dH ?_
  refine step i H2 _ hi s2 λ nt hnt=>?_
  have s4:=aK.new (o:=HO.lst ((L i).map V.int)) hnt
  have ntD:nt≠D:=λ z=>by rw[z,hDl] at hnt;cases hnt
  refine⟨s4 _ _ hDl,aP (by rw[aac];omega),hD,(s2.trans s4).put hD,aB,⟨ns++[nt],by rw[aai];rfl,by simp [hns],λ t ht=>?_,λ i' t g1=>?_⟩,_,rfl⟩
  ·rcases abc.1 ht with z | z
   ·exact hfr' t z
   ·have:t=nt:=by simpa using z
    subst this
    exact ntD
  ·have hil':=(aad.mp g1).1
   rw[aat,List.length_singleton] at hil'
   by_cases e':i' < i
   ·rw[abr (by omega)] at g1
    rw[aM (hfr' t (aaj g1))]
    exact s4 _ _ (hti i' t g1)
   ·have:i'=i:=by omega
    subst this
    rw[acj (by omega)] at g1
    rw[hns,Nat.sub_self] at g1
    have:nt=t:=by simpa using g1
    subst this
    rw[aM ntD]
    exact aB
 ·rintro D rr Z H2 ⟨hD,s2,hDl,⟨ns,rfl,hns,hfr',hti⟩,_⟩
  exact k D H2 ns hD s2 hDl hns hti
theorem CJ {a b:Addr}{ns ms:List Addr}{L:Nat->List Int} (q1:H a=some (.lst (ns.map V.ref))) (q2:H b=some (.lst (ms.map V.ref))) (hl:ns.length=ms.length) (h1:∀ (i:Nat) (t:Addr),ns[i]? = some t->H t=some (.lst ((L i).map V.int))) (h2:∀ (i:Nat) (t:Addr),ms[i]? = some t->H t=some (.lst ((L i).map V.int))) :
  lW K H (.ref a) (.ref b):=by
 refine⟨a,b,_,_,rfl,rfl,bO.of q1,bO.of q2,by rw[aac,aac];exact hl,λ i u v hu hv=>?_⟩
 rw[aah] at hu hv
 obtain⟨a2,ha2,rfl⟩:=aap.mp hu
 obtain⟨a3,ha3,rfl⟩:=aap.mp hv
 exact .inr ⟨a2,a3,_,_,_,rfl,rfl,bO.of (h1 i a2 ha2),bO.of (h2 i a3 ha3),L2.IsL.of_ints _,L2.IsL.of_ints _,by rw[jA];decide⟩
variable {t sl rl r0 r1 r2:Addr}{fp0 fp1 fp2:List Addr}{x y:V}{A B:Net}{S0 S1 S2:RunS}
variable {pl:Addr}{g:Bool->Addr}{ps:Bool->List Int}
end
end Tw
namespace Tw
open PySem L2
section
variable {P:Program}{w:World}{K:aaa}{mg:Str->Option Value}{base:Heap}{C c_TipError c_NoNet c_NoVessel c_TooLong c_TooMany c_TooMuch c_Nothing c_NoText c_NoRow:Addr}
noncomputable def qD (K:aaa) (cL:Addr):Sp:=λ vs H Q E=>∃ (x:V) (net:Net),vs=[x]/\Is K H (fC net) x/\NetOk net/\
 (∀ t j p H',yB net t j->aK H H'->bN K H' p [.int j,.int ((t:Int) - j)]->Q (.ref p) H')/\(vZ net->∀ H',aK H H'->E (.ref cL) none H')
theorem oK:FnScope ["net","ahead","told"] ["net"] (aJ (aQ 47)):=⟨rfl,rfl,rfl,by decide +kernel,rfl,by decide +kernel,by decide +kernel⟩
theorem uY {f f1:Addr}{fd fd1:FuncData} (F:Fun K "round_of" "round_of" (aQ 47) f fd) (T:Txt mg) (G_go_round:CalleeR P w K mg base "go_round" ["net"] 5 (EG K c_TooLong) f1 fd1) :
  FnOk P w K mg base (BV P w) 6 f fd ["net"] (qD K c_TooLong):=by
 refine F.okR oK (λ vs H Q E h=>?_) (λ cdv A outer s H vs Q E hr h L=>?_)
 ·obtain⟨x,net,rfl,_⟩:=h;rfl
 ·obtain⟨x,net,rfl,hx,nok,kR,kL⟩:=h
  have sc:=oK
  refine⟨_,(aE (bZ (kJ G_go_round.ok (hr.mono (by decide)) rfl G_go_round.mg G_go_round.kp G_go_round.bd .nil (AZ L) (aA (pv 0) aD)) (aX (K:=K) (n:=2) rfl rfl (aF (aG (i:=1) sc.nd rfl (Or.inl rfl)) (aF (aG (i:=2) sc.nd rfl (Or.inl rfl)) aW))))
   (aL (aZ (bS (aA (pv 1) (aA (bA fJ (aU (bL (K:=K) rfl) rfl T.b_len abj (aA (pv 2) aD)) (pv 1)) aD)))))),?_⟩
  refine⟨_,rfl,x,net,rfl,hx,nok,λ t j p tl us H1 hrep s1 qp htl hul _ _=>?_,kL⟩
  refine⟨p,_,rfl,qp,rfl,_,_,rfl,_,_,rfl,rfl,?_⟩
  refine⟨_,rfl,_,rfl,tl,us,rfl,.inl (bO.of htl),_,rfl,_,_,rfl,rfl,(show 2<=sizeLine by decide),λ p2 hp2=>?_⟩
  rw[hul]
  exact kR t j p2 _ hrep (s1.trans (aK.new hp2)) (bN.of aB)
end
end Tw
namespace L2
open PySem PySem.Spec PyProof.Rows TwZ
section
variable {X:Cx}
noncomputable def MB (K:aaa) (E:XK) (CT:Addr) (k:Nat) (tb ts:TS):TS:=λ D σ H=>tb D σ H/\
 ∀ (cls:Value) (H':Hp) (ea:Addr) (Z:St),E cls none H'->Z.length=k->H' ea=none->PySem.W.exmOne K cls (.ref CT)=some true/\
  ts { nx:=D.nx,rt:=D.rt } Z (upd H' ea (LQ ea cls))
theorem IG {EX:XK}{CT:Addr}{x:Str}{body suite:List Stmt}{gb:Stmt}{np hpos pos:Pos}{tb ts:TS} (hstk:X.stack=X.env::X.outer) (hfr:X.env.frame=some X.env.locals)
  (hb:∀ (pn:List (Addr×Obj)) (xe:Value->Shared->Prop),gT (BV X.prog X.w) (X.within pn xe) EX->yC (X.within pn xe) body tb)
  (hg:Gl X x) (hm:X.mg x=some (.ref CT))
  (hs:∀ ea:Addr,yC (X.caughtIn ea) (gb::suite) ts) (hd:(x == ("__debug__" : Str))=false:=by decide) :
  PS X (.Try body [.ExceptHandler (some (.Name x np)) none (gb::suite) hpos] [] [] pos) (MB X.K EX CT X.N.length tb ts):=by
 intro pins s σ H D I h
 obtain⟨h1,h2⟩:=h
 refine wpAny_Try_except ?_
 let XE:Value->Shared->Prop:=λ e s'=>∃ (σ:St) (H:Hp) (s:Shared) (ea:Addr) (cls a0:Value) (H':Hp) (B:Heap),e=.ref ea/\Inv X pins σ H s/\s'.os=s.os/\AllBare s'.gens/\Fly X.prog X.w X.stack H s.heap ea cls a0 H' s'.heap B/\EX cls none H'
 have hpass:gT (BV X.prog X.w) (X.within (X.pn++pins) XE) EX:=by
  intro p2 σ H s e s' J hx
  obtain⟨ea,cls,a0,H',B,rfl,os,bare,F,hE⟩:=hx
  exact⟨σ,H,s,ea,cls,a0,H',B,rfl,J.unwithin,os,bare,F,hE⟩
 refine wpAny_mono (hb (X.pn++pins) XE hpass [] s σ H D I.within h1) (λ f ah hf=>?_) λ e ah hx=>?_
 ·cases f with
  | next=>
   obtain⟨Z,H',J,q⟩:=hf
   exact bJ pins ah Z H' D J.unwithin q
  | brk=>obtain⟨Z,H',J,q⟩:=hf;exact⟨Z,H',J.unwithin,q⟩
  | cont=>obtain⟨Z,H',J,q⟩:=hf;exact⟨Z,H',J.unwithin,q⟩
  | ret u=>obtain⟨v,Z,H',J,r,q⟩:=hf;exact⟨v,Z,H',J.unwithin,r,q⟩
 ·obtain⟨Z,H0,s0,ea,cls,a0,H',B,rfl,J,os,bare,F,hE⟩:=hx
  have fr:X.A.frames=some (X.env::X.outer):=by rw[<- hstk];exact I.ok.frames
  have again:∀ h',Heap.FlyingW B X.stack ea cls a0 h'->ah.heap.UpToSlots h'->Fly X.prog X.w X.stack H0 s0.heap ea cls a0 H' h' B:=λ h' fl sm=>
   ⟨fl,F.keep,λ b o e n hb=>by
    obtain⟨sl,e1⟩:=F.slot b o e n hb
    obtain⟨_,o',ho',hd⟩:=J.stack.mem hb
    rw[e] at ho'
    cases ho'
    obtain⟨sl',e2⟩:=sm b _ e1 hd
    exact⟨sl',e2⟩,F.free,F.there,F.tups,F.frzs,F.tbls,F.hok⟩
  refine wpAny_looks_onW fr hfr (by rw[<- hstk];exact F.fl) λ au fm fi=>?_
  refine wpAny_landsW fm λ bn dz fj=>?_
  have F5:=again bn (by rw[hstk];exact dz) (fi.trans fj)
  obtain⟨hea,J5⟩:=J.caught (s':={ ah with heap:=bn }) os bare F5
  have hlen:Z.length=X.N.length:=J.len
  obtain⟨hmat,hts⟩:=h2 cls H' ea Z hE hlen hea
  refine wpAny_handleBy_cons (codeAny_handlers_test (mZ (X:=X.caughtIn ea) J5.mark hg hm ?_ hd)) (by intro q;cases q)
  obtain⟨ob,hob,hobc⟩:=dz.there
  have LT0:PySem.W.Looks (model X.prog X.w) bn (typeOf (.ref ea)) ob.cls:=(PySem.W.Looks.ld hob).andThen .now
  have LT:PySem.W.Looks (model X.prog X.w) bn (typeOf (.ref ea)) cls:=by rw[<- hobc];exact LT0
  refine (PySem.W.exm_one (M:=model X.prog X.w) J5.kIn LT hmat).here ?_
  refine codeAny_handlers_suite (lands_againW dz λ ce fl₆ sm₆=>?_)
  have F6:=again ce (by rw[hstk];exact fl₆) ((fi.trans fj).trans sm₆)
  obtain⟨_,J6⟩:=J.caught (s':={ ah with heap:=ce }) os bare F6
  refine wpAny_mono (hs ea pins _ _ _ _ J6.mark hts) (λ f s8 hf=>?_) λ _ _ z=>False.elim z
  cases f with
  | next=>
   obtain⟨cn,H8,J8,q⟩:=hf
   exact⟨_,_,J8.unmark I.ok,q⟩
  | brk=>obtain⟨_,_,_,q⟩:=hf;exact False.elim q
  | cont=>obtain⟨_,_,_,q⟩:=hf;exact False.elim q
  | ret u=>obtain⟨v,cn,H8,J8,r,q⟩:=hf;exact⟨v,_,_,J8.unmark I.ok,r,q⟩
end
end L2
namespace Tw
open PySem L2
section
variable {P:Program}{w:World}{K:aaa}{mg:Str->Option Value}{base:Heap}{C c_TooLong:Addr}
noncomputable def u5 (K:aaa):Sp:=λ vs H Q _=>∃ (x:V) (net:Net),vs=[x]/\Is K H (fC net) x/\NetOk net/\
 (∀ t j p H',yB net t j->aK H H'->bN K H' p [.int j,.int ((t:Int) - j)]->Q (.ref p) H')/\(vZ net->∀ H',aK H H'->Q .non H')
theorem mJ:FnScope ["net","found"] ["net"] (aJ (aQ 58)):=⟨rfl,rfl,rfl,by decide +kernel,rfl,by decide +kernel,by decide +kernel⟩
theorem rA {f f1:Addr}{fd fd1:FuncData} (F:Fun K "_law_told" "_law_told" (aQ 58) f fd) (T:Txt mg) (mE_TooLong:mg "TooLong" = some (.ref c_TooLong)) (hxL:PySem.W.exmOne K (.ref c_TooLong) (.ref c_TooLong)=some true)
  (G_round_of:CalleeR P w K mg base "round_of" ["net"] 6 (qD K c_TooLong) f1 fd1):FnOk P w K mg base gC 7 f fd ["net"] (u5 K):=by
 refine F.ok mJ (λ vs H Q E h=>?_) (λ cdv A outer s H vs Q E hr h=>?_)
 ·obtain⟨x,net,rfl,_⟩:=h;rfl
 ·obtain⟨x,net,rfl,hx,nok,k1,k2⟩:=h
  have sc:=mJ
  let EX:XK:=λ cls _ H'=>aK H H'/\cls=.ref c_TooLong/\vZ net
  refine⟨_,(aE (b9 (i:=1) sc.nd rfl (Or.inl rfl) gM)
   (aE (IG (EX:=EX) rfl rfl (λ pn xe hx=>(aL (b9 (i:=1) sc.nd rfl (Or.inl rfl) (kJ G_round_of.ok (hr.mono (by decide)) rfl G_round_of.mg G_round_of.kp G_round_of.bd .nil hx (aA (pv 0) aD))))) rfl mE_TooLong (λ ea=>(aL (b9 (i:=1) sc.nd rfl (Or.inl rfl) gM))))
   (aL (aZ (pv 1))))),?_⟩
  dsimp only [iG,jN,eK,tC]
  refine⟨?_,?_⟩
  ·exact⟨_,rfl,x,net,rfl,hx,nok,λ t j p H' hr s q=>⟨_,rfl,k1 t j p H' hr s q⟩,λ hL H' s=>⟨s,rfl,hL⟩⟩
  ·rintro cls H' ea Z ⟨sH,rfl,hL⟩ hlen hea
   obtain⟨u0,u1,rfl⟩:∃ u0 u1,Z=[u0,u1]:=by
    match Z,hlen with
    | [u0,u1],_=>exact⟨_,_,rfl⟩
   have s1:=aK.new (o:=LQ ea (.ref c_TooLong)) hea
   exact⟨hxL,_,rfl,k2 hL _ (sH.trans s1)⟩
theorem mO {net:Net}{t:Nat}{j:Int} (h:yB net t j) (hL:vZ net):False:=by
 have:=hL t h.1
 rw[h.2.1] at this;cases this
end
end Tw
namespace Tw
open PySem L2
theorem xI (L:List Nat) (z:Nat):bR L++[V.int 0,.int (z:Int)]=((L++[0,z]).map λ (i:Nat)=>(i:Int)).map V.int:=by
 unfold bR;rw[abv,aai];rfl
theorem yX {ns ns':List Int}{ms ms':List Int} (h:Rises ns ms) (h':Rises ns' ms') (e:∀ x,x∈ns↔x∈ns'):ms=ms':=by
 have hm:∀ x,x∈ms↔x∈ms':=λ x=>by rw[h.mem,h'.mem,e]
 have u1:=h.up
 have u2:=h'.up
 clear h h' e
 induction ms generalizing ms' with
 | nil=>
  cases ms' with
  | nil=>rfl
  | cons y T=>exact absurd ((hm y).2 aas) (by simp)
 | cons x S ih=>
  cases ms' with
  | nil=>exact absurd ((hm x).1 aas) (by simp)
  | cons y T=>
   rw[List.pairwise_cons] at u1 u2
   have exy:x=y:=by
    rcases List.mem_cons.1 ((hm x).1 aas) with z | z
    ·exact z
    ·rcases List.mem_cons.1 ((hm y).2 aas) with z' | z'
     ·exact z'.symm
     ·have:=u2.1 x z
      have:=u1.1 y z'
      omega
   subst exy
   rw[ih (λ z=>⟨λ hz=>?_,λ hz=>?_⟩) u1.2 u2.2]
   ·rcases List.mem_cons.1 ((hm z).1 (aam _ hz)) with q | q
    ·subst q;exact absurd (u1.1 z hz) (Int.lt_irrefl _)
    ·exact q
   ·rcases List.mem_cons.1 ((hm z).2 (aam _ hz)) with q | q
    ·subst q;exact absurd (u2.1 z hz) (Int.lt_irrefl _)
    ·exact q
section
variable {P:Program}{w:World}{K:aaa}{mg:Str->Option Value}{base:Heap}{C c_TipError c_NoNet c_NoVessel c_TooLong c_TooMany c_TooMuch c_Nothing c_NoText c_NoRow:Addr}
structure L35 (K:aaa) (C:Addr) (H:Hp) (t sl rl r0 r1 ol:Addr) (fp0 fp1:List Addr) (x y:V) (A B:Net) (o:List Nat) (S0 S1:RunS):Prop where
 b:L22 K C H t sl rl r0 r1 fp0 fp1 S0 S1
 ho:H ol=some (.lst (bR o))
 no:ol≠t/\ol∉fp0/\ol∉fp1
 hx:Is K H (fC A) x
 hy:Is K H (fC B) y
variable {H:Hp}{t sl rl r0 r1 ol:Addr}{fp0 fp1:List Addr}{x y:V}{A B:Net}{o:List Nat}{S0 S1:RunS}
theorem L35.same {H':Hp} (h:L35 K C H t sl rl r0 r1 ol fp0 fp1 x y A B o S0 S1) (s:aK H H'):L35 K C H' t sl rl r0 r1 ol fp0 fp1 x y A B o S0 S1:=
 { h with b:=h.b.same s,ho:=s _ _ h.ho,hx:=Is.mono s.ts _ _ h.hx,hy:=Is.mono s.ts _ _ h.hy }
theorem L35.draw {H':Hp} (h:L35 K C H t sl rl r0 r1 ol fp0 fp1 x y A B o S0 S1) (b:cA t H H') (tp':dU H' t sl):L35 K C H' t sl rl r0 r1 ol fp0 fp1 x y A B o S0 S1:=
 { h with b:=h.b.draw b tp',ho:=b _ _ h.no.1 h.ho,hx:=Is.mono (b.ts h.b.tp.mut) _ _ h.hx,hy:=Is.mono (b.ts h.b.tp.mut) _ _ h.hy }
theorem L35.on0 {H':Hp}{S':RunS} (h:L35 K C H t sl rl r0 r1 ol fp0 fp1 x y A B o S0 S1) (b:iC fp0 H H') (ra:bV K C H' r0 S' fp0):L35 K C H' t sl rl r0 r1 ol fp0 fp1 x y A B o S' S1:=
 { h with b:=h.b.on0 b ra,ho:=b _ _ h.no.2.1 h.ho,hx:=Is.mono (kP b h.b.a0.mut) _ _ h.hx,hy:=Is.mono (kP b h.b.a0.mut) _ _ h.hy }
theorem L35.on1 {H':Hp}{S':RunS} (h:L35 K C H t sl rl r0 r1 ol fp0 fp1 x y A B o S0 S1) (b:iC fp1 H H') (ra:bV K C H' r1 S' fp1):L35 K C H' t sl rl r0 r1 ol fp0 fp1 x y A B o S0 S':=
 { h with b:=h.b.on1 b ra,ho:=b _ _ h.no.2.2 h.ho,hx:=Is.mono (kP b h.b.a1.mut) _ _ h.hx,hy:=Is.mono (kP b h.b.a1.mut) _ _ h.hy }
theorem FX {te:TE}{σ:St}{Q:Addr->Hp->Prop}{fr:List (Option Nat)}{db:St} (L:Nat->List Int) (hfr:BI fr σ=none::db) (h12:o.length<=12) (ho:H ol=some (.lst (bR o)))
  (step:∀ (i s:Nat) (H2:Hp) (Q:VK),o[i]? = some s->aK H H2->(∀ p,H2 p=none->Q (.ref p) (upd H2 p (.lst ((L i).map V.int))))->te (some (.int (s:Int))::db) H2 Q)
  (k:∀ D H' (ns:List Addr),H D=none->aK H H'->H' D=some (.lst (ns.map V.ref))->ns.length=o.length->(∀ (i:Nat) (t:Addr),ns[i]? = some t->H' t=some (.lst ((L i).map V.int)))->Q D H') :
  hV (M0 K ol) (eK 0) EB te fr σ H Q:=by
 refine BA (K:=K) (a:=ol) (xs:=bR o) (λ D i rr Z H'=>H D=none/\aK H H'/\H' D=some (.lst rr)/\(∃ ns:List Addr,rr=ns.map V.ref/\ns.length=i/\(∀ t∈ns,t≠D)/\∀ (i:Nat) (t:Addr),ns[i]? = some t->H' t=some (.lst ((L i).map V.int)))/\∃ u,Z=u::db)
  (λ D i r Z H' p=>bO.of (p.2.1 _ _ ho)) (λ D hD=>⟨hD,aK.new hD,aB,⟨[],rfl,rfl,λ t ht=>(nomatch ht),λ i t h=>by simp at h⟩,none,hfr⟩) ?_ ?_
 rotate_left
 ·rintro D i x rr Z H2 hi ⟨hD,s2,hDl,⟨ns,rfl,hns,hfr',hti⟩,u,rfl⟩
  obtain⟨s,hs,rfl⟩:=kM hi
  have hil:=(aad.mp hs).1
  refine dH ?_
  refine step i s H2 _ hs s2 λ nt hnt=>?_
  have s4:=aK.new (o:=HO.lst ((L i).map V.int)) hnt
  have ntD:nt≠D:=λ z=>by rw[z,hDl] at hnt;cases hnt
  refine⟨s4 _ _ hDl,aP (by rw[aac];omega),hD,(s2.trans s4).put hD,aB,⟨ns++[nt],by rw[aai];rfl,by simp [hns],λ t ht=>?_,λ i' t g1=>?_⟩,_,rfl⟩
  ·rcases abc.1 ht with z | z
   ·exact hfr' t z
   ·have:t=nt:=by simpa using z
    subst this
    exact ntD
  ·have hil':=(aad.mp g1).1
   rw[aat,List.length_singleton] at hil'
   by_cases e':i' < i
   ·rw[abr (by omega)] at g1
    rw[aM (hfr' t (aaj g1))]
    exact s4 _ _ (hti i' t g1)
   ·have:i'=i:=by omega
    subst this
    rw[acj (by omega)] at g1
    rw[hns,Nat.sub_self] at g1
    have:nt=t:=by simpa using g1
    subst this
    rw[aM ntD]
    exact aB
 ·rintro D rr Z H2 ⟨hD,s2,hDl,⟨ns,rfl,hns,hfr',hti⟩,_⟩
  rw[bF] at hns
  exact k D H2 ns hD s2 hDl hns hti
theorem EK:FnScope ["script","tape","net","order","other","runs","tick","k","vessel","amount","run","watched","told","due"] ["script"] (aJ (aQ 59)):=⟨rfl,rfl,rfl,by decide +kernel,rfl,by decide +kernel,by decide +kernel⟩
theorem LE {f f1 f2 f3 f4 f5 f6 f7 f8 f9 f10 f11 f12 f13:Addr}{fd fd1 fd2 fd3 fd4 fd5 fd6 fd7 fd8 fd9 fd10 fd11 fd12 fd13:FuncData} (F:Fun K "law" "law" (aQ 59) f fd) (T:Txt mg)
  (G__law_draw:Callee P w K mg base "_law_draw" ["tape","many"] 1 fX f1 fd1)
  (G__law_net:Callee P w K mg base "_law_net" ["tape","most","small"] 4 (yR K) f2 fd2)
  (G__law_plain:Callee P w K mg base "_law_plain" ["net"] 1 (uB K) f3 fd3)
  (G__law_order:Callee P w K mg base "_law_order" ["tape","many"] 2 (uD K) f4 fd4)
  (G__law_renumbered:Callee P w K mg base "_law_renumbered" ["net","order","doors"] 2 (uA K) f5 fd5)
  (G__law_told:Callee P w K mg base "_law_told" ["net"] 7 (u5 K) f6 fd6)
  (G_matters:CalleeR P w K mg base "matters" ["net","watched"] 3 (nL K c_NoVessel) f13 fd13)
  (G_Run:MkCal P w K mg base C "Run" ["self","net"] 5 (yS K C) f7 fd7)
  (G_Run_pour:MCal P w K mg base C "pour" ["self","vessel","amount"] 3 (yP K C) f8 fd8)
  (G_Run_go:MCal P w K mg base C "go" ["self","many"] 7 (HY K C) f9 fd9)
  (G_Run_came:MCal P w K mg base C "came" ["self"] 1 (lI K C λ S v H=>v=.int S.cur.came) f10 fd10)
  (G_Run_grounded:MCal P w K mg base C "grounded" ["self"] 1 (lI K C λ S v H=>v=.int S.cur.ground) f12 fd12)
  (G_Run_tips:MCal P w K mg base C "tips" ["self","vessel"] 3 (u6 K C) f11 fd11):FnOk P w K mg base gC 8 f fd ["script"] (AD K):=by
 refine F.ok EK (λ vs H Q E h=>?_) (λ cdv A outer s H vs Q E hr h=>?_)
 ·obtain⟨a,ns,rfl,_⟩:=h;rfl
 ·obtain⟨a,ns,rfl,hS,hlen,k⟩:=h
  have sc:=EK
  refine⟨_,(aE (b9 (i:=1) sc.nd rfl (Or.inl rfl) (bP (aA (aY (iS (K:=K) rfl) rfl T.b_list kQ (aA (pv 0) aD)) (aA aH (aA aH aD)))))
   (aE (b9 (i:=2) sc.nd rfl (Or.inl rfl) (cU G__law_plain hr (aA (cU G__law_net hr (aA (pv 1) (aA aH (aA (g8 tG (cU G__law_draw hr (aA (pv 1) (aA aH aD))) aH (cR _)) aD)))) aD)))
   (aE (b9 (i:=3) sc.nd rfl (Or.inr rfl) (cU G__law_order hr (aA (pv 1) (aA (aU (bL (K:=K) rfl) rfl T.b_len abj (aA (b0 (aO (K:=K) rfl) (pv 2) aH (λ _ _=>rfl)) aD)) aD))))
   (aE (b9 (i:=4) sc.nd rfl (Or.inl rfl) (cU G__law_renumbered hr (aA (pv 2) (aA (pv 3) (aA (cU G__law_order hr (aA (pv 1) (aA (aU (bL (K:=K) rfl) rfl T.b_len abj (aA (b0 (aO (K:=K) rfl) (pv 2) aH (λ _ _=>rfl)) aD)) aD))) aD)))))
   (aE (d8 (cT (g7.or N4 (zF (K:=K) rfl hr.units)) (cU G__law_told hr (aA (pv 2) aD)) (cU G__law_told hr (aA (pv 4) aD)) (cR _)) (aL (aZ gN)) bJ)
   (aE (b9 (i:=5) sc.nd rfl (Or.inr rfl) (bP (aA (AY G_Run.make G_Run.ok (hr.mono (by decide)) rfl G_Run.mg G_Run.bd .nil jD (aA (pv 2) aD)) (aA (AY G_Run.make G_Run.ok (hr.mono (by decide)) rfl G_Run.mg G_Run.bd .nil jD (aA (pv 4) aD)) aD))))
   (aE (dY PassesOwn.never rfl (dX rfl T.b_range (aA aH aD)) (aG (i:=6) sc.nd rfl (Or.inl rfl)) (aE (dY PassesOwn.never rfl (dX rfl T.b_range (aA (cU G__law_draw hr (aA (pv 1) (aA aH aD))) aD)) (aG (i:=7) sc.nd rfl (Or.inl rfl)) (aE (b9 (i:=8) sc.nd rfl (Or.inl rfl) (cU G__law_draw hr (aA (pv 1) (aA (aU (bL (K:=K) rfl) rfl T.b_len abj (aA (pv 3) aD)) aD))))
   (aE (b9 (i:=9) sc.nd rfl (Or.inl rfl) (cU G__law_draw hr (aA (pv 1) (aA aH aD))))
   (aE (bW (mQ (b0 (aO (K:=K) rfl) (pv 5) aH (λ _ _=>rfl)) G_Run_pour.cls G_Run_pour.mt G_Run_pour.ok (hr.mono (by decide)) G_Run_pour.bd .nil jD (aA (b0 (aO (K:=K) rfl) (pv 3) (pv 8) (λ _ _=>rfl)) (aA (pv 9) aD))))
   (aL (bW (mQ (b0 (aO (K:=K) rfl) (pv 5) aH (λ _ _=>rfl)) G_Run_pour.cls G_Run_pour.mt G_Run_pour.ok (hr.mono (by decide)) G_Run_pour.bd .nil jD (aA (pv 8) (aA (pv 9) aD)))))))))
   (aE (dY PassesOwn.never rfl (jW (K:=K) rfl (pv 5)) (aG (i:=10) sc.nd rfl (Or.inl rfl)) (aL (bW (mQ (pv 10) G_Run_go.cls G_Run_go.mt G_Run_go.ok (hr.mono (by decide)) G_Run_go.bd .nil jD (aA aH aD)))))
   (aE (d8 (cT (oV (K:=K) rfl hr.units) (fZ (λ _ _ h=>h) rfl (LcOk.mk (N':=["number","runs"]) (fr:=[none,some 5]) rfl ⟨rfl,trivial⟩ rfl rfl rfl rfl rfl ⟨⟨_,rfl,rfl,rfl,rfl⟩,trivial⟩) (jW (K:=K) rfl (pv 3)) (λ _ _ _=>(aG (i:=0) (show (["number","runs"]:List Str).Nodup by decide +kernel) rfl (Or.inl rfl) (Or.inr rfl))) (λ _ _ _=>cP) (λ _ _ _=>(mQ (b0 (aO (K:=K) rfl) (pv 1) aH (λ _ _=>rfl)) G_Run_tips.cls G_Run_tips.mt G_Run_tips.ok (hr.mono (by decide)) G_Run_tips.bd .nil jD (aA (pv 0) aD)))) (fZ (λ _ _ h=>h) rfl (LcOk.mk (N':=["k","runs"]) (fr:=[none,some 5]) rfl ⟨rfl,trivial⟩ rfl rfl rfl rfl rfl ⟨⟨_,rfl,rfl,rfl,rfl⟩,trivial⟩) (dX rfl T.b_range (aA (aU (bL (K:=K) rfl) rfl T.b_len abj (aA (pv 3) aD)) aD)) (λ _ _ _=>(aG (i:=0) (show (["k","runs"]:List Str).Nodup by decide +kernel) rfl (Or.inl rfl) (Or.inr rfl))) (λ _ _ _=>cP) (λ _ _ _=>(mQ (b0 (aO (K:=K) rfl) (pv 1) aH (λ _ _=>rfl)) G_Run_tips.cls G_Run_tips.mt G_Run_tips.ok (hr.mono (by decide)) G_Run_tips.bd .nil jD (aA (pv 0) aD)))) (cR _)) (aL (aZ gN)) bJ)
   (aL (d8 (cT (oV (K:=K) rfl hr.units) (bP (aA (mP (b0 (aO (K:=K) rfl) (pv 5) aH (λ _ _=>rfl)) G_Run_came.cls G_Run_came.mt G_Run_came.ok (hr.mono (by decide)) G_Run_came.bd .nil jD) (aA (mP (b0 (aO (K:=K) rfl) (pv 5) aH (λ _ _=>rfl)) G_Run_grounded.cls G_Run_grounded.mt G_Run_grounded.ok (hr.mono (by decide)) G_Run_grounded.bd .nil jD) aD))) (bP (aA (mP (b0 (aO (K:=K) rfl) (pv 5) aH (λ _ _=>rfl)) G_Run_came.cls G_Run_came.mt G_Run_came.ok (hr.mono (by decide)) G_Run_came.bd .nil jD) (aA (mP (b0 (aO (K:=K) rfl) (pv 5) aH (λ _ _=>rfl)) G_Run_grounded.cls G_Run_grounded.mt G_Run_grounded.ok (hr.mono (by decide)) G_Run_grounded.bd .nil jD) aD))) (cR _)) (aL (aZ gN)) bJ))))))
   (aE (b9 (i:=11) sc.nd rfl (Or.inl rfl) (cU G__law_draw hr (aA (pv 1) (aA (aU (bL (K:=K) rfl) rfl T.b_len abj (aA (pv 3) aD)) aD))))
   (aE (b9 (i:=12) sc.nd rfl (Or.inl rfl) (bA qX (fZ (λ _ _ h=>h) rfl (LcOk.mk (N':=["k","order"]) (fr:=[none,some 3]) rfl ⟨rfl,trivial⟩ rfl rfl rfl rfl rfl ⟨⟨_,rfl,rfl,rfl,rfl⟩,trivial⟩) (d6 (K:=K) rfl (kJ G_matters.ok (hr.mono (by decide)) rfl G_matters.mg G_matters.kp G_matters.bd .nil FH (aA (pv 4) (aA (pv 11) aD)))) (λ _ _ _=>(aG (i:=0) (show (["k","order"]:List Str).Nodup by decide +kernel) rfl (Or.inl rfl) (Or.inr rfl))) (λ _ _ _=>cP) (λ _ _ _=>(b0 (aO (K:=K) rfl) (pv 1) (pv 0) (λ _ _=>rfl)))) (bP (aA aH (aA (b0 (aO (K:=K) rfl) (pv 3) aH (λ _ _=>rfl)) aD)))))
   (aE (b9 (i:=13) sc.nd rfl (Or.inl rfl) (bA qX (aY (iS (K:=K) rfl) rfl T.b_list kQ (aA (kJ G_matters.ok (hr.mono (by decide)) rfl G_matters.mg G_matters.kp G_matters.bd .nil FH (aA (pv 2) (aA (b0 (aO (K:=K) rfl) (pv 3) (pv 11) (λ _ _=>rfl)) aD))) aD)) (bP (aA aH (aA (b0 (aO (K:=K) rfl) (pv 3) aH (λ _ _=>rfl)) aD)))))
   (aL (aZ (g8 (x8 (K:=K) rfl hr.units) (aU (o9 (P:=P) (w:=w) rfl rfl rfl) rfl T.b_sorted PyProof.Rows.boot_sorted (aA (aY (oA (P:=P) (w:=w) (K:=K) rfl rfl rfl rfl) rfl T.b_set oC (aA (pv 12) aD)) aD)) (aU (o9 (P:=P) (w:=w) rfl rfl rfl) rfl T.b_sorted PyProof.Rows.boot_sorted (aA (aY (oA (P:=P) (w:=w) (K:=K) rfl rfl rfl rfl) rfl T.b_set oC (aA (pv 13) aD)) aD)) (cR _)))))))))))))),?_⟩
  refine⟨_,rfl,a,_,rfl,.inl hS,λ sl hsl=>⟨(show 3<=sizeLine by decide),λ t ht=>?_⟩⟩
  have nst:sl≠t:=aN (show upd H sl (.lst (ns.map V.int)) sl=_ from aB) ht
  have tp0:dU (upd (upd H sl (.lst (ns.map V.int))) t (.lst [.ref sl,.int 0,.int 0])) t sl:=⟨ns,0,0,aB,by rw[aM nst];exact aB,by omega⟩
  generalize upd (upd H sl (.lst (ns.map V.int))) t (.lst [.ref sl,.int 0,.int 0])=H0 at tp0
  refine⟨_,rfl,?_⟩
  refine tY rfl tp0 (by decide) (by decide) λ d0 H1 b1 tp1 _ _=>⟨rfl,t,sl,12,_,rfl,by omega,by omega,tp1,λ A0 p0 H2 e2 nok0 nfu0 _ hp0=>⟨p0,A0,rfl,hp0,nok0,λ p H3 s3 ip=>?_⟩⟩
  have tp3:=e2.tp.same s3
  have ok:=L7 nok0
  have fu:=EZ nfu0
  have pn:=CO A0
  generalize N1 A0=A at ok fu pn ip
  clear hp0 nok0 nfu0 e2 s3 tp0 tp1 b1
  obtain⟨na,nb,nc,xs,ys,rfl,q,q1,lx,q2,ly⟩:=fY ip
  have exl:xs.length=A.vs.length:=by rw[lx.length,aac]
  have eyl:ys.length=A.sps.length:=by rw[ly.length,aac]
  have n1:=ok.lo
  have n2:=ok.hi
  have n3:=ok.sp
  refine⟨_,rfl,_,rfl,.inr (.inl ⟨na,_,0,_,rfl,rfl,q,rfl,nb,xs,rfl,.inr q1,t,sl,xs.length,rfl,tp3,by omega,λ ol o H4 e4 hol hol4 ho=>?_⟩)⟩
  rw[exl] at ho
  have ts4:=e4.bt.ts (K:=K) tp3.mut
  have nlt:ol≠t:=λ z=>by obtain⟨o',e⟩:=tp3.some;rw[<- z,hol] at e;cases e
  have lol:=ho.len
  refine⟨_,rfl,_,rfl,_,rfl,_,rfl,.inr (.inl ⟨na,_,1,_,rfl,rfl,ts4 _ _ q,rfl,nc,ys,rfl,.inr (ts4 _ _ q2),t,sl,ys.length,rfl,e4.tp,by omega,λ el e H5 e5 hel hel5 he=>?_⟩)⟩
  rw[eyl] at he
  have ts5:=ts4.trans (e5.bt.ts (K:=K) e4.tp.mut)
  have ol5:=e5.bt _ _ nlt hol4
  refine⟨.ref na,A,ol,el,o,e,rfl,Is.mono ts5 _ _ ip,ok,pn,ol5,hel5,ho,he,λ p H6 s6 iq=>?_⟩
  have okB:=qP ok ho he
  have fuB:=ID fu pn ho he
  have lvB:(eL A o e).vs.length=A.vs.length:=by rw[eO,ho.len]
  have hh:=N2 ok pn ho he
  have hx6:=Is.mono (ts5.trans s6.ts) _ _ ip
  have tp6:=e5.tp.same s6
  have ol6:=s6 _ _ ol5
  clear ts5 ts4 s6 e5 e4 hel5 hol4 ol5 q q1 q2 lx ly ip tp3
  dsimp only [eK,EC]
  refine KU (λ Z H'=>aK H6 H'/\Z=[some (.ref a),some (.ref t),some (.ref na),some (.ref ol),some p,none,none,none,none,none,none,none,none,none]) (λ D' hD=>?_) ?_
  ·refine⟨_,rfl,.ref na,A,rfl,hx6,ok,λ tt j pd H7 hrep s7 qd=>?_,λ hL H7 s7=>?_⟩
   ·refine⟨_,rfl,p,eL A o e,rfl,Is.mono s7.ts _ _ iq,okB,λ tt' j' pd' H8 hrep' s8 qd'=>?_,λ hL=>(mO (yY hh hrep) hL).elim⟩
    obtain⟨e1,e2⟩:=(yY hh hrep).uniq hrep'
    subst e1 e2
    refine .inr ⟨[.int j,.int ((tt:Int) - j)],(show 2<=1000 by decide),by rw[bK,bK,bK,gH,gH];decide,Is.tupOf (s8.tup qd) (.cons (Is.i _) (.cons (Is.i _) .nil)),Is.tupOf qd' (.cons (Is.i _) (.cons (Is.i _) .nil)),_,rfl,?_⟩
    exact eU (hD _ _ ⟨s7.trans s8,rfl⟩)
   ·refine⟨_,rfl,p,eL A o e,rfl,Is.mono s7.ts _ _ iq,okB,λ tt' j' pd' H8 hrep' s8 qd'=>(mO hrep' (JA hh hL)).elim,λ _ H8 s8=>?_⟩
    exact .inl ⟨rfl,_,rfl,NA rfl (hD _ _ ⟨s7.trans s8,rfl⟩)⟩
  rintro Z H7 ⟨s7,rfl⟩
  have iA:=Is.mono s7.ts _ _ hx6
  have iB:=Is.mono s7.ts _ _ iq
  have tp9:=tp6.same s7
  have ol7:=s7 _ _ ol6
  clear hx6 iq tp6 ol6 s7
  refine⟨_,rfl,λ r0 dx0 hr0 hdx0 ndx0=>?_⟩
  have m2:aK H7 (upd (upd H7 dx0 (.own r0)) r0 (.ins C dx0 [])):=λ b o e=>by
   rw[aM (aN e hr0),aM (aN e hdx0)];exact e
  refine⟨r0,dx0,.ref na,A,rfl,aB,Is.mono m2.ts _ _ iA,ok,fu,λ fp0 H11 hfp0 bt0 ra0=>⟨rfl,_,rfl,λ r1 dx1 hr1 hdx1 ndx1=>?_⟩⟩
  have s11:aK H7 H11:=λ b o e=>bt0 b o (aN e hr0) (m2 b o e)
  have ff0:∀ b∈fp0,H7 b=none:=λ b hb=>m2.free (hfp0 b hb)
  have m3:aK H11 (upd (upd H11 dx1 (.own r1)) r1 (.ins C dx1 [])):=λ b o e=>by
   rw[aM (aN e hr1),aM (aN e hdx1)];exact e
  refine⟨r1,dx1,p,eL A o e,rfl,aB,Is.mono (s11.trans m3).ts _ _ iB,okB,fuB,λ fp1 H12 hfp1 bt1 ra1=>⟨rfl,(show 2<=sizeLine by decide),λ rl hrl=>?_⟩⟩
  have s12:aK H11 H12:=λ b o e=>bt1 b o (aN e hr1) (m3 b o e)
  have ff1:∀ b∈fp1,H11 b=none:=λ b hb=>m3.free (hfp1 b hb)
  have s13:=aK.new (o:=HO.lst [.ref r0,.ref r1]) hrl
  have tp11:=tp9.same s11
  have tp12:=tp11.same s12
  have ra0':=ra0.same s12
  have nt:∀ {Hx:Hp}{fp:List Addr},dU Hx t sl->(∀ b∈fp,Hx b=none)->t∉fp/\sl∉fp:=λ tp ff=>⟨λ z=>(by obtain⟨o,e⟩:=tp.some;rw[ff t z] at e;cases e),λ z=>(by obtain⟨ns,pos,cell,_,e,_⟩:=tp;rw[ff sl z] at e;cases e)⟩
  have sA:=(s11.trans s12).trans s13
  have i0:L35 K C (upd H12 rl (.lst [.ref r0,.ref r1])) t sl rl r0 r1 ol fp0 fp1 (.ref na) p A (eL A o e) o (uP A) (uP (eL A o e)):={
   b:={
    tp:=tp12.same s13
    rs:=aB
    a0:=ra0'.same s13
    a1:=ra1.same s13
    n0:=⟨(nt tp9 ff0).1,(nt tp9 ff0).2,ra0'.notfp hrl⟩
    n1:=⟨(nt tp11 ff1).1,(nt tp11 ff1).2,ra1.notfp hrl⟩
    rt:=λ z=>by obtain⟨o,e⟩:=tp12.some;rw[z,e] at hrl;cases hrl
    d01:=λ b hb z=>by obtain⟨ys,e⟩:=ra0.lists b hb;rw[ff1 b z] at e;cases e }
   ho:=sA _ _ ol7
   no:=⟨nlt,λ z=>(by rw[ff0 ol z] at ol7;cases ol7),λ z=>(by have:=s11 _ _ ol7;rw[ff1 ol z] at this;cases this)⟩
   hx:=Is.mono sA.ts _ _ iA
   hy:=Is.mono sA.ts _ _ iB }
  have bo0:=pe0 ok ho he
  have z0:=AL A
  have z1:=AL (eL A o e)
  generalize upd H12 rl (.lst [.ref r0,.ref r1])=H13 at i0
  clear sA s13 s12 s11 m2 m3 bt0 bt1 ra0 ra1 ra0' ff0 ff1 tp9 tp11 tp12 nt iA iB hfp0 hfp1 hr0 hr1 hdx0 hdx1 ol7
  dsimp only [iG,eK,jN]
  refine vL (λ Z H'=>∃ (S0 S1:RunS),L35 K C H' t sl rl r0 r1 ol fp0 fp1 (.ref na) p A (eL A o e) o S0 S1/\
   ∃ v6 v7 v8 v9 v10,Z=[some (.ref a),some (.ref t),some (.ref na),some (.ref ol),some p,some (.ref rl),v6,v7,v8,v9,v10,none,none,none]) (λ D' hD=>?_) ?_
  ·refine⟨_,rfl,by decide,by decide,fL (lo:=0) (n:=30) (λ n Z H'=>∃ (S0 S1:RunS),L35 K C H' t sl rl r0 r1 ol fp0 fp1 (.ref na) p A (eL A o e) o S0 S1/\PeS A o e S0 S1/\RunSz S0 (100 * n)/\RunSz S1 (100 * n)/\
    ∃ v6 v7 v8 v9 v10,Z=[some (.ref a),some (.ref t),some (.ref na),some (.ref ol),some p,some (.ref rl),v6,v7,v8,v9,v10,none,none,none]) ⟨_,_,i0,bo0,z0,z1,_,_,_,_,_,rfl⟩ ?_ ?_⟩
   rotate_left
   ·rintro Z H14 ⟨S0,S1,I,_,_,_,v6,v7,v8,v9,v10,rfl⟩
    exact hD _ _ ⟨S0,S1,I,_,_,_,_,_,rfl⟩
   clear i0 bo0 z0 z1 hD
   rintro n Z H14 hn ⟨S0,S1,I,bo,z0,z1,v6,v7,v8,v9,v10,rfl⟩
   dsimp only [iG,eK,jN]
   refine vL (λ Z H'=>∃ (S0 S1:RunS),L35 K C H' t sl rl r0 r1 ol fp0 fp1 (.ref na) p A (eL A o e) o S0 S1/\PeS A o e S0 S1/\RunSz S0 (100 * n+3)/\RunSz S1 (100 * n+3)/\
    ∃ v6 v7 v8 v9 v10,Z=[some (.ref a),some (.ref t),some (.ref na),some (.ref ol),some p,some (.ref rl),v6,v7,v8,v9,v10,none,none,none]) (λ D' hD=>?_) ?_
   ·refine tY rfl I.b.tp (by decide) (by decide) λ kk H20 b20 t20 c0 c1=>⟨_,rfl,by omega,by omega,?_⟩
    have I20:=I.draw b20 t20
    refine fL (lo:=0) (n:=kk.toNat) (λ m Z H'=>∃ (S0 S1:RunS),L35 K C H' t sl rl r0 r1 ol fp0 fp1 (.ref na) p A (eL A o e) o S0 S1/\PeS A o e S0 S1/\RunSz S0 (100 * n+m)/\RunSz S1 (100 * n+m)/\
     ∃ v6 v7 v8 v9 v10,Z=[some (.ref a),some (.ref t),some (.ref na),some (.ref ol),some p,some (.ref rl),v6,v7,v8,v9,v10,none,none,none]) ⟨_,_,I20,bo,z0,z1,_,_,_,_,_,rfl⟩ ?_ ?_
    rotate_left
    ·rintro Z H' ⟨S0,S1,I,bo,z0,z1,p⟩
     exact hD _ _ ⟨S0,S1,I,bo,z0.up06 (by omega),z1.up06 (by omega),p⟩
    clear I I20 bo z0 z1
    rintro m Z H21 hm ⟨S0,S1,I,bo,z0,z1,v6,v7,v8,v9,v10,rfl⟩
    refine⟨_,rfl,_,rfl,ol,_,rfl,.inl (bO.of I.ho),t,sl,_,rfl,I.b.tp,by rw[bF];omega,by rw[bF];omega,λ vj H22 b22 t22 w0 w1=>?_⟩
    rw[bF,lol] at w1
    obtain⟨v,rfl⟩:∃ v:Nat,vj=(v:Int):=⟨vj.toNat,by omega⟩
    have hv:=ho.get (i:=v) (by omega)
    have hul:=ho.lt hv
    have I22:=I.draw b22 t22
    refine tY rfl I22.b.tp (by decide) (by decide) λ am H23 b23 t23 _ _=>?_
    have I23:=I22.draw b23 t23
    have eN0:S0.net.vs.length=A.vs.length:=by rw[bo.n0]
    have eN1:S1.net.vs.length=A.vs.length:=by rw[bo.n1,lvB]
    obtain⟨dx,np,R,M,T',ei⟩:=I23.b.a0.ins
    refine⟨_,rfl,.inl ⟨rl,_,0,_,rfl,rfl,bO.of I23.b.rs,rfl,r0,dx,_,rfl,ei,JB "pour" rfl,_,rfl,_,rfl,.inl ⟨ol,_,(v:Int),_,rfl,rfl,bO.of I23.ho,dO (iM hv),_,rfl,r0,S0,fp0,_,am,100 * n+m,rfl,I23.b.a0,z0,by omega,by omega,by omega,λ H24 b24 ra24=>?_⟩⟩⟩
    have I24:=I23.on0 b24 ra24
    obtain⟨dx,np,R,M,T',ei⟩:=I24.b.a1.ins
    refine⟨_,rfl,.inl ⟨rl,_,1,_,rfl,rfl,bO.of I24.b.rs,rfl,r1,dx,_,rfl,ei,JB "pour" rfl,_,rfl,_,rfl,r1,S1,fp1,_,am,100 * n+m,rfl,I24.b.a1,z1,by omega,by omega,by omega,λ H25 b25 ra25=>?_⟩⟩
    exact⟨_,_,I24.on1 b25 ra25,bo.pour ho hv am,z0.pour _ _,z1.pour _ _,_,_,_,_,_,rfl⟩
   clear I bo z0 z1
   rintro Z H15 ⟨S0,S1,I,bo,z0,z1,v6,v7,v8,v9,v10,rfl⟩
   have bo':=bo.go ok pn ho he
   have w0:=(z0.go bo.ok0.nok 1).up06 (show _<=100 * (n+1) by omega)
   have w1:=(z1.go bo.ok1.nok 1).up06 (show _<=100 * (n+1) by omega)
   dsimp only [iG,eK,jN]
   refine vL (λ Z H'=>L35 K C H' t sl rl r0 r1 ol fp0 fp1 (.ref na) p A (eL A o e) o (S0.go 1) (S1.go 1)/\
    ∃ v6 v7 v8 v9 v10,Z=[some (.ref a),some (.ref t),some (.ref na),some (.ref ol),some p,some (.ref rl),v6,v7,v8,v9,v10,none,none,none]) (λ D' hD=>?_) ?_
   ·refine⟨_,rfl,rl,rfl,⟨_,bO.of I.b.rs⟩,rS (K:=K) (a:=rl) (xs:=[.ref r0,.ref r1]) (λ m Z H'=>L35 K C H' t sl rl r0 r1 ol fp0 fp1 (.ref na) p A (eL A o e) o (if 1<=m then S0.go 1 else S0) (if 2<=m then S1.go 1 else S1)/\
     ∃ v6 v7 v8 v9 v10,Z=[some (.ref a),some (.ref t),some (.ref na),some (.ref ol),some p,some (.ref rl),v6,v7,v8,v9,v10,none,none,none])
     ⟨I,_,_,_,_,_,rfl⟩ (λ m Z H' _ p=>bO.of p.1.b.rs) ?_ ?_⟩
    ·rintro m u Z H25 hu ⟨I25,v6,v7,v8,v9,v10,rfl⟩
     rcases m with _ | _ | m
     ·cases hu
      exact K3 rfl I25.b.a0 z0 (by omega) λ H27 b27 ra27=>⟨I25.on0 b27 ra27,_,_,_,_,_,rfl⟩
     ·cases hu
      exact K3 rfl I25.b.a1 z1 (by omega) λ H27 b27 ra27=>⟨I25.on1 b27 ra27,_,_,_,_,_,rfl⟩
     ·cases hu
    ·rintro Z H25 ⟨I25,q⟩
     exact hD _ _ ⟨I25,q⟩
   clear I bo z0 z1
   rintro Z H16 ⟨I,v6,v7,v8,v9,v10,rfl⟩
   generalize S0.go 1=S0 at *
   generalize S1.go 1=S1 at *
   have eN0:S0.net.vs.length=A.vs.length:=by rw[bo'.n0]
   have eN1:S1.net.vs.length=A.vs.length:=by rw[bo'.n1,lvB]
   have t0:S0.tips.length=A.vs.length:=by rw[I.b.a0.ok.tl,eN0]
   have t1:S1.tips.length=A.vs.length:=by rw[I.b.a1.ok.tl,eN1]
   refine⟨_,rfl,ol,rfl,⟨_,bO.of I.ho⟩,?_⟩
   refine FX (λ m=>S1.tips.getD m []) rfl (by omega) I.ho (λ m s H2 Q hm s2 kk=>?_) λ D1 H17 ns1 _ s17 hD1 hl1 ht1=>?_
   ·have hsl:=ho.lt hm
    refine B5 (v:=(s:Int)) rfl rfl (s2 _ _ I.b.rs) rfl (I.b.a0.same s2) (by omega) (by omega) ?_ kk
    rw[bo'.tips m s hm,aav,aae,aaf (by omega)];rfl
   have I17:=I.same s17
   refine⟨_,rfl,ol,_,rfl,.inl (bO.of I17.ho),_,rfl,by rw[bF];omega,by rw[bF];omega,?_⟩
   rw[aav,bF]
   refine FY (λ m=>S1.tips.getD m []) rfl (by omega) (λ m H2 Q hm s2 kk=>?_) λ D2 H18 ns2 _ s18 hD2 hl2 ht2=>?_
   ·exact B5 (v:=(m:Int)) rfl rfl (s2 _ _ I17.b.rs) rfl (I17.b.a1.same s2) (by omega) (by omega) (by rw[aav,aae,aaf (by omega)];rfl) kk
   refine⟨CJ (s18 _ _ hD1) hD2 (by omega) (λ m t h=>s18 _ _ (ht1 m t h)) ht2,_,rfl,eU ?_⟩
   have I18:=I17.same s18
   clear I I17 hD1 hD2 ht1 ht2
   refine vF rfl I18.b.rs rfl (λ _ _ _ _=>rfl) I18.b.a0 λ u0 hu0=>?_
   subst hu0
   refine vF rfl I18.b.rs rfl (λ _ _ _ _=>rfl) I18.b.a0 λ u1 hu1=>?_
   subst hu1
   refine⟨(show 2<=sizeLine by decide),λ g0 hg0=>?_⟩
   have sg0:=aK.new (o:=HO.lst [.int S0.cur.came,.int S0.cur.ground]) hg0
   have ig0:upd H18 g0 (.lst [.int S0.cur.came,.int S0.cur.ground]) g0=some (.lst [.int S0.cur.came,.int S0.cur.ground]):=aB
   generalize upd H18 g0 (.lst [.int S0.cur.came,.int S0.cur.ground])=H19 at sg0 ig0
   have I19:=I18.same sg0
   refine vF rfl I19.b.rs rfl (λ _ _ _ _=>rfl) I19.b.a1 λ u2 hu2=>?_
   subst hu2
   refine vF rfl I19.b.rs rfl (λ _ _ _ _=>rfl) I19.b.a1 λ u3 hu3=>?_
   subst hu3
   refine⟨(show 2<=sizeLine by decide),λ g1 hg1=>?_⟩
   have sg1:=aK.new (o:=HO.lst [.int S1.cur.came,.int S1.cur.ground]) hg1
   refine⟨lW.data (bO.of (sg1 _ _ ig0)) (bO.of aB) (ds:=[.int S0.cur.came,.int S0.cur.ground]) (.cons (Is.i _) (.cons (Is.i _) .nil)) (by rw[bo'.came,bo'.ground];exact .cons (Is.i _) (.cons (Is.i _) .nil)) (by rw[bK,bK,bK,gH,gH];decide),_,rfl,eU ?_⟩
   exact⟨S0,S1,I19.same sg1,bo',w0,w1,_,_,_,_,_,rfl⟩
  clear i0 bo0 z0 z1
  rintro Z H14 ⟨S0,S1,I,v6,v7,v8,v9,v10,rfl⟩
  refine⟨_,rfl,_,rfl,ol,_,rfl,.inl (bO.of I.ho),t,sl,_,rfl,I.b.tp,by rw[bF];omega,by rw[bF];omega,λ wj H15 b15 t15 w0 w1=>?_⟩
  rw[bF,lol] at w1
  obtain⟨wv,rfl⟩:∃ v:Nat,wj=(v:Int):=⟨wj.toNat,by omega⟩
  have hwv:=ho.get (i:=wv) (by omega)
  generalize o.getD wv 0=u at hwv
  have hul:=ho.lt hwv
  have I15:=I.draw b15 t15
  have h0:=ho.get (i:=0) (by omega)
  generalize hz0:o.getD 0 0=z0 at h0
  refine⟨_,rfl,_,rfl,p,eL A o e,(wv:Int),rfl,I15.hy,okB,.inr ⟨wv,rfl,by omega,λ mp S H16 s16 qm mS=>?_⟩⟩
  have I16:=I15.same s16
  have slt:=mS.lt okB.hi (by omega)
  have sl12:S.length<=12:=abq (jX _ _ mS.nd slt) okB.hi
  refine⟨mp,rfl,⟨_,qm⟩,eZ (K:=K) (a:=mp) (xs:=bR S) (λ D i r Z H'=>H16 D=none/\aK H16 H'/\H' D=some (.lst r)/\r=bR ((S.take i).map λ x=>o.getD x 0)/\∃ u,Z=[u,some (.ref ol)])
   (λ D i r Z H' p=>p.2.1.tup qm) (λ D hD=>⟨hD,aK.new hD,aB,rfl,none,rfl⟩) ?_ ?_⟩
  rotate_left
  ·rintro D i yv r Z H17 hy ⟨hD,sm,hDl,rfl,u,rfl⟩
   obtain⟨x,hx,rfl⟩:=kM hy
   have hil:=(aad.mp hx).1
   have hxl:=slt x (aaj hx)
   refine dH ?_
   refine⟨_,rfl,_,rfl,.inl ⟨ol,_,(x:Int),_,rfl,rfl,bO.of (sm _ _ I16.ho),dO (iM (ho.get (by omega))),hDl,aP (by rw[bF,aac,abl];omega),hD,sm.put hD,aB,?_,_,rfl⟩⟩
   rw[cF hx,aai]
   unfold bR
   rw[aai];rfl
  rintro D r Z H17 ⟨hD,s17,hDl,rfl,_⟩
  rw[bF,abe] at hDl
  have I17:=I16.same s17
  refine⟨_,rfl,.inl ⟨ol,_,0,_,rfl,rfl,bO.of I17.ho,dO (iM h0),(show 2<=sizeLine by decide),λ g2 hg2=>⟨D,g2,_,_,rfl,rfl,aK.new hg2 _ _ hDl,aB,ace (aP (by rw[bF,aac];show _+2<=1000;omega)),λ tl htl=>?_⟩⟩⟩
  have s18:=aK.new (o:=HO.lst [.int 0,.int (z0:Int)]) hg2
  have tv:bR (S.map λ x=>o.getD x 0)++[V.int 0,.int (z0:Int)]=(((S.map λ x=>o.getD x 0)++[0,z0]).map λ (i:Nat)=>(i:Int)).map V.int:=xI _ _
  rw[tv]
  generalize upd H17 g2 (.lst [.int 0,.int (z0:Int)])=H18 at s18 htl
  have s19:=aK.new (o:=HO.lst ((((S.map λ x=>o.getD x 0)++[0,z0]).map λ (i:Nat)=>(i:Int)).map V.int)) htl
  have e19:upd H18 tl (.lst ((((S.map λ x=>o.getD x 0)++[0,z0]).map λ (i:Nat)=>(i:Int)).map V.int)) tl=some (.lst ((((S.map λ x=>o.getD x 0)++[0,z0]).map λ (i:Nat)=>(i:Int)).map V.int)):=aB
  generalize upd H18 tl (.lst ((((S.map λ x=>o.getD x 0)++[0,z0]).map λ (i:Nat)=>(i:Int)).map V.int))=H19 at s19 e19
  have I19:=I17.same (s18.trans s19)
  refine⟨_,rfl,_,rfl,_,rfl,.inl ⟨ol,_,(wv:Int),_,rfl,rfl,bO.of I19.ho,dO (iM hwv),.ref na,A,(u:Int),rfl,I19.hx,ok,.inr ⟨u,rfl,hul,λ mp2 S2 H20 s20 qm2 mS2=>?_⟩⟩⟩
  have I20:=I19.same s20
  have slt2:=mS2.lt ok.hi hul
  have sl122:S2.length<=12:=abq (jX _ _ mS2.nd slt2) ok.hi
  refine⟨mp2,_,rfl,.inr qm2,λ l2 hl2=>?_⟩
  have s21:=aK.new (o:=HO.lst (bR S2)) hl2
  have e21:upd H20 l2 (.lst (bR S2)) l2=some (.lst (bR S2)):=aB
  generalize upd H20 l2 (.lst (bR S2))=H21 at s21 e21
  have I21:=I20.same s21
  refine⟨_,rfl,.inl ⟨ol,_,0,_,rfl,rfl,bO.of I21.ho,dO (iM h0),(show 2<=sizeLine by decide),λ g3 hg3=>⟨l2,g3,_,_,rfl,rfl,aK.new hg3 _ _ e21,aB,ace (aP (by rw[bF];show _+2<=1000;omega)),λ dl hdl=>?_⟩⟩⟩
  have s22:=aK.new (o:=HO.lst [.int 0,.int (z0:Int)]) hg3
  have dv:bR S2++[V.int 0,.int (z0:Int)]=((S2++[0,z0]).map λ (i:Nat)=>(i:Int)).map V.int:=xI _ _
  rw[dv]
  generalize upd H21 g3 (.lst [.int 0,.int (z0:Int)])=H22 at s22 hdl
  have s23:=aK.new (o:=HO.lst (((S2++[0,z0]).map λ (i:Nat)=>(i:Int)).map V.int)) hdl
  have e23:upd H22 dl (.lst (((S2++[0,z0]).map λ (i:Nat)=>(i:Int)).map V.int)) dl=some (.lst (((S2++[0,z0]).map λ (i:Nat)=>(i:Int)).map V.int)):=aB
  generalize upd H22 dl (.lst (((S2++[0,z0]).map λ (i:Nat)=>(i:Int)).map V.int))=H23 at s23 e23
  have t23:=(((s20.trans s21).trans s22).trans s23) _ _ e19
  have ln1:(((S.map λ x=>o.getD x 0)++[0,z0]).map λ (i:Nat)=>(i:Int)).length=S.length+2:=by rw[aac,aat,aac];rfl
  have ln2:((S2++[0,z0]).map λ (i:Nat)=>(i:Int)).length=S2.length+2:=by rw[aac,aat];rfl
  have d1:=vP (((S.map λ x=>o.getD x 0)++[0,z0]).map λ (i:Nat)=>(i:Int))
  have d2:=vP ((S2++[0,z0]).map λ (i:Nat)=>(i:Int))
  refine⟨_,rfl,tl,_,rfl,bO.of t23,by omega,λ sa hsa=>⟨sa,_,rfl,aB,by omega,λ l4 ms hl4 pm pw=>?_⟩⟩
  have s24:=(aK.new (o:=uN P w sa (DP (((S.map λ x=>o.getD x 0)++[0,z0]).map λ (i:Nat)=>(i:Int)))) hsa).trans (aK.new (o:=HO.lst (ms.map V.int)) hl4)
  have e24:upd (upd H23 sa (uN P w sa (DP (((S.map λ x=>o.getD x 0)++[0,z0]).map λ (i:Nat)=>(i:Int))))) l4 (.lst (ms.map V.int)) l4=some (.lst (ms.map V.int)):=aB
  generalize upd (upd H23 sa (uN P w sa (DP (((S.map λ x=>o.getD x 0)++[0,z0]).map λ (i:Nat)=>(i:Int))))) l4 (.lst (ms.map V.int))=H24 at s24 e24
  have d24:=s24 _ _ e23
  refine⟨_,rfl,dl,_,rfl,bO.of d24,by omega,λ sa2 hsa2=>⟨sa2,_,rfl,aB,by omega,λ l5 ms2 hl5 pm2 pw2=>?_⟩⟩
  have s25:=(aK.new (o:=uN P w sa2 (DP ((S2++[0,z0]).map λ (i:Nat)=>(i:Int)))) hsa2).trans (aK.new (o:=HO.lst (ms2.map V.int)) hl5)
  have e25:upd (upd H24 sa2 (uN P w sa2 (DP ((S2++[0,z0]).map λ (i:Nat)=>(i:Int))))) l5 (.lst (ms2.map V.int)) l5=some (.lst (ms2.map V.int)):=aB
  generalize upd (upd H24 sa2 (uN P w sa2 (DP ((S2++[0,z0]).map λ (i:Nat)=>(i:Int))))) l5 (.lst (ms2.map V.int))=H25 at s25 e25
  have ems:ms=ms2:=by
   refine yX (qO pm pw) (qO pm2 pw2) λ x=>?_
   rw[aaz,aaz]
   have key:∀ y:Nat,y∈(S.map λ x=>o.getD x 0)++[0,z0]↔y∈S2++[0,z0]:=λ y=>by
    rw[abc,abc]
    constructor
    ·rintro (h | h)
     ·obtain⟨i,hi,rfl⟩:=aaz.1 h
      rcases (mS.mem i).1 hi with z | z
      ·left
       have hil:=slt i hi
       have hg:=ho.get (i:=i) (by omega)
       exact (mS2.mem _).2 (.inl ((EO ok ho he hwv hg).1 z))
      ·subst z
       rw[hz0];right;simp
     ·exact .inr h
    ·rintro (h | h)
     ·rcases (mS2.mem y).1 h with z | z
      ·left
       obtain⟨i,hi⟩:=ho.pos (slt2 y h)
       refine aaz.2 ⟨i,(mS.mem i).2 (.inl ((EO ok ho he hwv hi).2 z)),?_⟩
       rw[aae,hi];rfl
      ·subst z;right;simp
     ·exact .inr h
   constructor
   ·rintro⟨y,hy,e⟩;exact⟨y,(key y).1 hy,e⟩
   ·rintro⟨y,hy,e⟩;exact⟨y,(key y).2 hy,e⟩
  subst ems
  exact⟨lW.data (bO.of (s25 _ _ e24)) (bO.of e25) (ds:=ms.map L2.D.int) (L2.IsL.of_ints _) (L2.IsL.of_ints _) (by rw[jA];decide),k _⟩
end
end Tw
namespace Tw
open PySem L2
theorem gB {ar:Type}{p:List ar->Prop} (h:∀ a0,p [a0]):∀ us:List ar,us.length=1->p us
 | [a0],_=>h a0
theorem dN {ar:Type}{p:List ar->Prop} (h:∀ a0 a1,p [a0,a1]):∀ us:List ar,us.length=2->p us
 | [a0,a1],_=>h a0 a1
theorem dC {ar:Type}{p:List ar->Prop} (h:∀ a0 a1 a2,p [a0,a1,a2]):∀ us:List ar,us.length=3->p us
 | [a0,a1,a2],_=>h a0 a1 a2
theorem JL {ar:Type}{p:List ar->Prop} (h:∀ a0 a1 a2 a3,p [a0,a1,a2,a3]):∀ us:List ar,us.length=4->p us
 | [a0,a1,a2,a3],_=>h a0 a1 a2 a3
theorem JK {ar:Type}{p:List ar->Prop} (h:∀ a0 a1 a2 a3 a4,p [a0,a1,a2,a3,a4]):∀ us:List ar,us.length=5->p us
 | [a0,a1,a2,a3,a4],_=>h a0 a1 a2 a3 a4
theorem all_mk {l:PySem.W.OpenLaw}{w:World}{K:aaa}{h:Heap}{mg:Str->Option Value}{fa f0 f1 f2 f3 f4 f5 f6 f7 f8 f9 f10 f11 f12 f13 f14 f15 f16 f17 f18 f19 f20 f21 f22 f23 f24 f25 f26 f27 f28 f29 f30 f31 f32 f33 f34 f35 f36 f37 f38 f39 f40 C aw c_TipError c_NoNet c_NoVessel c_TooLong c_Nothing:Addr} (X:K.In h) (G:h.Ns mainGlobals mg) (hfa:mg "law" = some (.ref fa))
  {od0 an0 od1 an1 od2 an2 od3 an3 od4 an4 od5 an5 od6 an6 od7 an7 od8 an8 od9 an9 od10 an10 od11 an11 od12 an12 od13 an13 od14 an14 od15 an15 od16 an16 od17 an17 od18 an18 od19 an19 od20 an20 od21 an21 od22 an22 od23 an23 od24 an24 od25 an25 od26 an26 od27 an27 od28 an28 od29 an29 od30 an30 od31 an31 od32 an32 od33 an33 od34 an34 od35 an35 od36 an36 od37 an37 od38 an38 od39 an39 od40 an40:Option Addr}{sl0 sl1 sl2 sl3 sl4 sl5 sl6 sl7 sl8 sl9 sl10 sl11 sl12 sl13 sl14 sl15 sl16 sl17 sl18 sl19 sl20 sl21 sl22 sl23 sl24 sl25 sl26 sl27 sl28 sl29 sl30 sl31 sl32 sl33 sl34 sl35 sl36 sl37 sl38 sl39 sl40:Array (Option Value)}{oc0 kV0 dc0 pm0 cd0 ct0 oc1 kV1 dc1 pm1 cd1 ct1 oc2 kV2 dc2 pm2 cd2 ct2 oc3 kV3 dc3 pm3 cd3 ct3 oc4 kV4 dc4 pm4 cd4 ct4 oc5 kV5 dc5 pm5 cd5 ct5 oc6 kV6 dc6 pm6 cd6 ct6 oc7 kV7 dc7 pm7 cd7 ct7 oc8 kV8 dc8 pm8 cd8 ct8 oc9 kV9 dc9 pm9 cd9 ct9 oc10 kV10 dc10 pm10 cd10 ct10 oc11 kV11 dc11 pm11 cd11 ct11 oc12 kV12 dc12 pm12 cd12 ct12 oc13 kV13 dc13 pm13 cd13 ct13 oc14 kV14 dc14 pm14 cd14 ct14 oc15 kV15 dc15 pm15 cd15 ct15 oc16 kV16 dc16 pm16 cd16 ct16 oc17 kV17 dc17 pm17 cd17 ct17 oc18 kV18 dc18 pm18 cd18 ct18 oc19 kV19 dc19 pm19 cd19 ct19 oc20 kV20 dc20 pm20 cd20 ct20 oc21 kV21 dc21 pm21 cd21 ct21 oc22 kV22 dc22 pm22 cd22 ct22 oc23 kV23 dc23 pm23 cd23 ct23 oc24 kV24 dc24 pm24 cd24 ct24 oc25 kV25 dc25 pm25 cd25 ct25 oc26 kV26 dc26 pm26 cd26 ct26 oc27 kV27 dc27 pm27 cd27 ct27 oc28 kV28 dc28 pm28 cd28 ct28 oc29 kV29 dc29 pm29 cd29 ct29 oc30 kV30 dc30 pm30 cd30 ct30 oc31 kV31 dc31 pm31 cd31 ct31 oc32 kV32 dc32 pm32 cd32 ct32 oc33 kV33 dc33 pm33 cd33 ct33 oc34 kV34 dc34 pm34 cd34 ct34 oc35 kV35 dc35 pm35 cd35 ct35 oc36 kV36 dc36 pm36 cd36 ct36 oc37 kV37 dc37 pm37 cd37 ct37 oc38 kV38 dc38 pm38 cd38 ct38 oc39 kV39 dc39 pm39 cd39 ct39 oc40 kV40 dc40 pm40 cd40 ct40:Value}
  {tk0 tk1 tk2 tk3 tk4 tk5 tk6 tk7 tw1 tw2 tw3:Tok}{odw:Option Addr}{nw:Nat}{slw:Array (Option Value)}
  (aC:PySem.W.nsIn K mainGlobals "Run" = some (some (.ref C)))
  {tkT:Tok}
  (a0:PySem.W.nsIn K mainGlobals "_law_draw" = some (some (.ref f0)))
  (l0:K.lookup f0=some ⟨oc0,od0,.func (PySem.W.fnOf "_law_draw" "_law_draw" (aV (aQ 50)) (aT (aQ 50)) (aJ (aQ 50)) .none kV0 dc0 pm0 an0 cd0 ct0),sl0⟩)
  (c0:PySem.W.codeIn K cd0 "_law_draw" = true)
  (k0:PySem.W.keepIn K (.ref f0)=true)
  (a1:PySem.W.nsIn K mainGlobals "_law_outs" = some (some (.ref f1)))
  (l1:K.lookup f1=some ⟨oc1,od1,.func (PySem.W.fnOf "_law_outs" "_law_outs" (aV (aQ 51)) (aT (aQ 51)) (aJ (aQ 51)) .none kV1 dc1 pm1 an1 cd1 ct1),sl1⟩)
  (c1:PySem.W.codeIn K cd1 "_law_outs" = true)
  (k1:PySem.W.keepIn K (.ref f1)=true)
  (a2:PySem.W.nsIn K mainGlobals "_law_vessel" = some (some (.ref f2)))
  (l2:K.lookup f2=some ⟨oc2,od2,.func (PySem.W.fnOf "_law_vessel" "_law_vessel" (aV (aQ 52)) (aT (aQ 52)) (aJ (aQ 52)) .none kV2 dc2 pm2 an2 cd2 ct2),sl2⟩)
  (c2:PySem.W.codeIn K cd2 "_law_vessel" = true)
  (k2:PySem.W.keepIn K (.ref f2)=true)
  (a3:PySem.W.nsIn K mainGlobals "_law_net" = some (some (.ref f3)))
  (l3:K.lookup f3=some ⟨oc3,od3,.func (PySem.W.fnOf "_law_net" "_law_net" (aV (aQ 53)) (aT (aQ 53)) (aJ (aQ 53)) .none kV3 dc3 pm3 an3 cd3 ct3),sl3⟩)
  (c3:PySem.W.codeIn K cd3 "_law_net" = true)
  (k3:PySem.W.keepIn K (.ref f3)=true)
  (a4:PySem.W.nsIn K mainGlobals "_law_plain" = some (some (.ref f4)))
  (l4:K.lookup f4=some ⟨oc4,od4,.func (PySem.W.fnOf "_law_plain" "_law_plain" (aV (aQ 55)) (aT (aQ 55)) (aJ (aQ 55)) .none kV4 dc4 pm4 an4 cd4 ct4),sl4⟩)
  (c4:PySem.W.codeIn K cd4 "_law_plain" = true)
  (k4:PySem.W.keepIn K (.ref f4)=true)
  (a5:PySem.W.nsIn K mainGlobals "_law_order" = some (some (.ref f5)))
  (l5:K.lookup f5=some ⟨oc5,od5,.func (PySem.W.fnOf "_law_order" "_law_order" (aV (aQ 54)) (aT (aQ 54)) (aJ (aQ 54)) .none kV5 dc5 pm5 an5 cd5 ct5),sl5⟩)
  (c5:PySem.W.codeIn K cd5 "_law_order" = true)
  (k5:PySem.W.keepIn K (.ref f5)=true)
  (a6:PySem.W.nsIn K mainGlobals "_law_place" = some (some (.ref f6)))
  (l6:K.lookup f6=some ⟨oc6,od6,.func (PySem.W.fnOf "_law_place" "_law_place" (aV (aQ 56)) (aT (aQ 56)) (aJ (aQ 56)) .none kV6 dc6 pm6 an6 cd6 ct6),sl6⟩)
  (c6:PySem.W.codeIn K cd6 "_law_place" = true)
  (k6:PySem.W.keepIn K (.ref f6)=true)
  (a7:PySem.W.nsIn K mainGlobals "_law_renumbered" = some (some (.ref f7)))
  (l7:K.lookup f7=some ⟨oc7,od7,.func (PySem.W.fnOf "_law_renumbered" "_law_renumbered" (aV (aQ 57)) (aT (aQ 57)) (aJ (aQ 57)) .none kV7 dc7 pm7 an7 cd7 ct7),sl7⟩)
  (c7:PySem.W.codeIn K cd7 "_law_renumbered" = true)
  (k7:PySem.W.keepIn K (.ref f7)=true)
  (a8:PySem.W.nsIn K mainGlobals "first_state" = some (some (.ref f8)))
  (l8:K.lookup f8=some ⟨oc8,od8,.func (PySem.W.fnOf "first_state" "first_state" (aV (aQ 8)) (aT (aQ 8)) (aJ (aQ 8)) .none kV8 dc8 pm8 an8 cd8 ct8),sl8⟩)
  (c8:PySem.W.codeIn K cd8 "first_state" = true)
  (k8:PySem.W.keepIn K (.ref f8)=true)
  (a9:PySem.W.nsIn K mainGlobals "pouring" = some (some (.ref f9)))
  (l9:K.lookup f9=some ⟨oc9,od9,.func (PySem.W.fnOf "pouring" "pouring" (aV (aQ 9)) (aT (aQ 9)) (aJ (aQ 9)) .none kV9 dc9 pm9 an9 cd9 ct9),sl9⟩)
  (c9:PySem.W.codeIn K cd9 "pouring" = true)
  (k9:PySem.W.keepIn K (.ref f9)=true)
  (a10:PySem.W.nsIn K mainGlobals "filled" = some (some (.ref f10)))
  (l10:K.lookup f10=some ⟨oc10,od10,.func (PySem.W.fnOf "filled" "filled" (aV (aQ 12)) (aT (aQ 12)) (aJ (aQ 12)) .none kV10 dc10 pm10 an10 cd10 ct10),sl10⟩)
  (c10:PySem.W.codeIn K cd10 "filled" = true)
  (k10:PySem.W.keepIn K (.ref f10)=true)
  (a11:PySem.W.nsIn K mainGlobals "send" = some (some (.ref f11)))
  (l11:K.lookup f11=some ⟨oc11,od11,.func (PySem.W.fnOf "send" "send" (aV (aQ 15)) (aT (aQ 15)) (aJ (aQ 15)) .none kV11 dc11 pm11 an11 cd11 ct11),sl11⟩)
  (c11:PySem.W.codeIn K cd11 "send" = true)
  (k11:PySem.W.keepIn K (.ref f11)=true)
  (a12:PySem.W.nsIn K mainGlobals "share_out" = some (some (.ref f12)))
  (l12:K.lookup f12=some ⟨oc12,od12,.func (PySem.W.fnOf "share_out" "share_out" (aV (aQ 14)) (aT (aQ 14)) (aJ (aQ 14)) .none kV12 dc12 pm12 an12 cd12 ct12),sl12⟩)
  (c12:PySem.W.codeIn K cd12 "share_out" = true)
  (k12:PySem.W.keepIn K (.ref f12)=true)
  (a13:PySem.W.nsIn K mainGlobals "settle" = some (some (.ref f13)))
  (l13:K.lookup f13=some ⟨oc13,od13,.func (PySem.W.fnOf "settle" "settle" (aV (aQ 13)) (aT (aQ 13)) (aJ (aQ 13)) .none kV13 dc13 pm13 an13 cd13 ct13),sl13⟩)
  (c13:PySem.W.codeIn K cd13 "settle" = true)
  (k13:PySem.W.keepIn K (.ref f13)=true)
  (a14:PySem.W.nsIn K mainGlobals "doors_behind" = some (some (.ref f14)))
  (l14:K.lookup f14=some ⟨oc14,od14,.func (PySem.W.fnOf "doors_behind" "doors_behind" (aV (aQ 16)) (aT (aQ 16)) (aJ (aQ 16)) .none kV14 dc14 pm14 an14 cd14 ct14),sl14⟩)
  (c14:PySem.W.codeIn K cd14 "doors_behind" = true)
  (k14:PySem.W.keepIn K (.ref f14)=true)
  (a15:PySem.W.nsIn K mainGlobals "tick_behind" = some (some (.ref f15)))
  (l15:K.lookup f15=some ⟨oc15,od15,.func (PySem.W.fnOf "tick_behind" "tick_behind" (aV (aQ 10)) (aT (aQ 10)) (aJ (aQ 10)) .none kV15 dc15 pm15 an15 cd15 ct15),sl15⟩)
  (c15:PySem.W.codeIn K cd15 "tick_behind" = true)
  (k15:PySem.W.keepIn K (.ref f15)=true)
  (a16:PySem.W.nsIn K mainGlobals "go_round" = some (some (.ref f16)))
  (l16:K.lookup f16=some ⟨oc16,od16,.func (PySem.W.fnOf "go_round" "go_round" (aV (aQ 48)) (aT (aQ 48)) (aJ (aQ 48)) .none kV16 dc16 pm16 an16 cd16 ct16),sl16⟩)
  (c16:PySem.W.codeIn K cd16 "go_round" = true)
  (k16:PySem.W.keepIn K (.ref f16)=true)
  (a17:PySem.W.nsIn K mainGlobals "round_of" = some (some (.ref f17)))
  (l17:K.lookup f17=some ⟨oc17,od17,.func (PySem.W.fnOf "round_of" "round_of" (aV (aQ 47)) (aT (aQ 47)) (aJ (aQ 47)) .none kV17 dc17 pm17 an17 cd17 ct17),sl17⟩)
  (c17:PySem.W.codeIn K cd17 "round_of" = true)
  (k17:PySem.W.keepIn K (.ref f17)=true)
  (a18:PySem.W.nsIn K mainGlobals "_law_told" = some (some (.ref f18)))
  (l18:K.lookup f18=some ⟨oc18,od18,.func (PySem.W.fnOf "_law_told" "_law_told" (aV (aQ 58)) (aT (aQ 58)) (aJ (aQ 58)) .none kV18 dc18 pm18 an18 cd18 ct18),sl18⟩)
  (c18:PySem.W.codeIn K cd18 "_law_told" = true)
  (k18:PySem.W.keepIn K (.ref f18)=true)
  (a19:PySem.W.nsIn K mainGlobals "is_whole" = some (some (.ref f19)))
  (l19:K.lookup f19=some ⟨oc19,od19,.func (PySem.W.fnOf "is_whole" "is_whole" (aV (aQ 39)) (aT (aQ 39)) (aJ (aQ 39)) .none kV19 dc19 pm19 an19 cd19 ct19),sl19⟩)
  (c19:PySem.W.codeIn K cd19 "is_whole" = true)
  (k19:PySem.W.keepIn K (.ref f19)=true)
  (a20:PySem.W.nsIn K mainGlobals "need_vessel" = some (some (.ref f20)))
  (l20:K.lookup f20=some ⟨oc20,od20,.func (PySem.W.fnOf "need_vessel" "need_vessel" (aV (aQ 37)) (aT (aQ 37)) (aJ (aQ 37)) .none kV20 dc20 pm20 an20 cd20 ct20),sl20⟩)
  (c20:PySem.W.codeIn K cd20 "need_vessel" = true)
  (k20:PySem.W.keepIn K (.ref f20)=true)
  (a21:PySem.W.nsIn K mainGlobals "leads_to" = some (some (.ref f21)))
  (l21:K.lookup f21=some ⟨oc21,od21,.func (PySem.W.fnOf "leads_to" "leads_to" (aV (aQ 44)) (aT (aQ 44)) (aJ (aQ 44)) .none kV21 dc21 pm21 an21 cd21 ct21),sl21⟩)
  (c21:PySem.W.codeIn K cd21 "leads_to" = true)
  (k21:PySem.W.keepIn K (.ref f21)=true)
  (a22:PySem.W.nsIn K mainGlobals "matters" = some (some (.ref f22)))
  (l22:K.lookup f22=some ⟨oc22,od22,.func (PySem.W.fnOf "matters" "matters" (aV (aQ 43)) (aT (aQ 43)) (aJ (aQ 43)) .none kV22 dc22 pm22 an22 cd22 ct22),sl22⟩)
  (c22:PySem.W.codeIn K cd22 "matters" = true)
  (k22:PySem.W.keepIn K (.ref f22)=true)
  (a23:PySem.W.nsIn K mainGlobals "is_tuple" = some (some (.ref f23)))
  (l23:K.lookup f23=some ⟨oc23,od23,.func (PySem.W.fnOf "is_tuple" "is_tuple" (aV (aQ 38)) (aT (aQ 38)) (aJ (aQ 38)) .none kV23 dc23 pm23 an23 cd23 ct23),sl23⟩)
  (c23:PySem.W.codeIn K cd23 "is_tuple" = true)
  (k23:PySem.W.keepIn K (.ref f23)=true)
  (a24:PySem.W.nsIn K mainGlobals "is_out" = some (some (.ref f24)))
  (l24:K.lookup f24=some ⟨oc24,od24,.func (PySem.W.fnOf "is_out" "is_out" (aV (aQ 34)) (aT (aQ 34)) (aJ (aQ 34)) .none kV24 dc24 pm24 an24 cd24 ct24),sl24⟩)
  (c24:PySem.W.codeIn K cd24 "is_out" = true)
  (k24:PySem.W.keepIn K (.ref f24)=true)
  (a25:PySem.W.nsIn K mainGlobals "is_act" = some (some (.ref f25)))
  (l25:K.lookup f25=some ⟨oc25,od25,.func (PySem.W.fnOf "is_act" "is_act" (aV (aQ 35)) (aT (aQ 35)) (aJ (aQ 35)) .none kV25 dc25 pm25 an25 cd25 ct25),sl25⟩)
  (c25:PySem.W.codeIn K cd25 "is_act" = true)
  (k25:PySem.W.keepIn K (.ref f25)=true)
  (a26:PySem.W.nsIn K mainGlobals "is_vessel" = some (some (.ref f26)))
  (l26:K.lookup f26=some ⟨oc26,od26,.func (PySem.W.fnOf "is_vessel" "is_vessel" (aV (aQ 33)) (aT (aQ 33)) (aJ (aQ 33)) .none kV26 dc26 pm26 an26 cd26 ct26),sl26⟩)
  (c26:PySem.W.codeIn K cd26 "is_vessel" = true)
  (k26:PySem.W.keepIn K (.ref f26)=true)
  (a27:PySem.W.nsIn K mainGlobals "is_spout" = some (some (.ref f27)))
  (l27:K.lookup f27=some ⟨oc27,od27,.func (PySem.W.fnOf "is_spout" "is_spout" (aV (aQ 36)) (aT (aQ 36)) (aJ (aQ 36)) .none kV27 dc27 pm27 an27 cd27 ct27),sl27⟩)
  (c27:PySem.W.codeIn K cd27 "is_spout" = true)
  (k27:PySem.W.keepIn K (.ref f27)=true)
  (a28:PySem.W.nsIn K mainGlobals "is_net" = some (some (.ref f28)))
  (l28:K.lookup f28=some ⟨oc28,od28,.func (PySem.W.fnOf "is_net" "is_net" (aV (aQ 32)) (aT (aQ 32)) (aJ (aQ 32)) .none kV28 dc28 pm28 an28 cd28 ct28),sl28⟩)
  (c28:PySem.W.codeIn K cd28 "is_net" = true)
  (k28:PySem.W.keepIn K (.ref f28)=true)
  (a29:PySem.W.nsIn K mainGlobals "first_moment" = some (some (.ref f29)))
  (l29:K.lookup f29=some ⟨oc29,od29,.func (PySem.W.fnOf "first_moment" "first_moment" (aV (aQ 18)) (aT (aQ 18)) (aJ (aQ 18)) .none kV29 dc29 pm29 an29 cd29 ct29),sl29⟩)
  (c29:PySem.W.codeIn K cd29 "first_moment" = true)
  (k29:PySem.W.keepIn K (.ref f29)=true)
  (a30:PySem.W.findIn K (.ref C) "__init__" = some (some (.ref f30)))
  (i30:PySem.W.isFn K (.ref f30)=true)
  (l30:K.lookup f30=some ⟨oc30,od30,.func (PySem.W.fnOf "__init__" "Run.__init__" (aV (bD (aQ 41) 0)) (aT (bD (aQ 41) 0)) (aJ (bD (aQ 41) 0)) .none kV30 dc30 pm30 an30 cd30 ct30),sl30⟩)
  (c30:PySem.W.codeIn K cd30 "Run.__init__" = true)
  (k30:PySem.W.keepIn K (.ref f30)=true)
  (a31:PySem.W.nsIn K mainGlobals "moment_poured" = some (some (.ref f31)))
  (l31:K.lookup f31=some ⟨oc31,od31,.func (PySem.W.fnOf "moment_poured" "moment_poured" (aV (aQ 19)) (aT (aQ 19)) (aJ (aQ 19)) .none kV31 dc31 pm31 an31 cd31 ct31),sl31⟩)
  (c31:PySem.W.codeIn K cd31 "moment_poured" = true)
  (k31:PySem.W.keepIn K (.ref f31)=true)
  (a32:PySem.W.findIn K (.ref C) "pour" = some (some (.ref f32)))
  (i32:PySem.W.isFn K (.ref f32)=true)
  (l32:K.lookup f32=some ⟨oc32,od32,.func (PySem.W.fnOf "pour" "Run.pour" (aV (bD (aQ 41) 1)) (aT (bD (aQ 41) 1)) (aJ (bD (aQ 41) 1)) .none kV32 dc32 pm32 an32 cd32 ct32),sl32⟩)
  (c32:PySem.W.codeIn K cd32 "Run.pour" = true)
  (k32:PySem.W.keepIn K (.ref f32)=true)
  (a33:PySem.W.nsIn K mainGlobals "came_in" = some (some (.ref f33)))
  (l33:K.lookup f33=some ⟨oc33,od33,.func (PySem.W.fnOf "came_in" "came_in" (aV (aQ 11)) (aT (aQ 11)) (aJ (aQ 11)) .none kV33 dc33 pm33 an33 cd33 ct33),sl33⟩)
  (c33:PySem.W.codeIn K cd33 "came_in" = true)
  (k33:PySem.W.keepIn K (.ref f33)=true)
  (a34:PySem.W.nsIn K mainGlobals "moment_behind" = some (some (.ref f34)))
  (l34:K.lookup f34=some ⟨oc34,od34,.func (PySem.W.fnOf "moment_behind" "moment_behind" (aV (aQ 21)) (aT (aQ 21)) (aJ (aQ 21)) .none kV34 dc34 pm34 an34 cd34 ct34),sl34⟩)
  (c34:PySem.W.codeIn K cd34 "moment_behind" = true)
  (k34:PySem.W.keepIn K (.ref f34)=true)
  (a35:PySem.W.nsIn K mainGlobals "moment_gone" = some (some (.ref f35)))
  (l35:K.lookup f35=some ⟨oc35,od35,.func (PySem.W.fnOf "moment_gone" "moment_gone" (aV (aQ 20)) (aT (aQ 20)) (aJ (aQ 20)) .none kV35 dc35 pm35 an35 cd35 ct35),sl35⟩)
  (c35:PySem.W.codeIn K cd35 "moment_gone" = true)
  (k35:PySem.W.keepIn K (.ref f35)=true)
  (a36:PySem.W.findIn K (.ref C) "go" = some (some (.ref f36)))
  (i36:PySem.W.isFn K (.ref f36)=true)
  (l36:K.lookup f36=some ⟨oc36,od36,.func (PySem.W.fnOf "go" "Run.go" (aV (bD (aQ 41) 2)) (aT (bD (aQ 41) 2)) (aJ (bD (aQ 41) 2)) .none kV36 dc36 pm36 an36 cd36 ct36),sl36⟩)
  (c36:PySem.W.codeIn K cd36 "Run.go" = true)
  (k36:PySem.W.keepIn K (.ref f36)=true)
  (a37:PySem.W.findIn K (.ref C) "came" = some (some (.ref f37)))
  (i37:PySem.W.isFn K (.ref f37)=true)
  (l37:K.lookup f37=some ⟨oc37,od37,.func (PySem.W.fnOf "came" "Run.came" (aV (bD (aQ 41) 7)) (aT (bD (aQ 41) 7)) (aJ (bD (aQ 41) 7)) .none kV37 dc37 pm37 an37 cd37 ct37),sl37⟩)
  (c37:PySem.W.codeIn K cd37 "Run.came" = true)
  (k37:PySem.W.keepIn K (.ref f37)=true)
  (a38:PySem.W.findIn K (.ref C) "grounded" = some (some (.ref f38)))
  (i38:PySem.W.isFn K (.ref f38)=true)
  (l38:K.lookup f38=some ⟨oc38,od38,.func (PySem.W.fnOf "grounded" "Run.grounded" (aV (bD (aQ 41) 8)) (aT (bD (aQ 41) 8)) (aJ (bD (aQ 41) 8)) .none kV38 dc38 pm38 an38 cd38 ct38),sl38⟩)
  (c38:PySem.W.codeIn K cd38 "Run.grounded" = true)
  (k38:PySem.W.keepIn K (.ref f38)=true)
  (a39:PySem.W.findIn K (.ref C) "tips" = some (some (.ref f39)))
  (i39:PySem.W.isFn K (.ref f39)=true)
  (l39:K.lookup f39=some ⟨oc39,od39,.func (PySem.W.fnOf "tips" "Run.tips" (aV (bD (aQ 41) 6)) (aT (bD (aQ 41) 6)) (aJ (bD (aQ 41) 6)) .none kV39 dc39 pm39 an39 cd39 ct39),sl39⟩)
  (c39:PySem.W.codeIn K cd39 "Run.tips" = true)
  (k39:PySem.W.keepIn K (.ref f39)=true)
  (a40:PySem.W.nsIn K mainGlobals "law" = some (some (.ref f40)))
  (l40:K.lookup f40=some ⟨oc40,od40,.func (PySem.W.fnOf "law" "law" (aV (aQ 59)) (aT (aQ 59)) (aJ (aQ 59)) .none kV40 dc40 pm40 an40 cd40 ct40),sl40⟩)
  (c40:PySem.W.codeIn K cd40 "law" = true)
  (k40:PySem.W.keepIn K (.ref f40)=true)
  (pg:PySem.W.plainGet K C Str.empty=true)
  (hd:PySem.W.hasDictIn K C=true)
  (po:PySem.W.plainOver K C=true)
  (sa:PySem.W.findIn K (.ref C) "__setattr__" = some (some (.builtin "object.__setattr__")))
  (mk:PySem.W.makesIn K C=true)
  (kc:PySem.W.keepIn K (.ref C)=true)
  (n0:PySem.W.findIn K (.ref C) "net" = some none)
  (n1:PySem.W.findIn K (.ref C) "rows" = some none)
  (n2:PySem.W.findIn K (.ref C) "moments" = some none)
  (n3:PySem.W.findIn K (.ref C) "tip_ticks" = some none)
  (mc0:PySem.W.nsIn K mainGlobals "MOST_VESSELS" = some (some (.int 12 tk0)))
  (mc1:PySem.W.nsIn K mainGlobals "MOST_SPOUTS" = some (some (.int 12 tk1)))
  (mc2:PySem.W.nsIn K mainGlobals "MOST_SIZE" = some (some (.int 60 tk2)))
  (mc3:PySem.W.nsIn K mainGlobals "MOST_BRIM" = some (some (.int 200 tk3)))
  (mc4:PySem.W.nsIn K mainGlobals "MOST_OUTS" = some (some (.int 3 tk4)))
  (mc5:PySem.W.nsIn K mainGlobals "MOST_PARTS" = some (some (.int 60 tk5)))
  (mc6:PySem.W.nsIn K mainGlobals "MOST_ACTS" = some (some (.int 3 tk6)))
  (mc7:PySem.W.nsIn K mainGlobals "MOST_FLOW" = some (some (.int 60 tk7)))
  (mcw:PySem.W.nsIn K mainGlobals "ACT_WORDS" = some (some (.ref aw)))
  (mlw:K.lookup aw=some ⟨.type "tuple",odw,.seq #[.str "open" tw1,.str "shut" tw2,.str "turn" tw3] nw,slw⟩)
  (mcT:PySem.W.nsIn K mainGlobals "LAST_TICK" = some (some (.int 2000 tkT)))
  (xcTipError:PySem.W.nsIn K mainGlobals "TipError" = some (some (.ref c_TipError)))
  (xcNoNet:PySem.W.nsIn K mainGlobals "NoNet" = some (some (.ref c_NoNet)))
  (xcNoVessel:PySem.W.nsIn K mainGlobals "NoVessel" = some (some (.ref c_NoVessel)))
  (xcTooLong:PySem.W.nsIn K mainGlobals "TooLong" = some (some (.ref c_TooLong)))
  (xcNothing:PySem.W.nsIn K mainGlobals "Nothing" = some (some (.ref c_Nothing)))
  (z0:PySem.W.nsIn K mainGlobals "len" = some none)
  (z1:PySem.W.nsIn K mainGlobals "sum" = some none)
  (z2:PySem.W.nsIn K mainGlobals "all" = some none)
  (z3:PySem.W.nsIn K mainGlobals "max" = some none)
  (z4:PySem.W.nsIn K mainGlobals "min" = some none)
  (z5:PySem.W.nsIn K mainGlobals "int" = some none)
  (z6:PySem.W.nsIn K mainGlobals "tuple" = some none)
  (z7:PySem.W.nsIn K mainGlobals "list" = some none)
  (z8:PySem.W.nsIn K mainGlobals "bool" = some none)
  (z9:PySem.W.nsIn K mainGlobals "range" = some none)
  (z10:PySem.W.nsIn K mainGlobals "zip" = some none)
  (z11:PySem.W.nsIn K mainGlobals "enumerate" = some none)
  (z12:PySem.W.nsIn K mainGlobals "isinstance" = some none)
  (z13:PySem.W.nsIn K mainGlobals "divmod" = some none)
  (z14:PySem.W.nsIn K mainGlobals "set" = some none)
  (z15:PySem.W.nsIn K mainGlobals "sorted" = some none)
  (exV:PySem.W.excIn K c_NoVessel [.type "ValueError",.type "Exception",.type "BaseException",.type "object"] "ValueError.__new__" = true)
  (exL:PySem.W.excIn K c_TooLong [.type "ValueError",.type "Exception",.type "BaseException",.type "object"] "ValueError.__new__" = true)
  (hmLxh:PySem.W.exmOne K (.ref c_TooLong) (.ref c_TooLong)=some true) :
  ∃ fd:FuncData,(∀ (s:Shared) (v:Value),BindsTo s fd ⟨[v],[]⟩ [("script",v)])/\∀ base:Heap,K.In base->base.Ns mainGlobals mg->FnOk l.prog w K mg base gC 8 fa fd ["script"] (AD K):=by
 have e:=hfa.symm.trans (aak X G a40)
 cases e
 have T:Txt mg:=⟨abh X G z0,abh X G z1,abh X G z2,abh X G z3,abh X G z4,abh X G z5,abh X G z6,abh X G z7,abh X G z8,abh X G z9,abh X G z10,abh X G z11,abh X G z12,abh X G z13,abh X G z14,abh X G z15⟩
 have U:TxtN K mg aw:=⟨⟨_,aak X G mc0,_,rfl⟩,⟨_,aak X G mc1,_,rfl⟩,⟨_,aak X G mc2,_,rfl⟩,⟨_,aak X G mc3,_,rfl⟩,⟨_,aak X G mc4,_,rfl⟩,⟨_,aak X G mc5,_,rfl⟩,⟨_,aak X G mc6,_,rfl⟩,⟨_,aak X G mc7,_,rfl⟩,⟨_,aak X G mcw,rfl⟩,λ H=>.inr ⟨_,_,_,mlw,rfl,rfl,by show 3<=sizeLine;decide,.cons ⟨_,rfl⟩ (.cons ⟨_,rfl⟩ (.cons ⟨_,rfl⟩ .nil))⟩⟩
 have UT:TxtT mg:=⟨⟨_,aak X G mcT,_,rfl⟩⟩
 have XC_NoVessel:ExC K "NoVessel" c_NoVessel:=⟨xcNoVessel,exV⟩
 have XC_TooLong:ExC K "TooLong" c_TooLong:=⟨xcTooLong,exL⟩
 have hxL:=hmLxh
 have mE_TooLong:=aak X G xcTooLong
 have tx:RunTx K C:=⟨⟨pg,hd,po,sa⟩,n0,n1,n2,n3⟩
 have F0:=bH (st:=(aQ 50)) l0 c0 k0
 have F1:=bH (st:=(aQ 51)) l1 c1 k1
 have F2:=bH (st:=(aQ 52)) l2 c2 k2
 have F3:=bH (st:=(aQ 53)) l3 c3 k3
 have F4:=bH (st:=(aQ 55)) l4 c4 k4
 have F5:=bH (st:=(aQ 54)) l5 c5 k5
 have F6:=bH (st:=(aQ 56)) l6 c6 k6
 have F7:=bH (st:=(aQ 57)) l7 c7 k7
 have F8:=bH (st:=(aQ 8)) l8 c8 k8
 have F9:=bH (st:=(aQ 9)) l9 c9 k9
 have F10:=bH (st:=(aQ 12)) l10 c10 k10
 have F11:=bH (st:=(aQ 15)) l11 c11 k11
 have F12:=bH (st:=(aQ 14)) l12 c12 k12
 have F13:=bH (st:=(aQ 13)) l13 c13 k13
 have F14:=bH (st:=(aQ 16)) l14 c14 k14
 have F15:=bH (st:=(aQ 10)) l15 c15 k15
 have F16:=bH (st:=(aQ 48)) l16 c16 k16
 have F17:=bH (st:=(aQ 47)) l17 c17 k17
 have F18:=bH (st:=(aQ 58)) l18 c18 k18
 have F19:=bH (st:=(aQ 39)) l19 c19 k19
 have F20:=bH (st:=(aQ 37)) l20 c20 k20
 have F21:=bH (st:=(aQ 44)) l21 c21 k21
 have F22:=bH (st:=(aQ 43)) l22 c22 k22
 have F23:=bH (st:=(aQ 38)) l23 c23 k23
 have F24:=bH (st:=(aQ 34)) l24 c24 k24
 have F25:=bH (st:=(aQ 35)) l25 c25 k25
 have F26:=bH (st:=(aQ 33)) l26 c26 k26
 have F27:=bH (st:=(aQ 36)) l27 c27 k27
 have F28:=bH (st:=(aQ 32)) l28 c28 k28
 have F29:=bH (st:=(aQ 18)) l29 c29 k29
 have F30:=bH (st:=(bD (aQ 41) 0)) l30 c30 k30
 have F31:=bH (st:=(aQ 19)) l31 c31 k31
 have F32:=bH (st:=(bD (aQ 41) 1)) l32 c32 k32
 have F33:=bH (st:=(aQ 11)) l33 c33 k33
 have F34:=bH (st:=(aQ 21)) l34 c34 k34
 have F35:=bH (st:=(aQ 20)) l35 c35 k35
 have F36:=bH (st:=(bD (aQ 41) 2)) l36 c36 k36
 have F37:=bH (st:=(bD (aQ 41) 7)) l37 c37 k37
 have F38:=bH (st:=(bD (aQ 41) 8)) l38 c38 k38
 have F39:=bH (st:=(bD (aQ 41) 6)) l39 c39 k39
 have F40:=bH (st:=(aQ 59)) l40 c40 k40
 refine⟨PySem.W.fnOf "law" "law" (aV (aQ 59)) (aT (aQ 59)) (aJ (aQ 59)) .none kV40 dc40 pm40 an40 cd40 ct40,λ s v=>.of_eq rfl,λ base _ _=>?_⟩
 have C0:Callee l.prog w K mg base "_law_draw" ["tape","many"] 1 fX f0 _:=⟨vE F0 T,aak X G a0,k0,F0.binds (ps:=["tape","many"]) λ _ _ _ _ _ _=>dN λ _ _=>rfl⟩
 have C1:Callee l.prog w K mg base "_law_outs" ["tape","many","small"] 2 (yQ K) f1 _:=⟨vC F1 T C0,aak X G a1,k1,F1.binds (ps:=["tape","many","small"]) λ _ _ _ _ _ _=>dC λ _ _ _=>rfl⟩
 have C2:Callee l.prog w K mg base "_law_vessel" ["tape","number","many","spouts","small"] 3 (qB K) f2 _:=⟨r9 F2 T C0 C1,aak X G a2,k2,F2.binds (ps:=["tape","number","many","spouts","small"]) λ _ _ _ _ _ _=>JK λ _ _ _ _ _=>rfl⟩
 have C3:Callee l.prog w K mg base "_law_net" ["tape","most","small"] 4 (yR K) f3 _:=⟨vD F3 T C0 C2,aak X G a3,k3,F3.binds (ps:=["tape","most","small"]) λ _ _ _ _ _ _=>dC λ _ _ _=>rfl⟩
 have C4:Callee l.prog w K mg base "_law_plain" ["net"] 1 (uB K) f4 _:=⟨sI F4 T,aak X G a4,k4,F4.binds (ps:=["net"]) λ _ _ _ _ _ _=>gB λ _=>rfl⟩
 have C5:Callee l.prog w K mg base "_law_order" ["tape","many"] 2 (uD K) f5 _:=⟨sK F5 T C0,aak X G a5,k5,F5.binds (ps:=["tape","many"]) λ _ _ _ _ _ _=>dN λ _ _=>rfl⟩
 have C6:Callee l.prog w K mg base "_law_place" ["order","target"] 1 (uC K) f6 _:=⟨sJ F6 T,aak X G a6,k6,F6.binds (ps:=["order","target"]) λ _ _ _ _ _ _=>dN λ _ _=>rfl⟩
 have C7:Callee l.prog w K mg base "_law_renumbered" ["net","order","doors"] 2 (uA K) f7 _:=⟨lN F7 T C6,aak X G a7,k7,F7.binds (ps:=["net","order","doors"]) λ _ _ _ _ _ _=>dC λ _ _ _=>rfl⟩
 have C8:Callee l.prog w K mg base "first_state" ["net"] 1 (pD K) f8 _:=⟨r8 F8 T,aak X G a8,k8,F8.binds (ps:=["net"]) λ _ _ _ _ _ _=>gB λ _=>rfl⟩
 have C9:Callee l.prog w K mg base "pouring" ["net","amount"] 1 (iH K) f9 _:=⟨zI F9 T,aak X G a9,k9,F9.binds (ps:=["net","amount"]) λ _ _ _ _ _ _=>dN λ _ _=>rfl⟩
 have C10:Callee l.prog w K mg base "filled" ["spouts","state","poured"] 1 (qF K) f10 _:=⟨D0 F10 T,aak X G a10,k10,F10.binds (ps:=["spouts","state","poured"]) λ _ _ _ _ _ _=>dC λ _ _ _=>rfl⟩
 have C11:Callee l.prog w K mg base "send" ["sent","target","amount"] 1 u9 f11 _:=⟨IZ F11 T,aak X G a11,k11,F11.binds (ps:=["sent","target","amount"]) λ _ _ _ _ _ _=>dC λ _ _ _=>rfl⟩
 have C12:Callee l.prog w K mg base "share_out" ["outs","has","sent"] 2 (u8 K) f12 _:=⟨uX F12 T C11,aak X G a12,k12,F12.binds (ps:=["outs","has","sent"]) λ _ _ _ _ _ _=>dC λ _ _ _=>rfl⟩
 have C13:Callee l.prog w K mg base "settle" ["vessel","has","sent"] 3 (qC K) f13 _:=⟨CV F13 T C11 C12,aak X G a13,k13,F13.binds (ps:=["vessel","has","sent"]) λ _ _ _ _ _ _=>dC λ _ _ _=>rfl⟩
 have C14:Callee l.prog w K mg base "doors_behind" ["vessels","doors","tipped"] 1 (uL K) f14 _:=⟨p8 F14 T,aak X G a14,k14,F14.binds (ps:=["vessels","doors","tipped"]) λ _ _ _ _ _ _=>dC λ _ _ _=>rfl⟩
 have C15:Callee l.prog w K mg base "tick_behind" ["net","state","poured"] 4 (u7 K) f15 _:=⟨qY F15 T C10 C13 C14,aak X G a15,k15,F15.binds (ps:=["net","state","poured"]) λ _ _ _ _ _ _=>dC λ _ _ _=>rfl⟩
 have C16:CalleeR l.prog w K mg base "go_round" ["net"] 5 (EG K c_TooLong) f16 _:=⟨vB F16 T UT XC_TooLong C8 C9 C15,aak X G a16,k16,F16.binds (ps:=["net"]) λ _ _ _ _ _ _=>gB λ _=>rfl⟩
 have C17:CalleeR l.prog w K mg base "round_of" ["net"] 6 (qD K c_TooLong) f17 _:=⟨uY F17 T C16,aak X G a17,k17,F17.binds (ps:=["net"]) λ _ _ _ _ _ _=>gB λ _=>rfl⟩
 have C18:Callee l.prog w K mg base "_law_told" ["net"] 7 (u5 K) f18 _:=⟨rA F18 T mE_TooLong hxL C17,aak X G a18,k18,F18.binds (ps:=["net"]) λ _ _ _ _ _ _=>gB λ _=>rfl⟩
 have CB19:Callee l.prog w K mg base "is_whole" ["thing","least","most"] 1 qA f19 _:=⟨uZ F19 T,aak X G a19,k19,F19.binds (ps:=["thing","least","most"]) λ _ _ _ _ _ _=>dC λ _ _ _=>rfl⟩
 have C19:Callee l.prog w K mg base "is_whole" ["thing","least","most"] 1 iX f19 _:=⟨xB F19 T,aak X G a19,k19,F19.binds (ps:=["thing","least","most"]) λ _ _ _ _ _ _=>dC λ _ _ _=>rfl⟩
 have CB20:CalleeR l.prog w K mg base "need_vessel" ["net","number"] 2 (uE K c_NoVessel) f20 _:=⟨p6 F20 T XC_NoVessel CB19,aak X G a20,k20,F20.binds (ps:=["net","number"]) λ _ _ _ _ _ _=>dN λ _ _=>rfl⟩
 have C20:Callee l.prog w K mg base "need_vessel" ["net","number"] 2 (uF K) f20 _:=⟨qZ F20 T C19,aak X G a20,k20,F20.binds (ps:=["net","number"]) λ _ _ _ _ _ _=>dN λ _ _=>rfl⟩
 have C21:Callee l.prog w K mg base "leads_to" ["vessel","spouts"] 1 (uH K) f21 _:=⟨xA F21 T,aak X G a21,k21,F21.binds (ps:=["vessel","spouts"]) λ _ _ _ _ _ _=>dN λ _ _=>rfl⟩
 have C22:CalleeR l.prog w K mg base "matters" ["net","watched"] 3 (nL K c_NoVessel) f22 _:=⟨x9 F22 T CB20 C21,aak X G a22,k22,F22.binds (ps:=["net","watched"]) λ _ _ _ _ _ _=>dN λ _ _=>rfl⟩
 have C23:Callee l.prog w K mg base "is_tuple" ["thing","least","most"] 1 (lH K) f23 _:=⟨xC F23 T,aak X G a23,k23,F23.binds (ps:=["thing","least","most"]) λ _ _ _ _ _ _=>dC λ _ _ _=>rfl⟩
 have C24:Callee l.prog w K mg base "is_out" ["thing","vessel_count"] 2 (uI K) f24 _:=⟨CW F24 T U C23 C19,aak X G a24,k24,F24.binds (ps:=["thing","vessel_count"]) λ _ _ _ _ _ _=>dN λ _ _=>rfl⟩
 have C25:Callee l.prog w K mg base "is_act" ["thing","spout_count"] 2 (uK K) f25 _:=⟨CZ F25 T U C23 C19,aak X G a25,k25,F25.binds (ps:=["thing","spout_count"]) λ _ _ _ _ _ _=>dN λ _ _=>rfl⟩
 have C26:Callee l.prog w K mg base "is_vessel" ["thing","number","vessel_count","spout_count"] 3 (lJ K) f26 _:=⟨vA F26 T U C23 C19 C24 C25,aak X G a26,k26,F26.binds (ps:=["thing","number","vessel_count","spout_count"]) λ _ _ _ _ _ _=>JL λ _ _ _ _=>rfl⟩
 have C27:Callee l.prog w K mg base "is_spout" ["thing","vessel_count"] 2 (nN K) f27 _:=⟨xD F27 T U C23 C19,aak X G a27,k27,F27.binds (ps:=["thing","vessel_count"]) λ _ _ _ _ _ _=>dN λ _ _=>rfl⟩
 have C28:Callee l.prog w K mg base "is_net" ["thing"] 4 (uJ K) f28 _:=⟨CY F28 T U C23 C26 C27,aak X G a28,k28,F28.binds (ps:=["thing"]) λ _ _ _ _ _ _=>gB λ _=>rfl⟩
 have C29:Callee l.prog w K mg base "first_moment" ["net"] 2 (lK K) f29 _:=⟨p7 F29 T C8 C9,aak X G a29,k29,F29.binds (ps:=["net"]) λ _ _ _ _ _ _=>gB λ _=>rfl⟩
 have C30:MkCal l.prog w K mg base C "Run" ["self","net"] 5 (yS K C) f30 _:=⟨⟨mk,a30,i30,kc⟩,J1 F30 T tx C28 C29,aak X G aC,F30.binds (ps:=["self","net"]) λ _ _ _ _ _ _=>dN λ _ _=>rfl⟩
 have C31:Callee l.prog w K mg base "moment_poured" ["moment","vessel","amount"] 1 (nJ K) f31 _:=⟨nW F31 T,aak X G a31,k31,F31.binds (ps:=["moment","vessel","amount"]) λ _ _ _ _ _ _=>dC λ _ _ _=>rfl⟩
 have C32:MCal l.prog w K mg base C "pour" ["self","vessel","amount"] 3 (yP K C) f32 _:=⟨tx.cls,⟨a32,i32,k32⟩,J0 F32 T tx C20 C31,F32.binds (ps:=["self","vessel","amount"]) λ _ _ _ _ _ _=>dC λ _ _ _=>rfl⟩
 have C33:Callee l.prog w K mg base "came_in" ["net","state","poured"] 1 (qG K) f33 _:=⟨zJ F33 T,aak X G a33,k33,F33.binds (ps:=["net","state","poured"]) λ _ _ _ _ _ _=>dC λ _ _ _=>rfl⟩
 have C34:Callee l.prog w K mg base "moment_behind" ["net","moment"] 5 (qE K) f34 _:=⟨nX F34 T C15 C33 C9,aak X G a34,k34,F34.binds (ps:=["net","moment"]) λ _ _ _ _ _ _=>dN λ _ _=>rfl⟩
 have C35:Callee l.prog w K mg base "moment_gone" ["net","moment","many"] 6 (uG K) f35 _:=⟨r6 F35 T C34,aak X G a35,k35,F35.binds (ps:=["net","moment","many"]) λ _ _ _ _ _ _=>dC λ _ _ _=>rfl⟩
 have C36:MCal l.prog w K mg base C "go" ["self","many"] 7 (HY K C) f36 _:=⟨tx.cls,⟨a36,i36,k36⟩,N8 F36 T tx C35,F36.binds (ps:=["self","many"]) λ _ _ _ _ _ _=>dN λ _ _=>rfl⟩
 have C37:MCal l.prog w K mg base C "came" ["self"] 1 (lI K C λ S v H=>v=.int S.cur.came) f37 _:=⟨tx.cls,⟨a37,i37,k37⟩,J2 F37 T tx,F37.binds (ps:=["self"]) λ _ _ _ _ _ _=>gB λ _=>rfl⟩
 have C38:MCal l.prog w K mg base C "grounded" ["self"] 1 (lI K C λ S v H=>v=.int S.cur.ground) f38 _:=⟨tx.cls,⟨a38,i38,k38⟩,xE F38 T tx,F38.binds (ps:=["self"]) λ _ _ _ _ _ _=>gB λ _=>rfl⟩
 have C39:MCal l.prog w K mg base C "tips" ["self","vessel"] 3 (u6 K C) f39 _:=⟨tx.cls,⟨a39,i39,k39⟩,IY F39 T tx C20,F39.binds (ps:=["self","vessel"]) λ _ _ _ _ _ _=>dN λ _ _=>rfl⟩
 exact LE F40 T C0 C3 C4 C5 C7 C18 C22 C30 C32 C36 C37 C38 C39
theorem walk {l:PySem.W.OpenLaw}{q:Program}{loose:List Str}{XP:(Str->Option Value)->Heap->Prop}{YP:World->Heap->Prop}{d:DefRec}{K:Params->aaa} (hn:l.most=some 63) (hdf:d.params.defaults=[])
  (hY:∀ (w:World) (h:Heap),YP w h->(K w.params).In h)
  (F:∀ (w:World) (mg:Str->Option Value) (fa:Addr) (h:Heap),(K w.params).In h->h.Ns mainGlobals mg->mg d.name=some (.ref fa)->
   ∃ fd:FuncData,(∀ (s:Shared) (u:Value),BindsTo s fd ⟨[u],[]⟩ [("script",u)])/\∀ base:Heap,(K w.params).In base->base.Ns mainGlobals mg->FnOk l.prog w (K w.params) mg base gC 8 fa fd ["script"] (AD (K w.params))) :
  PySem.W.WalkO q loose XP YP l.row.toRowW d [] (λ f vs=>PySem.call f vs):=
 L2.walk_of (n:=63) (k:=8) (x := "script") (CX:=λ _=>gC) (sp:=λ w=>AD (K w.params)) hn (by decide) hdf ⟨rfl,by decide,by decide⟩ hY F (λ _ _ a ns hl _ hS=>⟨a,ns,rfl,hS,hl,λ _=>rfl⟩) λ _ _ _ _ _ z=>z
end Tw
noncomputable def PySem.W.Fast.tw2034895698335233417:Nat:=0
theorem PySem.W.Fast.te2034895698335233417:PySem.W.Fast.tw2034895698335233417=PySem.W.Fast.tw2034895698335233417:=rfl
noncomputable def PySem.W.Fast.tw2241224571441765725:PySem.Program:=PySem.Challenge.pw_tipwell_k35_whole_vessels_renumbered
theorem PySem.W.Fast.te2241224571441765725:PySem.Challenge.pw_tipwell_k35_whole_vessels_renumbered=PySem.W.Fast.tw2241224571441765725:=rfl
namespace PySem.W.Fast
def tw3406770222791685812:=0
def tw10241454555534549336:=0
def tw13287467399143594306:=0
def tw1280507210528012641:=0
def tw5522344143682480369:=0
def tw14480484351882325100:=0
def tw4039169306093052660:=0
def tw2692727712120197812:=0
def tw8061845564054261488:=0
def tw3435640589609367141:=0
def tw3128896629914943396:=0
def tw5191508949773965691:=0
def tw13088342756451072583:=0
def tw1083170375523115563:=0
def tw5895729863415153606:=0
def tw12589329307419195207:=0
def tw8041795748995100954:=0
def tw2429521718965902338:=0
def tw8729040246221677530:=0
def tw12414442605145330880:=0
def tw3526684966894611130:=0
def tw6492176187612868868:=0
def tw9856776571694106807:=0
def tw13051570180991348765:=0
def tw16634658040564473659:=0
def tw3270021305110872321:=0
def tw2071141996249489631:=0
def tw6172867942452627183:=0
def tw4102130718206447066:=0
def tw3352545914759406938:=0
def tw11605392019105797123:=0
def tw16667919095254118548:=0
def tw2042475323877701697:=0
def tw13258449278667855494:=0
def tw3129915331055983776:=0
def tw3065116099682773457:=0
def tw15858591337949567786:=0
def tw3229413176187525046:=0
def tw1704236180304478534:=0
def tw13798591581276116810:=0
def tw12854838871868157919:=0
def tw2847763377571850055:=0
def tw428554923800644772:=0
def tw9094595500585216323:=0
def tw8684816733753541096:=0
def tw6029025340077967586:=0
def tw1950351218867381617:=0
def tw6126488695424461717:=0
def tw9023830846097171456:=0
def tw6338415664182509957:=0
def tw8930559497033331733:=0
def tw15256394456544851766:=0
def tw9187416741797888337:=0
def tw3019850591918478173:=0
def tw16799691733364009992:=0
def tw4830135706900621667:=0
def tw7819030288942766080:=0
def tw4744782121366963881:=0
def tw18428729579413086349:=0
def tw15383494844554575785:=0
def tw3203685219088955233:=0
def tw6057677945687025812:=0
def tw9858310836661639796:=0
def tw2305837477006808764:=0
def tw10549429647198754153:=0
def tw578516188240819058:=0
def tw2755536863004004945:=0
def tw99488705279518418:=0
def tw15065916490574938809:=0
def tw8488845935154011918:=0
def tw3887913271329134160:=0
def tw10159961626998031028:=0
def tw13138932615789556118:=0
def tw9051519477325091852:=0
def tw6001289923603869961:=0
def tw17371431400416917069:=0
def tw7482493672253903912:=0
def tw10904242549235384482:=0
def tw6287290120098414313:=0
def tw6516131874807204348:=0
def tw7336076857801999153:=0
def tw8824025477233769693:=0
def tw13445602813666059173:=0
def tw7420314781695349613:=0
def tw17101201847765352543:=0
def tw15827983276048898565:=0
def tw18265146777379053346:=0
def tw13152932044508884960:=0
def tw12758845215953128269:=0
def tw12534844535402435591:=0
def tw12813045155931734358:=0
def tw336872083223690777:=0
def tw11237641808296105699:=0
def tw5694536539744987381:=0
def tw16912768960887704595:=0
def tw11130477981871909187:=0
def tw2651621475578731710:=0
def tw1799049604960206487:=0
def tw3235987432303103724:=0
def tw14745458400106155793:=0
def tw18421692976425563961:=0
def tw6015950681255171400:=0
def tw5042005803836101564:=0
def tw10237671784743821399:=0
def tw16234670219254767615:=0
def tw5018227187925309701:=0
end PySem.W.Fast
open PySem PySem.W PyProof.Rows
set_option maxRecDepth 100000 in
set_option maxHeartbeats 0 in
theorem PySem.Challenge.cw_tipwell_k35_whole_vessels_renumbered_holds : PySem.Challenge.rw_tipwell_k35_whole_vessels_renumbered.Holds := by
 w_on;o_law;k_head;(case hw=>w_witness2)
 k_fill
 refine Tw.walk (l:=PySem.Challenge.rw_tipwell_k35_whole_vessels_renumbered) rfl rfl (λ w h Y=>by first | exact PySem.W.kIn_of Y | exact PySem.W.km_in_of Y) ?F
 case F=>
  intro w mg fa h KX G hmg
  refine' Tw.all_mk KX G hmg ?_ ?_ ?_ ?_ ?_ ?_ ?_ ?_ ?_ ?_ ?_ ?_ ?_ ?_ ?_ ?_ ?_ ?_ ?_ ?_ ?_ ?_ ?_ ?_ ?_ ?_ ?_ ?_ ?_ ?_ ?_ ?_ ?_ ?_ ?_ ?_ ?_ ?_ ?_ ?_ ?_ ?_ ?_ ?_ ?_ ?_ ?_ ?_ ?_ ?_ ?_ ?_ ?_ ?_ ?_ ?_ ?_ ?_ ?_ ?_ ?_ ?_ ?_ ?_ ?_ ?_ ?_ ?_ ?_ ?_ ?_ ?_ ?_ ?_ ?_ ?_ ?_ ?_ ?_ ?_ ?_ ?_ ?_ ?_ ?_ ?_ ?_ ?_ ?_ ?_ ?_ ?_ ?_ ?_ ?_ ?_ ?_ ?_ ?_ ?_ ?_ ?_ ?_ ?_ ?_ ?_ ?_ ?_ ?_ ?_ ?_ ?_ ?_ ?_ ?_ ?_ ?_ ?_ ?_ ?_ ?_ ?_ ?_ ?_ ?_ ?_ ?_ ?_ ?_ ?_ ?_ ?_ ?_ ?_ ?_ ?_ ?_ ?_ ?_ ?_ ?_ ?_ ?_ ?_ ?_ ?_ ?_ ?_ ?_ ?_ ?_ ?_ ?_ ?_ ?_ ?_ ?_ ?_ ?_ ?_ ?_ ?_ ?_ ?_ ?_ ?_ ?_ ?_ ?_ ?_ ?_ ?_ ?_ ?_ ?_ ?_ ?_ ?_ ?_ ?_ ?_ ?_ ?_ ?_ ?_ ?_ ?_ ?_ ?_ ?_ ?_ ?_ ?_ ?_ ?_ ?_ ?_ ?_ ?_ ?_ ?_ ?_ ?_ ?_ ?_ ?_ ?_ ?_ ?_ ?_ ?_ ?_ ?_ ?exV ?exL ?hmLxh
  all_goals try k_is
  (case exV=>k_exc)
  (case exL=>k_exc)
  (case hmLxh=>kts_exm)
#print axioms PySem.Challenge.cw_tipwell_k35_whole_vessels_renumbered_holds