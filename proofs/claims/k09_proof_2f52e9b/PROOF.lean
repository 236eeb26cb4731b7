import PyProof.Rows.All
import Wide.All
import OpenK.AllK
import Wide.FinOn
import PyProof.EqAt
import PyProof.EqKinds
import PyProof.TupleCall
import PyProof.StrLoop
import PyProof.StrWalks
import PyProof.CompFree
import PyProof.NeKinds
import PyProof.Rows.RuleN_isinstance
import PyProof.ConsumeWalk
import PyProof.IsiPairs
import PyProof.IsiSeqPairs
import PyProof.IsiHeapPairs
import PyProof.IsiNone
import PyProof.PureStr
import PyProof.StrCalls
import PyProof.Rows.SortStr
import PyProof.Rows.StrJoin2
import PyProof.CallStr
import PyProof.WalkInts
import PyProof.Rows.StrDigits
import PyProof.DictWalks
import PyProof.DictTruth
import PyProof.CollectWalk
import PyProof.WalkLemmas
import PyProof.Rows.SortShellK
import PyProof.Rows.SortWalk
import PyProof.SetKind
import PyProof.FactsAll.set
import PyProof.Rows.SetFrom
import PyProof.TupleKey
import PyProof.IsRules
import PyProof.WalksMore
import PyProof.SetRoads
import PyProof.DictCompW
import PyProof.ListRange
import PyProof.FString5
import PyProof.MeetsSeq2
import PyProof.FactsAll.tuple_0
import PyProof.FactsAll.tuple_2
import PyProof.FactsAll.tuple_3
import PyProof.EnumFor
import PyProof.EnumMake
import PyProof.EnumStmt
import PyProof.Rows.EnumRows
import PyProof.SumWalk
import PyProof.Rows.SeqCalls
import KE.KRevSl
import PyProof.ZipIter
import PyProof.TupleIter
import PyProof.AttrMiss
import KE.KDictOf
import KE.KDictLaws
import PyProof.TupleOfStr
import PyProof.StrCalls2
import PyProof.Rows.StrNews2
import PyProof.Rows.StrItems
import PyProof.Rows.StrSplitAre
import PyProof.Rows.StrGen4
import PyProof.Rows.RegStrFacts
import PyProof.Rows.FStr
import PyProof.SetNew
import PyProof.Rows.SetObj
import PyProof.StrLawsTight
import PyProof.Rows.StrPartPair
import PyProof.Rows.CatFin
import PyProof.Rows.StrClose
import Lean
import PySem.Challenge.RW_onefolk_k09_what_grounds_are
set_option maxRecDepth 100000
set_option maxHeartbeats 4000000
set_option linter.all false
set_option Elab.async false
section
open PySem PySem.Spec PyProof.Rows
abbrev LS_:=List PySem.Str
abbrev VP_:=PySem.Value->PySem.Shared->Prop
abbrev FG_:=PySem.W.Frag
abbrev LI_:=List Int
abbrev zb:=@Nat.le_of_ble_eq_true
abbrev zd:=@wpAny_bind
abbrev ze:=@wpAny_pure
abbrev zg:=@Heap.get?_push_of_some
abbrev zh:=@List.length_map
abbrev zi:=@Nat.le_refl
abbrev zk:=@Bool.false_eq_true
abbrev zl:=@List.mem_cons_of_mem
abbrev zo:=@if_pos
abbrev zr:=@List.size_toArray
abbrev zt:=@List.mem_cons_self
abbrev zv:=@Bool.and_eq_true
abbrev zw:=@Nat.le_trans
abbrev zz:=@List.map_cons
abbrev zC:=@Heap.get?_push_size
abbrev zD:=@Heap.lt_size
abbrev zI:=@if_neg
abbrev zS:=@decide_eq_true_eq
abbrev Zl:=@Nat.ne_of_lt
abbrev Zp:=@List.length_append
abbrev Zs:=@List.getElem?_eq_getElem
abbrev ZA:=@PySem.W.mg_of
abbrev ZE:=@Array.length_toList
abbrev ZH:=@if_false
abbrev ZI:=@Bool.false_ne_true
abbrev ZN:=@Nat.lt_of_lt_of_le
abbrev ZO:=@List.map_congr_left
abbrev ZT:=@List.getElem?_map
abbrev ZU:=@Array.getElem?_eq_getElem
abbrev ZY:=@List.mem_cons
abbrev ZZ:=@wpAny_newObj_type
abbrev Z3:=@List.not_mem_nil
abbrev qa:=@List.mem_append_right
abbrev qc:=@PySem.W.mg_none_of
abbrev qf:=@List.getElem?_append_left
abbrev qh:=@List.map_map
abbrev qi:=@List.length_cons
abbrev qk:=@Heap.size_push
abbrev qo:=@Array.getElem?_toList
abbrev qq:=@decide_eq_false
abbrev qr:=@List.getElem?_eq_none
abbrev qv:=@List.map_append
abbrev qA:=@Nat.lt_succ_self
abbrev qB:=@if_true
abbrev qE:=@wpAny_setState_of
abbrev qS:=@Nat.lt_succ_of_lt
abbrev qV:=@List.getElem?_cons_succ
abbrev Qb:=@wpAny_mono
abbrev Qr:=@List.getElem?_append_right
abbrev QA:=@wpAny_truthy_bool
abbrev QE:=@of_decide_eq_true
abbrev QI:=@wpAny_holding
abbrev QN:=@wpAny_typeOf
abbrev QO:=@Nat.zero_le
abbrev QP:=@List.mem_of_getElem?
abbrev QQ:=@List.rel_of_pairwise_cons
abbrev QR:=@wpAny_call_entry
abbrev QU:=@List.all_eq_true
abbrev QY:=@Nat.lt_irrefl
abbrev Q1:=@decide_eq_true
abbrev Q2:=@Nat.add_le_add_right
abbrev Q3:=@Bool.not_eq_true'
abbrev Q4:=@decide_eq_false_iff_not
abbrev ja:=@List.getElem?_replicate
abbrev jb:=@List.getElem_of_mem
abbrev jn:=@Nat.le_of_lt
abbrev js:=@Bool.not_true
abbrev jv:=@Bool.and_false
abbrev jI:=@codeAny_builtin
abbrev jS:=@Option.some.inj
abbrev j0:=@List.cons.injEq
abbrev j3:=@List.any_cons
abbrev Jn:=@List.all_cons
abbrev JA:=@PySem.mem_of_lookup
abbrev JE:=@List.map_nil
abbrev JI:=@Nat.not_lt_zero
abbrev JJ:=@List.mem_append
abbrev JO:=@List.length_set
abbrev JP:=@List.find?_cons
abbrev JS:=@Bool.and_true
abbrev JU:=@List.lookup_cons_self
abbrev JY:=@List.append_assoc
abbrev ka:=@Int.le_refl
abbrev kb:=@Bool.false_and
abbrev kc:=@decide_false
abbrev ke:=@Nat.le_of_eq
abbrev kf:=@List.length_take
abbrev kg:=@List.length_drop
abbrev ki:=@Or.inr
abbrev kl:=@List.filterMap_cons
abbrev km:=@Heap.get?_update_ne
abbrev kn:=@Heap.SameBut.update
abbrev ko:=@Bool.true_and
abbrev kq:=@wpAny_rule
abbrev kr:=@Nat.le_succ
abbrev ku:=@wpAny_getItem_str_slice
abbrev ky:=@wpAny_callSpecial?_slot
abbrev kz:=@List.nodup_nil
abbrev kA:=@List.length_range
abbrev kB:=@Array.size_append
abbrev kC:=@Array.getElem?_eq_none
abbrev kD:=@Heap.get?_update_self
abbrev kF:=@wpAny_isInstance
abbrev kK:=@decide_true
abbrev kL:=@Bool.or_eq_false_iff
abbrev kM:=@wpAny_passesOwn
abbrev kP:=@List.append_nil
abbrev kQ:=@Bool.eq_iff_iff
abbrev kR:=@Nat.zero_add
abbrev kT:=@Or.inl
abbrev kU:=@List.mem_range
abbrev kX:=@List.Perm.refl
abbrev Kb:=@Bool.not_false
abbrev Ki:=@wpAny_Call_Name_kw
abbrev Kj:=@Obj.data_mapFields
abbrev Kk:=@Nat.lt_of_le_of_lt
abbrev Kn:=@List.zip_cons_cons
abbrev Kt:=@wpAny_field
abbrev Kx:=@wpAny_storeSet_of
abbrev KA:=@wpAny_pyIter_list
abbrev KB:=@List.reverse_cons
abbrev KF:=@List.nodup_append
abbrev KG:=@List.getElem?_set
abbrev KI:=@Int.toNat_natCast
abbrev KL:=@Bool.false_or
abbrev KM:=@PySem.F.args_tuple_add_2
abbrev KO:=@wpAny_forIn_list
abbrev KP:=@List.filter_cons
abbrev KS:=@PySem.F.entry_tuple_add
abbrev KU:=@List.pairwise_mergeSort
abbrev KW:=@F.plain_set_update_loop
end
section
namespace L2
open PySem PySem.Spec PyProof.Rows
abbrev Key:=Sum Int Str
def oU:Key->Value->Bool
 |.inl k,v=>Value.isInt k v
 |.inr x,v=>Value.isStrOf x v
def akG (w:World):Key->Int
 |.inl k=>hashInt k
 |.inr x=>hashStr w x
theorem bN:∀ {k:Key} {v:Value},oU k v=true->(∃ i t,k=Sum.inl i/\v=Value.int i t)\/(∃ x t,k=Sum.inr x/\v=Value.str x t)
 |.inl i,v,h=>by
  obtain⟨t,e⟩:=Value.isInt_shape (k:=i) (v:=v) h
  exact .inl ⟨i,t,rfl,e⟩
 |.inr x,v,h=>by
  obtain⟨t,e⟩:=Value.isStrOf_shape (x:=x) (v:=v) h
  exact .inr ⟨x,t,rfl,e⟩
theorem Y5 (i:Int) (t:Tok):oU (.inl i) (.int i t)=true:=by simp[oU,Value.isInt]
theorem Y6 (x:Str) (t:Tok):oU (.inr x) (.str x t)=true:=by simp[oU,Value.isStrOf]
theorem agq (a b:Int):decide ((Sum.inl a:Key)=Sum.inl b)=(a==b):=by
 by_cases e:a=b
 ·subst e;simp
 ·have h:¬ (Sum.inl a:Key)=Sum.inl b:=fun q=>e (Sum.inl.inj q)
  rw[qq h]
  exact (beq_eq_false_iff_ne.mpr e).symm
theorem agr (a b:Str):decide ((Sum.inr a:Key)=Sum.inr b)=decide (a=b):=by
 by_cases e:a=b
 ·subst e;simp
 ·have h:¬ (Sum.inr a:Key)=Sum.inr b:=fun q=>e (Sum.inr.inj q)
  rw[qq h,qq e]
theorem ags (a:Int) (b:Str):decide ((Sum.inl a:Key)=Sum.inr b)=false:=qq (fun q=>nomatch q)
theorem agt (a:Str) (b:Int):decide ((Sum.inr a:Key)=Sum.inl b)=false:=qq (fun q=>nomatch q)
def dJ (prog:Program) (w:World):PySem.KeyKind prog w Key where
 is:=oU
 hash:=akG w
 inj:=fun v a b ha hb=>by
  rcases bN ha with⟨i,t,rfl,rfl⟩|⟨x,t,rfl,rfl⟩
  ·rcases bN hb with⟨j,u,rfl,e⟩|⟨y,u,rfl,e⟩
   ·injection e with e1 _;rw[e1]
   ·exact nomatch e
  ·rcases bN hb with⟨j,u,rfl,e⟩|⟨y,u,rfl,e⟩
   ·exact nomatch e
   ·injection e with e1 _;rw[e1]
 byValue:=fun k v h=>by
  rcases bN h with⟨i,t,rfl,rfl⟩|⟨x,t,rfl,rfl⟩<;>rfl
 pyHash:=fun hv h=>by
  rcases bN hv with⟨i,t,rfl,rfl⟩|⟨x,t,rfl,rfl⟩
  ·exact wpAny_pyHash_int h
  ·exact wpAny_pyHash_str h
 eqBool:=fun hu hv h=>by
  rcases bN hu with⟨i,t,rfl,rfl⟩|⟨x,t,rfl,rfl⟩
  ·rcases bN hv with⟨j,u,rfl,rfl⟩|⟨y,u,rfl,rfl⟩
   ·rw[agq] at h;exact wpAny_eqBool_int h
   ·rw[ags] at h;exact SeqAt.EqAt.int_str i t y u _ _ _ _ h
  ·rcases bN hv with⟨j,u,rfl,rfl⟩|⟨y,u,rfl,rfl⟩
   ·rw[agt] at h;exact SeqAt.EqAt.str_int x t j u _ _ _ _ h
   ·rw[agr] at h;exact wpAny_eqBool_str h
 «strs»:=fun k x t v h=>by
  rcases bN h with⟨i,u,rfl,e⟩|⟨y,u,rfl,e⟩
  ·exact nomatch e
  ·injection e with e1 _
   subst e1
   cases v<;>rfl
theorem T3 (prog:Program) (w:World) (i:Int) (t:Tok):(dJ prog w).is (.inl i) (.int i t)=true:=Y5 i t
theorem T4 (prog:Program) (w:World) (x:Str) (t:Tok):(dJ prog w).is (.inr x) (.str x t)=true:=Y6 x t
end L2
namespace L2
open PySem PySem.Spec PyProof.Rows
inductive V where
 |non|bl (b:Bool)|int (i:Int)|str (x:Str)|byt (b:Array UInt8)|flt (b:UInt64)|ref (a:Addr)|ty (n:String)
 deriving DecidableEq
def RelV:V->Value->Prop
 |.non,u=>u=Value.none
 |.bl b,u=>u=Value.bool b
 |.int i,u=>∃ t,u=Value.int i t
 |.str x,u=>∃ t,u=Value.str x t
 |.byt b,u=>∃ t,u=Value.bytes b t
 |.flt b,u=>∃ t,u=Value.float b t
 |.ref a,u=>u=Value.ref a
 |.ty n,u=>u=Value.type n
abbrev Vals:List V->List Value->Prop:=Paired RelV
theorem Vals.length {xs:List V} {us:List Value} (r:Vals xs us):xs.length=us.length:=Paired.length r
theorem Vals.get:∀ {xs:List V} {us:List Value} {i:Nat} {x:V},Vals xs us->xs[i]?=some x->∃ u,us[i]?=some u/\RelV x u
 |_,_,_,_,.nil,e=>by simp at e
 |_,_,0,_,.cons r _,e=>by simp at e;subst e;exact⟨_,rfl,r⟩
 |_,_,i+1,x,.cons _ t,e=>by
  obtain⟨u,h1,h2⟩:=Vals.get (i:=i) (x:=x) t (by simpa using e)
  exact⟨u,by simpa using h1,h2⟩
theorem Vals.set {x:V} {u:Value} (r:RelV x u):∀ {xs:List V} {us:List Value} (i:Nat),Vals xs us->Vals (xs.set i x) (us.set i u)
 |_,_,_,.nil=>.nil
 |_,_,0,.cons _ t=>.cons r t
 |_,_,i+1,.cons q t=>.cons q (Vals.set r i t)
theorem Vals.append:∀ {xs ys:List V} {us ws:List Value},Vals xs us->Vals ys ws->Vals (xs++ys) (us++ws)
 |_,_,_,_,.nil,s=>s
 |_,_,_,_,.cons r t,s=>.cons r (Vals.append t s)
theorem Vals.take:∀ {xs:List V} {us:List Value} (n:Nat),Vals xs us->Vals (xs.take n) (us.take n)
 |_,_,0,_=>.nil
 |_,_,_+1,.nil=>.nil
 |_,_,n+1,.cons r t=>.cons r (Vals.take n t)
theorem Vals.drop:∀ {xs:List V} {us:List Value} (n:Nat),Vals xs us->Vals (xs.drop n) (us.drop n)
 |_,_,0,r=>r
 |_,_,_+1,.nil=>.nil
 |_,_,n+1,.cons _ t=>Vals.drop n t
def QW:Option V->Option Value->Prop
 |some v,some u=>RelV v u
 |none,none=>True
 |_,_=>False
def KV {κ:Type}:List (κ×V)->List (κ×Value)->Prop:=Paired fun (p:κ×V) (q:κ×Value)=>p.1=q.1/\RelV p.2 q.2
def kV:Key->V
 |.inl i=>.int i
 |.inr x=>.str x
inductive HO where
 |lst (xs:List V)
 |tup (xs:List V)
 |dK (kvs:List (Key×V))|dT (kvs:List (List Key×V))
 |set (S:Int->Bool) (n:Nat)
 |ins (C dx:Addr) (fs:List (Str×V))
 |own (x:Addr)
 |xd (fs:List (Str×V))
 |met (f x:Addr)
 |rng (lo hi:Int)
 |Dw (o:Obj) (u:HO)
 |tbl (ps:Array Value)
 |ext (φ:Heap->Prop)
abbrev Hp:=Addr->Option HO
def upd (H:Hp) (a:Addr) (o:HO):Hp:=fun b=>if b=a then some o else H b
theorem bU {H:Hp} {a:Addr} {o:HO}:upd H a o a=some o:=by unfold upd;rw[zo rfl]
theorem aY {H:Hp} {a b:Addr} {o:HO} (h:b≠a):upd H a o b=H b:=by unfold upd;rw[zI h]
def qe (h:Heap) (a:Addr) (items:Array Value):Prop:=∃ o,h.get? a=some o/\o.cls=.type "tuple" ∧ (∃ n,o.data=.seq items n)/\o.dict=none
theorem qe.weak {h:Heap} {a:Addr} {items:Array Value} (x:qe h a items):IsTup h a items:=let ⟨o,e,c,d,_⟩:=x;⟨o,e,c,d⟩
theorem qe.new (h:Heap) (items:Array Value):qe (h.push { cls:=.type "tuple", data:=.seq items }) h.objs.size items:=⟨_,zC _ rfl,rfl,⟨_,rfl⟩,rfl⟩
theorem tH {H:Hp} {a b:Addr} {o u:HO} (h:H a=some o) (h':H b=some u) (d:o≠u):a≠b:=by
 intro e;subst e;rw[h] at h';exact d (jS h')
theorem cH {H:Hp} {a b:Addr} {o:HO} (h:H a=some o) (h':H b=none):a≠b:=by
 intro e;subst e;rw[h] at h';cases h'
section
variable (P:Program) (w:World)
def nY (H:Hp) (h:Heap) (a:Addr):HO->Prop
 |.lst xs=>xs.length<=sizeLine/\∃ (its:List Value) (n:Nat),Vals xs its/\h.get? a=some { cls:=.type "list", data:=.seq its.toArray n }
 |.tup xs=>xs.length<=sizeLine/\∃ its:List Value,Vals xs its/\qe h a its.toArray
 |.dK kvs=>kvs.length<=sizeLine/\(a==sysModules)=false/\∃ vs,KV kvs vs/\h.DictOf (dJ P w) a vs
 |.dT kvs=>kvs.length<=sizeLine/\(a==sysModules)=false/\∃ xs:List (List Key×Addr×Value),
   Paired (fun (p:List Key×V) (q:List Key×Addr×Value)=>p.1=q.1/\H q.2.1=some (.tup (p.1.map kV))/\RelV p.2 q.2.2) kvs xs ∧
   ∃ o es ep,h.get? a=some o/\o.ExactDict/\o.data=.dict es ep/\es.toList=xs.map (entryOfKey (tupleKind (dJ P w)))/\(xs.map (·.1)).Nodup
 |.set S n=>h.SetOf (intKind P w) a S n
 |.ins C dx fs=>H dx=some (.own a)/\fs.length<=1000/\dx≠a/\h.get? a=some (PySem.W.instObj C dx) ∧
   ∃ mA,h.Ns1 dx mA/\(∀ f,QW (fs.lookup f) (mA f))/\PySem.Within mA (fs.map (·.1))
 |.own _=>∃ o,h.get? a=some o
 |.xd fs=>∃ mA,h.Ns1 a mA/\∀ f,QW (fs.lookup f) (mA f)
 |.rng lo hi=>∃ t u v,h.get? a=some { cls:=.type "range", data:=.fields #[.int lo t,.int hi u,.int 1 v] }
 |.Dw o u=>h.get? a=some o/\nY H h a u
 |.tbl ps=>h.get? a=some { cls:=.none,data:=.fields ps }
 |.met f x=>h.get? a=some (PySem.W.methodObj (.ref f) (.ref x))
 |.ext φ=>φ h/\(∃ o,h.get? a=some o)/\∀ h1 h2:Heap,φ h1->(∀ o,h1.get? a=some o->h2.get? a=some o)->φ h2
def Jo (H:Hp) (h:Heap):Prop:=∀ a o,H a=some o->nY P w H h a o
end
section
variable {P:Program} {w:World} {H H':Hp} {h h':Heap} {a:Addr} {o:HO}
theorem nY.lt (x:nY P w H h a o):a < h.objs.size:=by
 cases o with
 |lst xs=>obtain⟨_,_,_,_,e⟩:=x;exact zD e
 |tup xs=>obtain⟨_,_,_,p⟩:=x;exact p.weak.lt
 |dK kvs=>obtain⟨_,_,_,_,o,_,_,e,_⟩:=x;exact zD e
 |dT kvs=>obtain⟨_,_,_,_,o,_,_,e,_⟩:=x;exact zD e
 |set S n=>obtain⟨o,_,_,_,e,_⟩:=x;exact zD e
 |ins C dx fs=>obtain⟨_,_,_,e,_⟩:=x;exact zD e
 |own y=>obtain⟨_,e⟩:=x;exact zD e
 |xd fs=>obtain⟨_,⟨_,_,_,e,_⟩,_⟩:=x;exact zD e
 |rng lo hi=>obtain⟨_,_,_,e⟩:=x;exact zD e
 |Dw ob u=>obtain⟨e,_⟩:=x;exact zD e
 |tbl ps=>exact zD (show h.get? a=some _ from x)
 |met f y=>exact zD (show h.get? a=some _ from x)
 |ext φ=>obtain⟨_,⟨_,e⟩,_⟩:=x;exact zD e
theorem Paired.adN {α β:Type} {F G:α->β->Prop}:∀ {l₁:List α} {l₂:List β},Paired F l₁ l₂->(∀ a b,F a b->G a b)->Paired G l₁ l₂
 |_,_,.nil,_=>.nil
 |_,_,.cons r t,f=>.cons (f _ _ r) (Paired.adN t f)
theorem Paired.imp' {α β:Type} {F G:α->β->Prop} (f:∀ a b,F a b->G a b) {l₁:List α} {l₂:List β} (r:Paired F l₁ l₂):Paired G l₁ l₂:=Paired.adN r f
theorem nY.stay (x:nY P w H h a o) (k:∀ b u,(b=a\/H b=some (.own a))->h.get? b=some u->h'.get? b=some u)
  (ho:∀ b,H b=some (.own a)->H' b=some (.own a)) (ht:∀ b xs,H b=some (.tup xs)->H' b=some (.tup xs)):nY P w H' h' a o:=by
 induction o with
 |lst xs=>obtain⟨z,its,n,r,e⟩:=x;exact⟨z,its,n,r,k _ _ (.inl rfl) e⟩
 |tup xs=>obtain⟨z,its,r,ob,e,c⟩:=x;exact⟨z,its,r,ob,k _ _ (.inl rfl) e,c⟩
 |dK kvs=>obtain⟨z,y,vs,r,ob,es,ep,e,c⟩:=x;exact⟨z,y,vs,r,ob,es,ep,k _ _ (.inl rfl) e,c⟩
 |dT kvs=>
  obtain⟨z,y,xs,r,ob,es,ep,e,c⟩:=x
  exact⟨z,y,xs,Paired.adN r fun p q z=>⟨z.1,ht _ _ z.2.1,z.2.2⟩,ob,es,ep,k _ _ (.inl rfl) e,c⟩
 |set S n=>obtain⟨ob,es,ep,t,e,c⟩:=x;exact⟨ob,es,ep,t,k _ _ (.inl rfl) e,c⟩
 |ins C dx fs=>
  obtain⟨d,z,ne,e,mA,⟨od,es,ep,e2,c⟩,r⟩:=x
  exact⟨ho _ d,z,ne,k _ _ (.inl rfl) e,mA,⟨od,es,ep,k _ _ (.inr d) e2,c⟩,r⟩
 |own y=>obtain⟨ob,e⟩:=x;exact⟨ob,k _ _ (.inl rfl) e⟩
 |xd fs=>obtain⟨mA,⟨od,es,ep,e,c⟩,r⟩:=x;exact⟨mA,⟨od,es,ep,k _ _ (.inl rfl) e,c⟩,r⟩
 |rng lo hi=>obtain⟨t,u,v,e⟩:=x;exact⟨t,u,v,k _ _ (.inl rfl) e⟩
 |Dw ob u ih=>obtain⟨e,q⟩:=x;exact⟨k _ _ (.inl rfl) e,ih q⟩
 |tbl ps=>
  have e:h.get? a=some { cls:=.none,data:=.fields ps }:=x
  show h'.get? a=some { cls:=.none,data:=.fields ps }
  exact k a _ (.inl rfl) e
 |met f y=>
  have e:h.get? a=some (PySem.W.methodObj (.ref f) (.ref y)):=x
  show h'.get? a=some (PySem.W.methodObj (.ref f) (.ref y))
  exact k a _ (.inl rfl) e
 |ext φ=>obtain⟨p,⟨o,e⟩,st⟩:=x;exact⟨st _ _ p fun o q=>k _ _ (.inl rfl) q,⟨o,k _ _ (.inl rfl) e⟩,st⟩
theorem Jo.lt (x:Jo P w H h) (e:H a=some o):a < h.objs.size:=(x a o e).lt
theorem Jo.fresh (x:Jo P w H h) (e:h.objs.size<=a):H a=none:=by
 cases q:H a with
 |none=>rfl
 |some u=>exact absurd (ZN (x.lt q) e) (QY _)
theorem Jo.kept (x:Jo P w H h) (k:∀ b u,h.get? b=some u->h'.get? b=some u):Jo P w H h':=fun a o e=>
 (x a o e).stay (fun b u _ q=>k b u q) (fun _ q=>q) fun _ _ q=>q
theorem Jo.laid (x:Jo P w H h) (k:∀ b u,h.get? b=some u->h'.get? b=some u) (hp:h.objs.size<=a) (new:nY P w (upd H a o) h' a o):Jo P w (upd H a o) h':=fun b u e=>by
 have hn:=x.fresh hp
 by_cases hb:b=a
 ·subst hb;rw[bU] at e;cases e;exact new
 ·rw[aY hb] at e
  exact (x b u e).stay (fun c v _ q=>k c v q) (fun c q=>by rw[aY (cH q hn)];exact q) fun c xs q=>by rw[aY (cH q hn)];exact q
end
def Rd (H:Hp) (a:Addr) (u:HO):Prop:=H a=some u\/∃ o,H a=some (.Dw o u)
theorem Rd.of {H:Hp} {a:Addr} {u:HO} (h:H a=some u):Rd H a u:=.inl h
theorem Rd.ok {P:Program} {w:World} {H:Hp} {h:Heap} {a:Addr} {u:HO} (r:Rd H a u) (x:Jo P w H h):nY P w H h a u:=by
 rcases r with r|⟨o,r⟩
 ·exact x a u r
 ·obtain⟨_,q⟩:=x a _ r
  exact q
def Mut:Option HO->Prop
 |some (.lst _)=>True
 |some (.dK _)=>True
 |some (.dT _)=>True
 |some (.set _ _)=>True
 |some (.ins _ _ _)=>True
 |some (.ext _)=>True
 |_=>False
section
variable {P:Program} {w:World} {H:Hp} {h h':Heap} {x e:Addr} {o':HO}
theorem Jo.write (ok:Jo P w H h) (mu:Mut (H x)) (he:e=x\/H e=some (.own x)) (k:∀ b u,b≠e->h.get? b=some u->h'.get? b=some u) (heo:∃ u,h'.get? e=some u)
  (new:nY P w (upd H x o') h' x o'):Jo P w (upd H x o') h':=fun b u q=>by
 have aiv:∀ c y,H c=some (.own y)->c≠x:=fun c y r z=>by subst z;rw[r] at mu;exact mu
 have akH:∀ c xs,H c=some (.tup xs)->c≠x:=fun c xs r z=>by subst z;rw[r] at mu;exact mu
 by_cases hb:b=x
 ·subst hb;rw[bU] at q;cases q;exact new
 ·rw[aY hb] at q
  by_cases hbe:b=e
  ·have q':H b=some (.own x):=by
    rcases he with z|z
    ·exact absurd (hbe.trans z) hb
    ·rw[hbe];exact z
   rw[q] at q';cases q'
   obtain⟨v,hv⟩:=heo
   exact⟨v,by rw[hbe];exact hv⟩
  ·refine (ok b u q).stay (fun c v hc r=>k c v ?_ r) (fun c r=>by rw[aY (aiv c b r)];exact r) fun c xs r=>by rw[aY (akH c xs r)];exact r
   rcases hc with rfl|hc
   ·exact hbe
   ·rintro rfl
    rcases he with z|z
    ·exact aiv c b hc z
    ·rw[hc] at z;cases z;exact hb rfl
end
structure Un (fs ex:List Addr) (H H':Hp) (h h':Heap):Prop where
 keep:∀ b o,h.get? b=some o->H b=none->b∉fs->b∉ex->h'.get? b=some o
 slot:∀ b o,h.get? b=some o->H b=none->b∈fs->b∉ex->∃ sl,h'.get? b=some { o with slots:=sl }
 free:∀ b o,h.get? b=some o->H b=none->b∉ex->H' b=none
 there:∀ b o,h.get? b=some o->b∉ex->∃ o',h'.get? b=some o'
 tups:∀ b xs,H b=some (.tup xs)->H' b=some (.tup xs)
 Cy:∀ b o u,H b=some (.Dw o u)->H' b=some (.Dw o u)
 Dz:∀ b ps,H b=some (.tbl ps)->∃ more,H' b=some (.tbl (ps++more))
section
variable {fs fs' ex ex':List Addr} {H H1 H2:Hp} {h h1 h2 h':Heap} {a x e:Addr} {o:HO}
theorem Un.any (u:Un fs ex H H1 h h1) {b:Addr} {ob:Obj} (q:h.get? b=some ob) (n:H b=none) (hx:b∉ex):∃ sl,h1.get? b=some { ob with slots:=sl }:=by
 by_cases hb:b∈fs
 ·exact u.slot b ob q n hb hx
 ·exact⟨ob.slots,u.keep b ob q n hb hx⟩
theorem Un.trans (a:Un fs ex H H1 h h1) (b:Un fs ex H1 H2 h1 h2):Un fs ex H H2 h h2 where
 keep:=fun c ob q n hc hx=>b.keep c ob (a.keep c ob q n hc hx) (a.free c ob q n hx) hc hx
 slot:=fun c ob q n hc hx=>by
  obtain⟨sl,e1⟩:=a.slot c ob q n hc hx
  obtain⟨sl',e2⟩:=b.slot c _ e1 (a.free c ob q n hx) hc hx
  exact⟨sl',e2⟩
 free:=fun c ob q n hx=>by
  obtain⟨o',e1⟩:=a.there c ob q hx
  exact b.free c o' e1 (a.free c ob q n hx) hx
 there:=fun c ob q hx=>by
  obtain⟨o',e1⟩:=a.there c ob q hx
  exact b.there c o' e1 hx
 tups:=fun c xs q=>b.tups c xs (a.tups c xs q)
 Cy:=fun c ob xs q=>b.Cy c ob xs (a.Cy c ob xs q)
 Dz:=fun c ps q=>by
  obtain⟨m1,e1⟩:=a.Dz c ps q
  obtain⟨m2,e2⟩:=b.Dz c _ e1
  exact⟨m1++m2,by rw[e2,Array.append_assoc]⟩
theorem Un.kept (k:∀ b u,h.get? b=some u->h'.get? b=some u):Un fs ex H H h h':=
 ⟨fun b ob q _ _ _=>k b ob q,fun b ob q _ _ _=>⟨ob.slots,k b ob q⟩,fun _ _ _ n _=>n,fun b ob q _=>⟨ob,k b ob q⟩,fun _ _ q=>q,fun _ _ _ q=>q,fun _ ps q=>⟨#[],by rw[q];simp⟩⟩
theorem Un.refl:Un fs ex H H h h:=Un.kept fun _ _ q=>q
theorem Un.laid (k:∀ b u,h.get? b=some u->h'.get? b=some u) (hp:h.objs.size<=a) (hn:H a=none):Un fs ex H (upd H a o) h h' where
 keep:=fun b u q _ _ _=>k b u q
 slot:=fun b u q _ _ _=>⟨u.slots,k b u q⟩
 free:=fun b u q n _=>by rw[aY (Zl (ZN (zD q) hp))];exact n
 there:=fun b u q _=>⟨u,k b u q⟩
 tups:=fun b xs q=>by rw[aY (cH q hn)];exact q
 Cy:=fun b u xs q=>by rw[aY (cH q hn)];exact q
 Dz:=fun b ps q=>⟨#[],by rw[aY (cH q hn),q];simp⟩
theorem Un.write (mu:Mut (H x)) (he:e=x\/H e=some (.own x)) (k:∀ b u,b≠e->h.get? b=some u->h'.get? b=some u) (heo:∃ u,h'.get? e=some u):Un fs ex H (upd H x o) h h':=by
 have hx:∀ b,H b=none->b≠x:=fun b n z=>by subst z;rw[n] at mu;exact mu
 have hb:∀ b,H b=none->b≠e:=fun b n z=>by
  subst z
  rcases he with r|r
  ·exact hx b n r
  ·rw[n] at r;cases r
 have hm:∀ b u,H b=some u->¬ Mut (some u)->b≠x:=fun b u q nm z=>by subst z;rw[q] at mu;exact nm mu
 refine⟨fun b u q n _ _=>k b u (hb b n) q,fun b u q n _ _=>⟨u.slots,k b u (hb b n) q⟩,fun b u q n _=>by rw[aY (hx b n)];exact n,fun b u q _=>?_,
  fun b xs q=>by rw[aY (hm b _ q fun z=>z)];exact q,fun b u xs q=>by rw[aY (hm b _ q fun z=>z)];exact q,fun b ps q=>⟨#[],by rw[aY (hm b _ q fun z=>z),q];simp⟩⟩
 by_cases hbe:b=e
 ·subst hbe;exact heo
 ·exact⟨u,k b u hbe q⟩
theorem Un.mono (u:Un fs ex H H1 h h1) (hs:∀ b∈fs,b∈fs') (hx:∀ b∈ex,b∈ex'):Un fs' ex' H H1 h h1:=
 ⟨fun b ob q n hb he=>u.keep b ob q n (fun z=>hb (hs b z)) fun z=>he (hx b z),fun _ _ q n _ he=>u.any q n fun z=>he (hx _ z),fun b ob q n he=>u.free b ob q n fun z=>he (hx b z),fun b ob q he=>u.there b ob q fun z=>he (hx b z),u.tups,u.Cy,u.Dz⟩
end
def trk (h:Heap) (H:Hp):List Addr:=(List.range h.objs.size).filter fun a=>(H a).isSome
def QX (h:Heap) (H:Hp):Heap:=PySem.W.hideAll h (trk h H)
theorem Y7 (h:Heap) (H:Hp):(QX h H).objs.size=h.objs.size:=PySem.W.hideAll_size _ _
theorem aaO {h:Heap} {H:Hp} {b:Addr} {o:Obj} (e:h.get? b=some o) (n:H b=none):(QX h H).get? b=some o:=
 PySem.W.hideAll_get _ e fun hm=>by
  have q:(H b).isSome=true:=(List.mem_filter.mp hm).2
  rw[n] at q;simp at q
theorem adO {h:Heap} {H:Hp} {b:Addr} {o:Obj} (e:(QX h H).get? b=some o):h.get? b=some o/\H b=none:=by
 have e':h.get? b=some o:=PySem.W.of_hideAll (trk h H) e
 refine⟨e',?_⟩
 cases q:H b with
 |none=>rfl
 |some x=>
  have hm:b∈trk h H:=List.mem_filter.mpr ⟨List.mem_range.mpr (zD e'),by simp[q]⟩
  have z:(QX h H).get? b=none:=PySem.W.hideAll_none (trk h H) hm
  rw[z] at e;cases e
def adP (g h:Heap) (L:Addr):List (Addr×Obj):=(List.range h.objs.size).filterMap fun a=>if a=L\/(g.get? a).isSome=true then none else (h.get? a).map fun o=>(a,o)
def rest (g h:Heap) (L d:Addr):List (Addr×Obj):=(adP g h L).filter fun p=>decide (p.1≠d)
end L2
namespace L2
open PySem PySem.Spec PyProof.Rows
structure Mod (K:FG_) (mg:Str->Option Value) (base:Heap):Prop where
 kin:K.In base
 glob:base.Ns mainGlobals mg
 blt:∃ mb,base.Ns builtinsNs mb/\∀ x:Str,x ≠ "__name__" → mb x=bootBuiltins x
 nolimit:base.NoLimit
structure Cx where
 prog:Program
 w:World
 K:FG_
 mg:Str->Option Value
 base:Heap
 A:Around
 N:LS_
 s₀:Shared
 H₀:Hp
 env:Env
 outer:List Env
 stack:List Env
 ex:List Addr
 fn:Str->Bool
 calm:Bool
 pn:List (Addr×Obj)
 xe:VP_
def frs (l:List Env):List Addr:=l.filterMap (·.frame)
abbrev Cx.fs (X:Cx):List Addr:=frs X.outer
def Vis (sc:Scope) (x:Str):Prop:=sc.names.lookup x=some .local\/sc.names.lookup x=some .cell\/sc.names.lookup x=some .free
def Loc (sc:Scope) (x:Str):Prop:=sc.names.lookup x=some .local\/sc.names.lookup x=some .cell
def Look (env:Env) (h:Heap) (m:Str->Option Value) (x:Str) (u:Value):Prop:=
 (env.kindOf x=some .local/\m x=some u)\/((env.kindOf x=some .cell\/env.kindOf x=some .free)/\∃ c,env.cells.lookup x=some c/\h.IsCell c (some u))
structure Cx.Ok (X:Cx):Prop where
 mod:Mod X.K X.mg X.base
 kind:X.env.scope.kind=.function
 glob:X.env.globals=mainGlobals
 blt:X.env.builtins=builtinsNs
 above:X.s₀.heap.objs.size<=X.env.locals
 inj:∀ x y c,X.env.cells.lookup x=some c->X.env.cells.lookup y=some c->x=y
 has:∀ x,(X.env.kindOf x=some .cell\/X.env.kindOf x=some .free)->∃ c,X.env.cells.lookup x=some c
 cab:∀ x c,X.fn x=true->X.env.cells.lookup x=some c->X.s₀.heap.objs.size<=c
 hd:X.calm=true->X.A.handled=none
 frames:X.A.frames=some X.stack
 stk:X.stack=X.outer\/(X.stack=X.env::X.outer/\X.env.frame=some X.env.locals)
 exf:∀ b∈X.ex,b≠X.env.locals/\∀ x c,X.env.cells.lookup x=some c->c≠b
 bs:∀ b o,X.base.get? b=some o->X.s₀.heap.get? b=some o/\X.H₀ b=none
 bsz:X.base.objs.size<=X.s₀.heap.objs.size
 aaP:∀ b o,X.base.get? b=some o->b∉X.ex
 adQ:∀ b∈X.ex,b∉X.fs
 Jp:X.s₀.heap.FunFrames X.base X.outer
 frf:∀ b∈X.fs,X.H₀ b=none
structure Inv (X:Cx) (pins:List (Addr×Obj)) (σ:List (Option V)) (H:Hp) (s:Shared):Prop where
 ok:X.Ok
 os:s.os=X.s₀.os
 bare:AllBare s.gens
 base:Un X.fs X.ex X.H₀ H X.s₀.heap s.heap
 loc:∃ m,s.heap.Ns X.env.locals m/\∀ (i:Nat) (x:Str) (v:V),X.N[i]?=some x->σ[i]?=some (some v)->Vis X.env.scope x->∃ u,RelV v u/\Look X.env s.heap m x u
 cell:∀ x c,X.env.cells.lookup x=some c->∃ v,s.heap.IsCell c v
 free:H X.env.locals=none
 rQ:∀ x c,X.env.cells.lookup x=some c->H c=none
 pin:∀ p∈X.pn++pins,s.heap.get? p.1=some p.2/\H p.1=none/\p.1≠X.env.locals/\p.1∉X.fs/\∀ v,p.2.data≠.cell v
 hok:Jo X.prog X.w H s.heap
 len:σ.length=X.N.length
section
variable {X:Cx} {pins:List (Addr×Obj)} {σ:List (Option V)} {H H':Hp} {s:Shared} {h':Heap}
theorem Cx.Ok.akJ (ok:X.Ok) {b:Addr} {o:Obj} (e:X.base.get? b=some o):b∉X.fs:=fun hb=>by
 have:=(ok.Jp.mem hb).1
 rw[e] at this;cases this
theorem Inv.bs (I:Inv X pins σ H s):∀ b o,X.base.get? b=some o->s.heap.get? b=some o/\H b=none:=fun b o e=>
 ⟨I.base.keep b o (I.ok.bs b o e).1 (I.ok.bs b o e).2 (I.ok.akJ e) (I.ok.aaP b o e),I.base.free b o (I.ok.bs b o e).1 (I.ok.bs b o e).2 (I.ok.aaP b o e)⟩
theorem Inv.bk (I:Inv X pins σ H s):∀ b o,X.base.get? b=some o->s.heap.get? b=some o:=fun b o e=>(I.bs b o e).1
theorem Inv.mod (I:Inv X pins σ H s):Mod X.K X.mg X.base:=I.ok.mod
theorem Inv.kIn (I:Inv X pins σ H s):X.K.In s.heap:=I.ok.mod.kin.keeps I.bk
theorem Inv.nolimit (I:Inv X pins σ H s):s.heap.NoLimit:=I.ok.mod.nolimit.keeps I.bk
theorem Inv.fr (I:Inv X pins σ H s):∃ m,Fr X.base X.env.locals s.heap m:=
 let ⟨m,hn,_⟩:=I.loc
 ⟨m,hn,I.bk,zw I.ok.bsz I.ok.above⟩
theorem Inv.lt (I:Inv X pins σ H s):X.env.locals < s.heap.objs.size:=let ⟨_,hn,_⟩:=I.loc;hn.lt
theorem Inv.sz (I:Inv X pins σ H s):X.s₀.heap.objs.size<=s.heap.objs.size:=zw I.ok.above (jn I.lt)
theorem Inv.akK (I:Inv X pins σ H s) {a:Addr} (h:s.heap.objs.size<=a):a∉X.fs:=fun hb=>by
 obtain⟨_,o,ho,_⟩:=I.ok.Jp.mem hb
 exact absurd (ZN (zD ho) (zw I.sz h)) (QY _)
theorem Inv.cne (I:Inv X pins σ H s):∀ x c,X.env.cells.lookup x=some c->c≠X.env.locals:=fun x c e z=>by
 obtain⟨v,o,ho,hd⟩:=I.cell x c e
 obtain⟨m,⟨o',es,ep,ho',hd',_⟩,_⟩:=I.loc
 rw[z,ho'] at ho;cases ho;rw[hd'] at hd;cases hd
theorem Inv.Jp (I:Inv X pins σ H s):s.heap.FunFrames X.base X.outer:=by
 have all:∀ (l:List Env),(∀ b∈frs l,b∈X.fs)->X.s₀.heap.FunFrames X.base l->s.heap.FunFrames X.base l:=by
  intro l
  induction l with
  |nil=>intro _ _;trivial
  |cons env r ih=>
   intro hs hl
   obtain⟨hk,⟨L,o,hf,hn,ho,hd⟩,hr⟩:=hl
   have hL:L∈X.fs:=hs L (by unfold frs;rw[kl,hf];exact zt)
   obtain⟨sl,e⟩:=I.base.slot L o ho (I.ok.frf L hL) hL fun z=>I.ok.adQ L z hL
   exact⟨hk,⟨L,_,hf,hn,e,hd⟩,ih (fun b hb=>hs b (by unfold frs;rw[kl,hf];exact zl _ hb)) hr⟩
 exact all X.outer (fun _ hb=>hb) I.ok.Jp
theorem Inv.stack (I:Inv X pins σ H s):s.heap.FunFrames X.base X.stack:=by
 rcases I.ok.stk with e|⟨e,hf⟩
 ·rw[e];exact I.Jp
 ·rw[e]
  obtain⟨m,hn,_⟩:=I.loc
  refine .cons (by rw[I.ok.kind];decide) hf hn ?_ I.Jp
  exact Heap.get?_none_of_le (zw I.ok.bsz I.ok.above)
theorem Inv.QZ (I:Inv X pins σ H s):∀ b∈frs X.stack,b∈X.env.locals::X.fs:=fun b hb=>by
 rcases I.ok.stk with e|⟨e,hf⟩
 ·rw[e] at hb;exact zl _ hb
 ·rw[e] at hb
  unfold frs at hb
  rw[kl,hf] at hb
  exact hb
theorem Inv.XR (I:Inv X pins σ H s):∀ b∈frs X.stack,H b=none:=fun b hb=>by
 rcases List.mem_cons.mp (I.QZ b hb) with e|hb
 ·rw[e];exact I.free
 ·obtain⟨_,o,ho,_⟩:=I.ok.Jp.mem hb
  exact I.base.free b o ho (I.ok.frf b hb) fun z=>I.ok.adQ b z hb
theorem Inv.step {g':Array GenState} {t':Nat} {d':Drawn} {ch:List Addr} (I:Inv X pins σ H s)
  (hch:∀ b∈ch,(b∈X.ex\/X.s₀.heap.objs.size<=b)/\b≠X.env.locals/\(∀ x c,X.env.cells.lookup x=some c->c≠b)/\∀ p∈X.pn++pins,p.1≠b)
  (keep:∀ b o,b≠X.env.locals->b∉X.fs->b∉ch->s.heap.get? b=some o->H b=none->h'.get? b=some o)
  (slot:∀ b o,b≠X.env.locals->b∈X.fs->b∉ch->s.heap.get? b=some o->H b=none->∃ sl,h'.get? b=some { o with slots:=sl }) (free:∀ b o,b∉ch->s.heap.get? b=some o->H b=none->H' b=none)
  (there:∀ b o,b∉ch->s.heap.get? b=some o->∃ o',h'.get? b=some o')
  (tups:∀ b xs,H b=some (.tup xs)->H' b=some (.tup xs)) (Cy:∀ b o u,H b=some (.Dw o u)->H' b=some (.Dw o u)) (Dz:∀ b ps,H b=some (.tbl ps)->∃ more,H' b=some (.tbl (ps++more)))
  (ns:∀ m,s.heap.Ns X.env.locals m->h'.Ns X.env.locals m) (hok:Jo X.prog X.w H' h') (hg:AllBare g') :
  Inv X pins σ H' { s with heap:=h',gens:=g',drawn:=d',toks:=t' }:=by
 have neL:∀ b o,X.s₀.heap.get? b=some o->b≠X.env.locals:=fun b o e=>Zl (ZN (zD e) I.ok.above)
 have neC:∀ b o,X.s₀.heap.get? b=some o->b∉X.ex->b∉ch:=fun b o e hx hb=>by
  rcases (hch b hb).1 with z|z
  ·exact hx z
  ·exact absurd (ZN (zD e) z) (QY _)
 have cellK:∀ x c,X.env.cells.lookup x=some c->∀ v,s.heap.IsCell c v->h'.IsCell c v:=fun x c e v ⟨o,ho,hd⟩=>by
  have nch:c∉ch:=fun z=>(hch c z).2.2.1 x c e rfl
  by_cases hc:c∈X.fs
  ·obtain⟨sl,q⟩:=slot c o (I.cne x c e) hc nch ho (I.rQ x c e)
   exact⟨_,q,hd⟩
  ·exact⟨o,keep c o (I.cne x c e) hc nch ho (I.rQ x c e),hd⟩
 refine⟨I.ok,I.os,hg,⟨fun b o e n hb hx=>?_,fun b o e n hb hx=>?_,fun b o e n hx=>?_,fun b o e hx=>?_,fun b xs e=>tups b xs (I.base.tups b xs e),fun b o xs e=>Cy b o xs (I.base.Cy b o xs e),fun b ps e=>?_⟩,?_,fun x c e=>?_,?_,fun x c e=>?_,fun p hp=>?_,hok,I.len⟩
 ·exact keep b o (neL b o e) hb (neC b o e hx) (I.base.keep b o e n hb hx) (I.base.free b o e n hx)
 ·obtain⟨sl,e1⟩:=I.base.slot b o e n hb hx
  obtain⟨sl',e2⟩:=slot b _ (neL b o e) hb (neC b o e hx) e1 (I.base.free b o e n hx)
  exact⟨sl',e2⟩
 ·obtain⟨o',e1⟩:=I.base.there b o e hx
  exact free b o' (neC b o e hx) e1 (I.base.free b o e n hx)
 ·obtain⟨o',e1⟩:=I.base.there b o e hx
  exact there b o' (neC b o e hx) e1
 ·obtain⟨m1,e1⟩:=I.base.Dz b ps e
  obtain⟨m2,e2⟩:=Dz b _ e1
  exact⟨m1++m2,by rw[e2,Array.append_assoc]⟩
 ·obtain⟨m,hn,hl⟩:=I.loc
  refine⟨m,ns m hn,fun i x v e1 e2 e3=>?_⟩
  obtain⟨u,r,l⟩:=hl i x v e1 e2 e3
  refine⟨u,r,?_⟩
  rcases l with l|⟨k,c,e,z⟩
  ·exact .inl l
  ·exact .inr ⟨k,c,e,cellK x c e _ z⟩
 ·obtain⟨v,z⟩:=I.cell x c e
  exact⟨v,cellK x c e v z⟩
 ·obtain⟨m,⟨o,_,_,ho,_⟩,_⟩:=I.loc
  exact free _ o (fun z=>(hch _ z).2.1 rfl) ho I.free
 ·obtain⟨v,o,ho,hd⟩:=I.cell x c e
  exact free c o (fun z=>(hch c z).2.2.1 x c e rfl) ho (I.rQ x c e)
 ·obtain⟨e,n,ne,nf,d⟩:=I.pin p hp
  have nch:p.1∉ch:=fun z=>(hch p.1 z).2.2.2 p hp rfl
  exact⟨keep p.1 p.2 ne nf nch e n,free p.1 p.2 nch e n,ne,nf,d⟩
theorem Inv.un {t':Nat} (I:Inv X pins σ H s) (u:Un X.fs [] H H' s.heap h') (hok:Jo X.prog X.w H' h'):Inv X pins σ H' { s with heap:=h',toks:=t' }:=by
 obtain⟨m,⟨o,es,ep,ho,r⟩,_⟩:=id I.loc
 obtain⟨sl,hL⟩:=u.any ho I.free (by simp)
 exact I.step (g':=s.gens) (d':=s.drawn) (ch:=[]) (fun _ z=>nomatch z) (fun b o _ hb _ e n=>u.keep b o e n hb (by simp)) (fun b o _ hb _ e n=>u.slot b o e n hb (by simp)) (fun b o _ e n=>u.free b o e n (by simp)) (fun b o _ e=>u.there b o e (by simp)) u.tups u.Cy u.Dz (fun m' hm=>by
  obtain⟨o',es',ep',ho',r'⟩:=hm
  rw[ho] at ho';cases ho'
  exact⟨_,es',ep',hL,r'⟩) hok I.bare
theorem Inv.call {g':Array GenState} {t':Nat} {d':Drawn} {ch:List Addr} (I:Inv X pins σ H s) (u:Un (frs X.stack) ch H H' s.heap h') (hok:Jo X.prog X.w H' h') (hg:AllBare g')
  (hch:∀ b∈ch,(b∈X.ex\/X.s₀.heap.objs.size<=b)/\b≠X.env.locals/\(∀ x c,X.env.cells.lookup x=some c->c≠b)/\∀ p∈X.pn++pins,p.1≠b) :
  Inv X pins σ H' { s with heap:=h',gens:=g',drawn:=d',toks:=t' }:=by
 obtain⟨m,⟨o,es,ep,ho,r⟩,_⟩:=id I.loc
 obtain⟨sl,hL⟩:=u.any ho I.free fun z=>(hch _ z).2.1 rfl
 exact I.step (ch:=ch) hch (fun b o hL hb hc e n=>u.keep b o e n (fun z=>(List.mem_cons.mp (I.QZ b z)).elim hL hb) hc) (fun b o _ _ hc e n=>u.any e n hc) (fun b o hc e n=>u.free b o e n hc) (fun b o hc e=>u.there b o e hc) u.tups u.Cy u.Dz (fun m' hm=>by
  obtain⟨o',es',ep',ho',r'⟩:=hm
  rw[ho] at ho';cases ho'
  exact⟨_,es',ep',hL,r'⟩) hok hg
theorem Inv.turned {t':Nat} {it:Addr} (I:Inv X pins σ H s) (k:∀ b o,b≠it->s.heap.get? b=some o->h'.get? b=some o) (hn:H it=none) (hL:it≠X.env.locals)
  (h1:it∈X.ex\/X.s₀.heap.objs.size<=it) (h2:∀ x c,X.env.cells.lookup x=some c->c≠it) (h3:∀ p∈X.pn++pins,p.1≠it):Inv X pins σ H { s with heap:=h',toks:=t' }:=by
 have nit:∀ b u,H b=some u->b≠it:=fun b u e z=>by rw[z,hn] at e;cases e
 refine I.step (g':=s.gens) (d':=s.drawn) (ch:=[it]) (fun b hb=>?_) (fun b o _ _ hc e _=>k b o (fun z=>hc (by simp[z])) e) (fun b o _ _ hc e _=>⟨o.slots,k b o (fun z=>hc (by simp[z])) e⟩) (fun _ _ _ _ n=>n)
  (fun b o hc e=>⟨o,k b o (fun z=>hc (by simp[z])) e⟩) (fun _ _ e=>e) (fun _ _ _ e=>e) (fun b ps e=>⟨#[],by rw[e];simp⟩) (fun m hm=>?_) (fun b u e=>?_) I.bare
 ·have e:b=it:=by simpa using hb
  subst e
  exact⟨h1,hL,h2,h3⟩
 ·obtain⟨o,es,ep,ho,r⟩:=hm
  exact⟨o,es,ep,k _ o (Ne.symm hL) ho,r⟩
 ·refine (I.hok b u e).stay (fun c v hc q=>k c v ?_ q) (fun _ q=>q) fun _ _ q=>q
  rcases hc with z|z
  ·rw[z];exact nit b u e
  ·exact nit c _ z
theorem Inv.tok (I:Inv X pins σ H s) (t:Nat):Inv X pins σ H { s with toks:=t }:=I.un (h':=s.heap) (t':=t) Un.refl I.hok
theorem Inv.kept {t':Nat} (I:Inv X pins σ H s) (k:∀ b u,s.heap.get? b=some u->h'.get? b=some u):Inv X pins σ H { s with heap:=h',toks:=t' }:=I.un (Un.kept k) (I.hok.kept k)
theorem Inv.laid {a:Addr} {o:HO} {t':Nat} (I:Inv X pins σ H s) (k:∀ b u,s.heap.get? b=some u->h'.get? b=some u) (hp:s.heap.objs.size<=a) (new:nY X.prog X.w (upd H a o) h' a o) :
  Inv X pins σ (upd H a o) { s with heap:=h',toks:=t' }:=I.un (Un.laid k hp (I.hok.fresh hp)) (I.hok.laid k hp new)
theorem Inv.write {x e:Addr} {o:HO} {t':Nat} (I:Inv X pins σ H s) (mu:Mut (H x)) (he:e=x\/H e=some (.own x)) (k:∀ b u,b≠e->s.heap.get? b=some u->h'.get? b=some u) (heo:∃ u,h'.get? e=some u)
  (new:nY X.prog X.w (upd H x o) h' x o):Inv X pins σ (upd H x o) { s with heap:=h',toks:=t' }:=I.un (Un.write mu he k heo) (I.hok.write mu he k heo new)
theorem Inv.weak {σ':List (Option V)} (I:Inv X pins σ H s) (hl:σ'.length=σ.length) (w:∀ (i:Nat) v,σ'[i]?=some (some v)->σ[i]?=some (some v)):Inv X pins σ' H s:=
 ⟨I.ok,I.os,I.bare,I.base,let ⟨m,hn,hl'⟩:=I.loc;⟨m,hn,fun i x v e1 e2 e3=>hl' i x v e1 (w i v e2) e3⟩,I.cell,I.free,I.rQ,I.pin,I.hok,hl.trans I.len⟩
theorem Inv.Q0 {afF:List (Addr×Obj)} (I:Inv X pins σ H s) (h:∀ p∈afF,s.heap.get? p.1=some p.2/\H p.1=none/\p.1≠X.env.locals/\p.1∉X.fs/\∀ v,p.2.data≠.cell v):Inv X afF σ H s:=
 ⟨I.ok,I.os,I.bare,I.base,I.loc,I.cell,I.free,I.rQ,fun p hp=>(List.mem_append.mp hp).elim (fun z=>I.pin p (List.mem_append_left _ z)) (h p),I.hok,I.len⟩
theorem T5 {N:LS_} (hN:N.Nodup) {i j:Nat} {x:Str} (a:N[i]?=some x) (b:N[j]?=some x):i=j:=by
 obtain⟨h1,e1⟩:=List.getElem?_eq_some_iff.mp a
 obtain⟨h2,e2⟩:=List.getElem?_eq_some_iff.mp b
 exact (List.getElem_inj hN).mp (e1.trans e2.symm)
theorem Y8 {M:Model} {A:Around} {E:VP_} {i:Nat} {x:Str} {v:V} {u:Value} {Q:Unit->Shared->Prop} (I:Inv X pins σ H s) (hN:X.N.Nodup) (hi:X.N[i]?=some x) (hx:Loc X.env.scope x) (r:RelV v u)
  (h:∀ s',Inv X pins (σ.set i (some v)) H s'->(∃ a,Heap.SameBut a s.heap s'.heap/\(a=X.env.locals\/X.env.cells.lookup x=some a))->Q () s') (hf:X.fn x=true\/X.env.scope.names.lookup x=some .local:=by first|exact .inl rfl|exact .inr rfl|assumption):wpAny M A (storeName X.env x u) Q E s:=by
 obtain⟨m,hn,hl⟩:=id I.loc
 have hcls:(X.env.scope.kind==.class||(X.env.scope.kind==.module&&X.env.locals != X.env.globals))=false:=by rw[I.ok.kind];rfl
 have hiσ:i < σ.length:=by rw[I.len];exact (List.getElem?_eq_some_iff.mp hi).1
 have cne:=I.cne
 have tracked:∀ {a:Addr} {h':Heap},(∃ o,s.heap.get? a=some o/\H a=none)->Heap.SameBut a s.heap h'->Jo X.prog X.w H h':=fun {a h'} ha hs b ob e=>by
  obtain⟨_,_,hfree⟩:=ha
  refine (I.hok b ob e).stay (fun c w' hc q=>(hs.2 c ?_).trans q) (fun _ q=>q) fun _ _ q=>q
  rintro rfl
  rcases hc with rfl|hc
  ·rw[hfree] at e;cases e
  ·rw[hfree] at hc;cases hc
 rcases hx with hk|hk
 ·refine wpAny_storeName_local hk hn (fun h' hn' hs=>?_) hcls
  obtain⟨oL,_,_,hoL,_⟩:=id hn
  refine h _ ⟨I.ok,I.os,I.bare,⟨fun b o e n hb hx=>?_,fun b o e n hb hx=>?_,I.base.free,fun b o e hx=>?_,I.base.tups,I.base.Cy,I.base.Dz⟩,⟨_,hn',fun j y v' e1 e2 e3=>?_⟩,fun y c e=>?_,I.free,I.rQ,fun p hp=>?_,tracked ⟨oL,hoL,I.free⟩ hs,by simpa using I.len⟩ ⟨_,hs,.inl rfl⟩
  ·exact (hs.2 b (Zl (ZN (zD e) I.ok.above))).trans (I.base.keep b o e n hb hx)
  ·obtain⟨sl,e1⟩:=I.base.slot b o e n hb hx
   exact⟨sl,(hs.2 b (Zl (ZN (zD e) I.ok.above))).trans e1⟩
  ·obtain⟨o',e1⟩:=I.base.there b o e hx
   exact⟨o',(hs.2 b (Zl (ZN (zD e) I.ok.above))).trans e1⟩
  ·by_cases hj:j=i
   ·subst hj
    rw[hi] at e1;cases e1
    rw[List.getElem?_set_self hiσ] at e2
    cases e2
    exact⟨u,r,.inl ⟨hk,by simp⟩⟩
   ·rw[List.getElem?_set_ne (Ne.symm hj)] at e2
    obtain⟨u',r',q⟩:=hl j y v' e1 e2 e3
    refine⟨u',r',?_⟩
    rcases q with⟨k,e⟩|⟨k,c,e,z⟩
    ·refine .inl ⟨k,?_⟩
     have:y≠x:=fun e=>hj (T5 hN e1 (e▸hi))
     simp[this,e]
    ·exact .inr ⟨k,c,e,z.sameBut hs (cne y c e)⟩
  ·obtain⟨w',z⟩:=I.cell y c e
   exact⟨w',z.sameBut hs (cne y c e)⟩
  ·obtain⟨e,n,ne,nf,d⟩:=I.pin p hp
   exact⟨(hs.2 p.1 ne).trans e,n,ne,nf,d⟩
 ·have hfn:X.fn x=true:=by
   rcases hf with z|z
   ·exact z
   ·rw[z] at hk;cases hk
  obtain⟨c,hc⟩:=I.ok.has x (.inl hk)
  obtain⟨w',z⟩:=I.cell x c hc
  refine wpAny_storeName_cell I.ok.kind hk hc z (fun h' hc' hs=>?_)
  obtain⟨oc,hoc,akL⟩:=id z
  refine h { s with heap:=h' } ⟨I.ok,I.os,I.bare,⟨fun b o e n hb hx=>?_,fun b o e n hb hx=>?_,I.base.free,fun b o e hx=>?_,I.base.tups,I.base.Cy,I.base.Dz⟩,⟨m,hn.sameBut hs (Ne.symm (cne x c hc)),fun j y v' e1 e2 e3=>?_⟩,fun y c' e=>?_,I.free,I.rQ,fun p hp=>?_,tracked ⟨oc,hoc,I.rQ x c hc⟩ hs,by simpa using I.len⟩ ⟨c,hs,.inr hc⟩
  ·exact (hs.2 b (Zl (ZN (zD e) (I.ok.cab x c hfn hc)))).trans (I.base.keep b o e n hb hx)
  ·obtain⟨sl,e1⟩:=I.base.slot b o e n hb hx
   exact⟨sl,(hs.2 b (Zl (ZN (zD e) (I.ok.cab x c hfn hc)))).trans e1⟩
  ·obtain⟨o',e1⟩:=I.base.there b o e hx
   exact⟨o',(hs.2 b (Zl (ZN (zD e) (I.ok.cab x c hfn hc)))).trans e1⟩
  ·by_cases hj:j=i
   ·subst hj
    rw[hi] at e1;cases e1
    rw[List.getElem?_set_self hiσ] at e2
    cases e2
    exact⟨u,r,.inr ⟨.inl hk,c,hc,hc'⟩⟩
   ·rw[List.getElem?_set_ne (Ne.symm hj)] at e2
    obtain⟨u',r',q⟩:=hl j y v' e1 e2 e3
    refine⟨u',r',?_⟩
    rcases q with q|⟨k,c',e,z'⟩
    ·exact .inl q
    ·refine .inr ⟨k,c',e,z'.sameBut hs ?_⟩
     rintro rfl
     exact hj (T5 hN e1 (I.ok.inj _ _ _ e hc▸hi))
  ·by_cases hcc:c'=c
   ·subst hcc;exact⟨_,hc'⟩
   ·obtain⟨w2,z2⟩:=I.cell y c' e
    exact⟨w2,z2.sameBut hs hcc⟩
  ·obtain⟨e,n,ne,nf,d⟩:=I.pin p hp
   refine⟨(hs.2 p.1 ?_).trans e,n,ne,nf,d⟩
   intro q
   rw[q,hoc] at e
   have q':oc=p.2:=jS e
   exact d w' (by rw[<-q'];exact akL)
theorem DG {M:Model} {A:Around} {E:VP_} {i:Nat} {x:Str} {v:V} {u:Value} {Q:Unit->Shared->Prop} (I:Inv X pins σ H s) (hN:X.N.Nodup) (hi:X.N[i]?=some x) (hx:Loc X.env.scope x) (r:RelV v u)
  (h:∀ s',Inv X pins (σ.set i (some v)) H s'->Q () s') (hf:X.fn x=true\/X.env.scope.names.lookup x=some .local:=by first|exact .inl rfl|exact .inr rfl|assumption):wpAny M A (storeName X.env x u) Q E s:=
 Y8 I hN hi hx r (fun s' I' _=>h s' I') hf
theorem Inv.call' {s':Shared} {ch:List Addr} (I:Inv X pins σ H s) (ho:s'.os=s.os) (u:Un (frs X.stack) ch H H' s.heap s'.heap) (hok:Jo X.prog X.w H' s'.heap) (hg:AllBare s'.gens)
  (hch:∀ b∈ch,(b∈X.ex\/X.s₀.heap.objs.size<=b)/\b≠X.env.locals/\(∀ x c,X.env.cells.lookup x=some c->c≠b)/\∀ p∈X.pn++pins,p.1≠b):Inv X pins σ H' s':=by
 obtain⟨h',g',d',t',o'⟩:=s'
 have e:o'=s.os:=ho
 subst e
 exact I.call (g':=g') (t':=t') (d':=d') u hok hg hch
end
abbrev XK:=Value->Option Addr->Hp->Prop
abbrev St:=List (Option V)
abbrev VK:=V->Hp->Prop
abbrev TE:=St->Hp->VK->Prop
abbrev TT:=St->Hp->(Bool->Hp->Prop)->Prop
abbrev TA:=St->Hp->(List V->Hp->Prop)->Prop
structure Ends where
 nx:St->Hp->Prop
 rt:VK
 bk:St->Hp->Prop:=fun _ _=>False
 ct:St->Hp->Prop:=fun _ _=>False
abbrev TS:=Ends->St->Hp->Prop
def EP (X:Cx) (pins:List (Addr×Obj)) (σ:St) (Q:VK) (u:Value) (s':Shared):Prop:=∃ v H',Inv X pins σ H' s'/\RelV v u/\Q v H'
def TP (X:Cx) (pins:List (Addr×Obj)) (σ:St) (Q:Bool->Hp->Prop) (b:Bool) (s':Shared):Prop:=∃ H',Inv X pins σ H' s'/\Q b H'
def AP (X:Cx) (pins:List (Addr×Obj)) (σ:St) (Q:List V->Hp->Prop) (us:List Value) (s':Shared):Prop:=∃ vs H',Inv X pins σ H' s'/\Vals vs us/\Q vs H'
def SP (X:Cx) (pins:List (Addr×Obj)) (D:Ends) (f:Flow) (s':Shared):Prop:=
 match f with
 |.next=>∃ σ' H',Inv X pins σ' H' s'/\D.nx σ' H'
 |.brk=>∃ σ' H',Inv X pins σ' H' s'/\D.bk σ' H'
 |.cont=>∃ σ' H',Inv X pins σ' H' s'/\D.ct σ' H'
 |.ret u=>∃ v σ' H',Inv X pins σ' H' s'/\RelV v u/\D.rt v H'
def PE (X:Cx) (e:Expr) (t:TE):Prop:=
 ∀ (pins:List (Addr×Obj)) (s:Shared) (σ:St) (H:Hp) (Q:VK),Inv X pins σ H s->t σ H Q->wpAny (model X.prog X.w) X.A (eval e X.env) (EP X pins σ Q) X.xe s
def PT (X:Cx) (e:Expr) (t:TT):Prop:=
 ∀ (pins:List (Addr×Obj)) (s:Shared) (σ:St) (H:Hp) (Q:Bool->Hp->Prop),Inv X pins σ H s->t σ H Q->wpAny (model X.prog X.w) X.A (isTrue e X.env (eval e X.env)) (TP X pins σ Q) X.xe s
def PW (X:Cx) (e:Expr) (t:TT):Prop:=
 ∀ (whole:Sem Value) (pins:List (Addr×Obj)) (s:Shared) (σ:St) (H:Hp) (Q:Bool->Hp->Prop),Inv X pins σ H s->t σ H Q->wpAny (model X.prog X.w) X.A (isTrue e X.env whole) (TP X pins σ Q) X.xe s
theorem PW.pt {X:Cx} {e:Expr} {t:TT} (h:PW X e t):PT X e t:=h _
def PA (X:Cx) (es:List Expr) (t:TA):Prop:=
 ∀ (pos:Pos) (pins:List (Addr×Obj)) (s:Shared) (σ:St) (H:Hp) (Q:List V->Hp->Prop),Inv X pins σ H s->t σ H Q->wpAny (model X.prog X.w) X.A (spliced (backTo pos (starEach es X.env))) (AP X pins σ Q) X.xe s
def PS (X:Cx) (st:Stmt) (t:TS):Prop:=
 ∀ (pins:List (Addr×Obj)) (s:Shared) (σ:St) (H:Hp) (D:Ends),Inv X pins σ H s->t D σ H->wpAny (model X.prog X.w) X.A (exec st X.env) (SP X pins D) X.xe s
def XS (X:Cx) (st:List Stmt) (t:TS):Prop:=
 ∀ (pins:List (Addr×Obj)) (s:Shared) (σ:St) (H:Hp) (D:Ends),Inv X pins σ H s->t D σ H->wpAny (model X.prog X.w) X.A (execs st X.env) (SP X pins D) X.xe s
theorem mU {α:Type} {t:Sem α} {Q Q':α->Shared->Prop} {M:Model} {A:Around} {E:VP_} {s:Shared} (h:wpAny M A t Q E s) (hQ:∀ a s,Q a s->Q' a s):wpAny M A t Q' E s:=Qb h hQ fun _ _ x=>x
end L2
namespace L2
open PySem PySem.Spec PyProof.Rows
section
variable {X:Cx}
def aix (i:Nat):TE:=fun σ H Q=>∃ v,σ[i]?=some (some v)/\Q v H
def tC (v:V):TE:=fun _ H Q=>Q v H
theorem Ke {i:Nat} {x:Str} {pos:Pos} (hN:X.N[i]?=some x) (hv:Vis X.env.scope x) (hd:(x==("__debug__" : Str))=false:=by decide) (hcd:(x==("__classdict__" : Str))=false:=by decide):PE X (.Name x pos) (aix i):=by
 intro pins s σ H Q I h
 obtain⟨v,e,h⟩:=h
 obtain⟨m,hn,hl⟩:=I.loc
 obtain⟨u,r,l⟩:=hl i x v hN e hv
 have fin:EP X pins σ Q u s:=⟨v,H,I,r,h⟩
 rcases l with⟨hk,hm⟩|⟨hk,c,hc,hcell⟩
 ·exact wpAny_Name (wpAny_loadName_local I.ok.kind hk hn hm fin) hd
 ·rcases hk with hk|hk
  ·exact wpAny_Name (wpAny_loadName_cell I.ok.kind hk hc hcell fin) hd
  ·exact wpAny_Name (wpAny_loadName_free I.ok.kind hk hc hcell fin hcd) hd
theorem agx {i j pos}:PE X (.Constant (.int i) j pos) (tC (.int i)):=fun _ _ _ H _ I h=>wpAny_Constant_int ⟨.int i,H,I.tok _,⟨_,rfl⟩,h⟩
theorem aiy {b j pos}:PE X (.Constant (.bool b) j pos) (tC (.bl b)):=fun _ _ _ H _ I h=>Constant_bool ⟨.bl b,H,I,rfl,h⟩
theorem agy {j pos}:PE X (.Constant .none j pos) (tC .non):=fun _ _ _ H _ I h=>Constant_none ⟨.non,H,I,rfl,h⟩
theorem agz {x j pos}:PE X (.Constant (.str x) j pos) (tC (.str x)):=fun _ _ _ H _ I h=>Calls.Constant_str ⟨.str x,H,I.tok _,⟨_,rfl⟩,h⟩
def Gl (X:Cx) (x:Str):Prop:=X.env.kindOf x=some .globalImplicit
theorem Q5 {E:VP_} {pins:List (Addr×Obj)} {s:Shared} {σ:St} {H:Hp} {x:Str} {u:Value} {pos:Pos} {Q:VP_} (I:Inv X pins σ H s) (hg:Gl X x) (hm:X.mg x=some u) (h:Q u s)
  (hd:(x==("__debug__" : Str))=false:=by decide):wpAny (model X.prog X.w) X.A (eval (.Name x pos) X.env) Q E s:=
 Calls.Name_function_global I.ok.kind hg (Calls.loadGlobal_global (by rw[I.ok.glob];exact I.mod.glob.keeps I.bk) hm h) hd
theorem Q6 {E:VP_} {pins:List (Addr×Obj)} {s:Shared} {σ:St} {H:Hp} {x:Str} {u:Value} {pos:Pos} {Q:VP_} (I:Inv X pins σ H s) (hg:Gl X x) (hm:X.mg x=none) (hv:bootBuiltins x=some u) (h:Q u s)
  (hn:x ≠ "__name__" := by decide) (hd:(x==("__debug__" : Str))=false:=by decide):wpAny (model X.prog X.w) X.A (eval (.Name x pos) X.env) Q E s:=by
 obtain⟨mb,h1,h2⟩:=I.mod.blt
 exact Calls.Name_function_global I.ok.kind hg (Calls.loadGlobal_builtin (by rw[I.ok.glob];exact I.mod.glob.keeps I.bk) hm (by rw[I.ok.blt];exact h1.keeps I.bk) ((h2 x hn).trans hv) h) hd
theorem X3 {x:Str} {v:V} {u:Value} {pos:Pos} (hg:Gl X x) (hm:X.mg x=some u) (r:RelV v u) (hd:(x==("__debug__" : Str))=false:=by decide):PE X (.Name x pos) (tC v):=
 fun _ _ _ H _ I h=>Q5 I hg hm ⟨v,H,I,r,h⟩ hd
theorem JZ {x:Str} {v:V} {u:Value} {pos:Pos} (hg:Gl X x) (hm:X.mg x=none) (hv:bootBuiltins x=some u) (r:RelV v u) (hn:x ≠ "__name__" := by decide) (hd:(x==("__debug__" : Str))=false:=by decide):PE X (.Name x pos) (tC v):=
 fun _ _ _ H _ I h=>Q6 I hg hm hv ⟨v,H,I,r,h⟩ hn hd
variable {a b:Expr} {ta tb:TE} {pos:Pos}
variable {tA tB':TT} {rest:List Expr}
def aiz (t u:TT):TT:=fun σ H Q=>t σ H fun c H1=>if c=true then u σ H1 Q else Q false H1
def tOr (t u:TT):TT:=fun σ H Q=>t σ H fun c H1=>if c=true then Q true H1 else u σ H1 Q
def akM (t:TT):TT:=fun σ H Q=>t σ H fun c H1=>Q (!c) H1
theorem adR (ha:PT X a tA):PW X (.BoolOp .And [a] pos) tA:=by
 intro wh pins s σ H Q I h
 refine isTrue_and (mU (ha pins s σ H Q I h) fun c s1 e=>?_)
 cases c with
 |true=>exact isTrue_and_nil e
 |false=>exact e
theorem agA (ha:PT X a tA):PW X (.BoolOp .Or [a] pos) tA:=by
 intro wh pins s σ H Q I h
 refine isTrue_or (mU (ha pins s σ H Q I h) fun c s1 e=>?_)
 cases c with
 |false=>exact isTrue_or_nil e
 |true=>exact e
theorem agB (ha:PT X a tA) (hb:PW X (.BoolOp .And (b::rest) pos) tB'):PW X (.BoolOp .And (a::b::rest) pos) (aiz tA tB'):=by
 intro wh pins s σ H Q I h
 refine isTrue_and (mU (ha pins s σ H _ I h) fun c s1 ⟨H1,I1,q1⟩=>?_)
 cases c with
 |true=>exact hb wh pins s1 σ H1 Q I1 q1
 |false=>exact⟨H1,I1,q1⟩
theorem aiA (ha:PT X a tA) (hb:PW X (.BoolOp .Or (b::rest) pos) tB'):PW X (.BoolOp .Or (a::b::rest) pos) (tOr tA tB'):=by
 intro wh pins s σ H Q I h
 refine isTrue_or (mU (ha pins s σ H _ I h) fun c s1 ⟨H1,I1,q1⟩=>?_)
 cases c with
 |true=>exact⟨H1,I1,q1⟩
 |false=>exact hb wh pins s1 σ H1 Q I1 q1
theorem agC (ha:PT X a tA):PT X (.UnaryOp .Not a pos) (akM tA):=by
 intro pins s σ H Q I h
 exact isTrue_not (ha pins s σ H (fun c H1=>Q (!c) H1) I h)
def aiB (ta tb:TE):TE:=fun σ H Q=>ta σ H fun x H1=>∃ c,x=.bl c/\if c=true then tb σ H1 Q else Q (.bl false) H1
def aiC (ta:TE):TE:=fun σ H Q=>ta σ H fun x H1=>∃ c,x=.bl c/\Q (.bl (!c)) H1
theorem agD {op} {t:TE} (h:PE X a t):PE X (.BoolOp op [a] pos) t:=fun pins s σ H Q I hw=>BoolOp_one (h pins s σ H Q I hw)
theorem agE (ha:PE X a ta) (hb:PE X (.BoolOp .And (b::rest) pos) tb):PE X (.BoolOp .And (a::b::rest) pos) (aiB ta tb):=by
 intro pins s σ H Q I h
 refine BoolOp_and (mU (ha pins s σ H _ I h) fun v s1 ⟨x,H1,I1,r1,q1⟩=>?_)
 obtain⟨c,rfl,q1⟩:=q1
 cases r1
 refine QA ?_
 cases c with
 |true=>exact hb pins s1 σ H1 Q I1 q1
 |false=>exact⟨.bl false,H1,I1,rfl,q1⟩
theorem agF (ha:PE X a ta):PE X (.UnaryOp .Not a pos) (aiC ta):=by
 intro pins s σ H Q I h
 refine UnaryOp_ (mU (ha pins s σ H _ I h) fun v s1 ⟨x,H1,I1,r1,q1⟩=>?_)
 obtain⟨c,rfl,q1⟩:=q1
 cases r1
 exact not_of (QA ⟨.bl (!c),H1,I1,rfl,q1⟩)
end
end L2
namespace L2
open PySem PySem.Spec PyProof.Rows
def yK (K:FG_) (H:Hp) (a:Addr) (xs:List V):Prop:=
 Rd H a (.lst xs) ∨
  ∃ (o:Obj) (its:Array Value) (n:Nat),K.lookup a=some o/\o.cls=.type "list" ∧ o.dict=none/\o.data=.seq its n/\its.size<=sizeLine/\Vals xs its.toList
def BL (K:FG_) (H:Hp) (a:Addr) (xs:List V):Prop:=
 Rd H a (.tup xs) ∨
  ∃ (o:Obj) (its:Array Value) (n:Nat),K.lookup a=some o/\(o.cls=.type "tuple" ∧ o.dict=none)/\o.data=.seq its n/\its.size<=sizeLine/\Vals xs its.toList
def agG:Value->Option V
 |.none=>some .non
 |.bool b=>some (.bl b)
 |.int i _=>some (.int i)
 |.str x _=>some (.str x)
 |.bytes b _=>some (.byt b)
 |.float b _=>some (.flt b)
 |.ref a=>some (.ref a)
 |.type n=>some (.ty n)
 |_=>none
theorem RelV.abs {x:V} {u:Value} (r:RelV x u):agG u=some x:=by
 cases x with
 |non=>cases r;rfl
 |bl _=>cases r;rfl
 |int _=>obtain⟨t,rfl⟩:=r;rfl
 |str _=>obtain⟨t,rfl⟩:=r;rfl
 |byt _=>obtain⟨t,rfl⟩:=r;rfl
 |flt _=>obtain⟨t,rfl⟩:=r;rfl
 |ref _=>cases r;rfl
 |ty _=>cases r;rfl
theorem RelV.inj {x y:V} {u:Value} (r:RelV x u) (q:RelV y u):x=y:=jS (r.abs.symm.trans q.abs)
theorem Vals.inj:∀ {xs ys:List V} {us:List Value},Vals xs us->Vals ys us->xs=ys
 |_,_,_,.nil,.nil=>rfl
 |_,_,_,.cons r t,.cons r' t'=>by rw[r.inj r',Vals.inj t t']
section
variable {X:Cx} {pins:List (Addr×Obj)} {σ:St} {H:Hp} {s:Shared} {a:Addr} {xs ys:List V}
theorem yK.of {K:FG_} (h:H a=some (.lst xs)):yK K H a xs:=.inl (.inl h)
theorem BL.of {K:FG_} (h:H a=some (.tup xs)):BL K H a xs:=.inl (.inl h)
theorem Inv.list (I:Inv X pins σ H s) (h:yK X.K H a xs):∃ its:List Value,Vals xs its/\PlainL s.heap a its.toArray/\xs.length<=sizeLine:=by
 rcases h with h|⟨o,its,n,hk,hc,hd,hs,hz,r⟩
 ·obtain⟨z,its,n,r,e⟩:=h.ok I.hok
  exact⟨its,r,⟨_,n,e,rfl,rfl,rfl⟩,z⟩
 ·refine⟨its.toList,r,⟨o,n,I.kIn a o hk,hc,hd,by simpa using hs⟩,?_⟩
  have e:=r.length
  simp only[ZE] at e
  omega
theorem Inv.tuple (I:Inv X pins σ H s) (h:BL X.K H a xs):∃ its:List Value,Vals xs its/\IsTup s.heap a its.toArray/\xs.length<=sizeLine:=by
 rcases h with h|⟨o,its,n,hk,hc,hs,hz,r⟩
 ·obtain⟨z,its,r,p⟩:=h.ok I.hok
  exact⟨its,r,p.weak,z⟩
 ·refine⟨its.toList,r,⟨o,I.kIn a o hk,hc.1,n,by simpa using hs⟩,?_⟩
  have e:=r.length
  simp only[ZE] at e
  omega
theorem Inv.T6 (I:Inv X pins σ H s) (h:yK X.K H a xs) (h':yK X.K H a ys):xs=ys:=by
 obtain⟨its,r,⟨o,n,e,_,_,d⟩,_⟩:=I.list h
 obtain⟨its',r',⟨o',n',e',_,_,d'⟩,_⟩:=I.list h'
 rw[e] at e';cases e'
 rw[d] at d'
 injection d' with d1 _
 have:its=its':=by simpa using congrArg Array.toList d1
 subst this
 exact r.inj r'
theorem Inv.O8 (I:Inv X pins σ H s) (h:BL X.K H a xs) (h':BL X.K H a ys):xs=ys:=by
 obtain⟨its,r,⟨o,e,_,n,d⟩,_⟩:=I.tuple h
 obtain⟨its',r',⟨o',e',_,n',d'⟩,_⟩:=I.tuple h'
 rw[e] at e';cases e'
 rw[d] at d'
 injection d' with d1 _
 have:its=its':=by simpa using congrArg Array.toList d1
 subst this
 exact r.inj r'
end
abbrev Cx.wish (X:Cx) (E:VP_):Cx:={ X with xe:=E }
abbrev Cx.nox (X:Cx):Cx:=X.wish fun _ _=>False
theorem Cx.Ok.wish {X:Cx} (ok:X.Ok) (E:VP_):(X.wish E).Ok:=
 ⟨ok.mod,ok.kind,ok.glob,ok.blt,ok.above,ok.inj,ok.has,ok.cab,ok.hd,ok.frames,ok.stk,ok.exf,ok.bs,ok.bsz,ok.aaP,ok.adQ,ok.Jp,ok.frf⟩
theorem Cx.Ok.vR {X:Cx} {E:VP_} (ok:(X.wish E).Ok):X.Ok:=
 ⟨ok.mod,ok.kind,ok.glob,ok.blt,ok.above,ok.inj,ok.has,ok.cab,ok.hd,ok.frames,ok.stk,ok.exf,ok.bs,ok.bsz,ok.aaP,ok.adQ,ok.Jp,ok.frf⟩
section
variable {X:Cx} {pins:List (Addr×Obj)} {σ:St} {H:Hp} {s:Shared} {E:VP_}
theorem Inv.wish (I:Inv X pins σ H s) (E:VP_):Inv (X.wish E) pins σ H s:=⟨I.ok.wish E,I.os,I.bare,I.base,I.loc,I.cell,I.free,I.rQ,I.pin,I.hok,I.len⟩
theorem Inv.vR (I:Inv (X.wish E) pins σ H s):Inv X pins σ H s:=⟨I.ok.vR,I.os,I.bare,I.base,I.loc,I.cell,I.free,I.rQ,I.pin,I.hok,I.len⟩
theorem SP.vR {D:Ends} {f:Flow} {s':Shared} (h:SP (X.wish E) pins D f s'):SP X pins D f s':=by
 cases f with
 |next=>obtain⟨σ',H',I,q⟩:=h;exact⟨σ',H',I.vR,q⟩
 |brk=>obtain⟨σ',H',I,q⟩:=h;exact⟨σ',H',I.vR,q⟩
 |cont=>obtain⟨σ',H',I,q⟩:=h;exact⟨σ',H',I.vR,q⟩
 |ret u=>obtain⟨v,σ',H',I,r,q⟩:=h;exact⟨v,σ',H',I.vR,r,q⟩
theorem PE.nox {e:Expr} {t:TE} (h:PE X.nox e t):PE X e t:=fun pins s σ H Q I hw=>
 Qb (h pins s σ H Q (I.wish _) hw) (fun _ _ ⟨v,H',I',r,q⟩=>⟨v,H',I'.vR,r,q⟩) fun _ _ z=>False.elim z
theorem PT.nox {e:Expr} {t:TT} (h:PT X.nox e t):PT X e t:=fun pins s σ H Q I hw=>
 Qb (h pins s σ H Q (I.wish _) hw) (fun _ _ ⟨H',I',q⟩=>⟨H',I'.vR,q⟩) fun _ _ z=>False.elim z
theorem XS.nox {st:List Stmt} {t:TS} (h:XS X.nox st t):XS X st t:=fun pins s σ H D I hw=>
 Qb (h pins s σ H D (I.wish _) hw) (fun _ _ q=>q.vR) fun _ _ z=>False.elim z
end
section
variable {X:Cx} {st:Stmt} {rest:List Stmt} {t u:TS} {e:Expr} {te:TE} {pos:Pos}
def aiD:TS:=fun D σ H=>D.nx σ H
def akN (t u:TS):TS:=fun D σ H=>t { D with nx:=u D } σ H
theorem adS:XS X [] aiD:=fun _ _ σ H _ I h=>wpAny_execs_nil ⟨σ,H,I,h⟩
theorem aaR (h1:PS X st t) (h2:XS X rest u):XS X (st::rest) (akN t u):=by
 intro pins s σ H D I h
 refine wpAny_execs_cons (mU (h1 pins s σ H { D with nx:=u D } I h) fun f s1 q=>?_)
 cases f with
 |next=>
  obtain⟨σ',H',I',q⟩:=q
  exact h2 pins s1 σ' H' D I' q
 |ret v=>exact q
 |brk=>exact q
 |cont=>exact q
theorem Inv.quiet {pins:List (Addr×Obj)} {σ:St} {H:Hp} {s:Shared} (I:Inv X pins σ H s):interactive X.env=false:=by simp[interactive,I.ok.kind]
def aiE (te:TE):TS:=fun D σ H=>te σ H fun _ H1=>D.nx σ H1
theorem adT (he:PE X e te) (hs:swapsWith e none pos.line X.env=pure false:=by rfl):PS X (.Expr e pos) (aiE te):=by
 intro pins s σ H D I h
 exact wpAny_Expr_any (mU (he pins s σ H _ I h) fun v s1 ⟨x,H1,I1,r1,q1⟩=>⟨σ,H1,I1,q1⟩) I.quiet hs
def akO (te:TE):TS:=fun D σ H=>te σ H D.rt
theorem aaS (he:PE X e te):PS X (.Return (some e) pos) (akO te):=by
 intro pins s σ H D I h
 exact wpAny_Return_some (mU (he pins s σ H _ I h) fun v s1 ⟨x,H1,I1,r1,q1⟩=>⟨x,σ,H1,I1,r1,q1⟩)
def akP (c:TT) (t u:TS):TS:=fun D σ H=>c σ H fun b H1=>if b=true then t D σ H1 else u D σ H1
theorem aiF {c:Expr} {a b:List Stmt} {tc:TT} (hc:PT X c tc) (ha:XS X a t) (hb:XS X b u):PS X (.If c a b pos) (akP tc t u):=by
 intro pins s σ H D I h
 refine wpAny_If (mU (hc pins s σ H _ I h) fun d s1 ⟨H1,I1,q1⟩=>?_)
 cases d with
 |true=>exact ha pins s1 σ H1 D I1 q1
 |false=>exact hb pins s1 σ H1 D I1 q1
end
abbrev TG:=V->St->Hp->(St->Hp->Prop)->Prop
abbrev TGs:=List V->St->Hp->(St->Hp->Prop)->Prop
def PG (X:Cx) (target:Expr) (t:TG):Prop:=
 ∀ (pins:List (Addr×Obj)) (s:Shared) (σ:St) (H:Hp) (v:V) (u:Value) (Q:St->Hp->Prop),Inv X pins σ H s->RelV v u->t v σ H Q →
  wpAny (model X.prog X.w) X.A (assign target X.env u) (fun _ s'=>∃ σ' H',Inv X pins σ' H' s'/\Q σ' H') X.xe s
def PGs (X:Cx) (ts:List Expr) (t:TGs):Prop:=
 ∀ (pins:List (Addr×Obj)) (s:Shared) (σ:St) (H:Hp) (vs:List V) (us:List Value) (Q:St->Hp->Prop),Inv X pins σ H s->Vals vs us->t vs σ H Q →
  wpAny (model X.prog X.w) X.A (assignInOrder ((assignEach ts X.env).map (·.2)) us) (fun _ s'=>∃ σ' H',Inv X pins σ' H' s'/\Q σ' H') X.xe s
section
variable {X:Cx} {pos:Pos}
def afH (i:Nat):TG:=fun v σ H Q=>Q (σ.set i (some v)) H
theorem X4 {i:Nat} {x:Str} (hN:X.N.Nodup) (hi:X.N[i]?=some x) (hx:Loc X.env.scope x) (hf:X.fn x=true\/X.env.scope.names.lookup x=some .local:=by first|exact .inl rfl|exact .inr rfl|assumption):PG X (.Name x pos) (afH i):=by
 intro pins s σ H v u Q I r h
 exact wpAny_assign_Name (DG I hN hi hx r (fun s' I'=>⟨_,H,I',h⟩) hf)
def akQ:TGs:=fun vs σ H Q=>vs=[]/\Q σ H
def aiG (t:TG) (u:TGs):TGs:=fun vs σ H Q=>∃ v r,vs=v::r/\t v σ H fun σ' H'=>u r σ' H' Q
theorem adU:PGs X [] akQ:=by
 intro pins s σ H vs us Q I r h
 obtain⟨e,h⟩:=h
 subst e
 cases r
 exact assignInOrder_nil ⟨σ,H,I,h⟩
theorem aaT {e:Expr} {es:List Expr} {t:TG} {u:TGs} (h1:PG X e t) (h2:PGs X es u)
  (hs:(assignEach (e::es) X.env).map (·.2)=assign e X.env::(assignEach es X.env).map (·.2):=by rfl):PGs X (e::es) (aiG t u):=by
 intro pins s σ H vs us Q I r h
 obtain⟨v,vr,e1,h⟩:=h
 subst e1
 cases r with
 |cons r rr=>
  rw[hs]
  refine assignInOrder_cons (mU (h1 pins s σ H _ _ _ I r h) fun _ s1 ⟨σ1,H1,I1,q1⟩=>?_)
  exact h2 pins s1 σ1 H1 _ _ Q I1 rr q1
def akR (K:FG_) (n:Nat) (t:TGs):TG:=fun v σ H Q=>∃ a xs,v=.ref a/\BL K H a xs/\xs.length=n/\t xs σ H Q
theorem agH {es:List Expr} {k:Nat} {t:TGs} {n:Nat} (hc:X.calm=true) (h:PGs X es t)
  (hn:(assignEach es X.env).length=n:=by rfl) (hst:(assignEach es X.env).findIdx? (·.1)=none:=by rfl):PG X (.Tuple es k pos) (akR X.K n t):=by
 intro pins s σ H v u Q I r hw
 obtain⟨a,xs,e1,hq,hl,hw⟩:=hw
 subst e1
 cases r
 obtain⟨its,rv,ht,hz⟩:=I.tuple hq
 refine assign_Tuple_tuple (I.ok.hd hc) ht (by simp[hn,<-hl,rv.length]) hst fun h' hx=>?_
 have I1:Inv X pins σ H { s with heap:=h' }:=I.kept (t':=s.toks) fun b o e=>hx b o (Zl (zD e)) e
 exact h pins _ σ H xs _ Q I1 (by simpa using rv) hw
def aiH (te:TE) (g:TG):TS:=fun D σ H=>te σ H fun x H1=>g x σ H1 D.nx
theorem agI {tg e:Expr} {te:TE} {g:TG} (he:PE X e te) (hg:PG X tg g) (hs:swapsWithSole [tg] e pos.line X.env=pure false:=by rfl) (hw:swappedStores [tg] e X.env=pure none:=by rfl)
  (h1:(assignEach [tg] X.env).map (·.2)=[assign tg X.env]:=by rfl):PS X (.Assign [tg] e pos) (aiH te g):=by
 intro pins s σ H D I h
 refine wpAny_Assign_stores (mU (he pins s σ H _ I h) fun v s1 ⟨x,H1,I1,r1,q1⟩=>?_) hs hw
 rw[h1]
 exact mU (hg pins s1 σ H1 x v _ I1 r1 q1) fun _ s2 q=>q
theorem agJ {i:Nat} {x:Str} {e:Expr} {te:TE} {pos':Pos} (hN:X.N.Nodup) (hi:X.N[i]?=some x) (hx:Loc X.env.scope x) (he:PE X e te) (hs:swapsWith e (some (.Name x pos')) pos.line X.env=pure false:=by rfl) (hf:X.fn x=true\/X.env.scope.names.lookup x=some .local:=by first|exact .inl rfl|exact .inr rfl|assumption) :
  PS X (.Assign [.Name x pos'] e pos) (aiH te (afH i)):=by
 intro pins s σ H D I h
 refine wpAny_Assign_Name (mU (he pins s σ H _ I h) fun v s1 ⟨y,H1,I1,r1,q1⟩=>?_) hs
 exact DG I1 hN hi hx r1 (fun s2 I2=>⟨_,H1,I2,q1⟩) hf
def akS (i j:Nat) (ta:TA):TS:=fun D σ H=>ta σ H fun vs H1=>∃ v w,vs=[v,w]/\D.nx ((σ.set i (some v)).set j (some w)) H1
theorem agK {i j:Nat} {x y:Str} {a b:Expr} {ta:TA} {px py pt:Pos} {kt k2 pt2} (hc:X.calm=true) (hN:X.N.Nodup) (hi:X.N[i]?=some x) (hj:X.N[j]?=some y) (hij:i≠j)
  (hx:X.env.scope.names.lookup x=some .local) (hy:X.env.scope.names.lookup y=some .local) (ha:PA X [a,b] ta)
  (hw:swappedStores [.Tuple [.Name x px,.Name y py] kt pt] (.Tuple [a,b] k2 pt2) X.env=pure (some [x,y]))
  (hs:swapsWithSole [.Tuple [.Name x px,.Name y py] kt pt] (.Tuple [a,b] k2 pt2) pos.line X.env=pure false:=by rfl) :
  PS X (.Assign [.Tuple [.Name x px,.Name y py] kt pt] (.Tuple [a,b] k2 pt2) pos) (akS i j ta):=by
 intro pins s σ H D I h
 rw[exec_Assign_arm]
 refine zd (wpAny_standAt ?_)
 rw[hs]
 refine zd (ze ?_)
 rw[zI (by decide)]
 refine zd (Tuple_ (mU (ha _ pins s σ H _ I h) fun us s1 ⟨vs,H1,I1,r1,q1⟩=>?_))
 obtain⟨v,w,e1,q1⟩:=q1
 subst e1
 obtain⟨u1,u2,rfl,rv,rw'⟩:∃ u1 u2,us=[u1,u2]/\RelV v u1/\RelV w u2:=by
  cases r1 with
  |cons p q=>
   cases q with
   |cons p' q'=>
    cases q'
    exact⟨_,_,rfl,p,p'⟩
 refine ZZ ?_ (by show 2<=sizeLine;decide)
 have I2:Inv X pins σ H1 { s1 with heap:=s1.heap.push { cls:=.type "tuple", data:=.seq [u1,u2].toArray } }:=I1.kept (t':=s1.toks) fun b o e=>zg _ e
 rw[hw]
 refine zd (ze ?_)
 show wpAny (model X.prog X.w) X.A (do rule "assign.swapped-stores"; let items <-unpackItems (.ref s1.heap.objs.size) 2 none;assignInOrder [fun v=>bindName X.env y v,fun v=>bindName X.env x v] items.reverse;pure Flow.next) _ _ _
 refine zd (kq (zd (unpackItems_tuple (items:=#[u1,u2]) (I.ok.hd hc) (IsTup.new s1.heap _) fun h' hx'=>?_)))
 have I3:=I2.kept (h':=h') (t':=s1.toks) fun b o e=>hx' b o (Zl (zD e)) e
 show wpAny _ _ (assignInOrder [fun v=>bindName X.env y v,fun v=>bindName X.env x v] [u2,u1] >>= fun _=>pure Flow.next) _ _ _
 refine zd (assignInOrder_cons (wpAny_bindName (DG I3 hN hj (.inl hy) rw' (fun s2 I4=>?_) (.inr hy))))
 refine assignInOrder_cons (wpAny_bindName (DG I4 hN hi (.inl hx) rv (fun s3 I5=>assignInOrder_nil (ze ?_)) (.inr hx)))
 rw[List.set_comm _ _ (Ne.symm hij)] at I5
 exact⟨_,H1,I5,q1⟩
end
structure It where
 go:Nat->Hp->Prop
 yld:Nat->Hp->V->Hp->Prop
 stop:Nat->Hp->Prop
def BP (X:Cx) (pins:List (Addr×Obj)) (H:Hp) (b:Addr):Prop:=
 H b=none/\b≠X.env.locals/\b∉X.fs/\(b∈X.ex\/X.s₀.heap.objs.size<=b)/\(∀ x c,X.env.cells.lookup x=some c->c≠b)/\∀ p∈X.pn++pins,p.1≠b
theorem Inv.adV {X:Cx} {pins:List (Addr×Obj)} {σ:St} {H H':Hp} {s:Shared} {b:Addr} (I:Inv X pins σ H s) (hb:s.heap.objs.size<=b) (hn:H' b=none):BP X pins H' b:=by
 refine⟨hn,Nat.ne_of_gt (ZN I.lt hb),I.akK hb,.inr (zw I.sz hb),fun x c e z=>?_,fun p hp z=>?_⟩
 ·obtain⟨v,q⟩:=I.cell x c e
  exact absurd (ZN q.lt (by rw[z];exact hb)) (QY _)
 ·exact absurd (ZN (zD (I.pin p hp).1) (by rw[z];exact hb)) (QY _)
structure Turn (P:Program) (w:World) (K:FG_) (tg:Expr) (J:It) (fp:List Addr) (it:Addr) (tn:Nat->Heap->Prop):Prop where
 mem:it∈fp
 obj:∀ i h,tn i h->∀ b∈fp,∃ o,h.get? b=some o/\∀ v,o.data≠.cell v
 keep:∀ i h h',tn i h->(∀ b∈fp,∀ o,h.get? b=some o->h'.get? b=some o)->tn i h'
 item:∀ (X:Cx),X.prog=P->X.w=w->X.K=K->X.calm=true->∀ (i:Nat) (pins:List (Addr×Obj)) (s:Shared) (σ:St) (H:Hp) (E:VP_),Inv X pins σ H s->(∀ b∈fp,BP X pins H b)->tn i s.heap->J.go i H →
  wpAny (model P w) X.A (pyNext (.ref it)) (fun r s1=>∃ u,r=some u ∧
   wpAny (model P w) X.A (letOwnedTupleGo tg (.ref it) u) (fun _ s2=>∃ x H',Inv X pins σ H' s2/\RelV x u/\J.yld i H x H'/\tn (i+1) s2.heap/\∀ b∈fp,H' b=none) E s1) E s
 done:∀ (X:Cx),X.prog=P->X.w=w->X.K=K->X.calm=true->∀ (i:Nat) (pins:List (Addr×Obj)) (s:Shared) (σ:St) (H:Hp) (E:VP_),Inv X pins σ H s->(∀ b∈fp,BP X pins H b)->tn i s.heap->J.stop i H →
  wpAny (model P w) X.A (pyNext (.ref it)) (fun r s1=>r=none/\Inv X pins σ H s1) E s
 self:∀ (A:Around) (i:Nat) (s:Shared) (Q:VP_) (E:VP_),tn i s.heap->Q (.ref it) s->wpAny (model P w) A (pyIter (.ref it)) Q E s
abbrev TI:=St->Hp->(It->Hp->Prop)->Prop
def PIE (X:Cx) (pins:List (Addr×Obj)) (σ:St) (tg:Expr) (R:It->Hp->Prop) (itv:Value) (s2:Shared):Prop:=
 ∃ (it:Addr) (fp:List Addr) (tn:Nat->Heap->Prop) (J:It) (H':Hp),itv=.ref it/\Inv X pins σ H' s2/\Turn X.prog X.w X.K tg J fp it tn/\tn 0 s2.heap/\(∀ b∈fp,BP X pins H' b)/\R J H'
def PI (X:Cx) (tg iter:Expr) (wi:TI):Prop:=
 ∀ (pins:List (Addr×Obj)) (s:Shared) (σ:St) (H:Hp) (R:It->Hp->Prop),Inv X pins σ H s->wi σ H R →
  wpAny (model X.prog X.w) X.A (eval iter X.env) (fun v s1=>wpAny (model X.prog X.w) X.A (pyIter v) (PIE X pins σ tg R) X.xe s1) X.xe s
theorem T7 {M:Model} {A:Around} {E:VP_} {s:Shared} {tg:Expr} {it:Addr} {u:Value} {o:Obj} {n:String} {vs:Array Value} {Q:Unit->Shared->Prop} (ho:s.heap.get? it=some o) (hc:o.cls=.type n) (hd:o.data=.fields vs)
  (hn:["enumerate", "zip", "dict_itemiterator", "dict_reverseitemiterator", "odict_iterator", "itertools.zip_longest", "itertools.pairwise"].contains n=false) (hQ:Q () s):wpAny M A (letOwnedTupleGo tg (.ref it) u) Q E s:=by
 unfold letOwnedTupleGo
 cases tg<;>first
  |exact ze hQ
  |(cases u<;>first
    |exact ze hQ
    |(refine zd (wpAny_load ho ?_)
      rw[hc,hd]
      show wpAny M A (if (["enumerate", "zip", "dict_itemiterator", "dict_reverseitemiterator", "odict_iterator", "itertools.zip_longest", "itertools.pairwise"].contains n&&vs[0]?==some (rawInt _))=true then _ else _) Q E s
      rw[zI (by intro h;rw[hn,kb] at h;cases h)]
      exact ze hQ))
def Itl (K:FG_) (a:Addr):It:=
 ⟨fun i H=>∃ xs x,yK K H a xs/\xs[i]?=some x,fun i H x H'=>H'=H/\∀ xs,yK K H a xs->xs[i]?=some x,fun i H=>∃ xs,yK K H a xs/\xs.length<=i⟩
def Itt (K:FG_) (a:Addr):It:=
 ⟨fun i H=>∃ xs x,BL K H a xs/\xs[i]?=some x,fun i H x H'=>H'=H/\∀ xs,BL K H a xs->xs[i]?=some x,fun i H=>∃ xs,BL K H a xs/\xs.length<=i⟩
def Itr (lo:Int) (n:Nat):It:=⟨fun i _=>i < n,fun i H x H'=>H'=H/\x=.int (lo+i),fun i _=>n<=i⟩
theorem Y9 {P:Program} {w:World} {K:FG_} {tg:Expr} (a it:Addr):Turn P w K tg (Itl K a) [it] it (fun i h=>h.IsListIter it a i) where
 mem:=by simp
 obj:=fun i h st b hb=>by
  have e:b=it:=by simpa using hb
  subst e
  obtain⟨o,e,c,d⟩:=st
  exact⟨o,e,fun v z=>by rw[d] at z;cases z⟩
 keep:=fun i h h' st k=>st.at fun o e=>k it (by simp) o e
 item:=by
  intro X hP hw hK hc i pins s σ H E I hf st hg
  subst hP hw hK
  obtain⟨xs,x,hq,hx⟩:=hg
  obtain⟨its,rv,p,hz⟩:=I.list hq
  obtain⟨u,hu,ru⟩:=rv.get hx
  obtain⟨f0,f1,f2,f3,f4,f5⟩:=hf it (by simp)
  refine wpAny_pyNext_list_item st p.isList (x:=u) (by simpa using hu) fun h' st' sb=>?_
  have I1:Inv X pins σ H { s with heap:=h' }:=I.turned (t':=s.toks) (fun b o hb e=>(sb.2 b hb).trans e) f0 f1 f3 f4 f5
  obtain⟨o,e,c,d⟩:=id st'
  exact⟨u,rfl,T7 (s:={ s with heap:=h' }) e c d (by decide) ⟨x,H,I1,ru,⟨rfl,fun ys hy=>by rw[I.T6 hy hq];exact hx⟩,st',fun b hb=>(hf b hb).1⟩⟩
 done:=by
  intro X hP hw hK hc i pins s σ H E I hf st hg
  subst hP hw hK
  obtain⟨xs,hq,hx⟩:=hg
  obtain⟨its,rv,p,hz⟩:=I.list hq
  obtain⟨f0,f1,f2,f3,f4,f5⟩:=hf it (by simp)
  have hl:=rv.length
  exact wpAny_pyNext_list_end (I.ok.hd hc) st p.isList (by simp;omega) fun h' eb=>⟨rfl,I.turned (t':=s.toks) (fun b o hb e=>eb b o hb e) f0 f1 f3 f4 f5⟩
 self:=fun _ _ _ _ _ st h=>wpAny_pyIter_listiter st h
theorem Wm {P:Program} {w:World} {K:FG_} {tg:Expr} (a it:Addr):Turn P w K tg (Itt K a) [it] it (fun i h=>h.IsTupleIter it a i) where
 mem:=by simp
 obj:=fun i h st b hb=>by
  have e:b=it:=by simpa using hb
  subst e
  obtain⟨o,e,c,d⟩:=st
  exact⟨o,e,fun v z=>by rw[d] at z;cases z⟩
 keep:=fun i h h' st k=>st.at fun o e=>k it (by simp) o e
 item:=by
  intro X hP hw hK hc i pins s σ H E I hf st hg
  subst hP hw hK
  obtain⟨xs,x,hq,hx⟩:=hg
  obtain⟨its,rv,p,hz⟩:=I.tuple hq
  obtain⟨u,hu,ru⟩:=rv.get hx
  obtain⟨f0,f1,f2,f3,f4,f5⟩:=hf it (by simp)
  refine wpAny_pyNext_tuple_item st (show s.heap.IsTuple a its.toArray from p) (x:=u) (by simpa using hu) fun h' st' sb=>?_
  have I1:Inv X pins σ H { s with heap:=h' }:=I.turned (t':=s.toks) (fun b o hb e=>(sb.2 b hb).trans e) f0 f1 f3 f4 f5
  obtain⟨o,e,c,d⟩:=id st'
  exact⟨u,rfl,T7 (s:={ s with heap:=h' }) e c d (by decide) ⟨x,H,I1,ru,⟨rfl,fun ys hy=>by rw[I.O8 hy hq];exact hx⟩,st',fun b hb=>(hf b hb).1⟩⟩
 done:=by
  intro X hP hw hK hc i pins s σ H E I hf st hg
  subst hP hw hK
  obtain⟨xs,hq,hx⟩:=hg
  obtain⟨its,rv,p,hz⟩:=I.tuple hq
  obtain⟨f0,f1,f2,f3,f4,f5⟩:=hf it (by simp)
  have hl:=rv.length
  exact wpAny_pyNext_tuple_end (I.ok.hd hc) st (show s.heap.IsTuple a its.toArray from p) (by simp;omega) fun h' eb=>⟨rfl,I.turned (t':=s.toks) (fun b o hb e=>eb b o hb e) f0 f1 f3 f4 f5⟩
 self:=fun _ _ _ _ _ st h=>wpAny_pyIter_tupleiter st h
theorem Wn {P:Program} {w:World} {K:FG_} {tg:Expr} (it:Addr) (lo:Int) (n:Nat):Turn P w K tg (Itr lo n) [it] it (fun i h=>IsRangeIter h it (lo+(i:Nat) * 1) ((n:Int) - (i:Nat)) 1) where
 mem:=by simp
 obj:=fun i h st b hb=>by
  have e:b=it:=by simpa using hb
  subst e
  exact⟨_,st,fun v z=>by
   have z':Data.fields _=Data.cell v:=z
   cases z'⟩
 keep:=fun i h h' st k=>k it (by simp) _ st
 item:=by
  intro X hP hw hK hc i pins s σ H E I hf st hg
  subst hP hw hK
  obtain⟨f0,f1,f2,f3,f4,f5⟩:=hf it (by simp)
  have W:=Walks.range (prog:=X.prog) (w:=X.w) (I.ok.hd hc) it lo 1 n
  refine W.item i s _ _ hg st fun v h' tk hv st' kk=>?_
  obtain⟨t,rfl⟩:=hv
  have I1:Inv X pins σ H { s with heap:=h',toks:=tk }:=I.turned (fun b o hb e=>kk b o (by simpa using hb) e) f0 f1 f3 f4 f5
  refine⟨_,rfl,T7 (s:={ s with heap:=h',toks:=tk }) (n := "range_iterator") st' rfl rfl (by decide) ⟨.int (lo+i),H,I1,⟨t,?_⟩,⟨rfl,rfl⟩,st',fun b hb=>(hf b hb).1⟩⟩
  rw[Int.mul_one]
 done:=by
  intro X hP hw hK hc i pins s σ H E I hf st hg
  subst hP hw hK
  obtain⟨f0,f1,f2,f3,f4,f5⟩:=hf it (by simp)
  exact wpAny_pyNext_range_end (I.ok.hd hc) st (by have:n<=i:=hg;omega) fun h' eb=>⟨rfl,I.turned (t':=s.toks) (fun b o hb e=>eb b o hb e) f0 f1 f3 f4 f5⟩
 self:=fun _ _ _ _ _ st h=>wpAny_pyIter_rangeiter st h
end L2
namespace L2
open PySem PySem.Spec PyProof.Rows
section
variable {X:Cx} {tg:Expr}
theorem aaU {pins:List (Addr×Obj)} {σ:St} {H:Hp} {s:Shared} {R:It->Hp->Prop} {E:VP_} {lo hi:Int} {t u v:Tok} {tk:Nat} (I:Inv X pins σ H s) (h1 : -(2 ^ 62)<=lo) (h2:lo < 2 ^ 62) (h3 : -(2 ^ 62)<=hi) (h4:hi < 2 ^ 62)
  (q:R (Itr lo (hi - lo).toNat) H):wpAny (model X.prog X.w) X.A (pyIter (.ref s.heap.objs.size)) (PIE X pins σ tg R) E { s with heap:=s.heap.push { cls:=.type "range", data:=.fields #[.int lo t,.int hi u,.int 1 v] },toks:=tk }:=by
 refine wpAny_pyIter_range (IsRange.new ..) (small_one h1 h2 h3 h4) ?_
 have I1:Inv X pins σ H { s with heap:=s.heap.push { cls:=.type "range", data:=.fields #[.int lo t,.int hi u,.int 1 v] },toks:=tk }:=I.kept fun b o e=>zg _ e
 refine⟨(s.heap.push { cls:=.type "range", data:=.fields #[.int lo t,.int hi u,.int 1 v] }).objs.size,[(s.heap.push { cls:=.type "range", data:=.fields #[.int lo t,.int hi u,.int 1 v] }).objs.size],_,_,H,rfl,
  I1.kept (t':=tk) fun b o e=>zg _ e,Wn _ lo (hi - lo).toNat,?_,fun b hb=>?_,q⟩
 ·have e1:lo+((0:Nat):Int) * 1=lo:=by simp
  have e2:(((hi - lo).toNat:Nat):Int) - ((0:Nat):Int)=Builtin.Range.rangeSize lo hi 1:=by rw[rangeSize_one];split<;>omega
  show IsRangeIter _ _ (lo+((0:Nat):Int) * 1) ((((hi - lo).toNat:Nat):Int) - ((0:Nat):Int)) 1
  rw[e1,e2]
  exact zC _ rfl
 ·have e:b=(s.heap.push { cls:=.type "range", data:=.fields #[.int lo t,.int hi u,.int 1 v] }).objs.size:=by simpa using hb
  subst e
  exact I1.adV (zi _) (I1.hok.fresh (zi _))
def aiJ (ta:TA):TI:=fun σ H R=>ta σ H fun vs H1=>∃ j:Int,vs=[.int j] ∧ -(2 ^ 62)<=j/\j < 2 ^ 62/\R (Itr 0 j.toNat) H1
theorem Za {a:Expr} {ta:TA} {p pos:Pos} (hg:Gl X "range") (hm:X.mg "range" = none) (ha:PA X [a] ta) (hs:starEach [a] X.env=[(false,eval a X.env)]:=by rfl):PI X tg (.Call (.Name "range" p) [a] [] pos) (aiJ ta):=by
 intro pins s σ H R I h
 refine Call_ (Q6 I hg hm boot_range (PyProof.Rows.callWith_type1 (mU (ha pos pins s σ H _ I h) fun us s1 ⟨vs,H1,I1,r1,q1⟩=>?_) hs rfl))
 obtain⟨j,e,q1,q2,q⟩:=q1
 subst e
 cases r1 with
 |cons r rr=>
  cases rr
  obtain⟨t,rfl⟩:=r
  exact call_range_1 (aaU I1 (by omega) (by omega) q1 q2 (by simpa using q))
def akU (wi:TI) (g:TG) (tb:TS):TS:=fun D σ H=>wi σ H fun J H1=>∃ W:Nat->Nat->St->Hp->Prop,(∃ m,W 0 m σ H1)/\∀ i m σ H,W i m σ H →
 (J.stop i H/\D.nx σ H)\/(J.go i H/\∃ N:St->Hp->Prop,(∀ σ' H',N σ' H'->∃ m',m' < m/\W (i+1) m' σ' H')/\∀ x H',J.yld i H x H'->g x σ H' fun σ2 H2=>tb { D with nx:=N,ct:=N,bk:=D.nx } σ2 H2)
def Gk (fp:List Addr) (h:Heap):List (Addr×Obj):=fp.filterMap fun b=>(h.get? b).map fun o=>(b,o)
theorem xO {fp:List Addr} {h:Heap} {b:Addr} {o:Obj} (hb:b∈fp) (e:h.get? b=some o):(b,o)∈Gk fp h:=List.mem_filterMap.mpr ⟨b,hb,by rw[e];rfl⟩
theorem Zb {fp:List Addr} {h:Heap} {p:Addr×Obj} (hp:p∈Gk fp h):p.1∈fp/\h.get? p.1=some p.2:=by
 obtain⟨b,hb,e⟩:=List.mem_filterMap.mp hp
 cases q:h.get? b with
 |none=>rw[q] at e;cases e
 |some o=>
  rw[q] at e
  have e':(b,o)=p:=jS e
  subst e'
  exact⟨hb,q⟩
theorem Inv.pinned {pins:List (Addr×Obj)} {σ:St} {H:Hp} {s:Shared} {fp:List Addr} (I:Inv X pins σ H s) (hf:∀ b∈fp,BP X pins H b) (ho:∀ b∈fp,∃ o,s.heap.get? b=some o/\∀ v,o.data≠.cell v):Inv X (pins++Gk fp s.heap) σ H s:=
 I.Q0 fun p hp=>(List.mem_append.mp hp).elim (fun z=>I.pin p (qa _ z)) fun z=>by
  obtain⟨hb,e⟩:=Zb z
  obtain⟨f0,f1,f2,_⟩:=hf p.1 hb
  obtain⟨o,e',d⟩:=ho p.1 hb
  rw[e] at e';cases e'
  exact⟨e,f0,f1,f2,d⟩
theorem Inv.zG {pins pl:List (Addr×Obj)} {σ:St} {H:Hp} {s:Shared} (I:Inv X (pins++pl) σ H s):Inv X pins σ H s:=I.Q0 fun p hp=>I.pin p (qa _ (List.mem_append_left _ hp))
theorem aaV {iter:Expr} {body:List Stmt} {wi:TI} {g:TG} {tb:TS} {pos:Pos} (hp:PassesOwn (model X.prog X.w) X.A X.env X.xe) (hc:X.calm=true) (hi:PI X tg iter wi) (hg:PG X tg g) (hb:XS X body tb)
  (hs:∀ x,foldedSetIterable iter X.env x=pure x:=by intro _;rfl):PS X (.For tg iter body [] pos) (akU wi g tb):=by
 intro pins s σ H D I h
 refine wpAny_For (mU (hi pins s σ H _ I h) fun v s1 h1=>mU h1 fun itv s2 h2=>?_) hs
 obtain⟨it,fp,tn,J,H2,e,I2,T,st2,f2,W,⟨m0,w0⟩,turn⟩:=h2
 subst e
 have stat:∀ {H':Hp},(∀ b∈fp,H' b=none)->∀ b∈fp,BP X pins H' b:=fun hn b hb=>⟨hn b hb,(f2 b hb).2⟩
 refine codeAny_forLoop_any (fun n s'=>∃ i σ' H',Inv X pins σ' H' s'/\tn i s'.heap/\(∀ b∈fp,H' b=none)/\W i n σ' H') ?_ m0 ⟨0,σ,H2,I2,st2,fun b hb=>(f2 b hb).1,w0⟩
 rintro n s3 ⟨i,σ3,H3,I3,st3,fr3,w3⟩
 rcases turn i n σ3 H3 w3 with⟨stop,qn⟩|⟨go,N,hN,step⟩
 ·refine kM hp (mU (T.done X rfl rfl rfl hc i pins s3 σ3 H3 X.xe I3 (stat fr3) st3 stop) fun r s4 ⟨hr,I4⟩=>?_)
  subst hr
  exact wpAny_execs_nil ⟨σ3,H3,I4,qn⟩
 ·refine kM hp (mU (T.item X rfl rfl rfl hc i pins s3 σ3 H3 X.xe I3 (stat fr3) st3 go) fun r s4 ⟨u,hr,h4⟩=>?_)
  subst hr
  refine kM hp (mU h4 fun _ s5 ⟨x,H5,I5,r5,y5,st5,fr5⟩=>?_)
  have I5':=I5.pinned (stat fr5) (T.obj _ _ st5)
  refine kM hp (mU (hg _ s5 σ3 H5 x u _ I5' r5 (step x H5 y5)) fun _ s6 ⟨σ6,H6,I6,q6⟩=>?_)
  refine kM hp (mU (hb _ s6 σ6 H6 _ I6 q6) fun f s7 q7=>?_)
  have again:∀ {σ7:St} {H7:Hp},Inv X (pins++Gk fp s5.heap) σ7 H7 s7->N σ7 H7->∃ m,m < n/\∃ i σ' H',Inv X pins σ' H' s7/\tn i s7.heap/\(∀ b∈fp,H' b=none)/\W i m σ' H':=fun {σ7 H7} I7 n7=>by
   obtain⟨m',hm,w7⟩:=hN σ7 H7 n7
   refine⟨m',hm,i+1,σ7,H7,I7.zG,T.keep _ _ _ st5 fun b hb o e=>(I7.pin (b,o) (qa _ (qa _ (xO hb e)))).1,fun b hb=>?_,w7⟩
   obtain⟨o,e,d⟩:=T.obj _ _ st5 b hb
   exact (I7.pin (b,o) (qa _ (qa _ (xO hb e)))).2.1
  cases f with
  |next=>obtain⟨σ7,H7,I7,n7⟩:=q7;exact again I7 n7
  |cont=>obtain⟨σ7,H7,I7,n7⟩:=q7;exact again I7 n7
  |brk=>obtain⟨σ7,H7,I7,q7⟩:=q7;exact⟨σ7,H7,I7.zG,q7⟩
  |ret v=>obtain⟨x7,σ7,H7,I7,r7,q7⟩:=q7;exact⟨x7,σ7,H7,I7.zG,r7,q7⟩
end
end L2
namespace L2
open PySem PySem.Spec PyProof.Rows
abbrev R2:=V->V->Hp->VK->Prop
def Bc (X:Cx) (f:Value->Value->Sem Value) (r:R2):Prop:=
 ∀ (pins:List (Addr×Obj)) (s:Shared) (σ:St) (H:Hp) (x y:V) (v u:Value) (Q:VK),Inv X pins σ H s->RelV x v->RelV y u->r x y H Q →
  wpAny (model X.prog X.w) X.A (f v u) (EP X pins σ Q) X.xe s
def UnR (X:Cx) (f:Value->Sem Value) (r:V->Hp->VK->Prop):Prop:=
 ∀ (pins:List (Addr×Obj)) (s:Shared) (σ:St) (H:Hp) (x:V) (v:Value) (Q:VK),Inv X pins σ H s->RelV x v->r x H Q →
  wpAny (model X.prog X.w) X.A (f v) (EP X pins σ Q) X.xe s
def gn (X:Cx) (f:Value) (r:List V->Hp->VK->Prop):Prop:=
 ∀ (pins:List (Addr×Obj)) (s:Shared) (σ:St) (H:Hp) (xs:List V) (us:List Value) (Q:VK),Inv X pins σ H s->Vals xs us->r xs H Q →
  wpAny (model X.prog X.w) X.A (call f us) (EP X pins σ Q) X.xe s
def akW (X:Cx) (r:V->Hp->(Bool->Hp->Prop)->Prop):Prop:=
 ∀ (pins:List (Addr×Obj)) (s:Shared) (σ:St) (H:Hp) (x:V) (v:Value) (Q:Bool->Hp->Prop),Inv X pins σ H s->RelV x v->r x H Q →
  wpAny (model X.prog X.w) X.A (truthy v) (TP X pins σ Q) X.xe s
def tOp (r:R2) (ta tb:TE):TE:=fun σ H Q=>ta σ H fun x H1=>tb σ H1 fun y H2=>r x y H2 Q
def tUn (r:V->Hp->VK->Prop) (ta:TE):TE:=fun σ H Q=>ta σ H fun x H1=>r x H1 Q
def rI (C:Int->Int->Prop) (g:Int->Int->V):R2:=fun x y H Q=>∃ i j,x=.int i/\y=.int j/\C i j/\Q (g i j) H
def rI0 (g:Int->Int->V):R2:=fun x y H Q=>∃ i j,x=.int i/\y=.int j/\Q (g i j) H
def rU (g:Int->V):V->Hp->VK->Prop:=fun x H Q=>∃ i,x=.int i/\Q (g i) H
section
variable {X:Cx} {a b c:Expr} {ta tb tc:TE} {pos:Pos}
theorem agM (ha:PE X a ta) (hb:PE X b tb) {pins:List (Addr×Obj)} {s:Shared} {σ:St} {H:Hp} {R:V->V->Hp->Prop} (I:Inv X pins σ H s)
  (h:ta σ H fun x H1=>tb σ H1 fun y H2=>R x y H2) {Q:VP_} {f:Value->Value->Sem Value}
  (hf:∀ v u s2 x y H2,Inv X pins σ H2 s2->RelV x v->RelV y u->R x y H2->wpAny (model X.prog X.w) X.A (f v u) Q X.xe s2) :
  wpAny (model X.prog X.w) X.A (eval a X.env) (fun v s₁=>wpAny (model X.prog X.w) X.A (eval b X.env) (fun u s₂=>wpAny (model X.prog X.w) X.A (f v u) Q X.xe s₂) X.xe s₁) X.xe s:=by
 refine mU (ha pins s σ H _ I h) fun v s1 ⟨x,H1,I1,r1,q1⟩=>?_
 refine mU (hb pins s1 σ H1 _ I1 q1) fun u s2 ⟨y,H2,I2,r2,q2⟩=>?_
 exact hf v u s2 x y H2 I2 r1 r2 q2
theorem aiL {op:Operator} {r:R2} (ho:Bc X (binaryOp op) r) (ha:PE X a ta) (hb:PE X b tb):PE X (.BinOp a op b pos) (tOp r ta tb):=by
 intro pins s σ H Q I h
 exact wpAny_BinOp (agM ha hb I h fun v u s2 x y H2 I2 rx ry q=>ho pins s2 σ H2 x y v u Q I2 rx ry q)
theorem aiM {op:UnaryOp} {r:V->Hp->VK->Prop} (ho:UnR X (unaryOp op) r) (ha:PE X a ta):PE X (.UnaryOp op a pos) (tUn r ta):=by
 intro pins s σ H Q I h
 exact UnaryOp_ (mU (ha pins s σ H _ I h) fun v s1 ⟨x,H1,I1,r1,q1⟩=>ho pins s1 σ H1 x v Q I1 r1 q1)
theorem opI {f:Value->Value->Sem Value} {C:Int->Int->Prop} {g:Int->Int->Int}
  (rule:∀ (i j:Int) (t u:Tok) (s:Shared) (Q:VP_) (E:VP_),C i j->Q (.int (g i j) s.toks) { s with toks:=s.toks+1 }->wpAny (model X.prog X.w) X.A (f (.int i t) (.int j u)) Q E s) :
  Bc X f (rI C fun i j=>.int (g i j)):=by
 intro pins s σ H x y v u Q I rx ry h
 obtain⟨i,j,rfl,rfl,hc,q⟩:=h
 obtain⟨t,rfl⟩:=rx
 obtain⟨t',rfl⟩:=ry
 exact rule i j t t' s _ _ hc ⟨.int (g i j),H,I.tok _,⟨_,rfl⟩,q⟩
theorem aiN {f:Value->Value->Sem Value} {g:Int->Int->Int}
  (rule:∀ (i j:Int) (t u:Tok) (s:Shared) (Q:VP_) (E:VP_),Q (.int (g i j) s.toks) { s with toks:=s.toks+1 }->wpAny (model X.prog X.w) X.A (f (.int i t) (.int j u)) Q E s) :
  Bc X f (rI0 fun i j=>.int (g i j)):=by
 intro pins s σ H x y v u Q I rx ry h
 obtain⟨i,j,rfl,rfl,q⟩:=h
 obtain⟨t,rfl⟩:=rx
 obtain⟨t',rfl⟩:=ry
 exact rule i j t t' s _ _ ⟨.int (g i j),H,I.tok _,⟨_,rfl⟩,q⟩
theorem adW {f:Value->Value->Sem Value} {g:Int->Int->Bool}
  (rule:∀ (i j:Int) (t u:Tok) (s:Shared) (Q:VP_) (E:VP_),Q (.bool (g i j)) s->wpAny (model X.prog X.w) X.A (f (.int i t) (.int j u)) Q E s) :
  Bc X f (rI0 fun i j=>.bl (g i j)):=by
 intro pins s σ H x y v u Q I rx ry h
 obtain⟨i,j,rfl,rfl,q⟩:=h
 obtain⟨t,rfl⟩:=rx
 obtain⟨t',rfl⟩:=ry
 exact rule i j t t' s _ _ ⟨.bl (g i j),H,I,rfl,q⟩
def akX (i j:Int):Prop:=0 < j/\j < 1073741824
def akY (i j:Int):Prop:=0<=j/\j<=1000000/\i.natAbs < 2 ^ 64
def agN (i j:Int):Prop:=(-(2 ^ 64) < i/\i < 2 ^ 64)\/(-(2 ^ 64) < j/\j < 2 ^ 64)
theorem agN.ok {i j:Int} (h:agN i j):IntMulOk i j:=by
 rcases h with⟨h1,h2⟩|⟨h1,h2⟩
 ·exact .of_left (intBits_le_64 h1 h2)
 ·exact .of_right (intBits_le_64 h1 h2)
theorem agO:Bc X (binaryOp .Add) (rI0 fun i j=>.int (i+j)):=aiN fun _ _ _ _ _ _ _ q=>add_int q
theorem agP:Bc X (binaryOp .Sub) (rI0 fun i j=>.int (i - j)):=aiN fun _ _ _ _ _ _ _ q=>sub_int q
theorem agQ:Bc X (binaryOp .Mult) (rI agN fun i j=>.int (i * j)):=opI fun _ _ _ _ _ _ _ hc q=>mul_int q hc.ok
theorem adX:Bc X (binaryOp .FloorDiv) (rI akX fun i j=>.int (i / j)):=opI fun i j _ _ _ _ _ hc q=>by
 have h1:(0:Int) < j:=hc.1
 have h2:j < 1073741824:=hc.2
 exact floordiv_int (by omega) (by rw[Int.fdiv_eq_ediv_of_nonneg i (by omega)];exact q) (.inl (PyProof.noPylong_small (by omega)))
theorem agR:Bc X (binaryOp .Mod) (rI (fun _ j=>0 < j) fun i j=>.int (i % j)):=opI fun i j _ _ _ _ _ hc q=>by
 have h1:(0:Int) < j:=hc
 exact mod_int' (by omega) (by rw[Int.fmod_eq_emod_of_nonneg i (by omega)];exact q)
theorem agS:Bc X (binaryOp .Pow) (rI akY fun i j=>.int (i ^ j.toNat)):=opI fun _ _ _ _ _ _ _ hc q=>pow_int_small hc.1 hc.2.1 hc.2.2 q
theorem unI {f:Value->Sem Value} {g:Int->Int}
  (rule:∀ (i:Int) (t:Tok) (s:Shared) (Q:VP_) (E:VP_),Q (.int (g i) s.toks) { s with toks:=s.toks+1 }->wpAny (model X.prog X.w) X.A (f (.int i t)) Q E s) :
  UnR X f (rU fun i=>.int (g i)):=by
 intro pins s σ H x v Q I rx h
 obtain⟨i,rfl,q⟩:=h
 obtain⟨t,rfl⟩:=rx
 exact rule i t s _ _ ⟨.int (g i),H,I.tok _,⟨_,rfl⟩,q⟩
theorem agT:UnR X (unaryOp .USub) (rU fun i=>.int (-i)):=unI fun _ _ _ _ _ q=>neg_int q
theorem agU {pins:List (Addr×Obj)} {σ:St} {H:Hp} {s:Shared} {Q:VK} {k k':Bool} (I:Inv X pins σ H s) (q:Q (.bl k) H) (e:k=k'):EP X pins σ Q (.bool k') s:=by
 subst e
 exact⟨.bl k,H,I,rfl,q⟩
theorem aiO:Bc X (compareOp .Lt) (rI0 fun i j=>.bl (decide (i < j))):=adW fun _ _ _ _ _ _ _ q=>lt_int q
theorem aiP:Bc X (compareOp .LtE) (rI0 fun i j=>.bl (decide (i<=j))):=adW fun _ _ _ _ _ _ _ q=>le_int q
theorem aiQ:Bc X (compareOp .Gt) (rI0 fun i j=>.bl (decide (j < i))):=adW fun _ _ _ _ _ _ _ q=>gt_int q
theorem aiR:Bc X (compareOp .GtE) (rI0 fun i j=>.bl (decide (j<=i))):=adW fun _ _ _ _ _ _ _ q=>ge_int q
theorem Zc:Bc X (compareOp .In) (fun x y H Q=>∃ i j,x=.str i/\y=.str j/\Q (.bl (!(Builtin.Str.occurrences j i 0 j.length 1).isEmpty)) H):=by
 intro pins s σ H x y v u Q I rx ry h
 obtain⟨i,j,rfl,rfl,q⟩:=h
 obtain⟨t,rfl⟩:=rx
 obtain⟨t',rfl⟩:=ry
 exact in_str (agU I q rfl)
theorem Bc.or {f:Value->Value->Sem Value} {r r':R2} (h:Bc X f r) (h':Bc X f r'):Bc X f (fun x y H Q=>r x y H Q\/r' x y H Q):=by
 intro pins s σ H x y v u Q I rx ry q
 rcases q with q|q
 ·exact h pins s σ H x y v u Q I rx ry q
 ·exact h' pins s σ H x y v u Q I rx ry q
theorem fJ (b:Expr) {op:CmpOp} (h:op≠.In:=by decide) (h2:op≠.NotIn:=by decide):behindInMarks op b=false:=by
 have e1:(op==CmpOp.In)=false:=by cases op<;>first|rfl|exact absurd rfl h
 have e2:(op==CmpOp.NotIn)=false:=by cases op<;>first|rfl|exact absurd rfl h2
 cases b<;>simp[behindInMarks,e1,e2]
theorem adY {op:CmpOp} {r:R2} (ho:Bc X (compareOp op) r) (ha:PE X a ta) (hb:PE X b tb) (hm:behindInMarks op b=false):PE X (.Compare a [op] [b] pos) (tOp r ta tb):=by
 intro pins s σ H Q I h
 exact wpAny_Compare1 (agM ha hb I h fun v u s2 x y H2 I2 rx ry q=>ho pins s2 σ H2 x y v u Q I2 rx ry q) hm
def afK (t:TE):TT:=fun σ H Q=>t σ H fun x H'=>∃ k,x=.bl k/\Q k H'
theorem adZ {op:CmpOp} {r:R2} (ho:Bc X (compareOp op) r) (ha:PE X a ta) (hb:PE X b tb) (hm:behindInMarks op b=false):PT X (.Compare a [op] [b] pos) (afK (tOp r ta tb)):=by
 intro pins s σ H Q I h
 refine wpAny_isTrue_Compare1 (mU (ha pins s σ H _ I h) fun v s1 ⟨x,H1,I1,r1,q1⟩=>mU (hb pins s1 σ H1 _ I1 q1) fun u s2 ⟨y,H2,I2,r2,q2⟩=>
  mU (ho pins s2 σ H2 x y v u _ I2 r1 r2 q2) fun c s3 ⟨z,H3,I3,r3,k,e,q3⟩=>?_) hm
 subst e
 cases r3
 exact QA ⟨H3,I3,q3⟩
def Wo (r r':R2) (ta tb tc:TE):TE:=fun σ H Q=>ta σ H fun x H1=>tb σ H1 fun y H2=>r x y H2 fun z H3=>∃ k,z=.bl k ∧
 (if k=true then tc σ H3 fun w' H4=>r' y w' H4 Q else Q (.bl false) H3)
theorem aaW {op op':CmpOp} {r r':R2} (ho:Bc X (compareOp op) r) (ho':Bc X (compareOp op') r') (ha:PE X a ta) (hb:PE X b tb) (hc:PE X c tc)
  (hm:lastMarks [op,op'] [b,c]=false:=by with_unfolding_all rfl):PE X (.Compare a [op,op'] [b,c] pos) (Wo r r' ta tb tc):=by
 intro pins s σ H Q I h
 refine Compare_chain (mU (ha pins s σ H _ I h) fun v s1 ⟨x,H1,I1,r1,q1⟩=>chain_link (mU (hb pins s1 σ H1 _ I1 q1) fun u s2 ⟨y,H2,I2,r2,q2⟩=>
  mU (ho pins s2 σ H2 x y v u _ I2 r1 r2 q2) fun d s3 ⟨z,H3,I3,r3,k,e,q3⟩=>?_)) hm
 subst e
 cases r3
 refine QA ?_
 cases k with
 |false=>exact ite_ff ⟨.bl false,H3,I3,rfl,q3⟩
 |true=>exact ite_tt (chain_last (mU (hc pins s3 σ H3 _ I3 q3) fun w' s4 ⟨z',H4,I4,r4,q4⟩=>ho' pins s4 σ H4 y z' u w' Q I4 r2 r4 q4))
theorem aaX {op op':CmpOp} {r r':R2} (ho:Bc X (compareOp op) r) (ho':Bc X (compareOp op') r') (ha:PE X a ta) (hb:PE X b tb) (hc:PE X c tc)
  (hm:lastMarks [op,op'] [b,c]=false:=by with_unfolding_all rfl):PT X (.Compare a [op,op'] [b,c] pos) (afK (Wo r r' ta tb tc)):=by
 intro pins s σ H Q I h
 refine isTrue_chain (mU (ha pins s σ H _ I h) fun v s1 ⟨x,H1,I1,r1,q1⟩=>test_link (mU (hb pins s1 σ H1 _ I1 q1) fun u s2 ⟨y,H2,I2,r2,q2⟩=>
  mU (ho pins s2 σ H2 x y v u _ I2 r1 r2 q2) fun d s3 ⟨z,H3,I3,r3,k,e,q3⟩=>?_)) hm
 subst e
 cases r3
 refine QA ?_
 cases k with
 |false=>
  obtain⟨k',e',q'⟩:=q3
  cases e'
  exact ite_ff ⟨H3,I3,q'⟩
 |true=>
  refine ite_tt (test_last (mU (hc pins s3 σ H3 _ I3 q3) fun w' s4 ⟨z',H4,I4,r4,q4⟩=>mU (ho' pins s4 σ H4 y z' u w' _ I4 r2 r4 q4) fun d' s5 ⟨z2,H5,I5,r5,k2,e2,q5⟩=>?_))
  subst e2
  cases r5
  exact QA ⟨H5,I5,q5⟩
def agV (K:FG_) (x:V) (H:Hp) (k:Bool):Prop:=
 match x with
 |.non=>k=false
 |.bl b=>k=b
 |.int i=>k=(i != 0)
 |.str y=>y.length<=sizeLine/\k=((y.length:Int) != 0)
 |.byt y=>y.size<=sizeLine/\k=((y.size:Int) != 0)
 |.ref p=>(∃ xs,yK K H p xs/\k=!xs.isEmpty)\/(∃ xs,BL K H p xs/\k=!xs.isEmpty)\/∃ kvs,H p=some (.dK kvs)/\k=!kvs.isEmpty
 |_=>False
theorem Wq {κ:Type} {kvs:List (κ×V)} {vs:List (κ×Value)} (r:KV kvs vs):(!vs.isEmpty)=!kvs.isEmpty:=by
 cases r<;>rfl
theorem Kf {xs:List V} {its:List Value} (r:Vals xs its):(!its.toArray.isEmpty)=!xs.isEmpty:=by
 cases r<;>simp
theorem Gm:(sizeLine:Nat) < 2 ^ 63:=by rw[sizeLine_eq];decide
theorem agW:akW X (fun x H Q=>∃ k,agV X.K x H k/\Q k H):=by
 intro pins s σ H x v Q I rx h
 obtain⟨k,e,q⟩:=h
 have hl:=Gm
 have hs:sizeLine=16777216:=sizeLine_eq
 cases x with
 |non=>
  cases rx
  have e':k=false:=e
  subst e'
  exact truthy_none ⟨H,I,q⟩
 |bl b=>
  cases rx
  have e':k=b:=e
  subst e'
  exact QA ⟨H,I,q⟩
 |int i=>
  obtain⟨t,rfl⟩:=rx
  have e':k=(i != 0):=e
  subst e'
  exact PySem.P.truthy_int ⟨H,I,q⟩
 |str y=>
  obtain⟨t,rfl⟩:=rx
  obtain⟨hy,e'⟩:y.length<=sizeLine/\k=((y.length:Int) != 0):=e
  subst e'
  exact PySem.P.truthy_str (by omega) ⟨H,I.tok _,q⟩
 |byt y=>
  obtain⟨t,rfl⟩:=rx
  obtain⟨hy,e'⟩:y.size<=sizeLine/\k=((y.size:Int) != 0):=e
  subst e'
  exact PySem.W.truthy_bytes (by omega) ⟨H,I.tok _,q⟩
 |ref p=>
  cases rx
  have e':(∃ xs,yK X.K H p xs/\k=!xs.isEmpty)\/(∃ xs,BL X.K H p xs/\k=!xs.isEmpty)\/∃ kvs,H p=some (.dK kvs)/\k=!kvs.isEmpty:=e
  rcases e' with⟨xs,hx,e'⟩|⟨xs,hx,e'⟩|⟨kvs,hx,e'⟩
  ·subst e'
   obtain⟨its,r,pl,hz⟩:=I.list hx
   have hlen:=r.length
   exact wpAny_truthy_list pl.isList (by simp only[zr];omega) ⟨H,I.tok _,by rw[Kf r];exact q⟩
  ·subst e'
   obtain⟨its,r,pl,hz⟩:=I.tuple hx
   have hlen:=r.length
   exact truthy_tuple pl (by simp only[zr];omega) ⟨H,I.tok _,by rw[Kf r];exact q⟩
  ·subst e'
   obtain⟨hz,hS,vs,r,m⟩:kvs.length<=sizeLine/\(p==sysModules)=false/\∃ vs,KV kvs vs/\s.heap.DictOf (dJ X.prog X.w) p vs:=I.hok p _ hx
   have hlen:kvs.length=vs.length:=Paired.length r
   exact wpAny_truthy_dict hS m (by omega) ⟨H,I.tok _,by rw[Wq r];exact q⟩
 |_=>exact (show False from e).elim
theorem aaY (ha:PE X a ta) (he:∀ whole,isTrue a X.env whole=(do let v <-whole;standAt a.pos;holding [v] (truthy v))) :
  PT X a (fun σ H Q=>ta σ H fun x H'=>∃ k,agV X.K x H' k/\Q k H'):=by
 intro pins s σ H Q I h
 exact isTrue_plain (mU (ha pins s σ H _ I h) fun v s1 ⟨x,H1,I1,r1,q1⟩=>agW pins s1 σ H1 x v Q I1 r1 q1) (he _)
theorem Wr:Bc X (binaryOp .Add) (fun x y H Q=>∃ i j,x=.str i/\y=.str j/\i.length+j.length<=sizeLine/\Q (.str (i++j)) H):=by
 intro pins s σ H x y v u Q I rx ry h
 obtain⟨i,j,rfl,rfl,hz,q⟩:=h
 obtain⟨t,rfl⟩:=rx
 obtain⟨t',rfl⟩:=ry
 exact add_str (fun t' tk=>⟨.str (i++j),H,I.tok _,⟨_,rfl⟩,q⟩) hz
theorem vals1 {x:V} {us:List Value} (r:Vals [x] us):∃ u,us=[u]/\RelV x u:=by
 cases r with
 |cons r1 r2=>cases r2;exact⟨_,rfl,r1⟩
theorem vals2 {x y:V} {us:List Value} (r:Vals [x,y] us):∃ u w',us=[u,w']/\RelV x u/\RelV y w':=by
 cases r with
 |cons r1 r2=>
  cases r2 with
  |cons r3 r4=>cases r4;exact⟨_,_,rfl,r1,r3⟩
theorem aaZ:gn X (.builtin "abs") (fun xs H Q=>∃ i,xs=[.int i]/\Q (.int (if i < 0 then -i else i)) H):=by
 intro pins s σ H xs us Q I r h
 obtain⟨i,rfl,q⟩:=h
 obtain⟨u,rfl,t,rfl⟩:=vals1 r
 exact call_abs_int fun u tk=>⟨.int (if i < 0 then -i else i),H,I.tok _,⟨_,rfl⟩,q⟩
theorem Zd:gn X (.type "int") (fun xs H Q=>(∃ i,xs=[.int i]/\Q (.int i) H)\/∃ k,xs=[.bl k]/\Q (.int (if k then 1 else 0)) H):=by
 intro pins s σ H xs us Q I r h
 rcases h with⟨i,rfl,q⟩|⟨k,rfl,q⟩
 ·obtain⟨u,rfl,t,rfl⟩:=vals1 r
  exact call_int_int ⟨.int i,H,I,⟨_,rfl⟩,q⟩
 ·obtain⟨u,rfl,r1⟩:=vals1 r
  cases r1
  exact call_int_bool ⟨.int (if k then 1 else 0),H,I.tok _,⟨_,rfl⟩,q⟩
end
end L2
namespace L2
open PySem PySem.Spec PyProof.Rows
structure akZ (h:Heap) (x dx C:Addr) (mA:Str->Option Value):Prop where
 obj:h.get? x=some (PySem.W.instObj C dx)
 ns:h.Ns1 dx mA
 ne:dx≠x
section
variable {prog:Program} {w:World} {A:Around} {E:VP_} {s:Shared} {K:FG_} {x dx C f:Addr} {mA:Str->Option Value} {name:Str} {v:Value}
end
section
variable {P:Program} {w:World} {H H':Hp} {h h':Heap} {a C dx:Addr} {fs fs':List (Str×V)}
theorem J0 (hok:Jo P w H h) (e:H a=some (.ins C dx fs)):∃ mA,akZ h a dx C mA/\(∀ f,QW (fs.lookup f) (mA f))/\PySem.Within mA (fs.map (·.1))/\fs.length<=1000/\H dx=some (.own a):=by
 obtain⟨d,z,ne,ob,mA,n,r,q⟩:=(show nY P w H h a (.ins C dx fs) from hok a _ e)
 exact⟨mA,⟨ob,n,ne⟩,r,q,z,d⟩
end
structure Cls (K:FG_) (C:Addr):Prop where
 pg:PySem.W.plainGet K C Str.empty=true
 hd:PySem.W.hasDictIn K C=true
 po:PySem.W.plainOver K C=true
 sa:PySem.W.findIn K (.ref C) "__setattr__" = some (some (.builtin "object.__setattr__"))
theorem Cls.get {K:FG_} {C:Addr} (c:Cls K C) (f:Str):PySem.W.plainGet K C f=true:=c.pg
section
variable {X:Cx} {pins:List (Addr×Obj)} {σ:St} {H:Hp} {s:Shared} {a C dx:Addr} {fs:List (Str×V)} {f:Str} {v:V} {A:Around} {E:VP_}
theorem Inv.made (I:Inv X pins σ H s):Inv X pins σ (upd (upd H s.heap.objs.size (.own (s.heap.objs.size+1))) (s.heap.objs.size+1) (.ins C s.heap.objs.size []))
  { s with heap:=(s.heap.push PySem.W.emptyDict).push (PySem.W.instObj C s.heap.objs.size) }:=by
 have e1:(s.heap.push PySem.W.emptyDict).get? s.heap.objs.size=some PySem.W.emptyDict:=zC s.heap rfl
 have e2:((s.heap.push PySem.W.emptyDict).push (PySem.W.instObj C s.heap.objs.size)).get? (s.heap.objs.size+1)=some (PySem.W.instObj C s.heap.objs.size):=by
  have:=zC (s.heap.push PySem.W.emptyDict) (o:=PySem.W.instObj C s.heap.objs.size) rfl
  rwa [qk] at this
 have e3:(s.heap.push PySem.W.emptyDict).Ns s.heap.objs.size (fun _=>none):=⟨PySem.W.emptyDict,#[],_,e1,rfl,(fun e he=>absurd he (by simp)),fun _=>rfl⟩
 have I1:=I.laid (a:=s.heap.objs.size) (o:=.own (s.heap.objs.size+1)) (h':=s.heap.push PySem.W.emptyDict) (t':=s.toks) (fun b u q=>zg _ q) (zi _) ⟨_,e1⟩
 refine I1.laid (a:=s.heap.objs.size+1) (o:=.ins C s.heap.objs.size []) (t':=s.toks) (fun b u q=>zg _ q) (ke (qk _ _)) ?_
 have ne:s.heap.objs.size≠s.heap.objs.size+1:=Zl (qA _)
 refine⟨by rw[aY ne,bU],QO _,ne,e2,fun _=>none,(Heap.Ns1.of_empty e3).at fun o q=>zg _ q,fun _=>True.intro,fun y hy=>absurd rfl hy⟩
end
section
variable {X:Cx} {o e value:Expr} {f:Str} {pos pos' tpos:Pos} {ta tv:TE}
end
section
variable {X:Cx} {pins:List (Addr×Obj)} {σ:St} {H:Hp} {s:Shared} {A:Around} {E:VP_} {Q:VP_} {c:Value} {b:Bool}
end
end L2
namespace L2
open PySem PySem.Spec PyProof.Rows
structure pX (k:Nat) (A:Around):Prop where
 hd:A.handled=none
 dp:A.depth+3 * k+5 < recursionLimit
 un:A.units+16 * k+200 < cLine
theorem pX.mono {j k:Nat} {A:Around} (r:pX k A) (h:j<=k):pX j A:=⟨r.hd,by have:=r.dp;omega,by have:=r.un;omega⟩
theorem pX.deeper {k:Nat} {A:Around} (r:pX (k+1) A) (env:Env):pX k (A.deeper env):=
 ⟨r.hd,by have:=r.dp;show A.depth+1+3 * k+5 < _;omega,by have:=r.un;show A.units+3+16 * k+200 < _;omega⟩
theorem pX.in1 {k:Nat} {A:Around} (r:pX (k+1) A):pX k A.in1:=
 ⟨r.hd,by have:=r.dp;show A.depth+3 * k+5 < _;omega,by have:=r.un;show A.units+1+16 * k+200 < _;omega⟩
theorem pX.depth {k:Nat} {A:Around} (r:pX k A):A.depth < recursionLimit:=by have:=r.dp;omega
theorem pX.units {k:Nat} {A:Around} (r:pX k A):A.units+64 < cLine:=by have:=r.un;omega
def Ze:TA:=fun _ H Q=>Q [] H
def DK (ta:TE) (tr:TA):TA:=fun σ H Q=>ta σ H fun x H1=>tr σ H1 fun xs H2=>Q (x::xs) H2
section
variable {X:Cx} {e:Expr} {es:List Expr} {te:TE} {t:TA} {pos:Pos}
theorem tK:PA X [] Ze:=fun _ _ _ _ H Q I h=>Calls.spliced_nil ⟨[],H,I,.nil,h⟩
theorem jL (ha:PE X e te) (hr:PA X es t) (hs:starEach (e::es) X.env=(false,eval e X.env)::starEach es X.env:=by rfl):PA X (e::es) (DK te t):=by
 intro pos pins s σ H Q I h
 rw[hs]
 show wpAny _ _ (spliced ((false,eval e X.env)::backTo pos (starEach es X.env))) _ _ s
 refine Calls.spliced_cons (mU (ha pins s σ H _ I h) fun u s1 ⟨x,H1,I1,r1,q1⟩=>?_)
 exact mU (hr pos pins s1 σ H1 _ I1 q1) fun us s2 ⟨xs,H2,I2,r2,q2⟩=>⟨x::xs,H2,I2,.cons r1 r2,q2⟩
def ak0 (t:TA):TE:=fun σ H Q=>t σ H fun xs H1=>xs.length<=sizeLine/\∀ p,H1 p=none->Q (.ref p) (upd H1 p (.tup xs))
def ak1 (t:TA):TE:=fun σ H Q=>t σ H fun xs H1=>xs.length<=sizeLine/\∀ p,H1 p=none->Q (.ref p) (upd H1 p (.lst xs))
theorem agX {x1} (h:PA X es t):PE X (.Tuple es x1 pos) (ak0 t):=by
 intro pins s σ H Q I hq
 refine wpAny_Tuple_spliced (mU (h pos pins s σ H _ I hq) fun us s1 ⟨xs,H1,I1,r,z,q⟩=>⟨by rw[<-r.length];exact z,?_⟩)
 have hf:H1 s1.heap.objs.size=none:=I1.hok.fresh (zi _)
 refine⟨.ref s1.heap.objs.size,upd H1 s1.heap.objs.size (.tup xs),I1.laid (t':=s1.toks) (fun b u e=>zg _ e) (zi _) ?_,rfl,q _ hf⟩
 exact⟨z,us,r,⟨_,zC _ rfl,rfl,⟨_,rfl⟩,rfl⟩⟩
theorem agY (h:PA X es t):PE X (.List es pos) (ak1 t):=by
 intro pins s σ H Q I hq
 refine wpAny_List_spliced (mU (h pos pins s σ H _ I hq) fun us s1 ⟨xs,H1,I1,r,z,q⟩=>⟨by rw[<-r.length];exact z,?_⟩)
 have hf:H1 s1.heap.objs.size=none:=I1.hok.fresh (zi _)
 refine⟨.ref s1.heap.objs.size,upd H1 s1.heap.objs.size (.lst xs),I1.laid (t':=s1.toks) (fun b u e=>zg _ e) (zi _) ?_,rfl,q _ hf⟩
 exact⟨z,us,0,r,zC _ rfl⟩
end
abbrev Sp:=List V->Hp->VK->XK->Prop
abbrev X5:=List Env->Hp->Shared->XK->Value->Shared->Prop
structure Ws (P:Program) (w:World) (K:FG_) (mg:Str->Option Value) (base:Heap) (A:Around) (outer:List Env) (s:Shared) (H:Hp):Prop where
 frames:A.frames=some outer
 mod:Mod K mg base
 bs:∀ b o,base.get? b=some o->s.heap.get? b=some o/\H b=none
 bsz:base.objs.size<=s.heap.objs.size
 Jp:s.heap.FunFrames base outer
 frf:∀ b∈frs outer,H b=none
 hok:Jo P w H s.heap
 bare:AllBare s.gens
def CE (outer:List Env) (P:Program) (w:World) (H:Hp) (s:Shared) (Q:VK) (u:Value) (s':Shared):Prop:=
 ∃ v H',s'.os=s.os/\AllBare s'.gens/\Un (frs outer) [] H H' s.heap s'.heap/\Jo P w H' s'.heap/\RelV v u/\Q v H'
def CR (CX:X5) (outer:List Env) (P:Program) (w:World) (H:Hp) (s:Shared) (Q:VK) (E:XK) (r:Result) (s':Shared):Prop:=
 match r with
 |.ok (.ret u)=>CE outer P w H s Q u s'
 |.ok _=>False
 |.error e=>CX outer H s E e s'
structure bM (P:Program) (w:World) (K:FG_) (mg:Str->Option Value) (base:Heap) (CX:X5) (k:Nat) (f:Addr) (fd:FuncData) (ps:LS_) (sp:Sp):Prop where
 len:∀ vs H Q E,sp vs H Q E->vs.length=ps.length
 run:∀ (A:Around) (outer:List Env) (s:Shared) (H:Hp) (args:Args) (us:List Value) (vs:List V) (Q:VK) (E:XK),pX k A->Ws P w K mg base A outer s H->BindsTo s fd args (ps.zip us)->Vals vs us->sp vs H Q E →
  codeAny (model P w) A (.call (.ref f) args) (CR CX outer P w H s Q E) s
theorem bM.mono {P:Program} {w:World} {K:FG_} {mg:Str->Option Value} {base:Heap} {CX:X5} {j k:Nat} {f:Addr} {fd:FuncData} {ps:LS_} {sp:Sp} (F:bM P w K mg base CX j f fd ps sp) (h:j<=k) :
  bM P w K mg base CX k f fd ps sp:=⟨F.len,fun A outer s H args us vs Q E hr=>F.run A outer s H args us vs Q E (hr.mono h)⟩
theorem bM.imp {P:Program} {w:World} {K:FG_} {mg:Str->Option Value} {base:Heap} {CX:X5} {k:Nat} {f:Addr} {fd:FuncData} {ps:LS_} {sp sp':Sp} (F:bM P w K mg base CX k f fd ps sp)
  (h:∀ vs H Q E,sp' vs H Q E->sp vs H Q E):bM P w K mg base CX k f fd ps sp':=
 ⟨fun vs H Q E q=>F.len vs H Q E (h _ _ _ _ q),fun A outer s H args us vs Q E hr he hb hv hs=>F.run A outer s H args us vs Q E hr he hb hv (h _ _ _ _ hs)⟩
theorem Ws.in1 {P:Program} {w:World} {K:FG_} {mg:Str->Option Value} {base:Heap} {A:Around} {outer:List Env} {s:Shared} {H:Hp} (e:Ws P w K mg base A outer s H) :
  Ws P w K mg base A.in1 outer s H:=⟨e.frames,e.mod,e.bs,e.bsz,e.Jp,e.frf,e.hok,e.bare⟩
section
variable {X:Cx} {pins:List (Addr×Obj)} {σ:St} {H:Hp} {s s':Shared}
theorem Inv.env0 (I:Inv X pins σ H s):Ws X.prog X.w X.K X.mg X.base X.A X.stack s H:=
 ⟨I.ok.frames,I.ok.mod,I.bs,zw I.ok.bsz I.sz,I.stack,I.XR,I.hok,I.bare⟩
theorem Inv.after {Q:VK} {u:Value} (I:Inv X pins σ H s) (h:CE X.stack X.prog X.w H s Q u s'):EP X pins σ Q u s':=by
 obtain⟨v,H',os,bare,un,hok,r,q⟩:=h
 obtain⟨hh,g,d,t,os'⟩:=s'
 obtain rfl:os'=s.os:=os
 exact⟨v,H',I.call (h':=hh) (g':=g) (d':=d) (t':=t) (ch:=[]) un hok bare (fun b z=>absurd z (by simp)),r,q⟩
end
def afL (sp:Sp) (dvs:List V) (E:XK) (t:TA):TE:=fun σ H Q=>t σ H fun vs H1=>sp (vs++dvs) H1 Q E
def Binds (K:FG_) (fd:FuncData) (ps:LS_) (ds:List Value):Prop:=
 ∀ (s:Shared) (us:List Value),K.In s.heap->(us++ds).length=ps.length->BindsTo s fd ⟨us,[]⟩ (ps.zip (us++ds))
theorem Binds.all {K:FG_} {fd:FuncData} {ps:LS_} (h:∀ us:List Value,us.length=ps.length->bindArgs fd ⟨us,[]⟩=pure (ps.zip us)):Binds K fd ps []:=fun s us _ hl=>by
 rw[kP] at hl ⊢
 exact .of_eq (h us hl)
def Passes (CX:X5) (X:Cx) (E:XK):Prop:=∀ (pins:List (Addr×Obj)) (σ:St) (H:Hp) (s:Shared) (e:Value) (s':Shared),Inv X pins σ H s->CX X.stack H s E e s'->X.xe e s'
section
variable {X:Cx} {CX:X5} {k:Nat} {f C:Addr} {fd:FuncData} {ps:LS_} {sp:Sp} {dvs:List V} {ds:List Value} {E:XK} {x m:Str} {p pos apos:Pos} {e o:Expr} {es:List Expr} {ta:TE} {t:TA}
theorem aa0 {pins:List (Addr×Obj)} {σ:St} {H:Hp} {s:Shared} {Q:VK} {us:List Value} {vs:List V} (F:bM X.prog X.w X.K X.mg X.base CX k f fd ps sp) (hr:pX k X.A) (hb:Binds X.K fd ps ds) (hd:Vals dvs ds) (hx:Passes CX X E)
  (I:Inv X pins σ H s) (r:Vals vs us) (h:sp (vs++dvs) H Q E):wpAny (model X.prog X.w) X.A (call (.ref f) us) (EP X pins σ Q) X.xe s:=by
 have r2:Vals (vs++dvs) (us++ds):=r.append hd
 have hl:(us++ds).length=ps.length:=by rw[<-r2.length];exact F.len _ _ _ _ h
 refine wpAny_call (codeAny_mono (F.run X.A X.stack s H ⟨us,[]⟩ (us++ds) (vs++dvs) Q E hr I.env0 (hb s us I.kIn hl) r2 h) fun r s' hq=>?_)
 cases r with
 |error e=>exact hx pins σ H s e s' I hq
 |ok fl=>
  cases fl with
  |ret u=>exact I.after hq
  |next=>exact False.elim hq
  |brk=>exact False.elim hq
  |cont=>exact False.elim hq
theorem ad0 (F:bM X.prog X.w X.K X.mg X.base CX k f fd ps sp) (hr:pX k X.A) (hg:Gl X x) (hm:X.mg x=some (.ref f)) (hk:PySem.W.keepIn X.K (.ref f)=true) (hb:Binds X.K fd ps ds) (hd:Vals dvs ds) (hx:Passes CX X E)
  (ha:PA X (e::es) t) (hdb:(x==("__debug__" : Str))=false:=by decide) (he:starEach (e::es) X.env=(false,eval e X.env)::starEach es X.env:=by rfl) (hpl:(backTo pos (starEach es X.env)).any (·.1)=false:=by rfl) :
  PE X (.Call (.Name x p) (e::es) [] pos) (afL sp dvs E t):=by
 intro pins s σ H Q I h
 refine Ki (Q5 I hg hm ?_ hdb)
 refine PySem.W.callWith_K (h₀:=X.base) I.ok.mod.kin hk (mU (ha pos pins s σ H _ I h) fun us s1 ⟨vs,H1,I1,r,q⟩=>⟨I1.kIn,?_⟩) he hpl
 exact aa0 F hr hb hd hx I1 r q
theorem aa1 (F:bM X.prog X.w X.K X.mg X.base CX k f fd ps sp) (hr:pX k X.A) (hg:Gl X x) (hm:X.mg x=some (.ref f)) (hk:PySem.W.keepIn X.K (.ref f)=true) (hb:Binds X.K fd ps ds) (hd:Vals dvs ds) (hx:Passes CX X E)
  (hdb:(x==("__debug__" : Str))=false:=by decide):PE X (.Call (.Name x p) [] [] pos) (afL sp dvs E Ze):=by
 intro pins s σ H Q I h
 refine Ki (Q5 I hg hm ?_ hdb)
 exact PySem.W.callWith_K0 I.kIn hk (aa0 (us:=[]) F hr hb hd hx I .nil h)
end
section
variable {X:Cx} {CX:X5} {k:Nat} {f C:Addr} {fd:FuncData} {ps ks:LS_} {sp:Sp} {E:XK} {x m:Str} {p pos apos kpos:Pos} {e o:Expr} {es:List Expr} {kws:List Keyword} {te ta:TE} {t tk:TA} {nm:Option Str}
variable {g:List Value->List Value->List Value} {gV:List V->List V->List V}
end
structure bT (N P:LS_) (sc:Scope):Prop where
 kind:sc.kind=.function
 co:sc.isCoroutine=false
 gen:sc.isGenerator=false
 nd:N.Nodup
 pre:N.take P.length=P
 par:∀ x∈P,sc.names.lookup x=some .local\/sc.names.lookup x=some .cell
 agZ:∀ y∈sc.names,y.2≠.free
theorem O9 {kindOf:Str->Option NameKind} {x:Str}:∀ {binds:List (Str×Value)} {m:Str->Option Value},(∀ v,(x,v)∉binds)->bindL kindOf binds m x=m x
 |[],_,_=>rfl
 |(n,v)::r,m,h=>by
  unfold bindL
  rw[O9 fun w hw=>h w (zl _ hw)]
  split
  ·have:x≠n:=by rintro rfl;exact h v zt
   simp[this]
  ·rfl
theorem Pa {kindOf:Str->Option NameKind} {x:Str}:∀ {binds:List (Str×Value)} {m:Str->Option Value},(∀ v,(x,v)∉binds)->bindC kindOf binds m x=m x
 |[],_,_=>rfl
 |(n,v)::r,m,h=>by
  unfold bindC
  rw[Pa fun w hw=>h w (zl _ hw)]
  split
  ·rfl
  ·have:x≠n:=by rintro rfl;exact h v zt
   simp[this]
theorem Pb {kindOf:Str->Option NameKind} {x:Str} {v:Value}:∀ {P:LS_} {vs:List Value} {i:Nat} {m:Str->Option Value},P.Nodup->P[i]?=some x->vs[i]?=some v->kindOf x=some .local →
  bindL kindOf (P.zip vs) m x=some v
 |[],_,_,_,_,h,_,_=>by simp at h
 |_::_,[],_,_,_,_,h,_=>by simp at h
 |p::P,w::vs,0,m,nd,h1,h2,hk=>by
  simp at h1 h2;subst h1;subst h2
  show bindL kindOf ((p,w)::P.zip vs) m p=_
  unfold bindL
  rw[O9 fun v hv=>(List.nodup_cons.mp nd).1 (List.of_mem_zip hv).1,zo hk]
  simp
 |p::P,w::vs,i+1,m,nd,h1,h2,hk=>by
  show bindL kindOf ((p,w)::P.zip vs) m x=_
  unfold bindL
  exact Pb (i:=i) (List.nodup_cons.mp nd).2 (by simpa using h1) (by simpa using h2) hk
theorem Pg {kindOf:Str->Option NameKind} {x:Str} {v:Value}:∀ {P:LS_} {vs:List Value} {i:Nat} {m:Str->Option Value},P.Nodup->P[i]?=some x->vs[i]?=some v->kindOf x≠some .local →
  bindC kindOf (P.zip vs) m x=some v
 |[],_,_,_,_,h,_,_=>by simp at h
 |_::_,[],_,_,_,_,h,_=>by simp at h
 |p::P,w::vs,0,m,nd,h1,h2,hk=>by
  simp at h1 h2;subst h1;subst h2
  show bindC kindOf ((p,w)::P.zip vs) m p=_
  unfold bindC
  rw[Pa fun v hv=>(List.nodup_cons.mp nd).1 (List.of_mem_zip hv).1,zI hk]
  simp
 |p::P,w::vs,i+1,m,nd,h1,h2,hk=>by
  show bindC kindOf ((p,w)::P.zip vs) m x=_
  unfold bindC
  exact Pg (i:=i) (List.nodup_cons.mp nd).2 (by simpa using h1) (by simpa using h2) hk
def start (N:LS_) (vs:List V):St:=vs.map some++List.replicate (N.length - vs.length) none
def Q7 (CX:X5) (P:Program) (w:World) (K:FG_) (mg:Str->Option Value) (base:Heap) (N:LS_) (qual:Str) (scope:Scope) (f:Addr) (cd:Value) (A:Around) (outer:List Env) (s:Shared) (H:Hp) (E:XK):Cx where
 prog:=P
 w:=w
 K:=K
 mg:=mg
 base:=base
 A:=A.deeper (envOfC qual scope s.heap.objs.size f cd)
 N:=N
 s₀:=s
 H₀:=H
 env:=envOfC qual scope s.heap.objs.size f cd
 outer:=outer
 stack:=envOfC qual scope s.heap.objs.size f cd::outer
 ex:=[]
 calm:=true
 fn:=fun _=>true
 pn:=[]
 xe:=fun e s'=>wpAny (model P w) (A.deeper (envOfC qual scope s.heap.objs.size f cd)) (leaving (envOfC qual scope s.heap.objs.size f cd) e) (fun _ s''=>CX outer H s E e s'') (fun e' s''=>CX outer H s E e' s'') s'
theorem T8 {sc:Scope} {n:Nat} {x:Str} (h:sc.names.lookup x=some .cell):∃ c,(cellsFrom n sc.names []).lookup x=some c:=by
 have q:=PySem.W.cellsFrom_some sc.names n [] (.inl h)
 exact Option.isSome_iff_exists.mp q
theorem Zf {CX:X5} {P:Program} {w:World} {K:FG_} {mg:Str->Option Value} {base:Heap} {N ps:LS_} {qual:Str} {scope:Scope} {f:Addr} {cd:Value} {A:Around} {outer:List Env} {s s1:Shared} {H:Hp} {E:XK} {us:List Value} {vs:List V}
  (S:bT N ps scope) (hd:A.handled=none) (e0:Ws P w K mg base A outer s H) (hl:vs.length=ps.length) (r:Vals vs us)
  (x:InCallC s s.heap.objs.size (bindL (envOfC qual scope s.heap.objs.size f cd).kindOf (ps.zip us) fun _=>none) (cellsFrom (s.heap.objs.size+1) scope.names []) (bindC (envOfC qual scope s.heap.objs.size f cd).kindOf (ps.zip us) fun _=>none) s1) :
  Inv (Q7 CX P w K mg base N qual scope f cd A outer s H E) [] (start N vs) H s1:=by
 have hpl:ps.length<=N.length:=by have:=congrArg List.length S.pre;rw[kf] at this;omega
 obtain⟨h1,tk,rfl,hk⟩:=x.done
 have noA:∀ b:Addr,b∉(Q7 CX P w K mg base N qual scope f cd A outer s H E).ex:=fun b z=>absurd (show b∈([]:List Addr) from z) (by simp)
 refine⟨⟨e0.mod,S.kind,rfl,rfl,zi _,fun y z c h1 h2=>?_,fun y hy=>?_,fun y c _ h=>?_,fun _=>hd,Around.frames_deeper e0.frames,.inr ⟨rfl,rfl⟩,fun b z=>absurd z (noA b),e0.bs,e0.bsz,fun b _ _=>noA b,fun b z=>absurd z (noA b),e0.Jp,e0.frf⟩,
  rfl,e0.bare,Un.kept hk,⟨_,x.toInCall.ns,fun i y v h1 h2 h3=>?_⟩,fun y c h=>⟨_,x.cell y c h⟩,e0.hok.fresh (zi _),fun y c h=>?_,fun p hp=>absurd (show p∈([]:List (Addr×Obj)) from hp) (by simp),e0.hok.kept hk,?_⟩
 ·exact name_of_addr x.apart (JA h1) (JA h2)
 ·have hy:scope.names.lookup y=some .cell\/scope.names.lookup y=some .free:=hy
  rcases hy with hy|hy
  ·exact T8 hy
  ·exact absurd rfl (S.agZ _ (JA hy))
 ·exact jn (x.above y c (JA h))
 ·have hi:i < vs.length:=by
   unfold start at h2
   by_cases hi:i < vs.length
   ·exact hi
   ·rw[Qr (by simpa using hi)] at h2
    rw[ja] at h2
    split at h2<;>cases h2
  have ha:vs[i]?=some v:=by
   unfold start at h2
   rw[qf (by simpa using hi),ZT] at h2
   cases e:vs[i]? with
   |none=>rw[e] at h2;cases h2
   |some a=>rw[e] at h2;cases h2;rfl
  obtain⟨u,hu,rv⟩:=r.get ha
  have hp:ps[i]?=some y:=by
   rw[<-S.pre,List.getElem?_take_of_lt (by omega)];exact h1
  have ndP:ps.Nodup:=by rw[<-S.pre];exact S.nd.sublist (List.take_sublist _ _)
  refine⟨u,rv,?_⟩
  rcases S.par y (QP hp) with k|k
  ·exact .inl ⟨k,Pb ndP hp hu k⟩
  ·obtain⟨c,e⟩:=T8 (n:=s.heap.objs.size+1) k
   refine .inr ⟨.inl k,c,e,?_⟩
   have q:=x.cell y c e
   rw[Pg ndP hp hu (by show scope.names.lookup y≠_;rw[k];decide)] at q
   exact q
 ·exact e0.hok.fresh (jn (x.above y c (JA h)))
 ·unfold start
  show _=N.length
  rw[Zp,zh,List.length_replicate]
  omega
theorem aiT {CX:X5} {P:Program} {w:World} {K:FG_} {mg:Str->Option Value} {base:Heap} {k:Nat} {f:Addr} {name qual:Str} {params:Arguments} {body:List Stmt} {scope:Scope} {dV kV doc pm cdv ct oc:Value} {an od:Option Addr}
  {osl:Array (Option Value)} {N ps:LS_} {sp:Sp} (lk:K.lookup f=some ⟨oc,od,.func (PySem.W.fnOf name qual params body scope dV kV doc pm an cdv ct),osl⟩) (hcd:PySem.W.codeIn K cdv qual=true) (S:bT N ps scope)
  (len:∀ vs H Q E,sp vs H Q E->vs.length=ps.length)
  (hbody:∀ (A:Around) (outer:List Env) (s:Shared) (H:Hp) (vs:List V) (Q:VK) (E:XK),pX k (A.deeper (envOfC qual scope s.heap.objs.size f cdv))->sp vs H Q E →
   ∃ t,XS (Q7 CX P w K mg base N qual scope f cdv A outer s H E) body t/\t { nx:=fun _ H'=>Q .non H',rt:=Q } (start N vs) H) :
  bM P w K mg base CX (k+1) f (PySem.W.fnOf name qual params body scope dV kV doc pm an cdv ct) ps sp:=by
 refine⟨len,fun A outer s H args us vs Q E hr e0 hb r hsp=>?_⟩
 have hl:=len _ _ _ _ hsp
 have KX:K.In s.heap:=e0.mod.kin.keeps fun b o e=>(e0.bs b o e).1
 have lim:s.heap.NoLimit:=e0.mod.nolimit.keeps fun b o e=>(e0.bs b o e).1
 have hkind:∀ y∈ps.zip us,scope.names.lookup y.1=some .local\/(scope.names.lookup y.1=some .cell/\((cellsFrom (s.heap.objs.size+1) scope.names []).lookup y.1).isSome=true):=fun ⟨n,v⟩ hy=>by
  rcases S.par n (List.of_mem_zip hy).1 with q|q
  ·exact .inl q
  ·exact .inr ⟨q,PySem.W.cellsFrom_some _ _ _ (.inl q)⟩
 refine codeAny_call_function hr.depth (KX _ _ lk) rfl S.co S.gen rfl (PySem.W.codeRec_of KX hcd) (hb _ _ _ _ ?_)
 refine wpAny_newFunctionEnv_cells S.kind hkind fun env he s1 x=>?_
 subst he
 refine⟨lim.keeps x.toInCall.keep,codeAny_func ?_⟩
 obtain⟨t,ht,hq⟩:=hbody A outer s H vs Q E (hr.deeper _) hsp
 have I:Inv (Q7 CX P w K mg base N qual scope f cdv A outer s H E) [] (start N vs) H s1:=Zf S hr.hd e0 hl r x
 refine Qb (ht [] s1 (start N vs) H _ I hq) (fun fl s' hs=>?_) fun e s' hs=>hs
 have fin:∀ {σ':St} {H':Hp} {v:V} {u:Value},Inv (Q7 CX P w K mg base N qual scope f cdv A outer s H E) [] σ' H' s'->RelV v u->Q v H'->CE outer P w H s Q u s':=
  fun {σ' H' v u} J rv q=>⟨v,H',J.os,J.bare,J.base,J.hok,rv,q⟩
 cases fl with
 |ret u=>
  obtain⟨v,σ',H',J,rv,q⟩:=hs
  exact fin J rv q
 |next=>
  obtain⟨σ',H',J,q⟩:=hs
  exact fin (v:=V.non) (u:=Value.none) J rfl q
 |brk=>
  obtain⟨_,_,_,q⟩:=hs
  exact False.elim q
 |cont=>
  obtain⟨_,_,_,q⟩:=hs
  exact False.elim q
end L2
namespace L2
open PySem PySem.Spec PyProof.Rows
section
variable {X:Cx} {x:Str} {p pos:Pos} {e:Expr} {es:List Expr} {t:TA} {id T:String} {r:List V->Hp->VK->Prop}
def tCB (r:List V->Hp->VK->Prop) (t:TA):TE:=fun σ H Q=>t σ H fun vs H1=>r vs H1 Q
theorem qW (hc:gn X (.builtin id) r) (hg:Gl X x) (hm:X.mg x=none) (hv:bootBuiltins x=some (.builtin id)) (ha:PA X (e::es) t) (hn:x ≠ "__name__" := by decide) (hdb:(x==("__debug__" : Str))=false:=by decide)
  (he:starEach (e::es) X.env=(false,eval e X.env)::starEach es X.env:=by rfl) (hpl:(backTo pos (starEach es X.env)).any (·.1)=false:=by rfl):PE X (.Call (.Name x p) (e::es) [] pos) (tCB r t):=by
 intro pins s σ H Q I h
 refine Ki (Q6 I hg hm hv ?_ hn hdb)
 exact PyProof.Rows.callWith_builtin1 (mU (ha pos pins s σ H _ I h) fun us s1 ⟨vs,H1,I1,r1,q1⟩=>hc pins s1 σ H1 vs us Q I1 r1 q1) he hpl
theorem Gn (hc:gn X (.type T) r) (hg:Gl X x) (hm:X.mg x=none) (hv:bootBuiltins x=some (.type T)) (ha:PA X (e::es) t) (hn:x ≠ "__name__" := by decide) (hdb:(x==("__debug__" : Str))=false:=by decide)
  (he:starEach (e::es) X.env=(false,eval e X.env)::starEach es X.env:=by rfl) (hpl:(backTo pos (starEach es X.env)).any (·.1)=false:=by rfl):PE X (.Call (.Name x p) (e::es) [] pos) (tCB r t):=by
 intro pins s σ H Q I h
 refine Ki (Q6 I hg hm hv ?_ hn hdb)
 exact PyProof.Rows.callWith_type1 (mU (ha pos pins s σ H _ I h) fun us s1 ⟨vs,H1,I1,r1,q1⟩=>hc pins s1 σ H1 vs us Q I1 r1 q1) he hpl
end
end L2
namespace HT
open PySem PyProof.Rows
section
open PySem.SeqAt
open PySem.AutoSeq1 (wpAny_loadPart')
open PySem.MeetsSeq PySem.MeetsSeq2 PySem.MeetsSeq3
end
section
variable {prog:Program} {w:World} {A:Around} {E:VP_} {s:Shared}
theorem ad1 {t b:Addr} {vs ws:List Value} {Q:VP_} (ht:IsTup s.heap t vs.toArray) (hb:IsTup s.heap b ws.toArray) (hv:vs≠[])
  (h1:ws=[]->Q (.ref t) s) (h2:ws≠[]->Q (.ref s.heap.objs.size) { s with heap:=s.heap.push { cls:=.type "tuple", data:=.seq (vs++ws).toArray } })
  (hsz:vs.length+ws.length<=sizeLine):wpAny (model prog w) A (binaryOp .Add (.ref t) (.ref b)) Q E s:=by
 obtain⟨⟨cls,dd,data,sl⟩,ho,hc,n,hd⟩:=id ht
 obtain⟨⟨cls2,dd2,data2,sl2⟩,ho2,hc2,n2,hd2⟩:=id hb
 simp only at hc hd hc2 hd2
 subst hc hd hc2 hd2
 have e:vs.toArray++ws.toArray=(vs++ws).toArray:=by simp
 by_cases hw:ws=[]
 ·exact concat_meets ⟨_,ho,rfl⟩ ⟨_,ho2,rfl⟩ noFill_tuple_add seq_tuple_add PySem.F.slot_tuple_add KS (KM _ _)
   (tuple_addW1 t b vs.toArray ws.toArray n n2 dd dd2 sl sl2 (by simpa using hv) (by simp[hw])) ⟨ho,ho2,h1 hw⟩
 ·refine concat_meets ⟨_,ho,rfl⟩ ⟨_,ho2,rfl⟩ noFill_tuple_add seq_tuple_add PySem.F.slot_tuple_add KS (KM _ _)
   (tuple_addW2 t b vs.toArray ws.toArray n n2 dd dd2 sl sl2 (by simpa using hv) (by simpa using hw) (by rw[zr,zr];exact hsz)) ⟨ho,ho2,?_⟩
  rw[e]
  exact h2 hw
def kY (n d:Nat):Option Int->Nat
 |none=>d
 |some v=>if v < 0 then (v+(n:Int)).toNat else min v.toNat n
theorem aa2 (n d:Nat):kY n d none=d:=rfl
theorem ad2 (n d k:Nat):kY n d (some (k:Int))=min k n:=by
 show (if (k:Int) < 0 then ((k:Int)+(n:Int)).toNat else min (k:Int).toNat n)=min k n
 rw[zI (by omega),KI]
theorem ag0 (n d:Nat) (hd:d<=n) (o:Option Int):kY n d o<=n:=by
 cases o with
 |none=>exact hd
 |some v=>
  show (if v < 0 then (v+(n:Int)).toNat else min v.toNat n)<=n
  by_cases hv:v < 0
  ·rw[zo hv];omega
  ·rw[zI hv];exact Nat.min_le_right _ _
theorem X6 (v:Int) (n d:Nat):(if v < 0 then max (v+(n:Int)) 0 else min v (n:Int))=((kY n d (some v):Nat):Int):=by
 show (if v < 0 then max (v+(n:Int)) 0 else min v (n:Int))=(((if v < 0 then (v+(n:Int)).toNat else min v.toNat n):Nat):Int)
 by_cases hv:v < 0
 ·simp only[zo hv];omega
 ·simp only[zI hv];omega
theorem Wt (lo hi:Option Int) (n:Nat):Builtin.Slice.sliceAdjust lo hi 1 (n:Int)=(((kY n 0 lo:Nat):Int),((kY n n hi:Nat):Int)):=by
 have h1:¬ ((1:Int) < 0):=by omega
 unfold Builtin.Slice.sliceAdjust
 simp only[h1,ZH]
 refine Prod.ext ?_ ?_
 ·cases lo with
  |none=>rfl
  |some v=>exact X6 v n 0
 ·cases hi with
  |none=>rfl
  |some v=>exact X6 v n n
theorem Wu (i j:Nat):Builtin.Slice.slicePlaces (i:Int) (j:Int) 1=j - i:=by
 unfold Builtin.Slice.slicePlaces
 have h1:(1:Int) > 0:=by omega
 simp only[h1,qB,Int.ediv_one]
 split<;>omega
theorem tL {v:Value} {o:Option Int} {Q:Option Int->Shared->Prop} (p:IsPart v o) (h:Q o s):wpAny (model prog w) A (Builtin.Slice.slicePartIndex v) Q E s:=by
 cases p with
 |none=>exact slicePart_none h
 |int i t=>exact slicePart_int h
theorem wI {sl:Addr} {vl vu:Value} {lo hi:Option Int} {n:Nat} {Q:Int×Int×Nat->Shared->Prop} (hs:s.heap.IsSliceOf sl vl vu .none) (pl:IsPart vl lo) (pu:IsPart vu hi)
  (h:Q (((kY n 0 lo:Nat):Int),1,kY n n hi - kY n 0 lo) s):wpAny (model prog w) A (Builtin.Slice.sliceApplied (.ref sl) (pure (n:Int))) Q E s:=by
 obtain⟨os,hos,hcs,hds⟩:=id hs
 unfold Builtin.Slice.sliceApplied Builtin.Slice.sliceFields
 refine zd (zd (Kt hos hds (x:=vl) rfl (zd (Kt hos hds (x:=vu) rfl (zd (Kt hos hds (x:=.none) rfl (ze ?_)))))))
 refine zd (slicePart_none ?_)
 show wpAny _ _ (if ((1:Int)==0)=true then _ else _) _ _ s
 rw[zI (by decide)]
 refine zd (tL pl (zd (tL pu (zd (ze ?_)))))
 show wpAny _ _ (match Builtin.Slice.sliceAdjust lo hi 1 (n:Int) with|(lo,hi)=>pure (lo,(1:Int),Builtin.Slice.slicePlaces lo hi 1)) _ _ s
 rw[Wt lo hi n]
 show wpAny _ _ (pure (((kY n 0 lo:Nat):Int),(1:Int),Builtin.Slice.slicePlaces ((kY n 0 lo:Nat):Int) ((kY n n hi:Nat):Int) 1)) _ _ s
 rw[Wu]
 exact ze h
theorem aa3 (xs:Array Value) (i k:Nat):((List.range k).filterMap fun (m:Nat)=>xs[((i:Int)+(m:Int) * 1).toNat]?).toArray=((xs.toList.drop i).take k).toArray:=by
 have e:(fun (m:Nat)=>xs[((i:Int)+(m:Int) * 1).toNat]?)=fun m=>xs[i+m]?:=by
  funext m
  have:((i:Int)+(m:Int) * 1).toNat=i+m:=by omega
  rw[this]
 rw[e]
 have:=pick_run xs i k
 rw[List.filterMap_map] at this
 have e2:((fun x=>xs[x]?) ∘ fun x=>i+x)=fun m=>xs[i+m]?:=rfl
 rw[e2] at this
 rw[this]
theorem DN {t sl:Addr} {items:Array Value} {vl vu:Value} {lo hi:Option Int} {Q:VP_} (ht:IsTup s.heap t items) (hs:s.heap.IsSliceOf sl vl vu .none) (pl:IsPart vl lo) (pu:IsPart vu hi)
  (hw:¬ (kY items.size 0 lo=0/\kY items.size items.size hi=items.size))
  (h:Q (.ref s.heap.objs.size) { s with heap:=s.heap.push { cls:=.type "tuple", data:=.seq ((items.toList.drop (kY items.size 0 lo)).take (kY items.size items.size hi - kY items.size 0 lo)).toArray } })
  (hsz:items.size<=sizeLine):wpAny (model prog w) A (getItem (.ref t) (.ref sl)) Q E s:=by
 have DP:sizeOk (.seq ((items.toList.drop (kY items.size 0 lo)).take (kY items.size items.size hi - kY items.size 0 lo)).toArray):=by
  show ((items.toList.drop (kY items.size 0 lo)).take (kY items.size items.size hi - kY items.size 0 lo)).toArray.size<=sizeLine
  rw[zr,kf,kg,ZE]
  omega
 have hj:kY items.size items.size hi<=items.size:=ag0 _ _ (zi _) hi
 obtain⟨os,hos,hcs,hds⟩:=id hs
 have hTs:s.TypeIs (.ref sl) "slice" := ⟨os,hos,hcs⟩
 unfold getItem
 try with_reducible refine QI ?_
 first|refine zd (ze ?_)|skip
 refine zd (wpAny_sequenceKey ht.typeIs (by decide) ?_)
 refine zd (ky (name:=Str.ofString "__getitem__") ht.typeIs PyProof.Rows.slot_tuple_getitem
  (QR PyProof.Rows.slot_tuple_getitem ht.typeIs entry_tuple_getitem ?_ (args_tuple_getitem _ _)))
 show wpAny _ _ (Builtin.Tuple.tupleItemsOf (.ref t) >>= _) _ _ s
 refine zd (tupleItemsOf_ ht ?_)
 refine zd (QN hTs ?_)
 rw[zo (by decide)]
 refine zd (wI hs pl pu ?_)
 have hno:¬ ((((kY items.size 0 lo:Nat):Int)==0&&(1:Int)==1&&(kY items.size items.size hi - kY items.size 0 lo)==items.size)=true):=by
  intro q
  rw[zv,zv] at q
  have q1:((kY items.size 0 lo:Nat):Int)=0:=eq_of_beq q.1.1
  have q2:kY items.size items.size hi - kY items.size 0 lo=items.size:=eq_of_beq q.2
  exact hw ⟨by omega,by omega⟩
 show wpAny _ _ (if (((kY items.size 0 lo:Nat):Int)==0&&(1:Int)==1&&(kY items.size items.size hi - kY items.size 0 lo)==items.size)=true then _ else _) _ _ s
 rw[zI hno,aa3]
 first
  |exact zd (m:=Builtin.Tuple.tupleExact _) (ZZ (ze ⟨_,rfl,ze h⟩) DP)
  |exact zd (m:=Builtin.Tuple.tupleExact _) (ZZ (zd (ze (ze ⟨_,rfl,ze h⟩))) DP)
  |exact zd (zd (m:=Builtin.Tuple.tupleExact _) (ZZ (ze (ze ⟨_,rfl,ze h⟩)) DP))
  |exact zd (zd (m:=Builtin.Tuple.tupleExact _) (ZZ (ze ⟨_,rfl,ze h⟩) DP))
end
end HT
namespace L2
open PySem PySem.Spec PyProof.Rows
abbrev TO:=St->Hp->(Option Int->Hp->Prop)->Prop
def PO (X:Cx) (e:Option Expr) (t:TO):Prop:=
 ∀ (pins:List (Addr×Obj)) (s:Shared) (σ:St) (H:Hp) (Q:Option Int->Hp->Prop),Inv X pins σ H s->t σ H Q →
  wpAny (model X.prog X.w) X.A (evalPart e X.env) (fun u s'=>∃ o H',Inv X pins σ H' s'/\IsPart u o/\Q o H') X.xe s
def ad3:TO:=fun _ H Q=>Q none H
def aiU (t:TE):TO:=fun σ H Q=>t σ H fun x H1=>∃ i,x=.int i/\Q (some i) H1
section
variable {X:Cx} {e:Expr} {te:TE} {lo hi:Option Expr} {tl th:TO} {pos p2:Pos}
theorem ad4:PO X none ad3:=by
 intro pins s σ H Q I h
 rw[evalPart_none]
 exact ze ⟨none,H,I,.none,h⟩
theorem ad5 (h:PE X e te):PO X (some e) (aiU te):=by
 intro pins s σ H Q I hw
 rw[evalPart_some]
 refine mU (h pins s σ H _ I hw) fun u s1 ⟨x,H1,I1,r1,q1⟩=>?_
 obtain⟨i,rfl,q⟩:=q1
 obtain⟨t,rfl⟩:=r1
 exact⟨some i,H1,I1,.int i t,q⟩
def SlR (X:Cx) (r:V->Option Int->Option Int->Hp->VK->Prop):Prop:=
 ∀ (pins:List (Addr×Obj)) (s:Shared) (σ:St) (H:Hp) (x:V) (v vl vu:Value) (lo hi:Option Int) (sl:Addr) (Q:VK),Inv X pins σ H s->RelV x v->s.heap.IsSliceOf sl vl vu .none->IsPart vl lo->IsPart vu hi->r x lo hi H Q →
  ∃ T id,typeLookup (.type T) "__getitem__" = pure (some (.builtin id))/\s.TypeIs v T/\wpAny (model X.prog X.w) X.A (getItem v (.ref sl)) (EP X pins σ Q) X.xe s
theorem SlR.or {r r':V->Option Int->Option Int->Hp->VK->Prop} (h:SlR X r) (h':SlR X r'):SlR X (fun x lo hi H Q=>r x lo hi H Q\/r' x lo hi H Q):=by
 intro pins s σ H x v vl vu lo hi sl Q I rx hs pl pu q
 rcases q with q|q
 ·exact h pins s σ H x v vl vu lo hi sl Q I rx hs pl pu q
 ·exact h' pins s σ H x v vl vu lo hi sl Q I rx hs pl pu q
def tSl (r:V->Option Int->Option Int->Hp->VK->Prop) (te:TE) (tl th:TO):TE:=fun σ H Q=>te σ H fun x H1=>tl σ H1 fun l H2=>th σ H2 fun u H3=>r x l u H3 Q
theorem aa4 {r:V->Option Int->Option Int->Hp->VK->Prop} (hr:SlR X r) (he:PE X e te) (hl:PO X lo tl) (hu:PO X hi th):PE X (.Subscript e (.Slice lo hi none p2) pos) (tSl r te tl th):=by
 intro pins s σ H Q I h
 refine Subscript_ (mU (he pins s σ H _ I h) fun v s1 ⟨x,H1,I1,r1,q1⟩=>?_)
 refine wpAny_Slice (mU (hl pins s1 σ H1 _ I1 q1) fun vl s2 ⟨l,H2,I2,pl,q2⟩=>mU (hu pins s2 σ H2 _ I2 q2) fun vu s3 ⟨u,H3,I3,pu,q3⟩=>?_)
 rw[evalPart_none]
 refine ze ?_
 have I4:Inv X pins σ H3 { s3 with heap:=s3.heap.push { cls:=.type "slice", data:=.fields #[vl,vu,.none] } }:=I3.kept (t':=s3.toks) fun b ob q=>zg _ q
 obtain⟨T,id,hT,ht,hg⟩:=hr pins { s3 with heap:=s3.heap.push { cls:=.type "slice", data:=.fields #[vl,vu,.none] } } σ H3 x v vl vu l u s3.heap.objs.size Q I4 r1 (Heap.IsSliceOf.new ..) pl pu q3
 show wpAny (model X.prog X.w) X.A (subscriptTail e (.Slice lo hi none p2) v (.ref s3.heap.objs.size)) (EP X pins σ Q) X.xe { s3 with heap:=s3.heap.push { cls:=.type "slice", data:=.fields #[vl,vu,.none] } }
 exact tail_any (ops:=[.ref s3.heap.objs.size,v]) ht hT hg (by with_unfolding_all rfl)
def T9 (xs:List V) (lo hi:Option Int):List V:=(xs.drop (HT.kY xs.length 0 lo)).take (HT.kY xs.length xs.length hi - HT.kY xs.length 0 lo)
theorem Im (xs:List V) (lo hi:Option Int):(T9 xs lo hi).length<=xs.length:=by
 unfold T9
 rw[kf,kg]
 omega
def ak3 (K:FG_):V->Option Int->Option Int->Hp->VK->Prop:=fun x lo hi H Q=>∃ a xs,x=.ref a/\BL K H a xs ∧
 ¬ (HT.kY xs.length 0 lo=0/\HT.kY xs.length xs.length hi=xs.length)/\∀ p,H p=none->Q (.ref p) (upd H p (.tup (T9 xs lo hi)))
theorem ag1:SlR X (ak3 X.K):=by
 intro pins s σ H x v vl vu lo hi sl Q I rx hs pl pu h
 obtain⟨a,xs,rfl,hx,hw,q⟩:=h
 cases rx
 obtain⟨its,r,ht,hz⟩:=I.tuple hx
 have hlen:its.toArray.size=xs.length:=by rw[zr];exact r.length.symm
 refine⟨"tuple", _,PyProof.Rows.slot_tuple_getitem.lookup,ht.typeIs,?_⟩
 refine HT.DN ht hs pl pu (by rw[hlen];exact hw) ?_ (by rw[hlen];exact hz)
 rw[hlen]
 refine⟨.ref s.heap.objs.size,_,I.laid (t':=s.toks) (o:=.tup (T9 xs lo hi)) (fun b ob q=>zg _ q) (zi _) ?_,rfl,q _ (I.hok.fresh (zi _))⟩
 exact⟨zw (Im xs lo hi) hz,_,(r.drop (HT.kY xs.length 0 lo)).take (HT.kY xs.length xs.length hi - HT.kY xs.length 0 lo),qe.new _ _⟩
def aiV (K:FG_):R2:=fun x y H Q=>∃ a b xs ys,x=.ref a/\y=.ref b/\BL K H a xs/\BL K H b ys/\xs≠[]/\xs.length+ys.length<=sizeLine ∧
 (ys=[]->Q (.ref a) H)/\(ys≠[]->∀ p,H p=none->Q (.ref p) (upd H p (.tup (xs++ys))))
theorem Vals.J1 {xs:List V} {us:List Value} (r:Vals xs us):us=[]↔xs=[]:=by
 cases r with
 |nil=>simp
 |cons _ _=>simp
theorem ad6:Bc X (binaryOp .Add) (aiV X.K):=by
 intro pins s σ H x y v u Q I rx ry h
 obtain⟨a,b,xs,ys,rfl,rfl,ha,hb,hx,hz,q1,q2⟩:=h
 cases rx
 cases ry
 obtain⟨its,r1,p1,_⟩:=I.tuple ha
 obtain⟨its2,r2,p2,_⟩:=I.tuple hb
 refine HT.ad1 p1 p2 (fun z=>hx (r1.J1.mp z)) (fun z=>⟨.ref a,H,I,rfl,q1 (r2.J1.mp z)⟩) (fun z=>?_) (by rw[<-r1.length,<-r2.length];exact hz)
 refine⟨.ref s.heap.objs.size,_,I.laid (t':=s.toks) (o:=.tup (xs++ys)) (fun b ob q=>zg _ q) (zi _) ?_,rfl,q2 (fun w=>z (r2.J1.mpr w)) _ (I.hok.fresh (zi _))⟩
 exact⟨by rw[Zp];exact hz,_,r1.append r2,qe.new _ _⟩
end
end L2
namespace L2
open PySem PySem.Spec PyProof.Rows
def ixN (n:Nat) (i:Int):Option Nat:=if 0<=i then (if i < n then some i.toNat else none) else if -(n:Int)<=i then some (i+n).toNat else none
def N5 {α:Type} (xs:List α) (i:Int):Option α:=(ixN xs.length i).bind fun j=>xs[j]?
theorem ad7 {n:Nat} {i:Int} {j:Nat} (h:ixN n i=some j):seqIndex? i n=some j/\j < n ∧ -(n:Int)<=i/\i < n:=by
 unfold ixN at h
 by_cases h0:0<=i
 ·rw[zo h0] at h
  by_cases h1:i < n
  ·rw[zo h1] at h
   have e:i.toNat=j:=jS h
   exact⟨by rw[seqIndex_of h0 h1,e],by omega,by omega,h1⟩
  ·rw[zI h1] at h;cases h
 ·rw[zI h0] at h
  by_cases h1 : -(n:Int)<=i
  ·rw[zo h1] at h
   have e:(i+n).toNat=j:=jS h
   exact⟨by rw[seqIndex_neg (by omega) h1,e],by omega,h1,by omega⟩
  ·rw[zI h1] at h;cases h
theorem Q8 {α:Type} {xs:List α} {i:Int} {v:α} (h:N5 xs i=some v):∃ j,seqIndex? i xs.length=some j/\xs[j]?=some v/\j < xs.length ∧ -(xs.length:Int)<=i/\i < xs.length:=by
 unfold N5 at h
 cases e:ixN xs.length i with
 |none=>rw[e] at h;cases h
 |some j=>
  rw[e] at h
  obtain⟨h1,h2,h3,h4⟩:=ad7 e
  exact⟨j,h1,h,h2,h3,h4⟩
def X7 (b:Expr):Prop:=∀ o i,subscripted b false o i=operate [o,i] (getItem o i)
def IxR (X:Cx) (r:R2):Prop:=
 ∀ (value slice:Expr) (pins:List (Addr×Obj)) (s:Shared) (σ:St) (H:Hp) (x y:V) (v u:Value) (Q:VK),Inv X pins σ H s->RelV x v->RelV y u->r x y H Q →
  subscripted slice false v u=operate [v,u] (getItem v u)->wpAny (model X.prog X.w) X.A (subscriptTail value slice v u) (EP X pins σ Q) X.xe s
def MtR (X:Cx) (id:String) (r:V->List V->Hp->VK->Prop):Prop:=
 ∀ (pins:List (Addr×Obj)) (s:Shared) (σ:St) (H:Hp) (x:V) (xs:List V) (v:Value) (us:List Value) (Q:VK),Inv X pins σ H s->RelV x v->Vals xs us->r x xs H Q →
  wpAny (model X.prog X.w) X.A (call (.builtin id) (v::us)) (EP X pins σ Q) X.xe s
section
variable {X:Cx} {a b:Expr} {ta tb:TE} {pos:Pos}
theorem IxR.or {r r':R2} (h:IxR X r) (h':IxR X r'):IxR X (fun x y H Q=>r x y H Q\/r' x y H Q):=by
 intro value slice pins s σ H x y v u Q I rx ry q hs
 rcases q with q|q
 ·exact h value slice pins s σ H x y v u Q I rx ry q hs
 ·exact h' value slice pins s σ H x y v u Q I rx ry q hs
theorem MtR.or {id:String} {r r':V->List V->Hp->VK->Prop} (h:MtR X id r) (h':MtR X id r'):MtR X id (fun x xs H Q=>r x xs H Q\/r' x xs H Q):=by
 intro pins s σ H x xs v us Q I rx rs q
 rcases q with q|q
 ·exact h pins s σ H x xs v us Q I rx rs q
 ·exact h' pins s σ H x xs v us Q I rx rs q
theorem aiW {r:R2} (hr:IxR X r) (ha:PE X a ta) (hb:PE X b tb) (hs:X7 b):PE X (.Subscript a b pos) (tOp r ta tb):=by
 intro pins s σ H Q I h
 exact Subscript_ (agM ha hb I h fun v u s2 x y H2 I2 rx ry q=>hr a b pins s2 σ H2 x y v u Q I2 rx ry q (hs _ _))
def aiX (K:FG_):R2:=fun x y H Q=>∃ p xs i v,x=.ref p/\y=.int i/\yK K H p xs/\N5 xs i=some v/\Q v H
def aiY (K:FG_):R2:=fun x y H Q=>∃ p xs i v,x=.ref p/\y=.int i/\BL K H p xs/\N5 xs i=some v/\Q v H
def aiZ:R2:=fun x y H Q=>∃ z i c,x=.str z/\y=.int i/\z.length<=sizeLine/\N5 z.cps.toList i=some c/\Q (.str ⟨#[c]⟩) H
theorem ad9:IxR X (aiX X.K):=by
 intro value slice pins s σ H x y v u Q I rx ry h hs
 obtain⟨p,xs,i,z,rfl,rfl,hq,he,q⟩:=h
 cases rx
 obtain⟨t,rfl⟩:=ry
 obtain⟨its,r,pl,hz⟩:=I.list hq
 obtain⟨j,h1,h2,h3,h4,h5⟩:=Q8 he
 obtain⟨w,ew,rw'⟩:=r.get h2
 have hl:=r.length
 have hn:=Gm
 have fin:EP X pins σ Q w s:=⟨z,H,I,rw',q⟩
 by_cases h0:0<=i
 ·have hj:i.toNat=j:=by
   rw[seqIndex_of h0 h5] at h1
   exact jS h1
  exact item_listR pl.isList h0 (by omega) (by rw[hj];simpa using ew) fin hs
 ·have hj:(i+(its.toArray.size:Int)).toNat=j:=by
   rw[seqIndex_neg (by omega) h4] at h1
   rw[zr,<-hl]
   exact jS h1
  exact subscriptTail_builtinR (x:=w) pl.isList.typeIs slot_list_getitem.lookup
   (wpAny_getItem_list_neg (Q:=fun r s'=>r=w/\EP X pins σ Q r s') pl.isList (by omega) (by rw[zr]<;>omega) (by omega) (by rw[hj];simpa using ew) ⟨rfl,fin⟩) hs
theorem ag2:IxR X (aiY X.K):=by
 intro value slice pins s σ H x y v u Q I rx ry h hs
 obtain⟨p,xs,i,z,rfl,rfl,hq,he,q⟩:=h
 cases rx
 obtain⟨t,rfl⟩:=ry
 obtain⟨its,r,pl,hz⟩:=I.tuple hq
 obtain⟨j,h1,h2,h3,h4,h5⟩:=Q8 he
 obtain⟨w,ew,rw'⟩:=r.get h2
 have hl:=r.length
 have hn:=Gm
 have fin:EP X pins σ Q w s:=⟨z,H,I,rw',q⟩
 exact subscriptTail_builtinR (x:=w) pl.typeIs slot_tuple_getitem.lookup
  (getItem_tuple (j:=j) (Q:=fun r s'=>r=w/\EP X pins σ Q r s') pl (by omega) (by omega) (by rw[zr,<-hl];exact h1) (by simpa using ew) ⟨rfl,fin⟩) hs
theorem ag3:IxR X aiZ:=by
 intro value slice pins s σ H x y v u Q I rx ry h hs
 obtain⟨z,i,c,rfl,rfl,hz,he,q⟩:=h
 obtain⟨t,rfl⟩:=rx
 obtain⟨t',rfl⟩:=ry
 obtain⟨j,h1,h2,h3,h4,h5⟩:=Q8 he
 have hl:z.cps.toList.length=z.length:=by simp[Str.length]
 rw[hl] at h1 h4 h5
 have hn:=Gm
 exact tail_any (typeIs_str s z t) slot_str_getitem.lookup (getItem_str (c:=c) (by
  have e1:decide (i < -(2 ^ 63:Int))=false:=qq (by omega)
  have e2:decide (i>=2 ^ 63)=false:=qq (by omega)
  rw[e1,e2,Bool.or_false]) (by rw[h1];simpa using h2) ⟨.str ⟨#[c]⟩,H,I.tok _,⟨_,rfl⟩,q⟩) hs
def rIx (K:FG_):R2:=fun x y H Q=>aiX K x y H Q\/aiY K x y H Q\/aiZ x y H Q
theorem ag4:IxR X (rIx X.K):=ad9.or (ag2.or ag3)
theorem Inv.lst {pins:List (Addr×Obj)} {σ:St} {H:Hp} {s:Shared} {p:Addr} {xs:List V} (I:Inv X pins σ H s) (h:H p=some (.lst xs)) :
  ∃ (its:List Value) (n:Nat),Vals xs its/\s.heap.get? p=some { cls:=.type "list", data:=.seq its.toArray n }/\xs.length<=sizeLine:=by
 obtain⟨z,its,n,r,e⟩:=I.hok p _ h
 exact⟨its,n,r,e,z⟩
theorem Q9 (lo hi:Option Int) (n:Nat):(sliceBounds lo hi none n).1=((HT.kY n 0 lo:Nat):Int)/\(sliceBounds lo hi none n).2.1=((HT.kY n n hi:Nat):Int)/\(sliceBounds lo hi none n).2.2=1:=by
 refine⟨?_,?_,rfl⟩
 ·cases lo with
  |none=>simp[sliceBounds,HT.kY]
  |some i=>
   simp only[sliceBounds,HT.kY,Option.getD_none,show (1:Int) > 0 by decide,qB]
   by_cases h:i < 0
   ·simp only[h,qB]<;>omega
   ·simp only[h,ZH]<;>omega
 ·cases hi with
  |none=>simp[sliceBounds,HT.kY]
  |some i=>
   simp only[sliceBounds,HT.kY,Option.getD_none,show (1:Int) > 0 by decide,qB]
   by_cases h:i < 0
   ·simp only[h,qB]<;>omega
   ·simp only[h,ZH]<;>omega
theorem N7 (its:List Value) (lo hi:Option Int):slicePick its.toArray lo hi none=((its.drop (HT.kY its.length 0 lo)).take (HT.kY its.length its.length hi - HT.kY its.length 0 lo)).toArray:=by
 obtain⟨h1,h2,h3⟩:=Q9 lo hi its.toArray.size
 unfold slicePick
 rw[h1,h2,h3]
 simp only[sliceRange_one,pick_run,zr]<;>rfl
def ak4 (K:FG_):V->Option Int->Option Int->Hp->VK->Prop:=fun x lo hi H Q=>∃ a xs,x=.ref a/\yK K H a xs/\∀ p,H p=none->Q (.ref p) (upd H p (.lst (T9 xs lo hi)))
theorem aea:SlR X (ak4 X.K):=by
 intro pins s σ H x v vl vu lo hi sl Q I rx hs pl pu h
 obtain⟨a,xs,rfl,hx,q⟩:=h
 cases rx
 obtain⟨its,r,ht,hz⟩:=I.list hx
 have hlen:=r.length
 refine⟨"list", _,slot_list_getitem.lookup,ht.isList.typeIs,?_⟩
 refine wpAny_getItem_list_slice ht.isList hs pl pu .none (by simp) ?_ (by rw[zr]<;>omega)
 rw[N7,<-hlen]
 refine⟨.ref s.heap.objs.size,_,I.laid (t':=s.toks) (o:=.lst (T9 xs lo hi)) (fun b ob q=>zg _ q) (zi _) ?_,rfl,q _ (I.hok.fresh (zi _))⟩
 exact⟨zw (Im xs lo hi) hz,_,0,(r.drop (HT.kY xs.length 0 lo)).take (HT.kY xs.length xs.length hi - HT.kY xs.length 0 lo),zC _ rfl⟩
def yL:V->Bool
 |.non=>true
 |.bl _=>true
 |.int _=>true
 |.str _=>true
 |_=>false
def Zg:V->V->Bool
 |.non,.non=>true
 |.bl a,.bl b=>a==b
 |.bl a,.int b=>(if a then 1 else 0)==b
 |.int a,.bl b=>a==(if b then 1 else 0)
 |.int a,.int b=>a==b
 |.str a,.str b=>a==b
 |_,_=>false
theorem ag5 {A:Around} {s:Shared} {y x:V} {u v:Value} (ry:RelV y u) (rx:RelV x v) (fy:yL y=true) (fx:yL x=true):SeqAt.EqAt A s u v (Zg y x):=by
 cases y with
 |non=>
  cases ry
  cases x with
  |non=>cases rx;exact SeqAt.EqAt.same _
  |bl b=>cases rx;exact SeqAt.EqAt.none_bool b
  |int b=>obtain⟨t,rfl⟩:=rx;exact SeqAt.EqAt.none_int b t
  |str b=>obtain⟨t,rfl⟩:=rx;exact SeqAt.EqAt.none_str b t
  |_=>exact absurd (show false=true from fx) ZI
 |bl a=>
  cases ry
  cases x with
  |non=>cases rx;exact SeqAt.EqAt.bool_none a
  |bl b=>cases rx;exact SeqAt.EqAt.bool_bool a b
  |int b=>obtain⟨t,rfl⟩:=rx;exact SeqAt.EqAt.bool_int a b t
  |str b=>obtain⟨t,rfl⟩:=rx;exact SeqAt.EqAt.bool_str a b t
  |_=>exact absurd (show false=true from fx) ZI
 |int a=>
  obtain⟨t',rfl⟩:=ry
  cases x with
  |non=>cases rx;exact SeqAt.EqAt.int_none a t'
  |bl b=>cases rx;exact SeqAt.EqAt.int_bool a t' b
  |int b=>obtain⟨t,rfl⟩:=rx;exact SeqAt.EqAt.int_int a t' b t
  |str b=>obtain⟨t,rfl⟩:=rx;exact SeqAt.EqAt.int_str a t' b t
  |_=>exact absurd (show false=true from fx) ZI
 |str a=>
  obtain⟨t',rfl⟩:=ry
  cases x with
  |non=>cases rx;exact SeqAt.EqAt.str_none a t'
  |bl b=>cases rx;exact SeqAt.EqAt.str_bool a t' b
  |int b=>obtain⟨t,rfl⟩:=rx;exact SeqAt.EqAt.str_int a t' b t
  |str b=>obtain⟨t,rfl⟩:=rx;exact SeqAt.EqAt.str_str a t' b t
  |_=>exact absurd (show false=true from fx) ZI
 |_=>exact absurd (show false=true from fy) ZI
def eqU (x:V) (u:Value):Bool:=match u with
 |.none=>Zg .non x
 |.bool b=>Zg (.bl b) x
 |.int i _=>Zg (.int i) x
 |.str z _=>Zg (.str z) x
 |_=>false
theorem aa5 {x y:V} {u:Value} (r:RelV y u) (f:yL y=true):eqU x u=Zg y x:=by
 cases y with
 |non=>cases r;rfl
 |bl b=>cases r;rfl
 |int i=>obtain⟨t,rfl⟩:=r;rfl
 |str z=>obtain⟨t,rfl⟩:=r;rfl
 |_=>exact absurd (show false=true from f) ZI
theorem Ra {x:V}:∀ {xs:List V} {us:List Value},Vals xs us->xs.all yL=true->us.any (eqU x)=xs.any fun y=>Zg y x
 |_,_,.nil,_=>rfl
 |y::xs,u::us,.cons r t,f=>by
  rw[Jn,zv] at f
  rw[j3,j3,aa5 r f.1,Ra t f.2]
theorem Kg {A:Around} {s:Shared} {x:V} {v:Value} (rx:RelV x v) (fx:yL x=true):∀ {xs:List V} {us:List Value},Vals xs us->xs.all yL=true->∀ u∈us,SeqAt.EqAt A s u v (eqU x u)
 |_,_,.nil,_=>fun u hu=>by cases hu
 |y::xs,u::us,.cons r t,f=>fun u' hu=>by
  rw[Jn,zv] at f
  rcases List.mem_cons.mp hu with rfl|hu
  ·rw[aa5 r f.1];exact ag5 r rx f.1 fx
  ·exact Kg rx fx t f.2 u' hu
def inV (x:V) (xs:List V):Bool:=xs.any fun y=>Zg y x
def rIn (K:FG_) (neg:Bool):R2:=fun x y H Q=>∃ p xs,y=.ref p/\(yK K H p xs\/BL K H p xs)/\yL x=true/\xs.all yL=true/\Q (.bl (if neg then !inV x xs else inV x xs)) H
theorem Zh:Bc X (compareOp .In) (rIn X.K false):=by
 intro pins s σ H x y v u Q I rx ry h
 obtain⟨p,xs,rfl,hq,fx,fs,q⟩:=h
 cases ry
 rcases hq with hq|hq
 ·obtain⟨its,r,pl,hz⟩:=I.list hq
  refine SeqAt.in_listAt (eqU x) pl.isList (fun w hw=>Kg rx fx r fs w (by simpa using hw)) ⟨.bl _,H,I,rfl,?_⟩
  rw[show its.toArray.any (eqU x)=its.any (eqU x) by simp,Ra r fs]
  exact q
 ·obtain⟨its,r,pl,hz⟩:=I.tuple hq
  refine SeqAt.in_tupleAt (eqU x) pl (fun w hw=>Kg rx fx r fs w (by simpa using hw)) ⟨.bl _,H,I,rfl,?_⟩
  rw[show its.toArray.any (eqU x)=its.any (eqU x) by simp,Ra r fs]
  exact q
theorem Rb:gn X (.builtin "len") (fun xs H Q=>∃ p ys,xs=[.ref p]/\(yK X.K H p ys\/BL X.K H p ys)/\Q (.int ys.length) H):=by
 intro pins s σ H xs us Q I r h
 obtain⟨p,ys,rfl,hq,q⟩:=h
 obtain⟨u,rfl,rx⟩:=vals1 r
 cases rx
 have hn:=Gm
 rcases hq with hq|hq
 ·obtain⟨its,r',pl,hz⟩:=I.list hq
  have hlen:=r'.length
  exact Calls.call_len_list pl.isList (by simp only[zr]<;>omega) ⟨.int ys.length,H,I.tok _,⟨s.toks+1,by rw[zr,hlen]⟩,q⟩
 ·obtain⟨its,r',pl,hz⟩:=I.tuple hq
  have hlen:=r'.length
  exact len_tuple pl (by simp only[zr]<;>omega) ⟨.int ys.length,H,I.tok _,⟨s.toks+1,by rw[zr,hlen]⟩,q⟩
theorem Rc:gn X (.builtin "len") (fun xs H Q=>∃ z,xs=[.str z]/\z.length<=sizeLine/\Q (.int z.length) H):=by
 intro pins s σ H xs us Q I r h
 obtain⟨z,rfl,hz,q⟩:=h
 obtain⟨u,rfl,t,rfl⟩:=vals1 r
 have hn:=Gm
 exact len_str (by omega) ⟨.int z.length,H,I.tok _,⟨_,rfl⟩,q⟩
theorem gn.or {f:Value} {r r':List V->Hp->VK->Prop} (h:gn X f r) (h':gn X f r'):gn X f (fun xs H Q=>r xs H Q\/r' xs H Q):=by
 intro pins s σ H xs us Q I rs q
 rcases q with q|q
 ·exact h pins s σ H xs us Q I rs q
 ·exact h' pins s σ H xs us Q I rs q
theorem Rf:gn X (.type "list") (fun xs H Q=>∃ p ys,xs=[.ref p]/\(yK X.K H p ys\/BL X.K H p ys)/\∀ l,H l=none->Q (.ref l) (upd H l (.lst ys))):=by
 intro pins s σ H xs us Q I r h
 obtain⟨p,ys,rfl,hq,q⟩:=h
 obtain⟨u,rfl,rx⟩:=vals1 r
 cases rx
 have fin:∀ (its:List Value),Vals ys its->ys.length<=sizeLine->∀ (h':Heap) (c':Nat),(∀ b o',s.heap.get? b=some o'->h'.get? b=some o') →
   h'.get? s.heap.objs.size=some { cls:=.type "list", dict:=none,data:=.seq its.toArray c',slots:=#[] }->EP X pins σ Q (.ref s.heap.objs.size) { s with heap:=h' }:=fun its r' hz h' c' kp e=>
  ⟨.ref s.heap.objs.size,_,I.laid (t':=s.toks) kp (zi _) (show nY X.prog X.w _ h' _ (.lst ys) from⟨hz,its,c',r',e⟩),rfl,q _ (I.hok.fresh (zi _))⟩
 rcases hq with hq|hq
 ·obtain⟨its,r',pl,hz⟩:=I.list hq
  have hlen:=r'.length
  obtain⟨o,ho,hc,n,hd⟩:=pl.isList
  exact call_list_seq p (.inl rfl) ho hc hd (fun h' c' kp e=>fin its r' hz h' c' kp e) (by simp only[zr]<;>omega)
 ·obtain⟨its,r',pl,hz⟩:=I.tuple hq
  have hlen:=r'.length
  obtain⟨o,ho,hc,n,hd⟩:=pl
  exact call_list_seq p (.inr rfl) ho hc hd (fun h' c' kp e=>fin its r' hz h' c' kp e) (by simp only[zr]<;>omega)
theorem N8:gn X (.type "tuple") (fun xs H Q=>∃ p ys,xs=[.ref p]/\((yK X.K H p ys/\∀ l,H l=none->Q (.ref l) (upd H l (.tup ys)))\/(BL X.K H p ys/\Q (.ref p) H))):=by
 intro pins s σ H xs us Q I r h
 obtain⟨p,ys,rfl,h⟩:=h
 obtain⟨u,rfl,rx⟩:=vals1 r
 cases rx
 rcases h with⟨hq,q⟩|⟨hq,q⟩
 ·obtain⟨its,r',pl,hz⟩:=I.list hq
  have hlen:=r'.length
  refine call_tuple_list pl.isList (fun h' kp=>?_) (by simp only[zr]<;>omega)
  have I1:Inv X pins σ H { s with heap:=h' }:=I.kept (t':=s.toks) kp
  have I2:Inv X pins σ (upd H h'.objs.size (.tup ys)) { s with heap:=h'.push { cls:=.type "tuple", data:=.seq its.toArray } }:=
   I1.laid (t':=s.toks) (fun b o e=>zg _ e) (zi _) (show nY X.prog X.w _ _ _ (.tup ys) from⟨hz,its,r',qe.new _ _⟩)
  exact⟨.ref h'.objs.size,_,I2,rfl,q _ (I1.hok.fresh (zi _))⟩
 ·obtain⟨its,r',pl,hz⟩:=I.tuple hq
  exact call_tuple_same pl ⟨.ref p,H,I,rfl,q⟩
def tyV (K:FG_) (T:String) (x:V) (H:Hp):Prop:=match x with
 |.str _=>T = "str"
 |.int _=>T = "int"
 |.ref p=>(T = "list" ∧ ∃ xs,yK K H p xs)\/(T = "tuple" ∧ ∃ o,K.lookup p=some o/\o.cls=.type "tuple" ∧ o.dict=none) ∨
   (T = "dict" ∧ ((∃ kvs,H p=some (.dK kvs))\/∃ kvs,H p=some (.dT kvs)))\/(T = "set" ∧ ∃ S n,H p=some (.set S n))
 |_=>False
theorem ag6 {pins:List (Addr×Obj)} {σ:St} {H:Hp} {s:Shared} {T:String} {x:V} {v:Value} (I:Inv X pins σ H s) (r:RelV x v) (ty:tyV X.K T x H) :
  s.TypeIs v T/\∀ a,v=.ref a->∃ ob,s.heap.get? a=some ob/\ob.dict=none:=by
 cases x with
 |str z=>
  obtain⟨t,rfl⟩:=r
  cases (show T = "str" from ty)
  exact⟨typeIs_str s z t,fun _ e=>nomatch e⟩
 |int i=>
  obtain⟨t,rfl⟩:=r
  cases (show T = "int" from ty)
  exact⟨typeIs_int s i t,fun _ e=>nomatch e⟩
 |ref p=>
  cases r
  rcases ty with⟨rfl,xs,hq⟩|⟨rfl,o,hk,hc,hd⟩|⟨rfl,hk⟩|⟨rfl,S,n,hk⟩
  ·obtain⟨its,_,pl,_⟩:=I.list hq
   refine⟨pl.isList.typeIs,fun a e=>?_⟩
   cases e
   obtain⟨o,n,e,c,hd,_⟩:=pl
   exact⟨o,e,hd⟩
  ·refine⟨⟨o,I.kIn p o hk,hc⟩,fun a e=>?_⟩
   cases e
   exact⟨o,I.kIn _ o hk,hd⟩
  ·have z:∃ o,s.heap.get? p=some o/\o.ExactDict:=by
    rcases hk with⟨kvs,hk⟩|⟨kvs,hk⟩
    ·obtain⟨_,_,_,_,o,_,_,e,ex,_⟩:=I.hok p _ hk
     exact⟨o,e,ex⟩
    ·obtain⟨_,_,_,_,o,_,_,e,ex,_⟩:=I.hok p _ hk
     exact⟨o,e,ex⟩
   obtain⟨o,e,ex⟩:=z
   refine⟨⟨o,e,ex.1⟩,fun a e2=>?_⟩
   cases e2
   exact⟨o,e,ex.2.1⟩
  ·obtain⟨o,_,_,_,e,ex,_⟩:=I.hok p _ hk
   refine⟨⟨o,e,ex.1⟩,fun a e2=>?_⟩
   cases e2
   exact⟨o,e,ex.2.1⟩
 |_=>exact False.elim ty
def tBM (K:FG_) (T:String) (r:V->List V->Hp->VK->Prop) (to:TE) (t:TA):TE:=fun σ H Q=>to σ H fun x H1=>tyV K T x H1/\t σ H1 fun xs H2=>r x xs H2 Q
variable {o e:Expr} {es:List Expr} {to:TE} {t:TA} {name:Str} {apos cpos:Pos} {T id:String} {r:V->List V->Hp->VK->Prop}
theorem afN (pa:PlainAttrs T) (slot:Slot T name id) (hty:typeOf (.builtin id)=pure (.type "method_descriptor")) (hm:MtR X id r) (ho:PE X o to) (ha:PA X (e::es) t)
  (hbase:attributeBase o name X.env (eval o X.env)=eval o X.env:=by rfl)
  (hfew:((backTo cpos (starEach (e::es) X.env)).all (fun x=>!x.1)&&(backToKw cpos (keywordEach [] X.env)).all (fun x=>x.1.isSome)
   && decide ((e::es).length+([]:List Keyword).length+(if ([]:List Keyword).isEmpty then 0 else 1) < 30))=true:=by rfl)
  (hline:(apos.endLine==cpos.line)=true:=by rfl) (hs:starEach (e::es) X.env=(false,eval e X.env)::starEach es X.env:=by rfl) (hplain:(backTo cpos (starEach es X.env)).any (·.1)=false:=by rfl) :
  PE X (.Call (.Attribute o name apos) (e::es) [] cpos) (tBM X.K T r to t):=by
 intro pins s σ H Q I h
 refine wpAny_Call_method_late hbase hfew hline rfl (mU (ho pins s σ H _ I h) fun v s1 ⟨x,H1,I1,r1,ty,q1⟩=>?_)
 obtain⟨h1,h2⟩:=ag6 I1 r1 ty
 refine⟨T,id,pa,slot,hty,h1,h2,?_⟩
 have hA:=ha cpos pins s1 σ H1 _ I1 q1
 rw[hs] at hA ⊢
 refine Calls.callWith_builtin (by show (false||(backTo cpos (starEach es X.env)).any (·.1))=false;rw[hplain]<;>rfl) (Calls.evalArgs_plain ?_)
 exact mU hA fun us s2 ⟨vs,H2,I2,r2,q2⟩=>hm pins s2 σ H2 x vs v us Q I2 r1 r2 q2
end
end L2
namespace L2
open PySem PySem.Spec PyProof.Rows
def MtM (X:Cx) (id:String) (r:V->List V->Hp->VK->Prop):Prop:=
 ∀ (pins:List (Addr×Obj)) (s:Shared) (σ:St) (H:Hp) (x:V) (xs:List V) (v:Value) (us:List Value) (Q:VK),Inv X pins σ H s->RelV x v->Vals xs us->r x xs H Q →
  wpAny (model X.prog X.w) X.A (call (.builtin id) (v::us)) (EP X pins σ Q) X.xe s
theorem Vals.one:∀ {x:V} {us:List Value},Vals [x] us->∃ u,us=[u]/\RelV x u
 |_,_,.cons r .nil=>⟨_,rfl,r⟩
theorem Vals.two:∀ {x y:V} {us:List Value},Vals [x,y] us->∃ u v,us=[u,v]/\RelV x u/\RelV y v
 |_,_,_,.cons r (.cons q .nil)=>⟨_,_,rfl,r,q⟩
theorem Vals.zero:∀ {us:List Value},Vals [] us->us=[]
 |_,.nil=>rfl
theorem Vals.eraseIdx:∀ {xs:List V} {us:List Value} (i:Nat),Vals xs us->Vals (xs.eraseIdx i) (us.eraseIdx i)
 |_,_,_,.nil=>.nil
 |_,_,0,.cons _ t=>t
 |_,_,i+1,.cons r t=>.cons r (Vals.eraseIdx i t)
theorem Vals.reverse {xs:List V} {us:List Value} (h:Vals xs us):Vals xs.reverse us.reverse:=by
 induction h with
 |nil=>exact .nil
 |cons r t ih=>rw[KB,KB];exact Vals.append ih (.cons r .nil)
section
variable {X:Cx} {pins:List (Addr×Obj)} {σ:St} {H:Hp} {s:Shared} {l b:Addr} {xs ys zs:List V}
theorem Inv.ag7 {its its':List Value} {n:Nat} {f:Array Value->Array Value} {t':Nat} (I:Inv X pins σ H s) (hH:H l=some (.lst xs))
  (e:s.heap.get? l=some { cls:=.type "list", data:=.seq its.toArray n }) (hf:f its.toArray=its'.toArray) (hv:Vals ys its') (hz:ys.length<=sizeLine) :
  Inv X pins σ (upd H l (.lst ys)) { s with heap:=s.heap.update l (Obj.mapSeq f),toks:=t' }:=by
 have q:=PySem.IsL.update e f
 rw[hf] at q
 refine I.write (x:=l) (e:=l) (by rw[hH];exact trivial) (.inl rfl) (fun b' u hb hu=>(Heap.get?_update_other s.heap (Obj.mapSeq f) (Ne.symm hb)).trans hu) ⟨_,q⟩ ?_
 exact⟨hz,its',_,hv,q⟩
theorem Inv.fresh (I:Inv X pins σ H s):H s.heap.objs.size=none:=I.hok.fresh (zi _)
theorem Inv.ak5 (I:Inv X pins σ H s) (hH:H l=some (.lst xs)):xs.length<=sizeLine/\∃ (its:List Value) (n:Nat),Vals xs its/\xs.length=its.length/\s.heap.get? l=some { cls:=.type "list", data:=.seq its.toArray n }:=by
 obtain⟨z,its,n,r,e⟩:=I.hok l _ hH
 exact⟨z,its,n,r,r.length,e⟩
end
section
variable {X:Cx}
def aec:V->List V->Hp->VK->Prop:=fun x vs H Q=>∃ l xs y,x=.ref l/\vs=[y]/\H l=some (.lst xs)/\xs.length < sizeLine/\Q .non (upd H l (.lst (xs++[y])))
theorem Ph:MtM X "list.append" aec:=by
 intro pins s σ H x vs v us Q I rx rv h
 obtain⟨l,xs,y,rfl,rfl,hH,hz,q⟩:=h
 cases rx
 obtain⟨u,rfl,ru⟩:=rv.one
 obtain⟨z,its,n,r,hl,e⟩:=I.ak5 hH
 refine call_meets F.slot_list_append ⟨_,e,rfl⟩ F.entry_list_append (F.args_list_append_2 _ _) (PySem.list_append l its.toArray n u (by rw[zr];omega)) ⟨e,?_⟩
 refine⟨.non,_,I.ag7 (its':=its++[u]) hH e (by simp) (r.append (.cons ru .nil)) ?_,rfl,q⟩
 rw[Zp,List.length_singleton]
 omega
end
section
variable {prog:Program} {w:World} {A:Around} {E:VP_} {s:Shared}
end
section
variable {X:Cx}
end
end L2
namespace L2
open PySem PySem.Spec PyProof.Rows
section
variable {κ:Type} [DecidableEq κ]
def DQ (kvs:List (κ×V)) (k:κ):Option V:=(kvs.find? fun kv=>decide (kv.1=k)).map (·.2)
def putK (kvs:List (κ×V)) (k:κ) (v:V):List (κ×V):=
 if (kvs.any fun kv=>decide (kv.1=k))=true then kvs.map (fun kv=>if kv.1=k then (kv.1,v) else kv) else kvs++[(k,v)]
def afO (kvs:List (κ×V)) (k:κ):List (κ×V):=kvs.filter fun kv=>decide (kv.1≠k)
theorem DR {p:κ×V} {r:List (κ×V)} {k:κ} (e:p.1=k):DQ (p::r) k=some p.2:=by simp[DQ,JP,e]
theorem DW {p:κ×V} {r:List (κ×V)} {k:κ} (e:¬ p.1=k):DQ (p::r) k=DQ r k:=by simp[DQ,JP,e]
theorem Kh (k:κ):∀ kvs:List (κ×V),(kvs.any fun kv=>decide (kv.1=k))=(DQ kvs k).isSome
 |[]=>rfl
 |p::r=>by
  rw[j3]
  by_cases e:p.1=k
  ·simp only[DR e,Q1 e,Bool.true_or,Option.isSome_some]
  ·rw[DW e,qq e,KL];exact Kh k r
theorem QW.Zi {o:Option V} {u:Option Value} (r:QW o u):o.isSome=u.isSome:=by
 cases o with
 |none=>cases u with
  |none=>rfl
  |some _=>exact (show False from r).elim
 |some _=>cases u with
  |none=>exact (show False from r).elim
  |some _=>rfl
theorem QW.getD {o:Option V} {u:Option Value} {d:V} {d':Value} (r:QW o u) (rd:RelV d d'):RelV (o.getD d) (u.getD d'):=by
 cases o with
 |none=>cases u with
  |none=>exact rd
  |some _=>exact (show False from r).elim
 |some _=>cases u with
  |none=>exact (show False from r).elim
  |some _=>exact r
theorem KV.val {kvs:List (κ×V)} {vs:List (κ×Value)} (r:KV kvs vs) (k:κ):QW (DQ kvs k) (valueAt vs k):=by
 unfold KV at r
 induction r with
 |nil=>exact True.intro
 |@cons p q ps qs h t ih=>
  obtain⟨h1,h2⟩:=h
  by_cases e:p.1=k
  ·have e':q.1=k:=h1.symm.trans e
   have b:valueAt (q::qs) k=some q.2:=by simp[valueAt,JP,e']
   rw[DR e,b];exact h2
  ·have e':¬ q.1=k:=fun z=>e (h1.trans z)
   have b:valueAt (q::qs) k=valueAt qs k:=by simp[valueAt,JP,e']
   rw[DW e,b];exact ih
theorem KV.any {kvs:List (κ×V)} {vs:List (κ×Value)} (r:KV kvs vs) (k:κ):(kvs.any fun kv=>decide (kv.1=k))=vs.any fun kv=>decide (kv.1=k):=by
 unfold KV at r
 induction r with
 |nil=>rfl
 |cons h t ih=>rw[j3,j3,ih,h.1]
theorem KV.repl {kvs:List (κ×V)} {vs:List (κ×Value)} (r:KV kvs vs) (k:κ) {y:V} {u:Value} (ry:RelV y u) :
  KV (kvs.map fun kv=>if kv.1=k then (kv.1,y) else kv) (vs.map fun kv=>if kv.1=k then (kv.1,u) else kv):=by
 unfold KV at r ⊢
 induction r with
 |nil=>exact .nil
 |@cons p q ps qs h t ih=>
  rw[zz,zz]
  refine .cons ?_ ih
  obtain⟨h1,h2⟩:=h
  by_cases e:p.1=k
  ·rw[zo e,zo (h1.symm.trans e)];exact⟨h1,ry⟩
  ·rw[zI e,zI (fun z=>e (h1.trans z))];exact⟨h1,h2⟩
theorem KV.put {kvs:List (κ×V)} {vs:List (κ×Value)} (r:KV kvs vs) (k:κ) {y:V} {u:Value} (ry:RelV y u):KV (putK kvs k y) (stored vs k u):=by
 unfold putK stored
 rw[r.any k]
 by_cases e:(vs.any fun kv=>decide (kv.1=k))=true
 ·rw[zo e,zo e];exact r.repl k ry
 ·rw[zI e,zI e];exact Paired.snoc r ⟨rfl,ry⟩
theorem KV.drop {kvs:List (κ×V)} {vs:List (κ×Value)} (r:KV kvs vs) (k:κ):KV (afO kvs k) (without vs k):=by
 unfold KV at r ⊢
 unfold afO without
 induction r with
 |nil=>exact .nil
 |@cons p q ps qs h t ih=>
  obtain⟨h1,h2⟩:=h
  rw[KP,KP]
  by_cases e:p.1=k
  ·have a:¬ decide (p.1≠k)=true:=by simp[e]
   have b:¬ decide (q.1≠k)=true:=by simp[h1.symm.trans e]
   rw[zI a,zI b];exact ih
  ·have e':¬ q.1=k:=fun z=>e (h1.trans z)
   have a:decide (p.1≠k)=true:=by simp[e]
   have b:decide (q.1≠k)=true:=by simp[e']
   rw[zo a,zo b];exact .cons ⟨h1,h2⟩ ih
theorem KV.length {kvs:List (κ×V)} {vs:List (κ×Value)} (r:KV kvs vs):kvs.length=vs.length:=Paired.length r
end
theorem ai0 {P:Program} {w:World} {k:Key} {u:Value} (r:RelV (kV k) u):(dJ P w).is k u=true:=by
 cases k with
 |inl i=>obtain⟨t,e⟩:=(show ∃ t,u=Value.int i t from r);subst e;exact T3 P w i t
 |inr x=>obtain⟨t,e⟩:=(show ∃ t,u=Value.str x t from r);subst e;exact T4 P w x t
abbrev KT (H:Hp):List (List Key×V)->List (List Key×Addr×Value)->Prop:=Paired fun p q=>p.1=q.1/\H q.2.1=some (.tup (p.1.map kV))/\RelV p.2 q.2.2
theorem KT.val {H:Hp} {kvs:List (List Key×V)} {xs:List (List Key×Addr×Value)} (r:KT H kvs xs) (k:List Key):QW (DQ kvs k) ((atKey xs k).map (·.2)):=by
 induction r with
 |nil=>exact True.intro
 |@cons p q ps qs h t ih=>
  obtain⟨h1,_,h2⟩:=h
  by_cases e:p.1=k
  ·have e':q.1=k:=h1.symm.trans e
   have b:atKey (q::qs) k=some q.2:=by simp[atKey,JP,e']
   rw[DR e,b];exact h2
  ·have e':¬ q.1=k:=fun z=>e (h1.trans z)
   have b:atKey (q::qs) k=atKey qs k:=by simp[atKey,JP,e']
   rw[DW e,b];exact ih
theorem KT.repl {H:Hp} {kvs:List (List Key×V)} {xs:List (List Key×Addr×Value)} (r:KT H kvs xs) (k:List Key) {y:V} {u:Value} (ry:RelV y u) :
  KT H (kvs.map fun kv=>if kv.1=k then (kv.1,y) else kv) (xs.map (putAt k u)):=by
 induction r with
 |nil=>exact .nil
 |@cons p q ps qs h t ih=>
  rw[zz,zz]
  refine .cons ?_ ih
  obtain⟨h1,h2,h3⟩:=h
  unfold putAt
  by_cases e:p.1=k
  ·rw[zo e,zo (h1.symm.trans e)];exact⟨h1,h2,ry⟩
  ·rw[zI e,zI (fun z=>e (h1.trans z))];exact⟨h1,h2,h3⟩
theorem KT.put {H:Hp} {kvs:List (List Key×V)} {xs:List (List Key×Addr×Value)} (r:KT H kvs xs) (k:List Key) {b:Addr} {y:V} {u:Value} (hb:H b=some (.tup (k.map kV))) (ry:RelV y u) :
  KT H (putK kvs k y) (storedH xs k b u):=by
 have e:(kvs.any fun kv=>decide (kv.1=k))=(atKey xs k).isSome:=by
  rw[Kh,(r.val k).Zi,Option.isSome_map]
 unfold putK storedH
 rw[e]
 by_cases q:(atKey xs k).isSome=true
 ·rw[zo q,zo q];exact r.repl k ry
 ·rw[zI q,zI q];exact Paired.snoc r ⟨rfl,hb,ry⟩
theorem KT.keeps {H H':Hp} {kvs:List (List Key×V)} {xs:List (List Key×Addr×Value)} (r:KT H kvs xs) (ht:∀ b ys,H b=some (.tup ys)->H' b=some (.tup ys)):KT H' kvs xs:=
 Paired.adN r fun _ _ z=>⟨z.1,ht _ _ z.2.1,z.2.2⟩
section
variable {P:Program} {w:World} {H:Hp} {h:Heap} {a:Addr}
end
def aed (H:Hp) (a:Addr) (y:V) (r:Option V):Prop:=
 (∃ kvs k,Rd H a (.dK kvs)/\y=kV k/\r=DQ kvs k)\/∃ kvs k b,Rd H a (.dT kvs)/\y=.ref b/\H b=some (.tup (k.map kV))/\r=DQ kvs k
def aee (H:Hp) (a:Addr) (y v:V) (H':Hp):Prop:=
 (∃ kvs k,H a=some (.dK kvs)/\y=kV k/\kvs.length < sizeLine/\H'=upd H a (.dK (putK kvs k v))) ∨
 ∃ kvs k b,H a=some (.dT kvs)/\y=.ref b/\H b=some (.tup (k.map kV))/\kvs.length < sizeLine/\H'=upd H a (.dT (putK kvs k v))
theorem aed.k {H:Hp} {a:Addr} {kvs:List (Key×V)} {k:Key} (e:H a=some (.dK kvs)):aed H a (kV k) (DQ kvs k):=.inl ⟨kvs,k,.inl e,rfl,rfl⟩
theorem aed.t {H:Hp} {a b:Addr} {kvs:List (List Key×V)} {k:List Key} (e:H a=some (.dT kvs)) (eb:H b=some (.tup (k.map kV))):aed H a (.ref b) (DQ kvs k):=.inr ⟨kvs,k,b,.inl e,rfl,eb,rfl⟩
theorem aee.k {H:Hp} {a:Addr} {kvs:List (Key×V)} {k:Key} {v:V} (e:H a=some (.dK kvs)) (hl:kvs.length < sizeLine):aee H a (kV k) v (upd H a (.dK (putK kvs k v))):=.inl ⟨kvs,k,e,rfl,hl,rfl⟩
theorem aee.t {H:Hp} {a b:Addr} {kvs:List (List Key×V)} {k:List Key} {v:V} (e:H a=some (.dT kvs)) (eb:H b=some (.tup (k.map kV))) (hl:kvs.length < sizeLine) :
  aee H a (.ref b) v (upd H a (.dT (putK kvs k v))):=.inr ⟨kvs,k,b,e,rfl,eb,hl,rfl⟩
section
variable {X:Cx} {pins:List (Addr×Obj)} {σ:St} {H:Hp} {s:Shared} {a:Addr} {y v:V} {u r:Value} {o:Option V} {A:Around} {E:VP_}
theorem Inv.big (I:Inv X pins σ H s):sysModules < s.heap.objs.size:=by
 have h:mainGlobals < s.heap.objs.size:=(I.mod.glob.keeps I.bk).lt
 exact Nat.lt_trans (by decide) h
end
section
variable {X:Cx} {pins:List (Addr×Obj)} {σ:St} {H:Hp} {s:Shared} {a:Addr} {kvs:List (Key×V)} {k:Key} {u:Value} {A:Around} {E:VP_}
end
section
variable {X:Cx} {o i e value:Expr} {pos pos' tpos:Pos} {td ty tv:TE}
end
theorem aa6 {P:Program} {w:World} {H:Hp} (h:Heap) (hb:sysModules < h.objs.size):nY P w H (h.push { cls:=.type "dict", data:=.dict #[] }) h.objs.size (.dK []):=
 ⟨QO _,beq_eq_false_iff_ne.mpr (Ne.symm (Zl hb)),[],.nil,Heap.DictOf.new h⟩
def ag8:TE:=fun _ H Q=>∀ p,H p=none->Q (.ref p) (upd H p (.dK []))
section
variable {X:Cx} {pos:Pos}
theorem aa7:PE X (.Dict [] [] pos) ag8:=fun pins s σ H Q I h=>
 wpAny_Dict_empty ⟨.ref s.heap.objs.size,_,I.laid (a:=s.heap.objs.size) (o:=.dK []) (t':=s.toks) (fun _ _ q=>zg _ q) (zi _) (aa6 s.heap I.big),rfl,h _ (I.hok.fresh (zi _))⟩
end
structure M1 (X:Cx) (o:Expr) (m:Str) (apos:Pos) (e:Expr) (cpos:Pos):Prop where
 base:attributeBase o m X.env (eval o X.env)=eval o X.env
 few:((backTo cpos (starEach [e] X.env)).all (fun x=>!x.1)&&(backToKw cpos (keywordEach [] X.env)).all (fun x=>x.1.isSome)
  && decide (([e]:List Expr).length+([]:List Keyword).length+(if ([]:List Keyword).isEmpty then 0 else 1) < 30))=true
 line:(apos.endLine==cpos.line)=true
 trees:backTo cpos (starEach [e] X.env)=[(false,eval e X.env)]
structure M2 (X:Cx) (o:Expr) (m:Str) (apos:Pos) (e f:Expr) (cpos:Pos):Prop where
 base:attributeBase o m X.env (eval o X.env)=eval o X.env
 few:((backTo cpos (starEach [e,f] X.env)).all (fun x=>!x.1)&&(backToKw cpos (keywordEach [] X.env)).all (fun x=>x.1.isSome)
  && decide (([e,f]:List Expr).length+([]:List Keyword).length+(if ([]:List Keyword).isEmpty then 0 else 1) < 30))=true
 line:(apos.endLine==cpos.line)=true
 trees:backTo cpos (starEach [e,f] X.env)=[(false,eval e X.env),(false,eval f X.env)]
section
variable {X:Cx} {pins:List (Addr×Obj)} {σ:St} {H:Hp} {s:Shared} {a:Addr} {y d:V} {u r:Value} {o:Option V} {A:Around} {E:VP_}
end
section
variable {X:Cx} {o e f:Expr} {apos cpos:Pos} {td ty tx:TE}
end
section
variable {X:Cx} {pins:List (Addr×Obj)} {σ:St} {H:Hp} {s:Shared} {a:Addr} {kvs:List (Key×V)} {A:Around} {E:VP_}
end
section
variable {X:Cx} {pins:List (Addr×Obj)} {σ:St} {H:Hp} {s:Shared} {a:Addr} {y:V} {u:Value} {A:Around} {E:VP_}
end
end L2
namespace Att
open PySem PySem.W PySem.Calls PyProof.Rows
theorem Jq {P:Params} {h:Heap}:∀ (ns:List Int) (vs:List Value),WellAll P h vs (ns.map WData.int)->IntsAre vs ns:=by
 intro ns
 induction ns with
 |nil=>
  intro vs w
  rw[JE] at w
  cases w
  exact .nil
 |cons n ns ih=>
  intro vs w
  rw[zz] at w
  cases w with
  |cons a b=>
   cases a
   exact .cons _ _ (ih _ b)
theorem Zj {l:OpenLaw} {n:Nat} (hn:l.most=some n) {P:Params} {h:Heap} {args:List WData} {vals:List Value}
  (hpre:l.row.toRowW.claim.pre args=true) (hwl:WellAll P h vals args) :
  ∃ a vs ns,vals=[Value.ref a]/\args=[WData.list (ns.map WData.int)]/\h.get? a=some { cls:=.type "list", data:=.seq vs.toArray }/\IntsAre vs ns/\ns.length<=n:=by
 have hsh:WShape.hasAll [] args [.list .int]=true:=(pre_splitW hpre).1
 have hc:l.pre.holds [] { args:=args }=true:=(pre_splitW hpre).2
 obtain⟨d,r,rfl,h1,h2⟩:=hasAllW_cons hsh
 obtain rfl:=hasAllW_nil h2
 obtain⟨xs,rfl,h3⟩:=hasW_list h1
 obtain⟨ns,rfl⟩:=items_int h3
 have hlen:ns.length<=n:=by
  unfold OpenLaw.pre at hc
  have h4:(WTm.not (.lt (.lit (.int (n:Int))) (.len (.arg 0)))).holds [] { args:=[.list (ns.map .int)] }=true:=by
   have h4:=(holds_andW hc).1
   rw[hn] at h4
   exact h4
  have h5:=condW_of h4 (w_not (w_lt w_lit (w_len_list (w_arg rfl))))
  rw[zh] at h5
  refine Nat.le_of_not_lt fun q=>?_
  have q':(n:Int) < ((ns.length:Nat):Int):=by omega
  first
   |(rw[Q1 q'] at h5;exact absurd h5 (by decide))
   |(simp at h5;omega)
 cases hwl with
 |cons w1 w2=>
  cases w2
  cases w1 with
  |list ho hall=>exact⟨_,_,ns,rfl,rfl,ho,Jq ns _ hall,hlen⟩
theorem Zk (l:OpenLaw) (args:List WData):l.row.toRowW.claim.post args (.bool true) args=true:=
 postW_of (r:=l.row.toRowW) (X:=(true==true))
  (show WShape.has [] (.bool true) .bool=true by first|rfl|decide|simp[WShape.has,WShape.arms,WShape.armsAll])
  (show (WTm.eq .res (.lit (.bool true))).value [] { args:=args,res:=some (.bool true),after:=args }=some (.bool (true==true)) from w_eq_bool (w_res rfl) w_lit) rfl
theorem Ua {l:OpenLaw} {n:Nat} {q:Program} {loose:LS_} {XP:(Str->Option Value)->Heap->Prop} {YP:World->Heap->Prop} {d:DefRec}
  (hn:l.most=some n) (hdf:d.params.defaults=[])
  (call:∀ (w:World) (s₀ s₁:Shared) (mg mb:Str->Option Value) (fa:Addr) (o:Obj) (pm cd doc:Value) (a:Addr) (vs:List Value) (ns:List Int),
   Ground q loose [] XP w s₀ mg mb s₁.heap->YP w s₁.heap →
   s₁.heap.get? fa=some o->o.data=.func (docDef d.name d.params d.body d.scope pm cd doc)->s₁.heap.CodeRec cd d.name->mg d.name=some (.ref fa) →
   s₁.heap.get? a=some { cls:=.type "list", data:=.seq vs.toArray }->IntsAre vs ns->ns.length<=n->s₁.gens=#[] →
   codeAny (model l.prog w) callerA (.call (.ref fa) ⟨[.ref a],[]⟩) (fun r s'=>r=.ok (.ret (.bool true))/\OldK s₁.heap s'.heap/\s'.os=s₁.os/\AllBare s'.gens) s₁) :
  WalkO q loose XP YP l.row.toRowW d [] (fun f vs=>PySem.call f vs):=by
 intro w s₀ s₁ mg mb G Y fa o pm cd doc dV kV ho hd hcd hD hmg hg args vals as hpre hlay hrd hwl hlo
 obtain rfl:dV=.none:=Dflts.none hD hdf
 obtain rfl:kV=.none:=Dflts.noKw hD
 obtain⟨a,vs,ns,rfl,rfl,hobj,hints,hlen⟩:=Zj hn hpre hwl
 refine enter_call (codeAny_mono (call w s₀ s₁ mg mb fa o pm cd doc a vs ns G Y ho (fd_plain hd) hcd hmg hobj hints hlen hg) fun r s' hq=>?_)
 obtain⟨rfl,h2,h3,h4⟩:=hq
 exact⟨.inl ⟨.bool true,.bool true,[],rfl,fun _=>rfl,.bool true,Zk l _,fun _=>⟨List.Pairwise.nil,fun _ hm=>(nomatch hm)⟩⟩,h2,h3,h4⟩
section
variable {prog:Program} {w:World} {A:Around} {E:VP_} {s:Shared} {K:Frag}
end
end Att
namespace L2
open PySem PySem.Spec PyProof.Rows
theorem Pj:∀ {vs:List Value} {ns:List Int},IntsAre vs ns->Vals (ns.map V.int) vs
 |_,_,.nil=>.nil
 |_,_,.cons n t h=>.cons ⟨t,rfl⟩ (Pj h)
def Only (H:Hp):Prop:=∀ b,H b=none\/∃ o xs,H b=some (.Dw o (.lst xs))
theorem aa8 {P:Program} {w:World} {K:FG_} {mg mb:Str->Option Value} {CX:X5} {k:Nat} {fa a:Addr} {fd:FuncData} {x:Str} {sp:Sp} {s₁:Shared} {vs:List Value} {ns:List Int}
  (KX:K.In s₁.heap) (hns:s₁.heap.Ns mainGlobals mg) (hb:s₁.heap.Ns builtinsNs mb) (hbb:∀ x:Str,x ≠ "__name__" → mb x=bootBuiltins x) (hlim:s₁.heap.NoLimit) (hg:s₁.gens=#[])
  (ha:s₁.heap.get? a=some { cls:=.type "list", data:=.seq vs.toArray }) (hi:IntsAre vs ns) (hl:ns.length<=sizeLine) (hr:pX k callerA)
  (F:∀ base:Heap,K.In base->base.Ns mainGlobals mg->bM P w K mg base CX k fa fd [x] sp) (hbind:∀ (s:Shared) (u:Value),BindsTo s fd ⟨[u],[]⟩ [(x,u)])
  (hsp:∀ H:Hp,Only H->yK K H a (ns.map V.int)->sp [.ref a] H (fun v _=>v=.bl true) fun _ _ _=>False)
  (hCX:∀ H e s',CX [] H s₁ (fun _ _ _=>False) e s'->False) :
  codeAny (model P w) callerA (.call (.ref fa) ⟨[.ref a],[]⟩) (fun r s'=>r=.ok (.ret (.bool true))/\OldK s₁.heap s'.heap/\s'.os=s₁.os/\AllBare s'.gens) s₁:=by
 have rv:=Pj hi
 have lenV:=hi.length
 have core:∀ H:Hp,Only H->yK K H a (ns.map V.int)->Jo P w H s₁.heap->(∀ b,H b≠none->b=a)->(H a≠none->K.lookup a=none) →
   codeAny (model P w) callerA (.call (.ref fa) ⟨[.ref a],[]⟩) (fun r s'=>r=.ok (.ret (.bool true))/\OldK s₁.heap s'.heap/\s'.os=s₁.os/\AllBare s'.gens) s₁:=by
  intro H hO hS hok hA hK
  have X8:∀ {b:Addr} {o:Obj},s₁.heap.get? b=some o->H b=none->(QX s₁.heap H).get? b=some o:=fun e n=>aaO e n
  have noA:∀ {b:Addr} {o:Obj} {es:Array DictEntry} {ep:Nat},s₁.heap.get? b=some o->o.data=.dict es ep->H b=none:=fun {b o es ep} e d=>by
   cases q:H b with
   |none=>rfl
   |some u=>
    have e':b=a:=hA b (by rw[q];simp)
    subst e'
    rw[ha] at e;cases e
    have d':Data.seq vs.toArray _=Data.dict es ep:=d
    cases d'
  have nsK:∀ {b:Addr} {m:Str->Option Value},s₁.heap.Ns b m->(QX s₁.heap H).Ns b m:=fun {b m} ⟨o,es,ep,e,d,r⟩=>⟨o,es,ep,X8 e (noA e d),d,r⟩
  have hKb:K.In (QX s₁.heap H):=fun b o e=>X8 (KX b o e) (by
   cases q:H b with
   |none=>rfl
   |some u=>
    have e':b=a:=hA b (by rw[q];simp)
    subst e'
    rw[hK (by rw[q];simp)] at e;cases e)
  have hM:Mod K mg (QX s₁.heap H):=⟨hKb,nsK hns,⟨mb,nsK hb,hbb⟩,let ⟨mc,h1,h2⟩:=hlim;⟨mc,nsK h1,h2⟩⟩
  have e0:Ws P w K mg (QX s₁.heap H) callerA [] s₁ H:=⟨rfl,hM,fun b o e=>adO e,ke (Y7 _ _),trivial,fun b hb=>absurd (show b∈([]:List Addr) from hb) (by simp),hok,.of_eq hg⟩
  refine codeAny_mono ((F _ hKb (nsK hns)).run callerA [] s₁ H ⟨[.ref a],[]⟩ [.ref a] [.ref a] _ _ hr e0 (hbind s₁ (.ref a)) (.cons rfl .nil) (hsp H hO hS)) fun r s' h=>?_
  cases r with
  |error e=>exact (hCX H e s' h).elim
  |ok fl=>
   cases fl with
   |next=>exact False.elim h
   |brk=>exact False.elim h
   |cont=>exact False.elim h
   |ret u=>
    obtain⟨v,H',os,bare,un,hok',r',q⟩:=h
    have q':v=.bl true:=q
    subst q'
    obtain rfl:u=Value.bool true:=r'
    refine⟨rfl,OldK.of_keep fun b o e=>?_,os,bare⟩
    cases q:H b with
    |none=>exact un.keep b o e q (by intro z;exact absurd (show b∈([]:List Addr) from z) (by simp)) (by simp)
    |some u=>
     rcases hO b with z|⟨ob,xs,z⟩
     ·rw[q] at z;cases z
     ·have z2:=un.Cy b ob _ z
      obtain⟨e1,_⟩:=hok b _ z
      obtain⟨e2,_⟩:=hok' b _ z2
      rw[e] at e1;cases e1
      exact e2
 cases hk:K.lookup a with
 |some o=>
  have e:=KX a o hk
  rw[ha] at e
  cases e
  refine core (fun _=>none) (fun _=>.inl rfl) (.inr ⟨_,vs.toArray,_,hk,rfl,rfl,rfl,by rw[zr,lenV];exact hl,by simpa using rv⟩) (fun b u z=>by have z':(none:Option HO)=some u:=z;cases z') (fun b z=>absurd rfl z) fun z=>absurd rfl z
 |none=>
  refine core (fun b=>if b=a then some (.Dw { cls:=.type "list", data:=.seq vs.toArray } (.lst (ns.map V.int))) else none) (fun b=>?_) (.inl (.inr ⟨{ cls:=.type "list", data:=.seq vs.toArray },zo rfl⟩)) (fun b u z=>?_) (fun b z=>?_) fun _=>hk
  ·by_cases hb:b=a
   ·exact .inr ⟨_,_,zo hb⟩
   ·exact .inl (zI hb)
  ·by_cases hb:b=a
   ·have z':=(zo hb).symm.trans z
    cases z'
    subst hb
    exact⟨ha,by rw[zh];exact hl,vs,_,rv,ha⟩
   ·have z':=(zI hb).symm.trans z
    cases z'
  ·by_cases hb:b=a
   ·exact hb
   ·exact absurd (zI hb) z
end L2
namespace L2
open PySem PySem.Spec PyProof.Rows
theorem aef {l:PySem.W.OpenLaw} {n k:Nat} {q:Program} {loose:LS_} {XP:(Str->Option Value)->Heap->Prop} {YP:World->Heap->Prop} {d:DefRec} {K:Params->FG_} {CX:World->X5} {sp:World->Sp} {x:Str}
  (hn:l.most=some n) (hn2:n<=sizeLine) (hdf:d.params.defaults=[]) (hr:pX k callerA)
  (hY:∀ (w:World) (h:Heap),YP w h->(K w.params).In h)
  (F:∀ (w:World) (mg:Str->Option Value) (fa:Addr) (h:Heap),(K w.params).In h->h.Ns mainGlobals mg->mg d.name=some (.ref fa) →
   ∃ fd:FuncData,(∀ (s:Shared) (u:Value),BindsTo s fd ⟨[u],[]⟩ [(x,u)]) ∧
    ∀ base:Heap,(K w.params).In base->base.Ns mainGlobals mg->bM l.prog w (K w.params) mg base (CX w) k fa fd [x] (sp w))
  (hsp:∀ (w:World) (H:Hp) (a:Addr) (ns:List Int),ns.length<=n->Only H->yK (K w.params) H a (ns.map V.int)->sp w [.ref a] H (fun v _=>v=.bl true) fun _ _ _=>False)
  (hCX:∀ (w:World) (H:Hp) (s:Shared) (e:Value) (s':Shared),CX w [] H s (fun _ _ _=>False) e s'->False) :
  PySem.W.WalkO q loose XP YP l.row.toRowW d [] (fun f vs=>PySem.call f vs):=by
 refine Att.Ua hn hdf fun w s₀ s₁ mg mb fa o pm cd doc a vs ns G Y ho hd hcd hmg hobj hints hlen hg=>?_
 have KX:=hY w _ Y
 obtain⟨fd,hb,hF⟩:=F w mg fa _ KX G.T.g hmg
 exact aa8 KX G.T.g G.T.b G.T.builtins G.T.nolimit hg hobj hints (zw hlen hn2) hr hF hb (fun H hO hS=>hsp w H a ns hlen hO hS) fun H e s'=>hCX w H s₁ e s'
theorem aa9 {l:PySem.W.OpenLaw} {n k:Nat} {q:Program} {loose:LS_} {XP:(Str->Option Value)->Heap->Prop} {YP:World->Heap->Prop} {d:DefRec} {K:Params->FG_} {CX:X5} {sp:FG_->Sp} {x:Str}
  (hn:l.most=some n) (hn2:n<=sizeLine) (hdf:d.params.defaults=[]) (hr:pX k callerA)
  (hY:∀ (w:World) (h:Heap),YP w h->(K w.params).In h)
  (F:∀ (w:World) (mg:Str->Option Value) (fa:Addr) (h:Heap),(K w.params).In h->h.Ns mainGlobals mg->mg d.name=some (.ref fa) →
   ∃ fd:FuncData,(∀ (s:Shared) (u:Value),BindsTo s fd ⟨[u],[]⟩ [(x,u)]) ∧
    ∀ base:Heap,(K w.params).In base->base.Ns mainGlobals mg->bM l.prog w (K w.params) mg base CX k fa fd [x] (sp (K w.params)))
  (hsp:∀ (K:FG_) (H:Hp) (a:Addr) (ns:List Int),ns.length<=n->Only H->yK K H a (ns.map V.int)->sp K [.ref a] H (fun v _=>v=.bl true) fun _ _ _=>False)
  (hCX:∀ (H:Hp) (s:Shared) (e:Value) (s':Shared),CX [] H s (fun _ _ _=>False) e s'->False) :
  PySem.W.WalkO q loose XP YP l.row.toRowW d [] (fun f vs=>PySem.call f vs):=
 aef (K:=K) (CX:=fun _=>CX) (sp:=fun w=>sp (K w.params)) hn hn2 hdf hr hY F (fun w H a ns h1 h2 h3=>hsp (K w.params) H a ns h1 h2 h3) fun _ H s e s'=>hCX H s e s'
end L2
namespace L2
open PySem PySem.Spec PyProof.Rows
def Bd (s:Stmt):Arguments:=match s with
 |.FunctionDef _ a _ _ _ _ _ _ _ _=>a
 |_=>{ posonlyargs:=[],args:=[],vararg:=none,kwonlyargs:=[],kw_defaults:=[],kwarg:=none,defaults:=[] }
def qG (s:Stmt):List Stmt:=match s with
 |.FunctionDef _ _ b _ _ _ _ _ _ _=>b
 |_=>[]
def aW (s:Stmt):Scope:=match s with
 |.FunctionDef _ _ _ _ _ _ sc _ _ _=>sc
 |_=>{ kind:=.function,names:=[],isGenerator:=false,isCoroutine:=false }
abbrev jh:X5:=fun _ _ _ _ _ _=>False
abbrev E0:XK:=fun _ _ _=>False
theorem afP {X:Cx}:Passes jh X E0:=fun _ _ _ _ _ _ _ h=>h.elim
structure zF (K:FG_) (x qual:Str) (st:Stmt) (f:Addr) (fd:FuncData):Prop where
 ex:∃ (oc:Value) (od:Option Addr) (kV doc pm:Value) (an:Option Addr) (cdv ct:Value) (osl:Array (Option Value)),
  fd=PySem.W.fnOf x qual (Bd st) (qG st) (aW st) .none kV doc pm an cdv ct/\K.lookup f=some ⟨oc,od,.func fd,osl⟩/\PySem.W.codeIn K cdv qual=true
 kp:PySem.W.keepIn K (.ref f)=true
section
variable {P:Program} {w:World} {K:FG_} {mg:Str->Option Value} {base:Heap}
theorem zF.ok {x qual:Str} {st:Stmt} {f:Addr} {fd:FuncData} {N ps:LS_} {k:Nat} {sp:Sp} (F:zF K x qual st f fd) (S:bT N ps (aW st)) (len:∀ vs H Q E,sp vs H Q E->vs.length=ps.length)
  (hbody:∀ (cdv:Value) (A:Around) (outer:List Env) (s:Shared) (H:Hp) (vs:List V) (Q:VK) (E:XK),pX k (A.deeper (envOfC qual (aW st) s.heap.objs.size f cdv))->sp vs H Q E →
   ∃ t,XS (Q7 jh P w K mg base N qual (aW st) f cdv A outer s H E).nox (qG st) t/\t { nx:=fun _ H'=>Q .non H',rt:=Q } (start N vs) H):bM P w K mg base jh (k+1) f fd ps sp:=by
 obtain⟨oc,od,kV,doc,pm,an,cdv,ct,osl,rfl,lk,hcd⟩:=F.ex
 refine aiT lk hcd S len fun A outer s H vs Q E hr hsp=>?_
 obtain⟨t,h,q⟩:=hbody cdv A outer s H vs Q E hr hsp
 exact⟨t,h.nox,q⟩
theorem zF.binds {x qual:Str} {st:Stmt} {f:Addr} {fd:FuncData} {ps:LS_} (F:zF K x qual st f fd)
  (h:∀ (kV doc pm:Value) (an:Option Addr) (cdv ct:Value) (us:List Value),us.length=ps.length->bindArgs (PySem.W.fnOf x qual (Bd st) (qG st) (aW st) .none kV doc pm an cdv ct) ⟨us,[]⟩=pure (ps.zip us)):Binds K fd ps []:=by
 obtain⟨oc,od,kV,doc,pm,an,cdv,ct,osl,rfl,lk,hcd⟩:=F.ex
 exact .all (h kV doc pm an cdv ct)
theorem eH {x qual:Str} {st:Stmt} {f:Addr} {oc:Value} {od an:Option Addr} {osl:Array (Option Value)} {kV doc pm cdv ct:Value} (l:K.lookup f=some ⟨oc,od,.func (PySem.W.fnOf x qual (Bd st) (qG st) (aW st) .none kV doc pm an cdv ct),osl⟩)
  (c:PySem.W.codeIn K cdv qual=true) (k:PySem.W.keepIn K (.ref f)=true):zF K x qual st f (PySem.W.fnOf x qual (Bd st) (qG st) (aW st) .none kV doc pm an cdv ct):=⟨⟨oc,od,kV,doc,pm,an,cdv,ct,osl,rfl,l,c⟩,k⟩
end
section
variable {X:Cx}
theorem pv (i:Nat) {x:Str} {pos:Pos} (hN:X.N[i]?=some x:=by rfl) (hv:Vis X.env.scope x:=by first|exact kT rfl|exact ki (kT rfl)|exact ki (ki rfl)) (hd:(x==("__debug__" : Str))=false:=by decide)
  (hcd:(x==("__classdict__" : Str))=false:=by decide):PE X (.Name x pos) (aix i):=Ke hN hv hd hcd
end
def Same (H H':Hp):Prop:=∀ b o,H b=some o->H' b=some o
theorem Same.refl (H:Hp):Same H H:=fun _ _ h=>h
theorem Same.trans {H H1 H2:Hp} (a:Same H H1) (b:Same H1 H2):Same H H2:=fun c o h=>b c o (a c o h)
theorem Same.free {H H':Hp} (e:Same H H') {l:Addr} (h:H' l=Option.none):H l=Option.none:=by
 cases q:H l with
 |none=>rfl
 |some o=>
  rw[e l o q] at h
  cases h
theorem Same.seq {K:FG_} {H H':Hp} {a:Addr} {xs:List V} (e:Same H H') (h:yK K H a xs):yK K H' a xs:=by
 rcases h with (h|⟨o,h⟩)|h
 ·exact .inl (.inl (e _ _ h))
 ·exact .inl (.inr ⟨o,e _ _ h⟩)
 ·exact .inr h
end L2
end
section
namespace P1
open PySem PySem.Spec PyProof.Rows L2
inductive Dt where
 |non|bl (b:Bool)|int (i:Int)|str (x:Str)|tup (xs:List Dt)|lst (xs:List Dt)|emp
inductive Bx where
 |z (d:Dt)|l (ds:List Dt)|o (ds:List Dt)|n (kvs:List (Key×Dt))|m (kvs:List (Key×Dt)) (w:Option Addr)
abbrev Ev:=List (Option Bx)
def FzL (K:FG_) (H:Hp) (a:Addr) (xs:List V):Prop:=
 (∃ o,H a=some (.Dw o (.lst xs))) ∨
  ∃ (o:Obj) (its:Array Value) (n:Nat),K.lookup a=some o/\o.cls=.type "list" ∧ o.dict=none/\o.data=.seq its n/\its.size<=sizeLine/\Vals xs its.toList
theorem FzL.sq {K:FG_} {H:Hp} {a:Addr} {xs:List V} (h:FzL K H a xs):yK K H a xs:=by
 rcases h with h|h
 ·exact .inl (.inr h)
 ·exact .inr h
mutual
def Rep (K:FG_) (H:Hp):Dt->V->Prop
 |.non,v=>v=.non
 |.bl b,v=>v=.bl b
 |.int i,v=>v=.int i
 |.str x,v=>v=.str x/\x.length<=sizeLine
 |.tup ds,v=>∃ a vs,v=.ref a/\BL K H a vs/\aR K H ds vs
 |.lst ds,v=>∃ a vs,v=.ref a/\FzL K H a vs/\aR K H ds vs
 |.emp,v=>∃ a o,v=.ref a/\H a=some (.Dw o (.dK []))
def aR (K:FG_) (H:Hp):List Dt->List V->Prop
 |[],vs=>vs=[]
 |d::ds,vs=>∃ v r,vs=v::r/\Rep K H d v/\aR K H ds r
end
structure Kp (H H':Hp):Prop where
 t:∀ a xs,H a=some (.tup xs)->H' a=some (.tup xs)
 f:∀ a o u,H a=some (.Dw o u)->H' a=some (.Dw o u)
theorem Kp.of {H H':Hp} (s:Same H H'):Kp H H':=⟨fun a _ h=>s a _ h,fun a _ _ h=>s a _ h⟩
theorem Kp.sqT {K:FG_} {H H':Hp} {a:Addr} {xs:List V} (k:Kp H H') (h:BL K H a xs):BL K H' a xs:=by
 rcases h with (h|⟨o,h⟩)|h
 ·exact .inl (.inl (k.t _ _ h))
 ·exact .inl (.inr ⟨o,k.f _ _ _ h⟩)
 ·exact .inr h
theorem Kp.fzL {K:FG_} {H H':Hp} {a:Addr} {xs:List V} (k:Kp H H') (h:FzL K H a xs):FzL K H' a xs:=by
 rcases h with⟨o,h⟩|h
 ·exact .inl ⟨o,k.f _ _ _ h⟩
 ·exact .inr h
theorem Kp.lst {H:Hp} {a:Addr} {xs:List V} {o:HO} (h:H a=some (.lst xs)):Kp H (upd H a o):=by
 refine⟨fun b ys e=>?_,fun b ob u e=>?_⟩
 ·rw[aY (tH e h (by intro z;cases z))];exact e
 ·rw[aY (tH e h (by intro z;cases z))];exact e
theorem Kp.dk {H:Hp} {a:Addr} {xs:List (Key×V)} {o:HO} (h:H a=some (.dK xs)):Kp H (upd H a o):=by
 refine⟨fun b ys e=>?_,fun b ob u e=>?_⟩
 ·rw[aY (tH e h (by intro z;cases z))];exact e
 ·rw[aY (tH e h (by intro z;cases z))];exact e
mutual
theorem Rep.kp {K:FG_} {H H':Hp} (k:Kp H H'):∀ {d:Dt} {v:V},Rep K H d v->Rep K H' d v
 |.non,_,h=>by simpa only[Rep] using h
 |.bl _,_,h=>by simpa only[Rep] using h
 |.int _,_,h=>by simpa only[Rep] using h
 |.str _,_,h=>by simpa only[Rep] using h
 |.tup ds,_,h=>by
  simp only[Rep] at h ⊢
  obtain⟨a,vs,e,q,r⟩:=h
  exact⟨a,vs,e,k.sqT q,aR.kp k r⟩
 |.lst ds,_,h=>by
  simp only[Rep] at h ⊢
  obtain⟨a,vs,e,q,r⟩:=h
  exact⟨a,vs,e,k.fzL q,aR.kp k r⟩
 |.emp,_,h=>by
  simp only[Rep] at h ⊢
  obtain⟨a,o,e,q⟩:=h
  exact⟨a,o,e,k.f _ _ _ q⟩
theorem aR.kp {K:FG_} {H H':Hp} (k:Kp H H'):∀ {ds:List Dt} {vs:List V},aR K H ds vs->aR K H' ds vs
 |[],_,h=>by simpa only[aR] using h
 |d::ds,_,h=>by
  simp only[aR] at h ⊢
  obtain⟨v,r,e,q,t⟩:=h
  exact⟨v,r,e,Rep.kp k q,aR.kp k t⟩
end
theorem aR.length {K:FG_} {H:Hp}:∀ {ds:List Dt} {vs:List V},aR K H ds vs->vs.length=ds.length
 |[],_,h=>by simp only[aR] at h;subst h;rfl
 |d::ds,_,h=>by
  simp only[aR] at h
  obtain⟨v,r,rfl,_,t⟩:=h
  simp[aR.length t]
theorem aR.nil {K:FG_} {H:Hp}:aR K H [] []:=by simp only[aR]
theorem aR.cons {K:FG_} {H:Hp} {d:Dt} {v:V} {ds:List Dt} {vs:List V} (h:Rep K H d v) (t:aR K H ds vs):aR K H (d::ds) (v::vs):=by
 simp only[aR];exact⟨v,vs,rfl,h,t⟩
theorem aR.append {K:FG_} {H:Hp}:∀ {ds es:List Dt} {vs us:List V},aR K H ds vs->aR K H es us->aR K H (ds++es) (vs++us)
 |[],_,_,_,h,t=>by simp only[aR] at h;subst h;exact t
 |d::ds,_,_,_,h,t=>by
  simp only[aR] at h
  obtain⟨v,r,rfl,q,h⟩:=h
  exact aR.cons q (aR.append h t)
theorem aR.drop {K:FG_} {H:Hp}:∀ (n:Nat) {ds:List Dt} {vs:List V},aR K H ds vs->aR K H (ds.drop n) (vs.drop n)
 |0,_,_,h=>h
 |n+1,[],_,h=>by simp only[aR] at h;subst h;exact aR.nil
 |n+1,d::ds,_,h=>by
  simp only[aR] at h
  obtain⟨v,r,rfl,q,h⟩:=h
  exact aR.drop n h
theorem aR.take {K:FG_} {H:Hp}:∀ (n:Nat) {ds:List Dt} {vs:List V},aR K H ds vs->aR K H (ds.take n) (vs.take n)
 |0,_,_,_=>aR.nil
 |n+1,[],_,h=>by simp only[aR] at h;subst h;exact aR.nil
 |n+1,d::ds,_,h=>by
  simp only[aR] at h
  obtain⟨v,r,rfl,q,h⟩:=h
  exact aR.cons q (aR.take n h)
theorem aR.get {K:FG_} {H:Hp}:∀ {ds:List Dt} {vs:List V} {i:Nat} {d:Dt},aR K H ds vs->ds[i]?=some d->∃ v,vs[i]?=some v/\Rep K H d v
 |[],_,_,_,_,e=>by simp at e
 |d::ds,_,0,_,h,e=>by
  simp only[aR] at h
  obtain⟨v,r,rfl,q,h⟩:=h
  simp at e;subst e;exact⟨v,rfl,q⟩
 |d::ds,_,i+1,_,h,e=>by
  simp only[aR] at h
  obtain⟨v,r,rfl,q,h⟩:=h
  obtain⟨u,e1,e2⟩:=aR.get h (i:=i) (by simpa using e)
  exact⟨u,by simpa using e1,e2⟩
def okK:Key->Prop
 |.inl _=>True
 |.inr x=>x.length<=sizeLine
def mV (K:FG_) (H:Hp) (kvs:List (Key×Dt)) (ks:List (Key×V)):Prop:=ks.map (·.1)=kvs.map (·.1)/\aR K H (kvs.map (·.2)) (ks.map (·.2))/\∀ p∈kvs,okK p.1
theorem mV.kp {K:FG_} {H H':Hp} {kvs:List (Key×Dt)} {ks:List (Key×V)} (h:mV K H kvs ks) (k:Kp H H'):mV K H' kvs ks:=⟨h.1,h.2.1.kp k,h.2.2⟩
def bF (K:FG_) (H:Hp):Bx->V->Prop
 |.z d,v=>Rep K H d v
 |.l ds,v=>∃ a vs,v=.ref a/\Rd H a (.lst vs)/\aR K H ds vs
 |.o ds,v=>∃ a vs,v=.ref a/\H a=some (.lst vs)/\aR K H ds vs
 |.n kvs,v=>∃ a ks,v=.ref a/\Rd H a (.dK ks)/\mV K H kvs ks
 |.m kvs w,v=>∃ a ks,v=.ref a/\H a=some (.dK ks)/\mV K H kvs ks/\∀ b,w=some b->b=a
theorem bF.same {K:FG_} {H H':Hp} (s:Same H H') {b:Bx} {v:V} (h:bF K H b v):bF K H' b v:=by
 cases b with
 |z d=>exact Rep.kp (.of s) h
 |l ds=>
  obtain⟨a,vs,e,q,r⟩:=h
  refine⟨a,vs,e,?_,r.kp (.of s)⟩
  rcases q with q|⟨o,q⟩
  ·exact .inl (s _ _ q)
  ·exact .inr ⟨o,s _ _ q⟩
 |o ds=>
  obtain⟨a,vs,e,q,r⟩:=h
  exact⟨a,vs,e,s _ _ q,r.kp (.of s)⟩
 |n kvs=>
  obtain⟨a,vs,e,q,r⟩:=h
  refine⟨a,vs,e,?_,r.kp (.of s)⟩
  rcases q with q|⟨o,q⟩
  ·exact .inl (s _ _ q)
  ·exact .inr ⟨o,s _ _ q⟩
 |m kvs _=>
  obtain⟨a,vs,e,q,r⟩:=h
  exact⟨a,vs,e,s _ _ q,r.1.kp (.of s),r.2⟩
def xP:Bx->Option (List Dt)
 |.z (.lst ds)=>some ds
 |.l ds=>some ds
 |.o ds=>some ds
 |_=>none
theorem bF.Pk {K:FG_} {H:Hp} {b:Bx} {v:V} {ds:List Dt} (h:bF K H b v) (e:xP b=some ds):∃ a vs,v=.ref a/\yK K H a vs/\aR K H ds vs:=by
 cases b with
 |z d=>
  cases d<;>first|(cases e;done)|skip
  cases e
  simp only[bF,Rep] at h
  obtain⟨a,vs,e,q,r⟩:=h
  exact⟨a,vs,e,q.sq,r⟩
 |l ds'=>
  cases e
  obtain⟨a,vs,e,q,r⟩:=h
  exact⟨a,vs,e,.inl q,r⟩
 |o ds'=>
  cases e
  obtain⟨a,vs,e,q,r⟩:=h
  exact⟨a,vs,e,.inl (.inl q),r⟩
 |n _=>cases e
 |m _ _=>cases e
abbrev wJ (K:FG_) (H:Hp):List Bx->List V->Prop:=Paired (bF K H)
theorem wJ.same {K:FG_} {H H':Hp} (s:Same H H') {bs:List Bx} {vs:List V} (h:wJ K H bs vs):wJ K H' bs vs:=Paired.imp' (fun _ _ q=>bF.same s q) h
def Nw (H:Hp):Bx->V->Prop
 |.o _,v=>∀ a,v=.ref a->H a=none
 |.m _ _,v=>∀ a,v=.ref a->H a=none
 |_,_=>True
theorem Nw.old {H H1:Hp} (s:Same H H1) {b:Bx} {v:V} (h:Nw H1 b v):Nw H b v:=by
 cases b with
 |o ds=>exact fun a e=>s.free (h a e)
 |m ds _=>exact fun a e=>s.free (h a e)
 |_=>trivial
def loose:Bx->Bool
 |.z _=>false
 |_=>true
def DX:Bx->Bool
 |.o _=>true
 |.m _ _=>true
 |_=>false
structure cF (K:FG_) (H0 H:Hp) (σ:L2.St) (ρ:Ev):Prop where
 len:σ.length=ρ.length
 val:∀ (i:Nat) b,ρ[i]?=some (some b)->∃ v,σ[i]?=some (some v)/\bF K H b v
 own:∀ (i j:Nat) c a b,ρ[i]?=some (some c)->DX c=true->σ[i]?=some (some (.ref a))->ρ[j]?=some (some b)->loose b=true->σ[j]?=some (some (.ref a))->i=j
 base:Same H0 H
 new:∀ (i:Nat) c a,ρ[i]?=some (some c)->DX c=true->σ[i]?=some (some (.ref a))->H0 a=none
theorem cF.grow {K:FG_} {H0 H H':Hp} {σ:L2.St} {ρ:Ev} (r:cF K H0 H σ ρ) (s:Same H H'):cF K H0 H' σ ρ:=
 ⟨r.len,fun i b e=>let ⟨v,e1,h⟩:=r.val i b e;⟨v,e1,h.same s⟩,r.own,r.base.trans s,r.new⟩
def tF (K:FG_) (f:Ev->Option Bx):TE:=fun σ H Q=>∃ H0 ρ b,cF K H0 H σ ρ/\f ρ=some b/\∀ v H',Same H H'->Nw H b v->bF K H' b v->Q v H'
def tFA (K:FG_) (f:Ev->Option (List Bx)):TA:=fun σ H Q=>∃ H0 ρ bs,cF K H0 H σ ρ/\f ρ=some bs/\∀ vs H',Same H H'->wJ K H' bs vs->Q vs H'
def tFT (K:FG_) (f:Ev->Option Bool):TT:=fun σ H Q=>∃ H0 ρ b,cF K H0 H σ ρ/\f ρ=some b/\∀ H',Same H H'->Q b H'
def PV (X:Cx) (e:Expr) (f:Ev->Option Bx):Prop:=PE X e (tF X.K f)
structure QV (X:Cx) (e:Expr) (f:Ev->Option Bx):Prop where
 run:PV X e f
def PVs (X:Cx) (es:List Expr) (f:Ev->Option (List Bx)):Prop:=PA X es (tFA X.K f)
structure QVs (X:Cx) (es:List Expr) (f:Ev->Option (List Bx)):Prop where
 run:PVs X es f
def PB (X:Cx) (e:Expr) (f:Ev->Option Bool):Prop:=PT X e (tFT X.K f)
structure QB (X:Cx) (e:Expr) (f:Ev->Option Bool):Prop where
 run:PB X e f
theorem Io {X:Cx} {e:Expr} {t t':TE} (h:PE X e t) (m:∀ σ H Q,t' σ H Q->t σ H Q):PE X e t':=fun pins s σ H Q I q=>h pins s σ H Q I (m σ H Q q)
theorem paM {X:Cx} {e:List Expr} {t t':TA} (h:PA X e t) (m:∀ σ H Q,t' σ H Q->t σ H Q):PA X e t':=fun pos pins s σ H Q I q=>h pos pins s σ H Q I (m σ H Q q)
theorem ptM {X:Cx} {e:Expr} {t t':TT} (h:PT X e t) (m:∀ σ H Q,t' σ H Q->t σ H Q):PT X e t':=fun pins s σ H Q I q=>h pins s σ H Q I (m σ H Q q)
theorem pwM {X:Cx} {e:Expr} {t t':TT} (h:PW X e t) (m:∀ σ H Q,t' σ H Q->t σ H Q):PW X e t':=fun wh pins s σ H Q I q=>h wh pins s σ H Q I (m σ H Q q)
theorem psM {X:Cx} {e:Stmt} {t t':TS} (h:PS X e t) (m:∀ D σ H,t' D σ H->t D σ H):PS X e t':=fun pins s σ H D I q=>h pins s σ H D I (m D σ H q)
theorem ag9 {X:Cx} {e:List Stmt} {t t':TS} (h:XS X e t) (m:∀ D σ H,t' D σ H->t D σ H):XS X e t':=fun pins s σ H D I q=>h pins s σ H D I (m D σ H q)
def rF (K:FG_) (g:Bx->Bx->Option Bx):R2:=fun x y H Q=>∃ a b c,bF K H a x/\bF K H b y/\g a b=some c/\∀ w H',Same H H'->Nw H c w->bF K H' c w->Q w H'
def rF1 (K:FG_) (g:Bx->Option Bx):V->Hp->VK->Prop:=fun x H Q=>∃ a c,bF K H a x/\g a=some c/\∀ w H',Same H H'->Nw H c w->bF K H' c w->Q w H'
def rFs (K:FG_) (g:List Bx->Option Bx):List V->Hp->VK->Prop:=fun xs H Q=>∃ bs c,wJ K H bs xs/\g bs=some c/\∀ w H',Same H H'->Nw H c w->bF K H' c w->Q w H'
abbrev Jr (X:Cx) (f:Value->Value->Sem Value) (g:Bx->Bx->Option Bx):Prop:=Bc X f (rF X.K g)
abbrev UnF (X:Cx) (f:Value->Sem Value) (g:Bx->Option Bx):Prop:=UnR X f (rF1 X.K g)
abbrev wK (X:Cx) (f:Value) (g:List Bx->Option Bx):Prop:=gn X f (rFs X.K g)
theorem Bc.imp {X:Cx} {f:Value->Value->Sem Value} {r r':R2} (h:Bc X f r) (m:∀ x y H Q,r' x y H Q->r x y H Q):Bc X f r':=fun pins s σ H x y v u Q I rx ry q=>h pins s σ H x y v u Q I rx ry (m x y H Q q)
theorem UnR.imp {X:Cx} {f:Value->Sem Value} {r r':V->Hp->VK->Prop} (h:UnR X f r) (m:∀ x H Q,r' x H Q->r x H Q):UnR X f r':=fun pins s σ H x v Q I rx q=>h pins s σ H x v Q I rx (m x H Q q)
theorem gn.imp {X:Cx} {f:Value} {r r':List V->Hp->VK->Prop} (h:gn X f r) (m:∀ x H Q,r' x H Q->r x H Q):gn X f r':=fun pins s σ H xs us Q I rx q=>h pins s σ H xs us Q I rx (m xs H Q q)
def b2 (g:Bx->Bx->Option Bx) (fa fb:Ev->Option Bx):Ev->Option Bx:=fun ρ=>(fa ρ).bind fun x=>(fb ρ).bind fun y=>g x y
def b1 (g:Bx->Option Bx) (fa:Ev->Option Bx):Ev->Option Bx:=fun ρ=>(fa ρ).bind g
def aP (g:List Bx->Option Bx) (fs:Ev->Option (List Bx)):Ev->Option Bx:=fun ρ=>(fs ρ).bind g
theorem bind_some {α β:Type} {o:Option α} {f:α->Option β} {b:β} (h:o.bind f=some b):∃ a,o=some a/\f a=some b:=by
 cases o with
 |none=>cases h
 |some a=>exact⟨a,rfl,h⟩
theorem abb {K:FG_} {g:Bx->Bx->Option Bx} {fa fb:Ev->Option Bx} (σ:L2.St) (H:Hp) (Q:VK) (h:tF K (b2 g fa fb) σ H Q):tOp (rF K g) (tF K fa) (tF K fb) σ H Q:=by
 obtain⟨H0,ρ,c,E,e,q⟩:=h
 obtain⟨a,ea,e⟩:=bind_some e
 obtain⟨b,eb,e⟩:=bind_some e
 refine⟨H0,ρ,a,E,ea,fun v H1 s1 n1 r1=>⟨H0,ρ,b,E.grow s1,eb,fun u H2 s2 n2 r2=>?_⟩⟩
 exact⟨a,b,c,r1.same s2,r2,e,fun w H3 s3 n3 r3=>q w H3 ((s1.trans s2).trans s3) (n3.old (s1.trans s2)) r3⟩
theorem ai4 {K:FG_} {g:Bx->Option Bx} {fa:Ev->Option Bx} (σ:L2.St) (H:Hp) (Q:VK) (h:tF K (b1 g fa) σ H Q):tUn (rF1 K g) (tF K fa) σ H Q:=by
 obtain⟨H0,ρ,c,E,e,q⟩:=h
 obtain⟨a,ea,e⟩:=bind_some e
 exact⟨H0,ρ,a,E,ea,fun v H1 s1 n1 r1=>⟨a,c,r1,e,fun w H3 s3 n3 r3=>q w H3 (s1.trans s3) (n3.old s1) r3⟩⟩
theorem convs {K:FG_} {g:List Bx->Option Bx} {fs:Ev->Option (List Bx)} (σ:L2.St) (H:Hp) (Q:VK) (h:tF K (aP g fs) σ H Q):tCB (rFs K g) (tFA K fs) σ H Q:=by
 obtain⟨H0,ρ,c,E,e,q⟩:=h
 obtain⟨a,ea,e⟩:=bind_some e
 exact⟨H0,ρ,a,E,ea,fun v H1 s1 r1=>⟨a,c,r1,e,fun w H3 s3 n3 r3=>q w H3 (s1.trans s3) (n3.old s1) r3⟩⟩
section
variable {X:Cx} {a b c e:Expr} {es:List Expr} {fa fb fc f:Ev->Option Bx} {fs:Ev->Option (List Bx)} {pos:Pos}
theorem aQ {op:Operator} {g:Bx->Bx->Option Bx} (ho:Jr X (binaryOp op) g) (ha:QV X a fa) (hb:QV X b fb):QV X (.BinOp a op b pos) (b2 g fa fb):=⟨have ha:=ha.run;have hb:=hb.run;Io (aiL ho ha hb) abb⟩
theorem Pn {op:UnaryOp} {g:Bx->Option Bx} (ho:UnF X (unaryOp op) g) (ha:QV X a fa):QV X (.UnaryOp op a pos) (b1 g fa):=⟨have ha:=ha.run;Io (aiM ho ha) ai4⟩
theorem kZ {op:CmpOp} {g:Bx->Bx->Option Bx} (ho:Jr X (compareOp op) g) (ha:QV X a fa) (hb:QV X b fb) (hm:behindInMarks op b=false):QV X (.Compare a [op] [b] pos) (b2 g fa fb):=⟨have ha:=ha.run;have hb:=hb.run;Io (adY ho ha hb hm) abb⟩
def DY:Bx->Option Bool
 |.z (.bl b)=>some b
 |_=>none
theorem Ea {K:FG_} {H:Hp} {b:Bx} {v:V} {k:Bool} (h:bF K H b v) (e:DY b=some k):v=.bl k:=by
 cases b with
 |z d=>
  cases d<;>first|(cases e;done)|skip
  cases e
  simpa only[bF,Rep] using h
 |_=>cases e
theorem afQ {K:FG_} {f:Ev->Option Bx} (σ:L2.St) (H:Hp) (Q:Bool->Hp->Prop) (h:tFT K (fun ρ=>(f ρ).bind DY) σ H Q):tF K f σ H (fun x H'=>∃ k,x=.bl k/\Q k H'):=by
 obtain⟨H0,ρ,k,E,e,q⟩:=h
 obtain⟨b,eb,e⟩:=bind_some e
 exact⟨H0,ρ,b,E,eb,fun v H1 s1 n1 r1=>⟨k,Ea r1 e,q H1 s1⟩⟩
theorem mH {op:CmpOp} {g:Bx->Bx->Option Bx} (ho:Jr X (compareOp op) g) (ha:QV X a fa) (hb:QV X b fb) (hm:behindInMarks op b=false):QB X (.Compare a [op] [b] pos) (fun ρ=>(b2 g fa fb ρ).bind DY):=⟨have ha:=ha.run;have hb:=hb.run;ptM (adZ ho ha hb hm) fun σ H Q h=>abb σ H _ (afQ σ H Q h)⟩
def ch3 (g g':Bx->Bx->Option Bx) (fa fb fc:Ev->Option Bx):Ev->Option Bx:=fun ρ=>(fa ρ).bind fun x=>(fb ρ).bind fun y=>(g x y).bind fun r=>(DY r).bind fun k=>if k=true then (fc ρ).bind fun w=>g' y w else some (.z (.bl false))
theorem afR {K:FG_} {g g':Bx->Bx->Option Bx} {fa fb fc:Ev->Option Bx} (σ:L2.St) (H:Hp) (Q:VK) (h:tF K (ch3 g g' fa fb fc) σ H Q):Wo (rF K g) (rF K g') (tF K fa) (tF K fb) (tF K fc) σ H Q:=by
 obtain⟨H0,ρ,d,E,e,q⟩:=h
 obtain⟨a,ea,e⟩:=bind_some e
 obtain⟨b,eb,e⟩:=bind_some e
 obtain⟨r,er,e⟩:=bind_some e
 obtain⟨k,ek,e⟩:=bind_some e
 refine⟨H0,ρ,a,E,ea,fun v H1 s1 n1 r1=>⟨H0,ρ,b,E.grow s1,eb,fun u H2 s2 n2 r2=>?_⟩⟩
 refine⟨a,b,r,r1.same s2,r2,er,fun w H3 s3 n3 r3=>⟨k,Ea r3 ek,?_⟩⟩
 have s03:=(s1.trans s2).trans s3
 cases k with
 |false=>
  rw[zI ZI] at e ⊢
  cases e
  exact q _ H3 s03 trivial (by simp only[bF,Rep])
 |true=>
  rw[zo rfl] at e ⊢
  obtain⟨w',ew,e⟩:=bind_some e
  refine⟨H0,ρ,w',E.grow s03,ew,fun x H4 s4 n4 r4=>?_⟩
  exact⟨b,w',d,(r2.same s3).same s4,r4,e,fun y H5 s5 n5 r5=>q y H5 ((s03.trans s4).trans s5) (n5.old (s03.trans s4)) r5⟩
theorem Kl {op op':CmpOp} {g g':Bx->Bx->Option Bx} (ho:Jr X (compareOp op) g) (ho':Jr X (compareOp op') g') (ha:QV X a fa) (hb:QV X b fb) (hc:QV X c fc) (hm:lastMarks [op,op'] [b,c]=false:=by with_unfolding_all rfl):QV X (.Compare a [op,op'] [b,c] pos) (ch3 g g' fa fb fc):=⟨have ha:=ha.run;have hb:=hb.run;have hc:=hc.run;Io (aaW ho ho' ha hb hc hm) afR⟩
theorem abd {op op':CmpOp} {g g':Bx->Bx->Option Bx} (ho:Jr X (compareOp op) g) (ho':Jr X (compareOp op') g') (ha:QV X a fa) (hb:QV X b fb) (hc:QV X c fc) (hm:lastMarks [op,op'] [b,c]=false:=by with_unfolding_all rfl):QB X (.Compare a [op,op'] [b,c] pos) (fun ρ=>(ch3 g g' fa fb fc ρ).bind DY):=⟨have ha:=ha.run;have hb:=hb.run;have hc:=hc.run;ptM (aaX ho ho' ha hb hc hm) fun σ H Q h=>afR σ H _ (afQ σ H Q h)⟩
def Js (ρ:Ev) (i:Nat):Option Bx:=match ρ[i]? with
 |some (some (.o ds))=>some (.l ds)
 |some (some (.m kvs _))=>some (.n kvs)
 |some (some b)=>some b
 |_=>none
theorem Ub {K:FG_} {H0 H:Hp} {σ:L2.St} {ρ:Ev} {i:Nat} {b:Bx} (E:cF K H0 H σ ρ) (e:Js ρ i=some b):∃ v,σ[i]?=some (some v)/\bF K H b v:=by
 unfold Js at e
 split at e
 ·rename_i ds h
  cases e
  obtain⟨v,e1,a,vs,e2,q,r⟩:=E.val i _ h
  exact⟨v,e1,a,vs,e2,.inl q,r⟩
 ·rename_i ds h
  cases e
  obtain⟨v,e1,a,vs,e2,q,r⟩:=E.val i _ h
  exact⟨v,e1,a,vs,e2,.inl q,r.1⟩
 ·rename_i b' h
  cases e
  exact E.val i _ h
 ·cases e
theorem J2 {ρ:Ev} {i:Nat} {b:Bx} (e:Js ρ i=some b):DX b=false:=by
 unfold Js at e
 split at e
 ·cases e;rfl
 ·cases e;rfl
 ·rename_i b' h1 h2 h3
  cases e
  cases b with
  |o ds=>exact absurd rfl (h1 ds)
  |m ds _=>exact absurd rfl (h2 ds _)
  |_=>rfl
 ·cases e
theorem aq (i:Nat) {x:Str} (hN:X.N[i]?=some x:=by rfl) (hv:Vis X.env.scope x:=by first|exact kT rfl|exact ki (kT rfl)|exact ki (ki rfl)) (hd:(x==("__debug__" : Str))=false:=by decide) (hcd:(x==("__classdict__" : Str))=false:=by decide):QV X (.Name x pos) (fun ρ=>Js ρ i):=⟨Io (Ke hN hv hd hcd) fun σ H Q h=>by
 obtain⟨H0,ρ,b,E,e,q⟩:=h
 obtain⟨v,e1,r⟩:=Ub E e
 refine⟨v,e1,q v H (Same.refl H) ?_ r⟩
 cases b with
 |o ds=>have:=J2 e;cases this
 |m ds _=>have:=J2 e;cases this
 |_=>trivial⟩
def cB (d:Dt):Ev->Option Bx:=fun _=>some (.z d)
theorem Zm {v:V} {d:Dt} (h:PE X e (tC v)) (r:∀ H,Rep X.K H d v):PV X e (cB d):=Io h fun σ H Q q=>by
 obtain⟨H0,ρ,b,E,e,q⟩:=q
 cases e
 exact q v H (Same.refl H) trivial (r H)
theorem aA {i j}:QV X (.Constant (.int i) j pos) (cB (.int i)):=⟨Zm agx fun H=>by simp only[Rep]⟩
theorem nZ {i j}:QV X (.Constant (.bool i) j pos) (cB (.bl i)):=⟨Zm aiy fun H=>by simp only[Rep]⟩
theorem Rh {j}:QV X (.Constant .none j pos) (cB .non):=⟨Zm agy fun H=>by simp only[Rep]⟩
theorem abe {x:Str} {j} (hx:x.length<=sizeLine:=by decide):PV X (.Constant (.str x) j pos) (cB (.str x)):=Zm agz fun H=>by unfold Rep;exact⟨rfl,hx⟩
theorem Uc {x:Str} {i:Int} {t:Tok} (hg:Gl X x) (hm:X.mg x=some (.int i t)) (hd:(x==("__debug__" : Str))=false:=by decide):QV X (.Name x pos) (cB (.int i)):=⟨Zm (X3 hg hm (v:=.int i) ⟨t,rfl⟩ hd) fun H=>by simp only[Rep]⟩
theorem abf {x:Str} {y:Str} {t:Tok} (hg:Gl X x) (hm:X.mg x=some (.str y t)) (hy:y.length<=sizeLine:=by decide) (hd:(x==("__debug__" : Str))=false:=by decide):QV X (.Name x pos) (cB (.str y)):=⟨Zm (X3 hg hm (v:=.str y) ⟨t,rfl⟩ hd) fun H=>by unfold Rep;exact⟨rfl,hy⟩⟩
def aei:Bx->Option Bool
 |.z .non=>some false
 |.z (.bl b)=>some b
 |.z (.int i)=>some (i != 0)
 |.z (.str x)=>some ((x.length:Int) != 0)
 |.z (.tup ds)=>some (!ds.isEmpty)
 |.z (.lst ds)=>some (!ds.isEmpty)
 |.l ds=>some (!ds.isEmpty)
 |.o ds=>some (!ds.isEmpty)
 |.z .emp=>none
 |.n _=>none
 |.m _ _=>none
theorem aR.isEmpty {K:FG_} {H:Hp} {ds:List Dt} {vs:List V} (h:aR K H ds vs):(!ds.isEmpty)=!vs.isEmpty:=by
 have:=h.length
 cases ds<;>cases vs<;>simp_all
theorem aej {K:FG_} {H:Hp} {b:Bx} {v:V} {k:Bool} (r:bF K H b v) (e:aei b=some k):agV K v H k:=by
 cases b with
 |z d=>
  cases d with
  |non=>cases e;simp only[bF,Rep] at r;subst r;rfl
  |bl b=>cases e;simp only[bF,Rep] at r;subst r;rfl
  |int b=>cases e;simp only[bF,Rep] at r;subst r;rfl
  |str x=>cases e;simp only[bF,Rep] at r;obtain⟨rfl,h⟩:=r;exact⟨h,rfl⟩
  |tup ds=>
   cases e;simp only[bF,Rep] at r
   obtain⟨a,vs,rfl,q,r⟩:=r
   exact .inr (.inl ⟨vs,q,r.isEmpty⟩)
  |lst ds=>
   cases e
   obtain⟨a,vs,rfl,q,r⟩:=r.Pk rfl
   exact .inl ⟨vs,q,r.isEmpty⟩
  |emp=>cases e
 |l ds=>
  cases e
  obtain⟨a,vs,rfl,q,r⟩:=r.Pk rfl
  exact .inl ⟨vs,q,r.isEmpty⟩
 |o ds=>
  cases e
  obtain⟨a,vs,rfl,q,r⟩:=r.Pk rfl
  exact .inl ⟨vs,q,r.isEmpty⟩
 |n _=>cases e
 |m _ _=>cases e
theorem fW (h:QV X e f) (he:∀ whole,isTrue e X.env whole=(do let v <-whole;standAt e.pos;holding [v] (truthy v)):=by intro _;rfl):QB X e (fun ρ=>(f ρ).bind aei):=⟨have h:=h.run;ptM (aaY h he) fun σ H Q q=>by
 obtain⟨H0,ρ,k,E,e,q⟩:=q
 obtain⟨b,eb,e⟩:=bind_some e
 exact⟨H0,ρ,b,E,eb,fun v H1 s1 n1 r1=>⟨k,aej r1 e,q H1 s1⟩⟩⟩
def Wv (p q:Ev->Option Bool):Ev->Option Bool:=fun ρ=>(p ρ).bind fun c=>if c=true then q ρ else some false
def N6 (p q:Ev->Option Bool):Ev->Option Bool:=fun ρ=>(p ρ).bind fun c=>if c=true then some true else q ρ
def mW (p:Ev->Option Bool):Ev->Option Bool:=fun ρ=>(p ρ).bind fun c=>some (!c)
def PBW (X:Cx) (e:Expr) (f:Ev->Option Bool):Prop:=PW X e (tFT X.K f)
structure QBW (X:Cx) (e:Expr) (f:Ev->Option Bool):Prop where
 run:PBW X e f
variable {p q:Ev->Option Bool} {rest:List Expr}
theorem Km (ha:QB X a p):QBW X (.BoolOp .And [a] pos) p:=⟨have ha:=ha.run;adR ha⟩
theorem oV (ha:QB X a p):QBW X (.BoolOp .Or [a] pos) p:=⟨have ha:=ha.run;agA ha⟩
theorem aek {K:FG_} (σ:L2.St) (H:Hp) (Q:Bool->Hp->Prop) (h:tFT K (Wv p q) σ H Q):aiz (tFT K p) (tFT K q) σ H Q:=by
 obtain⟨H0,ρ,k,E,e,w⟩:=h
 obtain⟨c,ec,e⟩:=bind_some e
 refine⟨H0,ρ,c,E,ec,fun H1 s1=>?_⟩
 cases c with
 |true=>rw[zo rfl] at e ⊢;exact⟨H0,ρ,k,E.grow s1,e,fun H2 s2=>w H2 (s1.trans s2)⟩
 |false=>rw[zI ZI] at e ⊢;cases e;exact w H1 s1
theorem ahb {K:FG_} (σ:L2.St) (H:Hp) (Q:Bool->Hp->Prop) (h:tFT K (N6 p q) σ H Q):tOr (tFT K p) (tFT K q) σ H Q:=by
 obtain⟨H0,ρ,k,E,e,w⟩:=h
 obtain⟨c,ec,e⟩:=bind_some e
 refine⟨H0,ρ,c,E,ec,fun H1 s1=>?_⟩
 cases c with
 |true=>rw[zo rfl] at e ⊢;cases e;exact w H1 s1
 |false=>rw[zI ZI] at e ⊢;exact⟨H0,ρ,k,E.grow s1,e,fun H2 s2=>w H2 (s1.trans s2)⟩
theorem Ri (ha:QB X a p) (hb:QBW X (.BoolOp .And (b::rest) pos) q):QBW X (.BoolOp .And (a::b::rest) pos) (Wv p q):=⟨have ha:=ha.run;have hb:=hb.run;pwM (agB ha hb) aek⟩
theorem oW (ha:QB X a p) (hb:QBW X (.BoolOp .Or (b::rest) pos) q):QBW X (.BoolOp .Or (a::b::rest) pos) (N6 p q):=⟨have ha:=ha.run;have hb:=hb.run;pwM (aiA ha hb) ahb⟩
theorem Eb (h:QBW X e p):QB X e p:=⟨have h:=h.run;h.pt⟩
theorem gU (ha:QB X a p):QB X (.UnaryOp .Not a pos) (mW p):=⟨have ha:=ha.run;ptM (agC ha) fun σ H Q h=>by
 obtain⟨H0,ρ,k,E,e,w⟩:=h
 obtain⟨c,ec,e⟩:=bind_some e
 cases e
 exact⟨H0,ρ,c,E,ec,fun H1 s1=>w H1 s1⟩⟩
def oX (fa fb:Ev->Option Bx):Ev->Option Bx:=fun ρ=>((fa ρ).bind DY).bind fun c=>if c=true then fb ρ else some (.z (.bl false))
def abg (fa:Ev->Option Bx):Ev->Option Bx:=fun ρ=>((fa ρ).bind DY).bind fun c=>some (.z (.bl (!c)))
theorem mJ {op} (h:QV X a fa):QV X (.BoolOp op [a] pos) fa:=⟨have h:=h.run;agD h⟩
theorem fK (ha:QV X a fa) (hb:QV X (.BoolOp .And (b::rest) pos) fb):QV X (.BoolOp .And (a::b::rest) pos) (oX fa fb):=⟨have ha:=ha.run;have hb:=hb.run;Io (agE ha hb) fun σ H Q h=>by
 obtain⟨H0,ρ,k,E,e,w⟩:=h
 obtain⟨c,ec,e⟩:=bind_some e
 obtain⟨x,ex,ec⟩:=bind_some ec
 refine⟨H0,ρ,x,E,ex,fun v H1 s1 n1 r1=>⟨c,Ea r1 ec,?_⟩⟩
 cases c with
 |true=>rw[zo rfl] at e ⊢;exact⟨H0,ρ,k,E.grow s1,e,fun v H2 s2 n2 r2=>w v H2 (s1.trans s2) (n2.old s1) r2⟩
 |false=>rw[zI ZI] at e ⊢;cases e;exact w _ H1 s1 trivial (by simp only[bF,Rep])⟩
theorem abh (ha:QV X a fa):QV X (.UnaryOp .Not a pos) (abg fa):=⟨have ha:=ha.run;Io (agF ha) fun σ H Q h=>by
 obtain⟨H0,ρ,k,E,e,w⟩:=h
 obtain⟨c,ec,e⟩:=bind_some e
 obtain⟨x,ex,ec⟩:=bind_some ec
 cases e
 exact⟨H0,ρ,x,E,ex,fun v H1 s1 n1 r1=>⟨c,Ea r1 ec,w _ H1 s1 trivial (by simp only[bF,Rep])⟩⟩⟩
theorem Yb:PVs X [] (fun _=>some []):=paM tK fun σ H Q h=>by
 obtain⟨H0,ρ,bs,E,e,q⟩:=h
 cases e
 exact q [] H (Same.refl H) .nil
def ak (f:Ev->Option Bx) (fs:Ev->Option (List Bx)):Ev->Option (List Bx):=fun ρ=>(f ρ).bind fun b=>(fs ρ).bind fun bs=>some (b::bs)
theorem Ud (h1:PV X e f) (h2:PVs X es fs) (hs:starEach (e::es) X.env=(false,eval e X.env)::starEach es X.env:=by rfl):PVs X (e::es) (ak f fs):=paM (jL h1 h2 hs) fun σ H Q h=>by
 obtain⟨H0,ρ,bs,E,e,q⟩:=h
 obtain⟨b,eb,e⟩:=bind_some e
 obtain⟨bs',ebs,e⟩:=bind_some e
 cases e
 refine⟨H0,ρ,b,E,eb,fun v H1 s1 n1 r1=>⟨H0,ρ,bs',E.grow s1,ebs,fun vs H2 s2 r2=>?_⟩⟩
 exact q (v::vs) H2 (s1.trans s2) (.cons (r1.same s2) r2)
def kj:Bx->Option Bx
 |.z d=>some (.z d)
 |.o ds=>some (.z (.lst ds))
 |.l _=>none
 |.n _=>none
 |.m _ _=>none
theorem Ww {pins:List (Addr×Obj)} {σ:L2.St} {H:Hp} {s:Shared} {a:Addr} {vs:List V} (I:L2.Inv X pins σ H s) (h:H a=some (.lst vs)):∃ o,L2.Inv X pins σ (upd H a (.Dw o (.lst vs))) s:=by
 obtain⟨z,its,n,r,e⟩:=I.hok a _ h
 refine⟨{ cls:=.type "list", data:=.seq its.toArray n },⟨I.ok,I.os,I.bare,⟨I.base.keep,I.base.slot,fun b ob q1 q2 q3=>?_,I.base.there,fun b xs q=>?_,fun b ob u q=>?_,fun b ps q=>?_⟩,I.loc,I.cell,?_,fun x c q=>?_,fun p hp=>?_,?_,I.len⟩⟩
 ·have:=I.base.free b ob q1 q2 q3
  rw[aY (cH h this).symm];exact this
 ·have:=I.base.tups b xs q
  rw[aY (tH this h (by intro z;cases z))];exact this
 ·have:=I.base.Cy b ob u q
  rw[aY (tH this h (by intro z;cases z))];exact this
 ·obtain⟨m,this⟩:=I.base.Dz b ps q
  rw[aY (tH this h (by intro z;cases z))];exact⟨m,this⟩
 ·rw[aY (cH h I.free).symm];exact I.free
 ·rw[aY (cH h (I.rQ x c q)).symm];exact I.rQ x c q
 ·obtain⟨q1,q2,q3⟩:=I.pin p hp
  refine⟨q1,?_,q3⟩
  rw[aY (cH h q2).symm];exact q2
 ·intro b u q
  by_cases hb:b=a
  ·subst hb
   rw[bU] at q;cases q
   exact⟨e,z,its,n,r,e⟩
  ·rw[aY hb] at q
   refine (I.hok b u q).stay (fun c v _ w=>w) (fun c w=>?_) fun c xs w=>?_
   ·rw[aY (tH w h (by intro z;cases z))];exact w
   ·rw[aY (tH w h (by intro z;cases z))];exact w
theorem cG (h:QV X e f):QV X e (b1 kj f):=⟨by
 have h:=h.run
 intro pins s σ H Q I q
 obtain⟨H0,ρ,b,E,e,q⟩:=q
 obtain⟨x,ex,e⟩:=bind_some e
 cases x with
 |z d=>
  cases e
  exact h pins s σ H Q I ⟨H0,ρ,_,E,ex,fun v H' s' n' r'=>q v H' s' trivial r'⟩
 |l ds=>cases e
 |n ds=>cases e
 |m ds _=>cases e
 |o ds=>
  cases e
  refine mU (h pins s σ H (fun v H'=>Same H H'/\Nw H (.o ds) v/\bF X.K H' (.o ds) v) I ⟨H0,ρ,_,E,ex,fun v H' s' n' r'=>⟨s',n',r'⟩⟩) fun u s1 hq=>?_
  obtain⟨v,H1,I1,rv,s',n',r'⟩:=hq
  obtain⟨a,vs,rfl,ha,rs⟩:=r'
  obtain⟨o,I2⟩:=Ww I1 ha
  refine⟨.ref a,_,I2,rv,q _ _ (fun c ob hc=>?_) trivial ?_⟩
  ·rw[aY (cH hc (n' a rfl))];exact s' c ob hc
  ·simp only[bF,Rep]
   exact⟨a,vs,rfl,.inl ⟨o,bU⟩,rs.kp (.lst ha)⟩⟩
def Rj:List Bx->Option (List Dt)
 |[]=>some []
 |.z d::r=>(Rj r).bind fun ds=>some (d::ds)
 |_=>none
theorem Ko {K:FG_} {H:Hp}:∀ {bs:List Bx} {vs:List V} {ds:List Dt},wJ K H bs vs->Rj bs=some ds->aR K H ds vs
 |_,_,_,.nil,e=>by cases e;exact aR.nil
 |b::bs,_,_,.cons h t,e=>by
  cases b with
  |z d=>
   simp only[Rj] at e
   obtain⟨ds',e1,e2⟩:=bind_some e
   cases e2
   exact aR.cons h (Ko t e1)
  |_=>cases e
theorem Kq:∀ {bs:List Bx} {ds:List Dt},Rj bs=some ds->ds.length=bs.length
 |[],_,e=>by cases e;rfl
 |.z d::r,_,e=>by
  simp only[Rj] at e
  obtain⟨ds',e1,e2⟩:=bind_some e
  cases e2
  simp[Kq e1]
 |.l _::_,_,e=>by cases e
 |.o _::_,_,e=>by cases e
 |.n _::_,_,e=>by cases e
 |.m _ _::_,_,e=>by cases e
def aJ (bs:List Bx):Option Bx:=if bs.length<=1000 then (Rj bs).bind fun ds=>some (.z (.tup ds)) else none
def fX (bs:List Bx):Option Bx:=if bs.length<=1000 then (Rj bs).bind fun ds=>some (.o ds) else none
theorem bV {H:Hp} {p:Addr} {o:HO} (h:H p=none):Same H (upd H p o):=fun b u e=>by rw[aY (cH e h)];exact e
theorem afS {n:Nat} (h:n<=1000):n<=sizeLine:=zw h (by decide)
theorem aH {x1} (h:QVs X es fs):QV X (.Tuple es x1 pos) (aP aJ fs):=⟨have h:=h.run;Io (agX h) fun σ H Q q=>by
 obtain⟨H0,ρ,c,E,e,q⟩:=q
 obtain⟨bs,ebs,e⟩:=bind_some e
 refine⟨H0,ρ,bs,E,ebs,fun vs H1 s1 r1=>?_⟩
 unfold aJ at e
 split at e
 ·rename_i hl
  obtain⟨ds,e1,e⟩:=bind_some e
  cases e
  have r2:=Ko r1 e1
  refine⟨afS (by rw[r2.length,Kq e1];exact hl),fun p hp=>q _ _ (s1.trans (bV hp)) trivial ?_⟩
  simp only[bF,Rep]
  exact⟨p,vs,rfl,.inl (.inl bU),r2.kp (.of (bV hp))⟩
 ·cases e⟩
theorem dY (h:QVs X es fs):QV X (.List es pos) (aP fX fs):=⟨have h:=h.run;Io (agY h) fun σ H Q q=>by
 obtain⟨H0,ρ,c,E,e,q⟩:=q
 obtain⟨bs,ebs,e⟩:=bind_some e
 refine⟨H0,ρ,bs,E,ebs,fun vs H1 s1 r1=>?_⟩
 unfold fX at e
 split at e
 ·rename_i hl
  obtain⟨ds,e1,e⟩:=bind_some e
  cases e
  have r2:=Ko r1 e1
  refine⟨afS (by rw[r2.length,Kq e1];exact hl),fun p hp=>q _ _ (s1.trans (bV hp)) (fun a ea=>by cases ea;exact s1.free hp) ?_⟩
  exact⟨p,vs,rfl,bU,r2.kp (.of (bV hp))⟩
 ·cases e⟩
theorem bf {x:Str} {id:String} {g:List Bx->Option Bx} {p:Pos} (hc:wK X (.builtin id) g) (hg:Gl X x) (hm:X.mg x=none) (hv:bootBuiltins x=some (.builtin id)) (ha:QVs X (e::es) fs) (hn:x ≠ "__name__" := by decide) (hdb:(x==("__debug__" : Str))=false:=by decide) (he:starEach (e::es) X.env=(false,eval e X.env)::starEach es X.env:=by rfl) (hpl:(backTo pos (starEach es X.env)).any (·.1)=false:=by rfl):QV X (.Call (.Name x p) (e::es) [] pos) (aP g fs):=⟨have ha:=ha.run;Io (qW hc hg hm hv ha hn hdb he hpl) convs⟩
theorem gQ {x:Str} {T:String} {g:List Bx->Option Bx} {p:Pos} (hc:wK X (.type T) g) (hg:Gl X x) (hm:X.mg x=none) (hv:bootBuiltins x=some (.type T)) (ha:QVs X (e::es) fs) (hn:x ≠ "__name__" := by decide) (hdb:(x==("__debug__" : Str))=false:=by decide) (he:starEach (e::es) X.env=(false,eval e X.env)::starEach es X.env:=by rfl) (hpl:(backTo pos (starEach es X.env)).any (·.1)=false:=by rfl):QV X (.Call (.Name x p) (e::es) [] pos) (aP g fs):=⟨have ha:=ha.run;Io (Gn hc hg hm hv ha hn hdb he hpl) convs⟩
end
inductive Out where
 |nx (ρ:Ev)|rt (b:Bx)|bk (ρ:Ev)|ct (ρ:Ev)
def abj (K:FG_) (H0:Hp) (D:Ends):Out->Prop
 |.nx ρ=>∀ σ H,cF K H0 H σ ρ->D.nx σ H
 |.rt b=>∀ v H,Same H0 H->Nw H0 b v->bF K H b v->D.rt v H
 |.bk ρ=>∀ σ H,cF K H0 H σ ρ->D.bk σ H
 |.ct ρ=>∀ σ H,cF K H0 H σ ρ->D.ct σ H
def tG (K:FG_) (g:Ev->Option Out):TS:=fun D σ H=>∃ H0 ρ r,cF K H0 H σ ρ/\g ρ=some r/\abj K H0 D r
def PG1 (X:Cx) (st:Stmt) (g:Ev->Option Out):Prop:=PS X st (tG X.K g)
structure QG1 (X:Cx) (st:Stmt) (g:Ev->Option Out):Prop where
 run:PG1 X st g
def PGs (X:Cx) (st:List Stmt) (g:Ev->Option Out):Prop:=XS X st (tG X.K g)
structure QGs (X:Cx) (st:List Stmt) (g:Ev->Option Out):Prop where
 run:PGs X st g
def aK (g1 g2:Ev->Option Out):Ev->Option Out:=fun ρ=>(g1 ρ).bind fun r=>match r with
 |.nx ρ'=>g2 ρ'
 |r=>some r
section
variable {X:Cx} {a b c e:Expr} {es:List Expr} {fa fb fc f:Ev->Option Bx} {fs:Ev->Option (List Bx)} {pos:Pos} {st:Stmt} {rest:List Stmt} {g g1 g2:Ev->Option Out}
theorem aU  : QGs X [] (fun ρ=>some (.nx ρ)):=⟨ag9 adS fun D σ H h=>by
 obtain⟨H0,ρ,r,E,e,q⟩:=h
 cases e
 exact q σ H E⟩
theorem aD (h1:QG1 X st g1) (h2:QGs X rest g2):QGs X (st::rest) (aK g1 g2):=⟨have h1:=h1.run;have h2:=h2.run;ag9 (aaR h1 h2) fun D σ H h=>by
 obtain⟨H0,ρ,r,E,e,q⟩:=h
 obtain⟨r1,e1,e⟩:=bind_some e
 refine⟨H0,ρ,r1,E,e1,?_⟩
 cases r1 with
 |nx ρ'=>exact fun σ' H' E'=>⟨H0,ρ',r,E',e,q⟩
 |rt b=>cases e;exact q
 |bk ρ'=>cases e;exact q
 |ct ρ'=>cases e;exact q⟩
def abl:Bx->Option Out
 |.l _=>none
 |.n _=>none
 |b=>some (.rt b)
theorem bO (h:QV X e f):QG1 X (.Return (some e) pos) (fun ρ=>(f ρ).bind abl):=⟨have h:=h.run;psM (aaS h) fun D σ H h=>by
 obtain⟨H0,ρ,r,E,e,q⟩:=h
 obtain⟨b,eb,e⟩:=bind_some e
 refine⟨H0,ρ,b,E,eb,fun v H1 s1 n1 r1=>?_⟩
 cases b with
 |l ds=>cases e
 |z d=>cases e;exact q v H1 (E.base.trans s1) trivial r1
 |o ds=>cases e;exact q v H1 (E.base.trans s1) (n1.old E.base) r1
 |n ds=>cases e
 |m ds _=>cases e;exact q v H1 (E.base.trans s1) (n1.old E.base) r1⟩
def Kr (i:Nat) (ρ:Ev):Option Out:=match ρ[i]? with
 |some (some b)=>abl b
 |_=>none
theorem Rm (i:Nat) {x:Str} {p:Pos} (hN:X.N[i]?=some x:=by rfl) (hv:Vis X.env.scope x:=by first|exact kT rfl|exact ki (kT rfl)|exact ki (ki rfl)) (hd:(x==("__debug__" : Str))=false:=by decide) (hcd:(x==("__classdict__" : Str))=false:=by decide):QG1 X (.Return (some (.Name x p)) pos) (Kr i):=⟨psM (aaS (Ke hN hv hd hcd)) fun D σ H h=>by
 obtain⟨H0,ρ,r,E,e,q⟩:=h
 unfold Kr at e
 split at e
 ·rename_i b hb
  obtain⟨v,e1,r1⟩:=E.val i b hb
  refine⟨v,e1,?_⟩
  cases b with
  |l ds=>cases e
  |z d=>cases e;exact q v H E.base trivial r1
  |o ds=>cases e;exact q v H E.base (fun a ea=>E.new i _ a hb rfl (by rw[e1,ea])) r1
  |n ds=>cases e
  |m ds _=>cases e;exact q v H E.base (fun a ea=>E.new i _ a hb rfl (by rw[e1,ea])) r1
 ·cases e⟩
def Bf (p:Ev->Option Bool) (g1 g2:Ev->Option Out):Ev->Option Out:=fun ρ=>(p ρ).bind fun k=>if k=true then g1 ρ else g2 ρ
theorem kJ {p:Ev->Option Bool} {u v:List Stmt} (hc:QB X c p) (ha:QGs X u g1) (hb:QGs X v g2):QG1 X (.If c u v pos) (Bf p g1 g2):=⟨have hc:=hc.run;have ha:=ha.run;have hb:=hb.run;psM (aiF hc ha hb) fun D σ H h=>by
 obtain⟨H0,ρ,r,E,e,q⟩:=h
 obtain⟨k,ek,e⟩:=bind_some e
 refine⟨H0,ρ,k,E,ek,fun H1 s1=>?_⟩
 cases k with
 |true=>rw[zo rfl] at e ⊢;exact⟨H0,ρ,r,E.grow s1,e,q⟩
 |false=>rw[zI ZI] at e ⊢;exact⟨H0,ρ,r,E.grow s1,e,q⟩⟩
theorem getset {α:Type} {l:List α} {i j:Nat} {x y:α} (h:(l.set i x)[j]?=some y):(j=i/\y=x/\i < l.length)\/(j≠i/\l[j]?=some y):=by
 rw[KG] at h
 by_cases e:i=j
 ·subst e
  rw[zo rfl] at h
  split at h
  ·cases h;exact .inl ⟨rfl,rfl,by assumption⟩
  ·cases h
 ·rw[zI e] at h
  exact .inr ⟨fun z=>e z.symm,h⟩
theorem Ku {α:Type} {l:List α} {i:Nat} (x:α) (h:i < l.length):(l.set i x)[i]?=some x:=by
 rw[KG,zo rfl,zo h]
theorem Kv {α:Type} {l:List α} {i j:Nat} (x:α) (h:j≠i):(l.set i x)[j]?=l[j]?:=by
 rw[KG,zI (Ne.symm h)]
theorem cF.set {K:FG_} {H0 H H1:Hp} {σ:L2.St} {ρ:Ev} {i:Nat} {b:Bx} {v:V} (E:cF K H0 H σ ρ) (s:Same H H1) (r:bF K H1 b v) (hl:DX b=true\/loose b=false) (n:Nw H b v):cF K H0 H1 (σ.set i (some v)) (ρ.set i (some b)):=by
 have E1:=E.grow s
 have apart:∀ (j:Nat) (b':Bx) (a:Addr),ρ[j]?=some (some b')->loose b'=true->σ[j]?=some (some (.ref a))->H a≠none:=fun j b' a e1 e2 e3 z=>by
  obtain⟨v',e4,r'⟩:=E.val j b' e1
  rw[e3] at e4;cases e4
  cases b' with
  |z d=>cases e2
  |l ds=>
   obtain⟨a',vs,e5,q,_⟩:=r'
   cases e5
   rcases q with q|⟨o,q⟩<;>(rw[z] at q;cases q)
  |o ds=>
   obtain⟨a',vs,e5,q,_⟩:=r'
   cases e5
   rw[z] at q;cases q
  |n ds=>
   obtain⟨a',vs,e5,q,_⟩:=r'
   cases e5
   rcases q with q|⟨o,q⟩<;>(rw[z] at q;cases q)
  |m ds _=>
   obtain⟨a',vs,e5,q,_⟩:=r'
   cases e5
   rw[z] at q;cases q
 have nw:DX b=true->∀ a,v=.ref a->H a=none:=fun ho=>by
  cases b with
  |o ds=>exact n
  |m ds _=>exact n
  |_=>cases ho
 refine⟨by rw[JO,JO];exact E.len,fun j b' e=>?_,fun j k c a b' e1 ec e2 e3 e4 e5=>?_,E1.base,fun j c a e1 ec e2=>?_⟩
 ·rcases getset e with⟨rfl,e',hi⟩|⟨hne,e'⟩
  ·cases e'
   exact⟨v,Ku _ (by rw[E.len];exact hi),r⟩
  ·rw[Kv _ hne]
   exact E1.val j b' e'
 ·rcases getset e1 with⟨rfl,e',hi⟩|⟨hne,e'⟩
  ·cases e'
   rw[Ku _ (by rw[E.len];exact hi)] at e2
   cases e2
   rcases getset e3 with⟨rfl,e3',_⟩|⟨ael,e3'⟩
   ·rfl
   ·rw[Kv _ ael] at e5
    exact absurd (nw ec a rfl) (apart k b' a e3' e4 e5)
  ·rw[Kv _ hne] at e2
   rcases getset e3 with⟨rfl,e3',hi⟩|⟨ael,e3'⟩
   ·cases e3'
    rw[Ku _ (by rw[E.len];exact hi)] at e5
    cases e5
    have hlo:loose c=true:=by cases c<;>first|rfl|cases ec
    rcases hl with hl|hl
    ·exact absurd (nw hl a rfl) (apart j _ a e' hlo e2)
    ·rw[hl] at e4;cases e4
   ·rw[Kv _ ael] at e5
    exact E.own j k c a b' e' ec e2 e3' e4 e5
 ·rcases getset e1 with⟨rfl,e',hi⟩|⟨hne,e'⟩
  ·cases e'
   rw[Ku _ (by rw[E.len];exact hi)] at e2
   cases e2
   exact E.base.free (nw ec a rfl)
  ·rw[Kv _ hne] at e2
   exact E.new j c a e' ec e2
def abm (ρ:Ev) (i:Nat):Bx->Option Ev
 |.l _=>none
 |.n _=>none
 |b=>some (ρ.set i (some b))
theorem aem {K:FG_} {H0 H H1:Hp} {σ:L2.St} {ρ ρ':Ev} {i:Nat} {b:Bx} {v:V} (E:cF K H0 H σ ρ) (s:Same H H1) (r:bF K H1 b v) (n:Nw H b v) (e:abm ρ i b=some ρ'):cF K H0 H1 (σ.set i (some v)) ρ':=by
 cases b with
 |l ds=>cases e
 |z d=>cases e;exact E.set s r (.inr rfl) n
 |o d=>cases e;exact E.set s r (.inl rfl) n
 |n ds=>cases e
 |m d _=>cases e;exact E.set s r (.inl rfl) n
theorem bG (i:Nat) {x:Str} {p:Pos} (hN:X.N.Nodup) (he:QV X e f) (hi:X.N[i]?=some x:=by rfl) (hx:Loc X.env.scope x:=by first|exact kT rfl|exact ki rfl) (hs:swapsWith e (some (.Name x p)) pos.line X.env=pure false:=by rfl) (hf:X.fn x=true\/X.env.scope.names.lookup x=some .local:=by first|exact .inl rfl|exact .inr rfl):QG1 X (.Assign [.Name x p] e pos) (fun ρ=>(f ρ).bind fun b=>(abm ρ i b).bind fun ρ'=>some (.nx ρ')):=⟨have he:=he.run;psM (agJ hN hi hx he hs hf) fun D σ H h=>by
 obtain⟨H0,ρ,r,E,e,q⟩:=h
 obtain⟨b,eb,e⟩:=bind_some e
 obtain⟨ρ',eρ,e⟩:=bind_some e
 cases e
 exact⟨H0,ρ,b,E,eb,fun v H1 s1 n1 r1=>q _ _ (aem E s1 r1 n1 eρ)⟩⟩
def Lo (σ:L2.St) (ρ:Ev) (σ':L2.St) (ρ':Ev):Prop:=∀ (j:Nat) b,loose b=true->ρ'[j]?=some (some b)->ρ[j]?=some (some b)/\σ'[j]?=σ[j]?
theorem Lo.refl {σ:L2.St} {ρ:Ev}:Lo σ ρ σ ρ:=fun _ _ _ e=>⟨e,rfl⟩
theorem Lo.trans {σ σ1 σ2:L2.St} {ρ ρ1 ρ2:Ev} (a:Lo σ ρ σ1 ρ1) (b:Lo σ1 ρ1 σ2 ρ2):Lo σ ρ σ2 ρ2:=fun j c l e=>by
 obtain⟨e1,e2⟩:=b j c l e
 obtain⟨e3,e4⟩:=a j c l e1
 exact⟨e3,e2.trans e4⟩
theorem Lo.set {σ:L2.St} {ρ:Ev} (i:Nat) (v:V) (d:Dt):Lo σ ρ (σ.set i (some v)) (ρ.set i (some (.z d))):=fun j b l e=>by
 rcases getset e with⟨rfl,e',_⟩|⟨hne,e'⟩
 ·cases e';cases l
 ·exact⟨e',Kv _ hne⟩
def tgF (K:FG_) (g:Dt->Ev->Option Ev):TG:=fun v σ H Q=>∃ H0 ρ d ρ',cF K H0 H σ ρ/\Rep K H d v/\g d ρ=some ρ'/\∀ σ',cF K H0 H σ' ρ'->Lo σ ρ σ' ρ'->Q σ' H
def PTg (X:Cx) (t:Expr) (g:Dt->Ev->Option Ev):Prop:=PG X t (tgF X.K g)
structure QTg (X:Cx) (t:Expr) (g:Dt->Ev->Option Ev):Prop where
 run:PTg X t g
theorem bw (i:Nat) {x:Str} (hN:X.N.Nodup) (hi:X.N[i]?=some x:=by rfl) (hx:Loc X.env.scope x:=by first|exact kT rfl|exact ki rfl) (hf:X.fn x=true\/X.env.scope.names.lookup x=some .local:=by first|exact .inl rfl|exact .inr rfl):QTg X (.Name x pos) (fun d ρ=>some (ρ.set i (some (.z d)))):=⟨fun pins s σ H v u Q I r h=>by
 obtain⟨H0,ρ,d,ρ',E,rd,e,q⟩:=h
 cases e
 exact X4 hN hi hx hf pins s σ H v u Q I r (q _ (E.set (b:=.z d) (Same.refl H) rd (.inr rfl) trivial) (Lo.set i v d))⟩
def ak6 (K:FG_) (g:List Dt->Ev->Option Ev):TGs:=fun vs σ H Q=>∃ H0 ρ ds ρ',cF K H0 H σ ρ/\aR K H ds vs/\g ds ρ=some ρ'/\∀ σ',cF K H0 H σ' ρ'->Lo σ ρ σ' ρ'->Q σ' H
def ak7 (X:Cx) (t:List Expr) (g:List Dt->Ev->Option Ev):Prop:=L2.PGs X t (ak6 X.K g)
structure aen (X:Cx) (t:List Expr) (g:List Dt->Ev->Option Ev):Prop where
 run:ak7 X t g
def Ip:List Dt->Ev->Option Ev
 |[],ρ=>some ρ
 |_,_=>none
def fL (g:Dt->Ev->Option Ev) (gs:List Dt->Ev->Option Ev):List Dt->Ev->Option Ev
 |d::ds,ρ=>(g d ρ).bind (gs ds)
 |_,_=>none
theorem Ed  : aen X [] Ip:=⟨fun pins s σ H vs us Q I r h=>by
 obtain⟨H0,ρ,ds,ρ',E,rd,e,q⟩:=h
 cases ds with
 |nil=>cases e;unfold aR at rd;exact adU pins s σ H vs us Q I r ⟨rd,q _ E Lo.refl⟩
 |cons d ds=>cases e⟩
theorem fj {t:Expr} {ts:List Expr} {gt:Dt->Ev->Option Ev} {gs:List Dt->Ev->Option Ev} (h1:QTg X t gt) (h2:aen X ts gs) (hs:(assignEach (t::ts) X.env).map (·.2)=assign t X.env::(assignEach ts X.env).map (·.2):=by rfl):aen X (t::ts) (fL gt gs):=⟨have h1:=h1.run;have h2:=h2.run;fun pins s σ H vs us Q I r h=>by
 obtain⟨H0,ρ,ds,ρ',E,rd,e,q⟩:=h
 cases ds with
 |nil=>cases e
 |cons d ds=>
  unfold aR at rd
  obtain⟨v,vr,rfl,r1,r2⟩:=rd
  simp only[fL] at e
  obtain⟨ρ1,e1,e⟩:=bind_some e
  exact aaT h1 h2 hs pins s σ H _ us Q I r ⟨v,vr,rfl,H0,ρ,d,ρ1,E,r1,e1,fun σ1 E1 L1=>⟨H0,ρ1,ds,ρ',E1,r2,e,fun σ2 E2 L2=>q σ2 E2 (L1.trans L2)⟩⟩⟩
def BX (n:Nat) (gs:List Dt->Ev->Option Ev):Dt->Ev->Option Ev
 |.tup ds,ρ=>if ds.length=n then gs ds ρ else none
 |_,_=>none
theorem Kw {ts:List Expr} {k n:Nat} {gs:List Dt->Ev->Option Ev} (hc:X.calm=true) (h:aen X ts gs) (hn:(assignEach ts X.env).length=n:=by rfl) (hst:(assignEach ts X.env).findIdx? (·.1)=none:=by rfl):QTg X (.Tuple ts k pos) (BX n gs):=⟨have h:=h.run;fun pins s σ H v u Q I r hw=>by
 obtain⟨H0,ρ,d,ρ',E,rd,e,q⟩:=hw
 cases d with
 |tup ds=>
  simp only[BX] at e
  split at e
  ·rename_i hl
   unfold Rep at rd
   obtain⟨a,vs,rfl,hq,rs⟩:=rd
   exact agH hc h hn hst pins s σ H _ u Q I r ⟨a,vs,rfl,hq,by rw[rs.length];exact hl,H0,ρ,ds,ρ',E,rs,e,q⟩
  ·cases e
 |_=>cases e⟩
theorem Rn {tg:Expr} {gt:Dt->Ev->Option Ev} (he:QV X e f) (hg:QTg X tg gt) (hs:swapsWithSole [tg] e pos.line X.env=pure false:=by rfl) (hw:swappedStores [tg] e X.env=pure none:=by rfl) (h1:(assignEach [tg] X.env).map (·.2)=[assign tg X.env]:=by rfl):QG1 X (.Assign [tg] e pos) (fun ρ=>(f ρ).bind fun b=>match b with|.z d=>(gt d ρ).bind fun ρ'=>some (.nx ρ')|_=>none):=⟨have he:=he.run;have hg:=hg.run;psM (agI he hg hs hw h1) fun D σ H h=>by
 obtain⟨H0,ρ,r,E,e,q⟩:=h
 obtain⟨b,eb,e⟩:=bind_some e
 refine⟨H0,ρ,b,E,eb,fun v H1 s1 n1 r1=>?_⟩
 cases b with
 |z d=>
  obtain⟨ρ',eρ,e⟩:=bind_some e
  cases e
  exact⟨H0,ρ,d,ρ',E.grow s1,r1,eρ,fun σ' E' _=>q _ _ E'⟩
 |_=>cases e⟩
def aeo (i j:Nat) (ρ:Ev):List Bx->Option Out
 |[.z d,.z d']=>some (.nx ((ρ.set i (some (.z d))).set j (some (.z d'))))
 |_=>none
theorem abn (i j:Nat) {x y:Str} {px py pt:Pos} {kt k2 pt2} (hc:X.calm=true) (hN:X.N.Nodup) (ha:QVs X [a,b] fs) (hi:X.N[i]?=some x:=by rfl) (hj:X.N[j]?=some y:=by rfl) (hij:i≠j:=by decide) (hx:X.env.scope.names.lookup x=some .local:=by rfl) (hy:X.env.scope.names.lookup y=some .local:=by rfl) (hw:swappedStores [.Tuple [.Name x px,.Name y py] kt pt] (.Tuple [a,b] k2 pt2) X.env=pure (some [x,y]):=by rfl) (hs:swapsWithSole [.Tuple [.Name x px,.Name y py] kt pt] (.Tuple [a,b] k2 pt2) pos.line X.env=pure false:=by rfl):QG1 X (.Assign [.Tuple [.Name x px,.Name y py] kt pt] (.Tuple [a,b] k2 pt2) pos) (fun ρ=>(fs ρ).bind (aeo i j ρ)):=⟨have ha:=ha.run;psM (agK hc hN hi hj hij hx hy ha hw hs) fun D σ H h=>by
 obtain⟨H0,ρ,r,E,e,q⟩:=h
 obtain⟨bs,eb,e⟩:=bind_some e
 refine⟨H0,ρ,bs,E,eb,fun vs H1 s1 r1=>?_⟩
 unfold aeo at e
 split at e
 ·rename_i d d'
  cases e
  cases r1 with
  |cons p t=>
   cases t with
   |cons p' t'=>
    cases t'
    refine⟨_,_,rfl,q _ _ ?_⟩
    exact ((E.grow s1).set (b:=.z d) (Same.refl H1) p (.inr rfl) trivial).set (b:=.z d') (Same.refl H1) p' (.inr rfl) trivial
 ·cases e⟩
def aep (ρ:Ev) (i:Nat):Bx->Option Out
 |.z d=>match ρ[i]? with
  |some (some (.o ds))=>if ds.length < sizeLine then some (.nx (ρ.set i (some (.o (ds++[d]))))) else none
  |_=>none
 |_=>none
theorem cF.ak8 {K:FG_} {H0 H:Hp} {σ:L2.St} {ρ:Ev} {i:Nat} {c0 c1:Bx} {a:Addr} {u:HO} (E:cF K H0 H σ ρ) (h:ρ[i]?=some (some c0)) (ho:DX c0=true) (hs:σ[i]?=some (some (.ref a))) (k:Kp H (upd H a u)) (r:bF K (upd H a u) c1 (.ref a)) :
  cF K H0 (upd H a u) σ (ρ.set i (some c1)):=by
 have hi:i < ρ.length:=(List.getElem?_eq_some_iff.mp h).1
 have hb:H0 a=none:=E.new i c0 a h ho hs
 have lo:∀ c,DX c=true->loose c=true:=fun c hc=>by cases c<;>first|rfl|cases hc
 refine⟨by rw[JO];exact E.len,fun j b' e=>?_,fun j k' c a' b' e1 ec e2 e3 e4 e5=>?_,fun c o e=>?_,fun j c a' e1 ec e2=>?_⟩
 ·rcases getset e with⟨rfl,e',_⟩|⟨hne,e'⟩
  ·cases e'
   exact⟨_,hs,r⟩
  ·obtain⟨v,e1,r'⟩:=E.val j b' e'
   refine⟨v,e1,?_⟩
   have away:∀ a',v=.ref a'->loose b'=true->a'≠a:=fun a' ev hl z=>by
    subst z
    exact hne (E.own i j c0 _ _ h ho hs e' hl (by rw[e1,ev])).symm
   cases b' with
   |z d=>exact Rep.kp k r'
   |l ds'=>
    obtain⟨a',vs',rfl,q,rr⟩:=r'
    refine⟨a',vs',rfl,?_,rr.kp k⟩
    have hn:=away a' rfl rfl
    rcases q with q|⟨o,q⟩
    ·exact .inl (by rw[aY hn];exact q)
    ·exact .inr ⟨o,by rw[aY hn];exact q⟩
   |o ds'=>
    obtain⟨a',vs',rfl,q,rr⟩:=r'
    have hn:=away a' rfl rfl
    exact⟨a',vs',rfl,by rw[aY hn];exact q,rr.kp k⟩
   |n ds'=>
    obtain⟨a',vs',rfl,q,rr⟩:=r'
    refine⟨a',vs',rfl,?_,rr.kp k⟩
    have hn:=away a' rfl rfl
    rcases q with q|⟨o,q⟩
    ·exact .inl (by rw[aY hn];exact q)
    ·exact .inr ⟨o,by rw[aY hn];exact q⟩
   |m ds'=>
    obtain⟨a',vs',rfl,q,rr⟩:=r'
    have hn:=away a' rfl rfl
    exact⟨a',vs',rfl,by rw[aY hn];exact q,rr.1.kp k,rr.2⟩
 ·have back:∀ (m:Nat) (b:Bx),(ρ.set i (some c1))[m]?=some (some b)->loose b=true->∃ b0,ρ[m]?=some (some b0)/\loose b0=true/\(DX b=true->DX b0=true):=fun m b e l=>by
   rcases getset e with⟨rfl,e',_⟩|⟨hne,e'⟩
   ·exact⟨_,h,lo _ ho,fun _=>ho⟩
   ·exact⟨b,e',l,fun z=>z⟩
  obtain⟨b0,q1,q2,q3⟩:=back j _ e1 (lo _ ec)
  obtain⟨b1,q4,q5,_⟩:=back k' _ e3 e4
  exact E.own j k' b0 a' b1 q1 (q3 ec) e2 q4 q5 e5
 ·rw[aY (cH e hb)];exact E.base c o e
 ·rcases getset e1 with⟨rfl,e',_⟩|⟨hne,e'⟩
  ·exact E.new _ c0 a' h ho e2
  ·exact E.new j c a' e' ec e2
theorem cF.ag7 {K:FG_} {H0 H:Hp} {σ:L2.St} {ρ:Ev} {i:Nat} {ds es:List Dt} {a:Addr} {vs us:List V} (E:cF K H0 H σ ρ) (h:ρ[i]?=some (some (.o ds))) (hs:σ[i]?=some (some (.ref a))) (ha:H a=some (.lst vs)) (r:aR K H es us) :
  cF K H0 (upd H a (.lst us)) σ (ρ.set i (some (.o es))):=E.ak8 h rfl hs (.lst ha) ⟨a,us,rfl,bU,r.kp (.lst ha)⟩
theorem xQ (i:Nat) {x:Str} {p apos cpos:Pos} (he:QV X e f) (hN:X.N[i]?=some x:=by rfl) (hv:Vis X.env.scope x:=by first|exact kT rfl|exact ki (kT rfl)|exact ki (ki rfl)) (hd:(x==("__debug__" : Str))=false:=by decide) (hcd:(x==("__classdict__" : Str))=false:=by decide) (hst:starEach [e] X.env=[(false,eval e X.env)]:=by rfl) (hbase:attributeBase (.Name x p) "append" X.env (eval (.Name x p) X.env)=eval (.Name x p) X.env:=by rfl) (hfew:((backTo cpos (starEach [e] X.env)).all (fun x=>!x.1)&&(backToKw cpos (keywordEach [] X.env)).all (fun x=>x.1.isSome)&&decide ([e].length+([]:List Keyword).length+(if ([]:List Keyword).isEmpty then 0 else 1) < 30))=true:=by rfl) (hline:(apos.endLine==cpos.line)=true:=by rfl) (hs:swapsWith (.Call (.Attribute (.Name x p) "append" apos) [e] [] cpos) none pos.line X.env=pure false:=by rfl):QG1 X (.Expr (.Call (.Attribute (.Name x p) "append" apos) [e] [] cpos) pos) (fun ρ=>(f ρ).bind (aep ρ i)):=⟨have he:=he.run;psM (adT (afN PySem.F.plainAttrs_list PySem.F.slot_list_append PySem.F.type_list_append Ph (Ke (i:=i) hN hv hd hcd) (jL he tK (by rw[hst]<;>rfl)) hbase hfew hline (by rw[hst]<;>rfl) rfl) hs) fun D σ H h=>by
  obtain⟨H0,ρ,r,E,e,q⟩:=h
  obtain⟨b,eb,e⟩:=bind_some e
  cases b with
  |z d=>
   simp only[aep] at e
   split at e
   ·rename_i ds hρ
    split at e
    ·rename_i hl
     cases e
     obtain⟨v,e1,a,vs,rfl,ha,rs⟩:=E.val i _ hρ
     refine⟨_,e1,.inl ⟨rfl,vs,.inl (.inl ha)⟩,H0,ρ,_,E,eb,fun u H1 s1 n1 r1=>?_⟩
     have E1:=E.grow s1
     refine⟨a,vs,u,rfl,rfl,s1 _ _ ha,by rw[rs.length];exact hl,q _ _ ?_⟩
     exact E1.ag7 hρ e1 (s1 _ _ ha) ((rs.kp (.of s1)).append (aR.cons r1 aR.nil))
    ·cases e
   ·cases e
  |_=>cases e⟩
end
def Its (x:Str):It:=⟨fun i _=>i < x.cps.size,fun i H v H'=>H'=H/\∃ c,x.cps[i]?=some c/\v=.str ⟨#[c]⟩,fun i _=>x.cps.size<=i⟩
def ak9 (h:Heap) (it:Addr) (x:Str) (i:Nat):Prop:=∃ t,h.IsStrIter it "str_ascii_iterator" x t i\/h.IsStrIter it "str_iterator" x t i
theorem Ue {P:Program} {w:World} {K:FG_} {tg:Expr} (it:Addr) (x:Str):Turn P w K tg (Its x) [it] it (fun i h=>ak9 h it x i) where
 mem:=by simp
 obj:=fun i h st b hb=>by
  have e:b=it:=by simpa using hb
  subst e
  obtain⟨t,⟨o,e,c,d⟩|⟨o,e,c,d⟩⟩:=st
  ·exact⟨o,e,fun v z=>by rw[d] at z;cases z⟩
  ·exact⟨o,e,fun v z=>by rw[d] at z;cases z⟩
 keep:=fun i h h' st k=>by
  obtain⟨t,⟨o,e,c⟩|⟨o,e,c⟩⟩:=st
  ·exact⟨t,.inl ⟨o,k it (by simp) o e,c⟩⟩
  ·exact⟨t,.inr ⟨o,k it (by simp) o e,c⟩⟩
 item:=by
  intro X hP hw hK hc i pins s σ H E I hf st hg
  subst hP hw hK
  obtain⟨f0,f1,f2,f3,f4,f5⟩:=hf it (by simp)
  have hi:i < x.cps.size:=hg
  have hx:x.cps[i]?=some x.cps[i]:=by simp[hi]
  obtain⟨t,st|st⟩:=st
  ·refine wpAny_pyNext_ascii_item st hx fun h' st' sb=>?_
   have I1:L2.Inv X pins σ H { s with heap:=h',toks:=s.toks+1 }:=I.turned (fun b o hb e=>(sb.2 b hb).trans e) f0 f1 f3 f4 f5
   obtain⟨o,e,c,d⟩:=id st'
   exact⟨_,rfl,T7 (s:={ s with heap:=h',toks:=s.toks+1 }) e c d (by decide) ⟨.str ⟨#[x.cps[i]]⟩,H,I1,⟨_,rfl⟩,⟨rfl,_,hx,rfl⟩,⟨t,.inl st'⟩,fun b hb=>(hf b hb).1⟩⟩
  ·refine wpAny_pyNext_wide_item st hx fun h' st' sb=>?_
   have I1:L2.Inv X pins σ H { s with heap:=h',toks:=s.toks+1 }:=I.turned (fun b o hb e=>(sb.2 b hb).trans e) f0 f1 f3 f4 f5
   obtain⟨o,e,c,d⟩:=id st'
   exact⟨_,rfl,T7 (s:={ s with heap:=h',toks:=s.toks+1 }) e c d (by decide) ⟨.str ⟨#[x.cps[i]]⟩,H,I1,⟨_,rfl⟩,⟨rfl,_,hx,rfl⟩,⟨t,.inr st'⟩,fun b hb=>(hf b hb).1⟩⟩
 done:=by
  intro X hP hw hK hc i pins s σ H E I hf st hg
  subst hP hw hK
  obtain⟨f0,f1,f2,f3,f4,f5⟩:=hf it (by simp)
  have hx:x.cps[i]?=none:=by have:x.cps.size<=i:=hg;simp[this]
  obtain⟨t,st|st⟩:=st
  ·exact wpAny_pyNext_ascii_end (I.ok.hd hc) st hx fun h' eb=>⟨rfl,I.turned (t':=s.toks) (fun b o hb e=>eb b o hb e) f0 f1 f3 f4 f5⟩
  ·exact wpAny_pyNext_wide_end (I.ok.hd hc) st hx fun h' eb=>⟨rfl,I.turned (t':=s.toks) (fun b o hb e=>eb b o hb e) f0 f1 f3 f4 f5⟩
 self:=fun _ _ _ _ _ st h=>by
  obtain⟨t,st|st⟩:=st
  ·exact wpAny_pyIter_striter_ascii st h
  ·exact wpAny_pyIter_striter_wide st h
section
variable {X:Cx} {tg:Expr}
def ala (K:FG_) (tl:TE):TI:=fun σ H R=>tl σ H fun x H1=>(∃ a,x=.ref a/\(∃ xs,yK K H1 a xs)/\R (Itl K a) H1)\/(∃ a,x=.ref a/\(∃ xs,BL K H1 a xs)/\R (Itt K a) H1)\/∃ y,x=.str y/\R (Its y) H1
theorem Wx {l:Expr} {tl:TE} (hl:PE X l tl):PI X tg l (ala X.K tl):=by
 intro pins s σ H R I h
 refine mU (hl pins s σ H _ I h) fun v s1 ⟨x,H1,I1,r1,q1⟩=>?_
 have fp1:∀ (o:Obj) (b:Addr),b∈[s1.heap.objs.size]->BP X pins H1 b:=fun o b hb=>by
  have e:b=s1.heap.objs.size:=by simpa using hb
  subst e
  exact I1.adV (zi _) (I1.hok.fresh (zi _))
 rcases q1 with⟨a,e,⟨xs,hq⟩,q⟩|⟨a,e,⟨xs,hq⟩,q⟩|⟨y,e,q⟩
 ·subst e
  cases r1
  obtain⟨its,rv,p,hz⟩:=I1.list hq
  refine KA p.isList ?_
  exact⟨s1.heap.objs.size,[s1.heap.objs.size],_,_,H1,rfl,I1.kept (t':=s1.toks) fun b o e=>zg _ e,Y9 a _,⟨_,zC _ rfl,rfl,rfl⟩,fp1 default,q⟩
 ·subst e
  cases r1
  obtain⟨its,rv,p,hz⟩:=I1.tuple hq
  refine wpAny_pyIter_tuple (show s1.heap.IsTuple a its.toArray from p) ?_
  exact⟨s1.heap.objs.size,[s1.heap.objs.size],_,_,H1,rfl,I1.kept (t':=s1.toks) fun b o e=>zg _ e,Wm a _,⟨_,zC _ rfl,rfl,rfl⟩,fp1 default,q⟩
 ·subst e
  obtain⟨t,rfl⟩:=r1
  cases ha:y.cps.all (· < 128) with
  |true=>
   refine wpAny_pyIter_ascii ha ?_
   exact⟨s1.heap.objs.size,[s1.heap.objs.size],_,_,H1,rfl,I1.kept (t':=s1.toks) fun b o e=>zg _ e,Ue _ y,⟨t,.inl ⟨_,zC _ rfl,rfl,rfl⟩⟩,fp1 default,q⟩
  |false=>
   refine wpAny_pyIter_wide ha ?_
   exact⟨s1.heap.objs.size,[s1.heap.objs.size],_,_,H1,rfl,I1.kept (t':=s1.toks) fun b o e=>zg _ e,Ue _ y,⟨t,.inr ⟨_,zC _ rfl,rfl,rfl⟩⟩,fp1 default,q⟩
end
def Yields (K:FG_) (J:It) (ds:List Dt) (Hs:Hp):Prop:=∀ (i:Nat) (H:Hp),Same Hs H →
 (∀ d,ds[i]?=some d->J.go i H/\∀ x H',J.yld i H x H'->Same H H'/\Rep K H' d x)/\(ds.length<=i->J.stop i H)
theorem Yields.of {K:FG_} {J:It} {ds:List Dt} {Hs:Hp} (h:∀ (i:Nat) (H:Hp),Same Hs H →
  (∀ d,ds[i]?=some d->J.go i H/\∀ x H',J.yld i H x H'->H'=H/\Rep K H d x)/\(ds.length<=i->J.stop i H)):Yields K J ds Hs:=fun i H s=>
 ⟨fun d e=>⟨((h i H s).1 d e).1,fun x H' y=>by
  obtain⟨rfl,r⟩:=((h i H s).1 d e).2 x H' y
  exact⟨Same.refl _,r⟩⟩,(h i H s).2⟩
def signs (x:Str):List Dt:=x.cps.toList.map fun c=>.str ⟨#[c]⟩
theorem Yields.list {K:FG_} {Hs:Hp} {a:Addr} {vs:List V} {ds:List Dt} (h:yK K Hs a vs) (r:aR K Hs ds vs):Yields K (Itl K a) ds Hs:=.of fun i H s=>by
 have h':=s.seq h
 have r':=r.kp (.of s)
 refine⟨fun d e=>?_,fun e=>⟨vs,h',by rw[r.length];exact e⟩⟩
 obtain⟨v,ev,rv⟩:=r'.get e
 refine⟨⟨vs,v,h',ev⟩,fun x H' y=>?_⟩
 obtain⟨y1,y2⟩:=y
 have:=y2 vs h'
 rw[ev] at this;cases this
 exact⟨y1,rv⟩
theorem Yields.tup {K:FG_} {Hs:Hp} {a:Addr} {vs:List V} {ds:List Dt} (h:BL K Hs a vs) (r:aR K Hs ds vs):Yields K (Itt K a) ds Hs:=.of fun i H s=>by
 have h':=(Kp.of s).sqT h
 have r':=r.kp (.of s)
 refine⟨fun d e=>?_,fun e=>⟨vs,h',by rw[r.length];exact e⟩⟩
 obtain⟨v,ev,rv⟩:=r'.get e
 refine⟨⟨vs,v,h',ev⟩,fun x H' y=>?_⟩
 obtain⟨y1,y2⟩:=y
 have:=y2 vs h'
 rw[ev] at this;cases this
 exact⟨y1,rv⟩
theorem Yields.str {K:FG_} {Hs:Hp} (x:Str):Yields K (Its x) (signs x) Hs:=.of fun i H s=>by
 refine⟨fun d e=>?_,fun e=>?_⟩
 ·unfold signs at e
  rw[ZT] at e
  cases h:x.cps.toList[i]? with
  |none=>rw[h] at e;cases e
  |some c=>
   rw[h] at e;cases e
   have hc:x.cps[i]?=some c:=by simpa using h
   have hi:i < x.cps.size:=by
    have:=(List.getElem?_eq_some_iff.mp h).1
    simpa using this
   refine⟨hi,fun v H' y=>?_⟩
   obtain⟨y1,c',hc',rfl⟩:=y
   rw[hc] at hc';cases hc'
   refine⟨y1,?_⟩
   unfold Rep
   exact⟨rfl,by show (1:Nat)<=sizeLine;decide⟩
 ·have:(signs x).length=x.cps.size:=by simp[signs]
  show x.cps.size<=i
  omega
def Ro (lo:Int) (n:Nat):List Dt:=(List.range n).map fun k=>.int (lo+(k:Nat))
theorem Yields.rng {K:FG_} {Hs:Hp} (lo:Int) (n:Nat):Yields K (Itr lo n) (Ro lo n) Hs:=.of fun i H s=>by
 refine⟨fun d e=>?_,fun e=>?_⟩
 ·unfold Ro at e
  rw[ZT] at e
  by_cases hi:i < n
  ·rw[List.getElem?_range hi] at e
   cases e
   refine⟨hi,fun v H' y=>?_⟩
   obtain⟨y1,y2⟩:=y
   refine⟨y1,?_⟩
   unfold Rep
   exact y2
  ·rw[qr (by simp;omega)] at e
   cases e
 ·have:(Ro lo n).length=n:=by simp[Ro]
  show n<=i
  omega
def iF (K:FG_) (f:Ev->Option (List Dt)):TI:=fun σ H R=>∃ H0 ρ ds,cF K H0 H σ ρ/\f ρ=some ds/\∀ J H',Same H H' →
 (∀ Hs,Same Hs H'->(∀ a,H a=none->Hs a=H' a)->(∀ a o u,H' a=some (.Dw o u)->Hs a=H' a)->(∀ a vs,H' a=some (.tup vs)->Hs a=H' a)->Yields K J ds Hs)->R J H'
def PIF (X:Cx) (tg iter:Expr) (f:Ev->Option (List Dt)):Prop:=PI X tg iter (iF X.K f)
structure QIF (X:Cx) (tg iter:Expr) (f:Ev->Option (List Dt)):Prop where
 run:PIF X tg iter f
def aer:Bx->Option (List Dt)
 |.z (.lst ds)=>some ds
 |.z (.tup ds)=>some ds
 |.z (.str x)=>some (signs x)
 |.o ds=>some ds
 |_=>none
section
variable {X:Cx} {tg e:Expr} {es:List Expr} {f:Ev->Option Bx} {fs:Ev->Option (List Bx)}
mutual
theorem Rep.part {K:FG_} {H Hs:Hp} (hf:∀ a o u,H a=some (.Dw o u)->Hs a=H a) (ht:∀ a vs,H a=some (.tup vs)->Hs a=H a):∀ {d:Dt} {v:V},Rep K H d v->Rep K Hs d v
 |.non,_,h=>by simpa only[Rep] using h
 |.bl _,_,h=>by simpa only[Rep] using h
 |.int _,_,h=>by simpa only[Rep] using h
 |.str _,_,h=>by simpa only[Rep] using h
 |.tup ds,_,h=>by
  simp only[Rep] at h ⊢
  obtain⟨a,vs,e,q,r⟩:=h
  refine⟨a,vs,e,?_,aR.part hf ht r⟩
  rcases q with (q|⟨o,q⟩)|q
  ·exact .inl (.inl ((ht _ _ q).trans q))
  ·exact .inl (.inr ⟨o,(hf _ _ _ q).trans q⟩)
  ·exact .inr q
 |.lst ds,_,h=>by
  simp only[Rep] at h ⊢
  obtain⟨a,vs,e,q,r⟩:=h
  refine⟨a,vs,e,?_,aR.part hf ht r⟩
  rcases q with⟨o,q⟩|q
  ·exact .inl ⟨o,(hf _ _ _ q).trans q⟩
  ·exact .inr q
 |.emp,_,h=>by
  simp only[Rep] at h ⊢
  obtain⟨a,o,e,q⟩:=h
  exact⟨a,o,e,(hf _ _ _ q).trans q⟩
theorem aR.part {K:FG_} {H Hs:Hp} (hf:∀ a o u,H a=some (.Dw o u)->Hs a=H a) (ht:∀ a vs,H a=some (.tup vs)->Hs a=H a):∀ {ds:List Dt} {vs:List V},aR K H ds vs->aR K Hs ds vs
 |[],_,h=>by simpa only[aR] using h
 |d::ds,_,h=>by
  simp only[aR] at h ⊢
  obtain⟨v,r,e,q,t⟩:=h
  exact⟨v,r,e,Rep.part hf ht q,aR.part hf ht t⟩
end
theorem Yc (h:QV X e f):QIF X tg e (fun ρ=>(f ρ).bind aer):=⟨have h:=h.run;fun pins s σ H R I q=>by
 refine Wx h pins s σ H R I ?_
 obtain⟨H0,ρ,ds,E,e,q⟩:=q
 obtain⟨b,eb,e⟩:=bind_some e
 refine⟨H0,ρ,b,E,eb,fun v H1 s1 n1 r1=>?_⟩
 cases b with
 |z d=>
  cases d with
  |tup ds'=>
   cases e
   simp only[bF,Rep] at r1
   obtain⟨a,vs,rfl,hq,rs⟩:=r1
   refine .inr (.inl ⟨a,rfl,⟨vs,hq⟩,q _ _ s1 fun Hs hs hn hf ht=>.tup ?_ (rs.part hf ht)⟩)
   rcases hq with (hq|⟨o,hq⟩)|hq
   ·exact .inl (.inl ((ht _ _ hq).trans hq))
   ·exact .inl (.inr ⟨o,(hf _ _ _ hq).trans hq⟩)
   ·exact .inr hq
  |lst ds'=>
   cases e
   simp only[bF,Rep] at r1
   obtain⟨a,vs,rfl,hq,rs⟩:=r1
   refine .inl ⟨a,rfl,⟨vs,hq.sq⟩,q _ _ s1 fun Hs hs hn hf ht=>.list ?_ (rs.part hf ht)⟩
   rcases hq with⟨o,hq⟩|hq
   ·exact .inl (.inr ⟨o,(hf _ _ _ hq).trans hq⟩)
   ·exact .inr hq
  |str x=>
   cases e
   simp only[bF,Rep] at r1
   obtain⟨rfl,_⟩:=r1
   exact .inr (.inr ⟨x,rfl,q _ _ s1 fun Hs hs hn hf ht=>.str x⟩)
  |_=>cases e
 |l ds'=>cases e
 |n ds'=>cases e
 |m ds'=>cases e
 |o ds'=>
  cases e
  obtain⟨a,vs,rfl,hq,rs⟩:=r1
  refine .inl ⟨a,rfl,⟨vs,.inl (.inl hq)⟩,q _ _ s1 fun Hs hs hn hf ht=>.list (.inl (.inl ((hn a (n1 a rfl)).trans hq))) (rs.part hf ht)⟩⟩
def ahc:List Bx->Option (List Dt)
 |[.z (.int j)]=>if -(2 ^ 62)<=j/\j < 2 ^ 62 then some (Ro 0 j.toNat) else none
 |_=>none
theorem qX {p pos:Pos} (hg:Gl X "range") (hm:X.mg "range" = none) (ha:QVs X [e] fs) (hs:starEach [e] X.env=[(false,eval e X.env)]:=by rfl):QIF X tg (.Call (.Name "range" p) [e] [] pos) (fun ρ=>(fs ρ).bind ahc):=⟨have ha:=ha.run;fun pins s σ H R I q=>by
 refine Za hg hm ha hs pins s σ H R I ?_
 obtain⟨H0,ρ,ds,E,e,q⟩:=q
 obtain⟨bs,eb,e⟩:=bind_some e
 refine⟨H0,ρ,bs,E,eb,fun vs H1 s1 r1=>?_⟩
 unfold ahc at e
 split at e
 ·rename_i j
  split at e
  ·rename_i hj
   cases e
   cases r1 with
   |cons p t=>
    cases t
    simp only[bF,Rep] at p
    subst p
    exact⟨j,rfl,hj.1,hj.2,q _ _ s1 fun Hs _ _ _ _=>.rng 0 _⟩
  ·cases e
 ·cases e⟩
def zH (gt:Dt->Ev->Option Ev) (gb:Ev->Option Out):List Dt->Ev->Option Out
 |[],ρ=>some (.nx ρ)
 |d::ds,ρ=>(gt d ρ).bind fun ρ1=>(gb ρ1).bind fun r=>match r with
  |.nx ρ2=>zH gt gb ds ρ2
  |.ct ρ2=>zH gt gb ds ρ2
  |.bk ρ2=>some (.nx ρ2)
  |.rt b=>some (.rt b)
noncomputable def jy (H:Hp) (σ:L2.St) (ρ:Ev):Hp:=fun a=>@ite _ (∃ (i:Nat) (c:Bx),ρ[i]?=some (some c)/\DX c=true/\σ[i]?=some (some (.ref a))) (Classical.propDecidable _) none (H a)
theorem Ef {H:Hp} {σ:L2.St} {ρ:Ev}:Same (jy H σ ρ) H:=fun a o e=>by
 unfold jy at e
 split at e
 ·cases e
 ·exact e
theorem cF.rebase {K:FG_} {H0 Hs H:Hp} {σ:L2.St} {ρ:Ev} (E:cF K Hs H σ ρ) (s:Same H0 Hs):cF K H0 H σ ρ:=⟨E.len,E.val,E.own,s.trans E.base,fun i c a e1 ec e2=>s.free (E.new i c a e1 ec e2)⟩
theorem cF.sans {K:FG_} {H0 H:Hp} {σ:L2.St} {ρ:Ev} (E:cF K H0 H σ ρ):cF K (jy H σ ρ) H σ ρ:=⟨E.len,E.val,E.own,Ef,fun i c a e1 ec e2=>by
 unfold jy
 rw[zo ⟨i,c,e1,ec,e2⟩]⟩
theorem cF.sub {K:FG_} {H0 H:Hp} {σ:L2.St} {ρ:Ev} (E:cF K H0 H σ ρ):Same H0 (jy H σ ρ):=fun a o e=>by
 unfold jy
 split
 ·rename_i h
  obtain⟨i,c,e1,ec,e2⟩:=h
  rw[E.new i c a e1 ec e2] at e;cases e
 ·exact E.base a o e
theorem lR {K:FG_} {H0 H:Hp} {σ:L2.St} {ρ:Ev} (E:cF K H0 H σ ρ) {a:Addr} (h:∀ vs,H a≠some (.lst vs)) (h2:∀ vs,H a≠some (.dK vs)):jy H σ ρ a=H a:=by
 unfold jy
 split
 ·rename_i hh
  obtain⟨i,c,e1,ec,e2⟩:=hh
  obtain⟨v,e3,rc⟩:=E.val i _ e1
  rw[e2] at e3;cases e3
  cases c with
  |o ds=>obtain⟨a',vs,e4,q,_⟩:=rc;cases e4;exact absurd q (h vs)
  |m ds _=>obtain⟨a',vs,e4,q,_⟩:=rc;cases e4;exact absurd q (h2 vs)
  |_=>cases ec
 ·rfl
theorem abj.rebase {K:FG_} {H0 Hs:Hp} {D:Ends} {r:Out} (s:Same H0 Hs) (h:abj K H0 D r):abj K Hs D r:=by
 cases r with
 |nx ρ=>exact fun σ H E=>h σ H (E.rebase s)
 |bk ρ=>exact fun σ H E=>h σ H (E.rebase s)
 |ct ρ=>exact fun σ H E=>h σ H (E.rebase s)
 |rt b=>exact fun v H s' n r=>h v H (s.trans s') (n.old s) r
theorem wL {gt:Dt->Ev->Option Ev} {gb:Ev->Option Out} {J:It} {ds:List Dt} {H0 H1:Hp} {σ:L2.St} {ρ:Ev} {D:Ends} {r:Out} (E1:cF X.K H0 H1 σ ρ) (Y:Yields X.K J ds (jy H1 σ ρ)) (e:zH gt gb ds ρ=some r) (q:abj X.K H0 D r) :
  ∃ W:Nat->Nat->L2.St->Hp->Prop,(∃ m,W 0 m σ H1)/\∀ i m σ H,W i m σ H →
   (J.stop i H/\D.nx σ H)\/(J.go i H/\∃ N:L2.St->Hp->Prop,(∀ σ' H',N σ' H'->∃ m',m' < m/\W (i+1) m' σ' H')/\∀ x H',J.yld i H x H'->tgF X.K gt x σ H' fun σ2 H2=>tG X.K gb { D with nx:=N,ct:=N,bk:=D.nx } σ2 H2):=by
 have E2:=E1.sans
 have q2:=q.rebase E1.sub
 generalize jy H1 σ ρ=Hs at Y E2 q2
 refine⟨fun i m σ' H'=>m=ds.length - i/\i<=ds.length/\∃ ρ',cF X.K Hs H' σ' ρ'/\zH gt gb (ds.drop i) ρ'=some r,⟨ds.length,by simp,QO _,ρ,E2,by simpa using e⟩,?_⟩
 rintro i m σ' H' ⟨rfl,hi',ρ',E',e'⟩
 obtain⟨y1,y2⟩:=Y i H' E'.base
 by_cases hlt:i < ds.length
 ·right
  have hd:ds[i]?=some ds[i]:=by simp[hlt]
  obtain⟨go,yl⟩:=y1 _ hd
  rw[List.drop_eq_getElem_cons hlt] at e'
  simp only[zH] at e'
  obtain⟨ρ1,e1,e'⟩:=bind_some e'
  obtain⟨r1,e2,e'⟩:=bind_some e'
  refine⟨go,fun σ2 H2=>∃ ρ2,cF X.K Hs H2 σ2 ρ2/\zH gt gb (ds.drop (i+1)) ρ2=some r,fun σ2 H2 ⟨ρ2,E3,e3⟩=>⟨ds.length - (i+1),by omega,rfl,hlt,ρ2,E3,e3⟩,fun x H2 yy=>?_⟩
  obtain⟨sm,rx⟩:=yl x H2 yy
  refine⟨Hs,ρ',ds[i],ρ1,E'.grow sm,rx,e1,fun σ1 E3 _=>⟨Hs,ρ1,r1,E3,e2,?_⟩⟩
  cases r1 with
  |nx ρ2=>exact fun σ2 H3 E4=>⟨ρ2,E4,e'⟩
  |ct ρ2=>exact fun σ2 H3 E4=>⟨ρ2,E4,e'⟩
  |bk ρ2=>cases e';exact q2
  |rt b=>cases e';exact q2
 ·left
  have hge:ds.length<=i:=by omega
  refine⟨y2 hge,?_⟩
  rw[List.drop_eq_nil_of_le hge] at e'
  cases e'
  exact q2 σ' H' E'
theorem Gq {iter:Expr} {body:List Stmt} {fi:Ev->Option (List Dt)} {gt:Dt->Ev->Option Ev} {gb:Ev->Option Out} {pos:Pos} (hp:PassesOwn (model X.prog X.w) X.A X.env X.xe) (hc:X.calm=true) (hi:QIF X tg iter fi) (hg:QTg X tg gt) (hb:QGs X body gb) (hs:∀ x,foldedSetIterable iter X.env x=pure x:=by intro _;rfl):QG1 X (.For tg iter body [] pos) (fun ρ=>(fi ρ).bind fun ds=>zH gt gb ds ρ):=⟨have hi:=hi.run;have hg:=hg.run;have hb:=hb.run;psM (aaV hp hc hi hg hb hs) fun D σ H h=>by
 obtain⟨H0,ρ,r,E,e,q⟩:=h
 obtain⟨ds,ed,e⟩:=bind_some e
 refine⟨H0,ρ,ds,E,ed,fun J H1 s1 y=>?_⟩
 have E1:=E.grow s1
 refine wL E1 ?_ e q
 refine y _ Ef (fun a ha=>?_) (fun a o u ha=>lR E1 (fun vs z=>by rw[ha] at z;cases z) (fun vs z=>by rw[ha] at z;cases z)) fun a vs ha=>lR E1 (fun vs z=>by rw[ha] at z;cases z) (fun vs z=>by rw[ha] at z;cases z)
 unfold jy
 split
 ·rename_i hh
  obtain⟨i,c,e1,ec,e2⟩:=hh
  obtain⟨v,e3,rc⟩:=E.val i _ e1
  rw[e2] at e3;cases e3
  cases c with
  |o ds=>obtain⟨a',vs,e4,q,_⟩:=rc;cases e4;rw[ha] at q;cases q
  |m ds _=>obtain⟨a',vs,e4,q,_⟩:=rc;cases e4;rw[ha] at q;cases q
  |_=>cases ec
 ·rfl⟩
theorem cF.lend {K:FG_} {H0 H:Hp} {σ:L2.St} {ρ:Ev} {i:Nat} {ds:List Dt} (E:cF K H0 H σ ρ) (h:ρ[i]?=some (some (.o ds))):cF K H0 H σ (ρ.set i (some (.l ds))):=by
 have back:∀ (j:Nat) (b:Bx),(ρ.set i (some (.l ds)))[j]?=some (some b)->(j=i/\b=.l ds)\/(j≠i/\ρ[j]?=some (some b)):=fun j b e=>by
  rcases getset e with⟨rfl,e',_⟩|⟨hne,e'⟩
  ·cases e';exact .inl ⟨rfl,rfl⟩
  ·exact .inr ⟨hne,e'⟩
 refine⟨by rw[JO];exact E.len,fun j b e=>?_,fun j k c a b e1 ec e2 e3 e4 e5=>?_,E.base,fun j c a e1 ec e2=>?_⟩
 ·rcases back j b e with⟨rfl,rfl⟩|⟨hne,e'⟩
  ·obtain⟨v,e1,a,vs,e2,q,r⟩:=E.val _ _ h
   exact⟨v,e1,a,vs,e2,.inl q,r⟩
  ·exact E.val j b e'
 ·rcases back j _ e1 with⟨rfl,z⟩|⟨hne,e'⟩
  ·subst z;cases ec
  ·rcases back k _ e3 with⟨rfl,z⟩|⟨ael,e3'⟩
   ·exact E.own j _ c a _ e' ec e2 h rfl e5
   ·exact E.own j k c a b e' ec e2 e3' e4 e5
 ·rcases back j _ e1 with⟨rfl,z⟩|⟨hne,e'⟩
  ·subst z;cases ec
  ·exact E.new j c a e' ec e2
def Oa (i:Nat) (gt:Dt->Ev->Option Ev) (gb:Ev->Option Out) (ρ:Ev):Option Out:=match ρ[i]? with
 |some (some (.o ds))=>zH gt gb ds (ρ.set i (some (.l ds)))
 |some (some (.l ds))=>zH gt gb ds ρ
 |some (some b)=>(aer b).bind fun ds=>zH gt gb ds ρ
 |_=>none
theorem abo {H0 H:Hp} {σ:L2.St} {ρ:Ev} {i:Nat} {ds:List Dt} (E:cF X.K H0 H σ ρ) (h:ρ[i]?=some (some (.l ds))):∃ a vs,σ[i]?=some (some (.ref a))/\yK X.K H a vs/\Yields X.K (Itl X.K a) ds (jy H σ ρ):=by
 obtain⟨v,e1,a,vs,rfl,q,r⟩:=E.val i _ h
 have hk:jy H σ ρ a=H a:=by
  unfold jy
  split
  ·rename_i hh
   obtain⟨j,c,e2,ec,e3⟩:=hh
   have:=E.own j i c a _ e2 ec e3 h rfl e1
   subst this
   rw[h] at e2;cases e2;cases ec
  ·rfl
 refine⟨a,vs,e1,.inl q,.list (.inl ?_) (r.part (fun b o u hb=>lR E (fun vs z=>by rw[hb] at z;cases z) (fun vs z=>by rw[hb] at z;cases z)) fun b ws hb=>lR E (fun vs z=>by rw[hb] at z;cases z) (fun vs z=>by rw[hb] at z;cases z))⟩
 rcases q with q|⟨o,q⟩
 ·exact .inl (hk.trans q)
 ·exact .inr ⟨o,hk.trans q⟩
theorem aes (i:Nat) {x:Str} {p:Pos} {body:List Stmt} {gt:Dt->Ev->Option Ev} {gb:Ev->Option Out} {pos:Pos} (hp:PassesOwn (model X.prog X.w) X.A X.env X.xe) (hc:X.calm=true) (hg:QTg X tg gt) (hb:QGs X body gb) (hN:X.N[i]?=some x:=by rfl) (hv:Vis X.env.scope x:=by first|exact kT rfl|exact ki (kT rfl)|exact ki (ki rfl)) (hd:(x==("__debug__" : Str))=false:=by decide) (hcd:(x==("__classdict__" : Str))=false:=by decide) (hs:∀ y,foldedSetIterable (.Name x p) X.env y=pure y:=by intro _;rfl):QG1 X (.For tg (.Name x p) body [] pos) (Oa i gt gb):=⟨have hg:=hg.run;have hb:=hb.run;psM (aaV hp hc (Wx (Ke (i:=i) hN hv hd hcd)) hg hb hs) fun D σ H h=>by
 obtain⟨H0,ρ,r,E,e,q⟩:=h
 unfold Oa at e
 split at e
 ·rename_i ds hρ
  have E1:=E.lend hρ
  have hi:i < ρ.length:=(List.getElem?_eq_some_iff.mp hρ).1
  obtain⟨a,vs,e1,sq,Y⟩:=abo E1 (Ku _ hi)
  exact⟨_,e1,.inl ⟨a,rfl,⟨vs,sq⟩,wL E1 Y e q⟩⟩
 ·rename_i ds hρ
  obtain⟨a,vs,e1,sq,Y⟩:=abo E hρ
  exact⟨_,e1,.inl ⟨a,rfl,⟨vs,sq⟩,wL E Y e q⟩⟩
 ·rename_i b n1 n2 hρ
  obtain⟨ds,ed,e⟩:=bind_some e
  obtain⟨v,e1,rb⟩:=E.val i _ hρ
  have hf:∀ b o u,H b=some (.Dw o u)->jy H σ ρ b=H b:=fun b o u hb=>lR E (fun vs z=>by rw[hb] at z;cases z) (fun vs z=>by rw[hb] at z;cases z)
  have ht:∀ b ws,H b=some (.tup ws)->jy H σ ρ b=H b:=fun b ws hb=>lR E (fun vs z=>by rw[hb] at z;cases z) (fun vs z=>by rw[hb] at z;cases z)
  cases b with
  |z d=>
   cases d with
   |tup ds'=>
    cases ed
    simp only[bF,Rep] at rb
    obtain⟨a,vs,rfl,hq,rs⟩:=rb
    refine⟨_,e1,.inr (.inl ⟨a,rfl,⟨vs,hq⟩,wL E (.tup ?_ (rs.part hf ht)) e q⟩)⟩
    rcases hq with (hq|⟨o,hq⟩)|hq
    ·exact .inl (.inl ((ht _ _ hq).trans hq))
    ·exact .inl (.inr ⟨o,(hf _ _ _ hq).trans hq⟩)
    ·exact .inr hq
   |lst ds'=>
    cases ed
    simp only[bF,Rep] at rb
    obtain⟨a,vs,rfl,hq,rs⟩:=rb
    refine⟨_,e1,.inl ⟨a,rfl,⟨vs,hq.sq⟩,wL E (.list ?_ (rs.part hf ht)) e q⟩⟩
    rcases hq with⟨o,hq⟩|hq
    ·exact .inl (.inr ⟨o,(hf _ _ _ hq).trans hq⟩)
    ·exact .inr hq
   |str x=>
    cases ed
    simp only[bF,Rep] at rb
    obtain⟨rfl,_⟩:=rb
    exact⟨_,e1,.inr (.inr ⟨x,rfl,wL E (.str x) e q⟩)⟩
   |_=>cases ed
  |l ds'=>cases ed
  |o ds'=>exact absurd rfl (n1 ds')
  |n ds'=>cases ed
  |m ds'=>cases ed
 ·cases e⟩
end
def SubL (cells:List (Str×Addr)):List (Str×Addr)->Prop
 |[]=>True
 |(n,c)::r=>cells.lookup n=some c/\SubL cells r
theorem SubL.get {cells:List (Str×Addr)}:∀ {cl:List (Str×Addr)},SubL cells cl->∀ {x:Str} {c:Addr},cl.lookup x=some c->cells.lookup x=some c
 |[],_,_,_,e=>by cases e
 |(n,d)::r,h,x,c,e=>by
  rw[List.lookup_cons] at e
  by_cases hx:x==n
  ·simp only[hx] at e
   cases e
   have:x=n:=by simpa using hx
   rw[this];exact h.1
  ·have hx:(x==n)=false:=by simpa using hx
   simp only[hx] at e
   exact SubL.get h.2 e
structure Cap (X:Cx) (scope:Scope) (cl:List (Str×Addr)) (x:Str) (i:Nat):Prop where
 n:X.N[i]?=some x
 k:X.env.kindOf x=some .cell\/X.env.kindOf x=some .free
 k':(relabel scope X.env).names.lookup x=some .cell\/(relabel scope X.env).names.lookup x=some .free
 c:∃ c,cl.lookup x=some c
def Ob (X:Cx) (scope:Scope) (cl:List (Str×Addr)):LS_->List Nat->Prop
 |[],[]=>True
 |x::xs,i::is=>Cap X scope cl x i/\Ob X scope cl xs is
 |_,_=>False
theorem Ob.get {X:Cx} {scope:Scope} {cl:List (Str×Addr)}:∀ {xs:LS_} {is:List Nat},Ob X scope cl xs is->xs.length=is.length/\∀ (j:Nat) (x:Str),xs[j]?=some x->∃ i,is[j]?=some i/\Cap X scope cl x i
 |[],[],_=>⟨rfl,fun j x e=>by simp at e⟩
 |x::xs,i::is,h=>by
  obtain⟨h1,h2⟩:=h
  obtain⟨l,g⟩:=Ob.get h2
  refine⟨by simp[l],fun j y e=>?_⟩
  cases j with
  |zero=>simp at e;subst e;exact⟨i,rfl,h1⟩
  |succ j=>obtain⟨k,e1,e2⟩:=g j y (by simpa using e);exact⟨k,by simpa using e1,e2⟩
 |[],_::_,h=>h.elim
 |_::_,[],h=>h.elim
def ahd (names:List (Str×NameKind)) (x:Str):Bool:=match names.lookup x with
 |some .cell=>true
 |_=>false
def Wy (X:Cx) (N':LS_) (scope:Scope) (cl:List (Str×Addr)) (C:Addr) (s₀:Shared) (H₀:Hp) (fp:List Addr):Cx:=
 { X with N:=N',s₀:=s₀,H₀:=H₀,env:=compEnvC scope (cellsFrom (C+1) scope.names cl) C X.env,outer:=X.stack,ex:=fp,fn:=ahd scope.names,pn:=[],xe:=fun _ _=>False }
structure ahe (h:Heap) (cs:List (Str×Addr)):Prop where
 inj:∀ x y c,cs.lookup x=some c->cs.lookup y=some c->x=y
 cell:∀ x c,cs.lookup x=some c->∃ v,h.IsCell c v
theorem n6 {α:Type} {x n:Str} {a:α} {l:List (Str×α)} (h:x≠n):((n,a)::l).lookup x=l.lookup x:=by
 rw[List.lookup_cons,beq_eq_false_iff_ne.mpr h]
theorem abp:∀ (names:List (Str×NameKind)) (h:Heap) (acc:List (Str×Addr)),ahe h acc->ahe (pushCells h names) (cellsFrom h.objs.size names acc)
 |[],_,_,x=>x
 |(n,k)::r,h,acc,x=>by
  unfold pushCells cellsFrom
  split
  ·have hlt:∀ y c,acc.lookup y=some c->c≠h.objs.size:=fun y c e=>let ⟨_,q⟩:=x.cell y c e;Zl q.lt
   have:=abp r (h.push { cls:=.type "cell", data:=.cell none }) ((n,h.objs.size)::acc) ⟨fun y z c e1 e2=>?_,fun y c e=>?_⟩
   ·rwa [qk] at this
   ·by_cases hy:y=n<;>by_cases hz:z=n
    ·rw[hy,hz]
    ·subst hy;rw[JU] at e1;rw[n6 hz] at e2;cases e1;exact absurd rfl (hlt _ _ e2)
    ·subst hz;rw[JU] at e2;rw[n6 hy] at e1;cases e2;exact absurd rfl (hlt _ _ e1)
    ·rw[n6 hy] at e1;rw[n6 hz] at e2;exact x.inj y z c e1 e2
   ·by_cases hy:y=n
    ·subst hy;rw[JU] at e;cases e;exact⟨none,_,zC _ rfl,rfl⟩
    ·rw[n6 hy] at e
     obtain⟨v,q⟩:=x.cell y c e
     exact⟨v,q.keeps fun b o e=>zg _ e⟩
  ·exact abp r h acc x
theorem Eh:∀ (names:List (Str×NameKind)) (n:Nat) (acc:List (Str×Addr)) (x:Str) (c:Addr),(cellsFrom n names acc).lookup x=some c->acc.lookup x=some c\/n<=c
 |[],_,_,_,_,e=>.inl e
 |(m,k)::r,n,acc,x,c,e=>by
  unfold cellsFrom at e
  split at e
  ·rcases Eh r _ _ x c e with h|h
   ·by_cases hx:x=m
    ·subst hx;rw[JU] at h;cases h;exact .inr (zi _)
    ·rw[n6 hx] at h;exact .inl h
   ·exact .inr (by omega)
  ·exact Eh r _ _ x c e
theorem Rp:∀ (names:List (Str×NameKind)) (n:Nat) (acc:List (Str×Addr)) (x:Str),(x,NameKind.cell)∉names->(cellsFrom n names acc).lookup x=acc.lookup x
 |[],_,_,_,_=>rfl
 |(m,k)::r,n,acc,x,h=>by
  unfold cellsFrom
  have hr:(x,NameKind.cell)∉r:=fun z=>h (zl _ z)
  split
  ·rename_i hk
   rw[Rp r _ _ x hr,n6 fun z=>h (by rw[z,<-beq_iff_eq.mp hk];exact zt ..)]
  ·exact Rp r _ _ x hr
theorem Wz:∀ (names:List (Str×NameKind)) (n:Nat) (acc:List (Str×Addr)) (x:Str),((x,NameKind.cell)∈names\/∃ c,acc.lookup x=some c)->∃ c,(cellsFrom n names acc).lookup x=some c
 |[],_,_,_,h=>h.elim (fun z=>by simp at z) fun z=>z
 |(m,k)::r,n,acc,x,h=>by
  unfold cellsFrom
  split
  ·refine Wz r _ _ x ?_
   by_cases hx:x=m
   ·exact .inr ⟨n,by rw[hx,JU]⟩
   ·rw[n6 hx]
    exact h.imp_left fun z=>(List.mem_cons.mp z).elim (fun z=>absurd (congrArg Prod.fst z) hx) fun z=>z
  ·rename_i hk
   exact Wz r _ _ x (h.imp_left fun z=>(List.mem_cons.mp z).elim (fun z=>by cases z;exact absurd rfl hk) fun z=>z)
theorem Zo {M:Model} {A:Around} {E:VP_} {s:Shared} {scope:Scope} {g:Addr} {cl:List (Str×Addr)} {qual:Str} {env:Env} {Q:Env->Shared->Prop}
  (h:Q (newEnv scope s.heap.objs.size g (cellsFrom (s.heap.objs.size+1) scope.names cl) qual none .none (some env) builtinsNs) { s with heap:=pushCells (s.heap.push { cls:=.type "dict", data:=.dict #[] }) scope.names }) :
  wpAny M A (newFunctionEnv scope g cl [] qual none .none (some env)) Q E s:=by
 simp only[newFunctionEnv,Option.isSome_some,qB]
 refine zd (wpAny_alloc ?_)
 refine zd (wpAny_layCells _ (fun name kind cells=>by cases kind==NameKind.cell<;>simp) _ _ _ _ ?_)
 rw[show ({ s with heap:=s.heap.push { cls:=.type "dict", data:=.dict #[] } }:Shared).heap.objs.size=s.heap.objs.size+1 from qk ..]
 rw[List.forIn_nil]
 exact zd (ze (ze h))
structure Cz (X:Cx) (scope:Scope) (cl:List (Str×Addr)) (xs:LS_) (is:List Nat):Prop where
 clos:closureFor scope X.env=pure cl
 kind:scope.kind=.function
 cell:∀ y∈scope.names,y.2=.cell->cl.lookup y.1=none
 names:∀ y∈scope.names,y.2=.local->scope.names.lookup y.1=some .local
 sub:SubL X.env.cells cl
 has:∀ x,((relabel scope X.env).names.lookup x=some .cell\/(relabel scope X.env).names.lookup x=some .free)->(x,NameKind.cell)∈scope.names\/∃ c,cl.lookup x=some c
 cap:Ob X scope cl xs is
def Gr (is:List Nat) (σ:L2.St):L2.St:=is.map fun i=>(σ[i]?).bind fun v=>v
def uD (is:List Nat) (ρ:Ev):Ev:=is.map fun i=>Js ρ i
def TgK (n m:Nat) (g:Dt->Ev->Option Ev):Prop:=∀ d ρ ρ',g d ρ=some ρ'->ρ'.length=ρ.length/\∀ j,j < n\/m<=j->ρ'[j]?=ρ[j]?
def aeu (n m:Nat) (g:List Dt->Ev->Option Ev):Prop:=∀ d ρ ρ',g d ρ=some ρ'->ρ'.length=ρ.length/\∀ j,j < n\/m<=j->ρ'[j]?=ρ[j]?
theorem dB {n i m:Nat} (h:n<=i:=by decide) (h':i < m:=by decide):TgK n m (fun d ρ=>some (ρ.set i (some (.z d)))):=fun d ρ ρ' e=>by
 cases e
 exact⟨by rw[JO],fun j hj=>Kv _ (by omega)⟩
theorem aev {n m:Nat}:aeu n m Ip:=fun d ρ ρ' e=>by
 cases d with
 |nil=>cases e;exact⟨rfl,fun _ _=>rfl⟩
 |cons=>cases e
theorem Ei {n m:Nat} {g:Dt->Ev->Option Ev} {gs:List Dt->Ev->Option Ev} (h:TgK n m g) (hs:aeu n m gs):aeu n m (fL g gs):=fun d ρ ρ' e=>by
 cases d with
 |nil=>cases e
 |cons d ds=>
  simp only[fL] at e
  obtain⟨ρ1,e1,e⟩:=bind_some e
  obtain⟨a,b⟩:=h _ _ _ e1
  obtain⟨a',b'⟩:=hs _ _ _ e
  exact⟨a'.trans a,fun j hj=>(b' j hj).trans (b j hj)⟩
theorem ahf {n m k:Nat} {gs:List Dt->Ev->Option Ev} (hs:aeu n m gs):TgK n m (BX k gs):=fun d ρ ρ' e=>by
 cases d with
 |tup ds=>
  simp only[BX] at e
  split at e
  ·exact hs _ _ _ e
  ·cases e
 |_=>cases e
def Jt (gt:Dt->Ev->Option Ev) (p:Ev->Option Bool) (fs:Ev->Option (List Dt)) (ρ:Ev):List Dt->Option (List Dt)
 |[]=>some []
 |d::ds=>(gt d ρ).bind fun ρ1=>(p ρ1).bind fun k=>if k=true then (fs ρ1).bind fun ys=>(Jt gt p fs ρ ds).bind fun zs=>some (ys++zs) else Jt gt p fs ρ ds
def ahg:Bx->Option (List Dt)
 |.z y=>some [y]
 |_=>none
def Pq (gt:Dt->Ev->Option Ev) (p:Ev->Option Bool) (fe:Ev->Option Bx) (ρ:Ev):List Dt->Option (List Dt):=Jt gt p (fun ρ=>(fe ρ).bind ahg) ρ
theorem Pr {b:Bx} {ys:List Dt} (h:ahg b=some ys):∃ y,b=.z y/\ys=[y]:=by
 cases b<;>cases h
 exact⟨_,rfl,rfl⟩
theorem Gs {gt:Dt->Ev->Option Ev} {p:Ev->Option Bool} {fe:Ev->Option Bx} {ρ:Ev}:∀ {ds out:List Dt},Pq gt p fe ρ ds=some out->out.length<=ds.length
 |[],_,e=>by cases e;exact zi _
 |d::ds,out,e=>by
  simp only[Pq,Jt] at e
  obtain⟨ρ1,_,e⟩:=bind_some e
  obtain⟨k,_,e⟩:=bind_some e
  cases k with
  |false=>
   rw[zI ZI] at e
   exact zw (Gs (gt:=gt) (p:=p) (fe:=fe) e) (by simp)
  |true=>
   rw[zo rfl] at e
   obtain⟨ys,ey,e⟩:=bind_some e
   obtain⟨zs,ez,e⟩:=bind_some e
   obtain⟨b,_,ey⟩:=bind_some ey
   obtain⟨y,_,rfl⟩:=Pr ey
   cases e
   simpa using Gs (gt:=gt) (p:=p) (fe:=fe) ez
def Tests (X:Cx) (ifs:List Expr) (p:Ev->Option Bool):Prop:=(ifs=[]/\p=fun _=>some true)\/∃ c,ifs=[c]/\PB X c p
structure WD (X:Cx) (ifs:List Expr) (p:Ev->Option Bool):Prop where
 run:Tests X ifs p
section
variable {X:Cx} {elt tgt iter:Expr} {ifs:List Expr} {scope:Scope} {cl:List (Str×Addr)} {pos:Pos} {xs ts:LS_} {is:List Nat} {gt:Dt->Ev->Option Ev} {p:Ev->Option Bool} {fe:Ev->Option Bx} {fi:Ev->Option (List Dt)}
theorem abq {pins:List (Addr×Obj)} {σ:L2.St} {H3:Hp} {s3:Shared} {fp:List Addr} (I3:L2.Inv X pins σ H3 s3) (O:Cz X scope cl xs is)
  (hf:∀ b∈fp,BP X pins H3 b) (hfl:∀ b∈fp,b < s3.heap.objs.size) :
  L2.Inv (Wy X (xs++ts) scope cl s3.heap.objs.size s3 H3 fp) [] (Gr is σ++List.replicate ts.length none) H3 { s3 with heap:=pushCells (s3.heap.push { cls:=.type "dict", data:=.dict #[] }) scope.names }:=by
 obtain⟨hl,hc⟩:=O.cap.get
 have hsub:=O.sub
 have hsz:(s3.heap.push { cls:=.type "dict", data:=.dict #[] }).objs.size=s3.heap.objs.size+1:=qk ..
 have hk:∀ b o,s3.heap.get? b=some o->(pushCells (s3.heap.push { cls:=.type "dict", data:=.dict #[] }) scope.names).get? b=some o:=fun b o e=>pushCells_keeps _ _ b o (zg _ e)
 have cf:ahe (pushCells (s3.heap.push { cls:=.type "dict", data:=.dict #[] }) scope.names) (cellsFrom (s3.heap.objs.size+1) scope.names cl):=by
  rw[<-hsz]
  refine abp _ _ _ ⟨fun x y c e1 e2=>I3.ok.inj x y c (hsub.get e1) (hsub.get e2),fun x c e=>?_⟩
  obtain⟨v,q⟩:=I3.cell x c (hsub.get e)
  exact⟨v,q.keeps fun b o e=>zg _ e⟩
 have from':∀ x c,(cellsFrom (s3.heap.objs.size+1) scope.names cl).lookup x=some c->X.env.cells.lookup x=some c\/s3.heap.objs.size < c:=fun x c e=>(Eh _ _ _ x c e).imp_left hsub.get
 refine⟨⟨I3.ok.mod,O.kind,I3.ok.glob,I3.ok.blt,zi _,cf.inj,fun x hx=>Wz _ _ _ x (O.has x hx),fun x c hx e=>?_,I3.ok.hd,I3.ok.frames,.inl rfl,fun b hb=>⟨Zl (hfl b hb),fun x c e=>?_⟩,I3.bs,zw I3.ok.bsz I3.sz,fun b o e hb=>?_,fun b hb hb'=>?_,I3.stack,I3.XR⟩,
  rfl,I3.bare,Un.kept hk,⟨_,(Heap.Ns.new s3.heap (.type "dict")).keeps (pushCells_keeps _ _),fun j x v e1 e2 _=>?_⟩,cf.cell,I3.hok.fresh (zi _),fun x c e=>(from' x c e).elim (I3.rQ x c) fun h=>I3.hok.fresh (jn h),fun q hq=>absurd (show q∈([]:List (Addr×Obj)) from hq) (by simp),I3.hok.kept hk,?_⟩
 ·refine (Eh _ _ _ x c e).elim (fun h=>?_) fun h=>jn h
  have hx:(x,NameKind.cell)∈scope.names:=by
   have hx:ahd scope.names x=true:=hx
   unfold ahd at hx
   split at hx
   ·rename_i q;exact mem_of_lookup q
   ·cases hx
  rw[O.cell _ hx rfl] at h;cases h
 ·rcases from' x c e with h|h
  ·exact (hf b hb).2.2.2.2.1 x c h
  ·exact Nat.ne_of_gt (Nat.lt_trans (hfl b hb) h)
 ·obtain⟨_,_,_,z,_⟩:=hf b hb
  rcases z with z|z
  ·exact I3.ok.aaP b o e z
  ·exact absurd (ZN (zD e) (zw I3.ok.bsz z)) (QY _)
 ·obtain⟨_,n1,n2,_⟩:=hf b hb
  rcases List.mem_cons.mp (I3.QZ b hb') with z|z
  ·exact n1 z
  ·exact n2 z
 ·have hj:j < is.length:=by
   by_cases hj:j < is.length
   ·exact hj
   ·rw[Qr (by simp[Gr];omega)] at e2
    rw[ja] at e2
    split at e2<;>cases e2
  have e1':xs[j]?=some x:=by
   have e1:(xs++ts)[j]?=some x:=e1
   rw[qf (by omega)] at e1;exact e1
  obtain⟨i,ei,hcp⟩:=hc j x e1'
  have e3:σ[i]?=some (some v):=by
   rw[qf (by simp[Gr];omega)] at e2
   unfold Gr at e2
   rw[ZT,ei] at e2
   cases q:σ[i]? with
   |none=>rw[Option.map_some,q] at e2;cases e2
   |some o=>
    rw[Option.map_some,q] at e2
    have:o=some v:=by simpa using e2
    rw[this]
  have vis:Vis X.env.scope x:=by
   rcases hcp.k with k|k
   ·exact .inr (.inl k)
   ·exact .inr (.inr k)
  obtain⟨m',hn',hlk⟩:=I3.loc
  obtain⟨u,r,l⟩:=hlk i x v hcp.n e3 vis
  refine⟨u,r,?_⟩
  rcases l with⟨k,_⟩|⟨k,c,ec,ic⟩
  ·rcases hcp.k with k'|k'<;>(rw[k] at k';cases k')
  ·obtain⟨c',ec'⟩:=hcp.c
   have:=hsub.get ec'
   rw[ec] at this;cases this
   refine .inr ⟨hcp.k',c,(Rp _ _ _ x fun z=>by rw[O.cell _ z rfl] at ec';cases ec').trans ec',?_⟩
   obtain⟨o,ho,hd⟩:=ic
   exact⟨o,hk c o ho,hd⟩
 ·show (Gr is σ++List.replicate ts.length none).length=(xs++ts).length
  simp[Gr,hl]
theorem cF.caps {K:FG_} {H0 H:Hp} {σ:L2.St} {ρ:Ev} (E:cF K H0 H σ ρ) (is:List Nat) (n:Nat):cF K H H (Gr is σ++List.replicate n none) (uD is ρ++List.replicate n none):=by
 have noO:∀ (j:Nat) c,(uD is ρ++List.replicate n none)[j]?=some (some c)->DX c=false:=fun j c e=>by
  by_cases hj:j < is.length
  ·rw[qf (by simp[uD];omega)] at e
   unfold uD at e
   rw[ZT] at e
   cases q:is[j]? with
   |none=>rw[q] at e;cases e
   |some i=>
    rw[q] at e
    have:Js ρ i=some c:=by simpa using e
    exact J2 this
  ·rw[Qr (by simp[uD];omega),ja] at e
   split at e<;>cases e
 refine⟨by simp[Gr,uD],fun j b e=>?_,fun j k c a b e ec=>absurd ec (by rw[noO j c e];exact ZI),Same.refl H,fun j c a e ec=>absurd ec (by rw[noO j c e];exact ZI)⟩
 by_cases hj:j < is.length
 ·rw[qf (by simp[uD];omega)] at e
  rw[qf (by simp[Gr];omega)]
  unfold uD at e
  unfold Gr
  rw[ZT] at e ⊢
  cases q:is[j]? with
  |none=>rw[q] at e;cases e
  |some i=>
   rw[q] at e
   have:Js ρ i=some b:=by simpa using e
   obtain⟨v,e1,r⟩:=Ub E this
   exact⟨v,by simp[e1],r⟩
 ·rw[Qr (by simp[uD];omega),ja] at e
  split at e<;>cases e
theorem cF.forget {K:FG_} {H0 H:Hp} {σ:L2.St} {ρ ρ':Ev} (E:cF K H0 H σ ρ') (hl:ρ'.length=ρ.length) (h:∀ (j:Nat) b,ρ[j]?=some (some b)->ρ'[j]?=some (some b)):cF K H0 H σ ρ:=
 ⟨E.len.trans hl,fun j b e=>E.val j b (h j b e),fun i j c a b e1 ec e2 e3 e4 e5=>E.own i j c a b (h _ _ e1) ec e2 (h _ _ e3) e4 e5,E.base,fun i c a e1 ec e2=>E.new i c a (h _ _ e1) ec e2⟩
structure Apt (Hb:Hp) (σ:L2.St) (ρ:Ev) (n:Nat):Prop where
 own:∀ (j:Nat) c,ρ[j]?=some (some c)->DX c=false
 lt:∀ (j:Nat) b,ρ[j]?=some (some b)->j < n
 old:∀ (j:Nat) c a,ρ[j]?=some (some c)->loose c=true->σ[j]?=some (some (.ref a))->Hb a≠none
def Fx (σ σ':L2.St) (ρ:Ev):Prop:=∀ (j:Nat) c,loose c=true->ρ[j]?=some (some c)->σ'[j]?=σ[j]?
theorem Apt.fx {Hb:Hp} {σ σ':L2.St} {ρ:Ev} {n:Nat} (P:Apt Hb σ ρ n) (f:Fx σ σ' ρ):Apt Hb σ' ρ n:=⟨P.own,P.lt,fun j c a e hl ea=>P.old j c a e hl (by rw[<-f j c hl e];exact ea)⟩
theorem known {K:FG_} {H0 H:Hp} {σ:L2.St} {ρ:Ev} (E:cF K H0 H σ ρ) (j:Nat) (c:Bx) (a:Addr) (e:ρ[j]?=some (some c)) (hl:loose c=true) (ea:σ[j]?=some (some (.ref a))):H a≠none:=fun z=>by
 obtain⟨v,e1,rc⟩:=E.val j _ e
 rw[ea] at e1;cases e1
 cases c with
 |z d=>cases hl
 |l dz=>
  obtain⟨a',vs,e2,q,_⟩:=rc
  cases e2
  rcases q with q|⟨o,q⟩<;>(rw[z] at q;cases q)
 |n dz=>
  obtain⟨a',vs,e2,q,_⟩:=rc
  cases e2
  rcases q with q|⟨o,q⟩<;>(rw[z] at q;cases q)
 |o dz=>
  obtain⟨a',vs,e2,q,_⟩:=rc
  cases e2
  rw[z] at q;cases q
 |m dz _=>
  obtain⟨a',vs,e2,q,_⟩:=rc
  cases e2
  rw[z] at q;cases q
theorem cF.grown {K:FG_} {Hb H:Hp} {σ:L2.St} {ρ:Ev} {n:Nat} {D:Addr} {o:HO} (E:cF K Hb H σ ρ) (P:Apt Hb σ ρ n) (hD:Hb D=none) (kp:Kp H (upd H D o)):cF K Hb (upd H D o) σ ρ:=by
 refine⟨E.len,fun j b e=>?_,fun j k c a b e ec=>absurd ec (by rw[P.own j c e];exact ZI),fun c o e=>?_,fun j c a e ec=>absurd ec (by rw[P.own j c e];exact ZI)⟩
 ·obtain⟨v,ev,rb⟩:=E.val j b e
  refine⟨v,ev,?_⟩
  cases b with
  |z d=>exact Rep.kp kp rb
  |o dz=>have:=P.own j _ e;cases this
  |m dz _=>have:=P.own j _ e;cases this
  |n dz=>
   obtain⟨a,vs,rfl,q,rr⟩:=rb
   refine⟨a,vs,rfl,?_,rr.kp kp⟩
   have ha:a≠D:=fun z=>P.old j _ _ e rfl ev (by rw[z];exact hD)
   exact q.imp (fun q=>by rw[aY ha];exact q) fun ⟨o,q⟩=>⟨o,by rw[aY ha];exact q⟩
  |l dz=>
   obtain⟨a,vs,rfl,q,rr⟩:=rb
   refine⟨a,vs,rfl,?_,rr.kp kp⟩
   have ha:a≠D:=fun z=>P.old j _ _ e rfl ev (by rw[z];exact hD)
   exact q.imp (fun q=>by rw[aY ha];exact q) fun ⟨o,q⟩=>⟨o,by rw[aY ha];exact q⟩
 ·rw[aY (cH e hD)];exact E.base c o e
def aew (X:Cx) (el:Addr->Env->Sem Unit) (fs:Ev->Option (List Dt)) (Ac:Addr->Hp->List Dt->HO->Prop) (N n:Nat):Prop:=∀ (pins:List (Addr×Obj)) (s:Shared) (σ:L2.St) (H Hb:Hp) (ρ:Ev) (D:Addr) (o:HO) (o1 ys:List Dt),L2.Inv X pins σ H s->cF X.K Hb H σ ρ->Apt Hb σ ρ n->Hb D=none->fs ρ=some ys->H D=some o->Ac D H o1 o->o1.length+ys.length<=N →
 wpAny (model X.prog X.w) X.A (el D X.env) (fun _ s'=>∃ σ' H' o',L2.Inv X pins σ' H' s'/\cF X.K Hb H' σ' ρ/\Fx σ σ' ρ/\H' D=some o'/\Ac D H' (o1++ys) o') X.xe s
theorem ahh {el:Addr->Env->Sem Unit} {fs:Ev->Option (List Dt)} {Ac:Addr->Hp->List Dt->HO->Prop} {N n:Nat} (h:∀ (pins:List (Addr×Obj)) (s:Shared) (σ:L2.St) (H Hb:Hp) (ρ:Ev) (D:Addr) (o:HO) (o1 ys:List Dt),L2.Inv X pins σ H s->cF X.K Hb H σ ρ->fs ρ=some ys->H D=some o->Ac D H o1 o->o1.length+ys.length<=N →
  wpAny (model X.prog X.w) X.A (el D X.env) (fun _ s'=>∃ H9 o',L2.Inv X pins σ (upd H9 D o') s'/\Same H H9/\Kp H9 (upd H9 D o')/\Ac D (upd H9 D o') (o1++ys) o') X.xe s):aew X el fs Ac N n:=fun pins s σ H Hb ρ D o o1 ys I E P hD e1 e2 a1 l=>by
 refine Qb (h pins s σ H Hb ρ D o o1 ys I E e1 e2 a1 l) (fun _ s' ⟨H9,o',I',s9,kp,a'⟩=>?_) fun _ _ z=>z
 exact⟨σ,_,o',I',(E.grow s9).grown P hD kp,fun _ _ _ _=>rfl,bU,a'⟩
theorem Zq {comp:Expr} {d:Nat} {ipos:Pos} {Ac:Addr->Hp->List Dt->HO->Prop} {el:Addr->Env->Sem Unit} {fs:Ev->Option (List Dt)} {N n m:Nat} {pins:List (Addr×Obj)} {σ:L2.St} {H Hb:Hp} {s:Shared} {it D:Addr} {fp:List Addr} {tn:Nat->Heap->Prop} {J:It} {ds o0 out:List Dt} {o:HO} {ρ:Ev} {R:Result->Shared->Prop}
  (hcalm:X.calm=true) (hx:X.xe=fun _ _=>False) (Zr:PTg X tgt gt) (hif:Tests X ifs p) (hel:aew X el fs Ac N m) (htk:TgK n m gt) (hnm:n<=m)
  (I:L2.Inv X pins σ H s) (E:cF X.K Hb H σ ρ) (P:Apt Hb σ ρ n) (hD:Hb D=none) (hHD:H D=some o) (hA:Ac D H o0 o)
  (T:Turn X.prog X.w X.K tgt J fp it tn) (st:tn 0 s.heap) (hf:∀ b∈fp,BP X pins H b) (Y:Yields X.K J ds Hb)
  (hout:Jt gt p fs ρ ds=some out) (hN:o0.length+out.length<=N)
  (hAk:∀ {D:Addr} {H H':Hp} {o1:List Dt} {o:HO},Kp H H'->Ac D H o1 o->Ac D H' o1 o)
  (hturn:∀ (it:Value) (D:Addr) (env:Env),compTurn comp d it (.ref D) env=(standAt ipos >>= fun _=>pyNext it >>= fun r=>match r with
   |none=>pure (.done .next)
   |some v=>letOwnedTupleGo tgt it v >>= fun _=>assign tgt env v >>= fun _=>(forIn ifs true fun c r=>if r=true then isTrue c env (eval c env) >>= fun ok=>pure (ForInStep.yield ok) else pure (ForInStep.yield r)) >>= fun ok=>if ok=true then el D env >>= fun _=>again (.compLoop comp d it (.ref D) env) else again (.compLoop comp d it (.ref D) env)))
  (hsh:∀ {it acc:Value} {env:Env} {Q:Fin->Shared->Prop} {E:VP_} {s:Shared},wpAny (model X.prog X.w) X.A ((compTurn comp d it acc env).onRaise (fun x=>noteFrame x env >>= fun _=>theTreesLotGoes x)) Q E s->wpAny (model X.prog X.w) (X.A.under (.compLoop comp d it acc env)) ((model X.prog X.w).den (.compLoop comp d it acc env)) Q E s)
  (hR:∀ s' σ' H' o',L2.Inv X pins σ' H' s'->cF X.K Hb H' σ' ρ->Fx σ σ' ρ->H' D=some o'->Ac D H' (o0++out) o'->R (.ok .next) s') :
  codeAny (model X.prog X.w) X.A (.compLoop comp d (.ref it) (.ref D) X.env) R s:=by
 have hfC:∀ {H':Hp},(∀ b∈fp,H' b=none)->∀ b∈fp,BP X pins H' b:=fun {H'} hn b hb=>⟨hn b hb,(hf b hb).2⟩
 refine codeAny_loop rfl (fun k s'=>∃ (i:Nat) (σ':L2.St) (H':Hp) (o1 o2:List Dt) (o:HO),k=ds.length - i/\i<=ds.length/\L2.Inv X pins σ' H' s'/\tn i s'.heap/\(∀ b∈fp,H' b=none)/\cF X.K Hb H' σ' ρ/\Fx σ σ' ρ/\H' D=some o/\Ac D H' o1 o/\Jt gt p fs ρ (ds.drop i)=some o2/\o1++o2=o0++out) ?_ ds.length
  ⟨0,σ,H,o0,out,o,by simp,QO _,I,st,fun b hb=>(hf b hb).1,E,fun _ _ _ _=>rfl,hHD,hA,by simpa using hout,rfl⟩
 rintro k s4 ⟨i,σ4,H4,o1,o2,o,rfl,hi,I4,st4,fr4,E4,F4,hD4,r4,e4,ho⟩
 have P4:=P.fx F4
 refine hsh (wpAny_noted ?_)
 rw[hturn]
 obtain⟨y1,y2⟩:=Y i H4 E4.base
 by_cases hlt:i < ds.length
 ·have hd:ds[i]?=some ds[i]:=by simp[hlt]
  obtain⟨go,yl⟩:=y1 _ hd
  rw[List.drop_eq_getElem_cons hlt] at e4
  simp only[Jt] at e4
  obtain⟨ρ1,e1,e4⟩:=bind_some e4
  obtain⟨k,ek,e4⟩:=bind_some e4
  obtain⟨hl1,hk1⟩:=htk _ _ _ e1
  have back:∀ {σ5:L2.St} {H5:Hp},cF X.K Hb H5 σ5 ρ1->cF X.K Hb H5 σ5 ρ:=fun E5=>E5.forget hl1 fun j b e=>by rw[hk1 j (.inl (P.lt j b e))];exact e
  refine zd (wpAny_standAt (zd ?_))
  refine mU (T.item X rfl rfl rfl hcalm i pins s4 σ4 H4 _ I4 (hfC fr4) st4 go) fun r s5 ⟨u,hr,h5⟩=>?_
  subst hr
  refine zd (mU h5 fun _ s6 ⟨x,H6,I6,r6,y6,st6,fr6⟩=>?_)
  obtain⟨sm,rx⟩:=yl x H6 y6
  have E4:=E4.grow sm
  have hD4:=sm _ _ hD4
  have r4:=hAk (.of sm) r4
  have I6':=I6.pinned (hfC fr6) (T.obj _ _ st6)
  have ha:=Zr _ s6 σ4 H6 x u (fun σ' H'=>H'=H6/\cF X.K Hb H6 σ' ρ1/\Lo σ4 ρ σ' ρ1) I6' r6 ⟨Hb,ρ,ds[i],ρ1,E4,rx,e1,fun σ' E' L'=>⟨rfl,E',L'⟩⟩
  rw[hx] at ha
  refine zd (Qb ha (fun _ s7 h7=>?_) fun _ _ z=>z.elim)
  obtain⟨σ7,H7,I7,rfl,E7,L7⟩:=h7
  have P7:Apt Hb σ7 ρ1 m:=by
   refine⟨fun j c e=>?_,fun j c e=>?_,fun j c a e hl ea=>?_⟩
   ·cases c with
    |o ds=>exact P.own j _ (L7 j _ rfl e).1
    |m ds _=>exact P.own j _ (L7 j _ rfl e).1
    |_=>rfl
   ·refine Nat.lt_of_not_le fun h=>?_
    rw[hk1 j (.inr h)] at e
    exact absurd (ZN (P.lt j c e) hnm) (Nat.not_lt.mpr h)
   ·obtain⟨e',ee⟩:=L7 j c hl e
    exact P4.old j c a e' hl (by rw[<-ee];exact ea)
  have afW:∀ {σ5:L2.St},Fx σ7 σ5 ρ1->Fx σ σ5 ρ:=fun f j c hl e=>by
   have e':ρ1[j]?=some (some c):=by rw[hk1 j (.inl (P.lt j c e))];exact e
   exact (f j c hl e').trans ((L7 j c hl e').2.trans (F4 j c hl e))
  have ht:wpAny (model X.prog X.w) X.A (forIn ifs true fun c r=>if r=true then do let ok <-isTrue c X.env (eval c X.env);pure (ForInStep.yield ok) else pure (ForInStep.yield r))
    (fun ok s8=>ok=k/\∃ H8,L2.Inv X (pins++Gk fp s6.heap) σ7 H8 s8/\Same H7 H8) (notedBy (model X.prog X.w) X.A X.env fun e s'=>R (.error e) s') s7:=by
   rcases hif with⟨rfl,rfl⟩|⟨c,rfl,hc⟩
   ·cases ek
    exact wpAny_tests_nil ⟨rfl,H7,I7,Same.refl H7⟩
   ·refine wpAny_tests_one ?_
    have:=hc _ s7 σ7 H7 (fun b H8=>b=k/\Same H7 H8) I7 ⟨Hb,ρ1,k,E7,ek,fun H8 s8=>⟨rfl,s8⟩⟩
    rw[hx] at this
    exact Qb this (fun b s8 ⟨H8,I8,eb,s8'⟩=>⟨eb,H8,I8,s8'⟩) fun _ _ z=>z.elim
  refine zd (Qb ht (fun ok s8 h8=>?_) fun _ _ z=>z)
  obtain⟨rfl,H8,I8,s78⟩:=h8
  have abr:∀ {σ9:L2.St} {H9:Hp} {s9:Shared},L2.Inv X (pins++Gk fp s6.heap) σ9 H9 s9->L2.Inv X pins σ9 H9 s9/\tn (i+1) s9.heap/\∀ b∈fp,H9 b=none:=fun {σ9 H9 s9} I9=>by
   refine⟨I9.zG,T.keep _ _ _ st6 fun b hb o e=>(I9.pin (b,o) (qa _ (qa _ (xO hb e)))).1,fun b hb=>?_⟩
   obtain⟨o,e,d⟩:=T.obj _ _ st6 b hb
   exact (I9.pin (b,o) (qa _ (qa _ (xO hb e)))).2.1
  cases ok with
  |false=>
   rw[zI ZI] at e4
   obtain⟨I9,st9,fr9⟩:=abr I8
   exact ze ⟨rfl,ds.length - (i+1),by omega,i+1,σ7,H8,o1,o2,o,rfl,hlt,I9,st9,fr9,back (E7.grow s78),afW (fun _ _ _ _=>rfl),s78 _ _ hD4,hAk (.of s78) r4,e4,ho⟩
  |true=>
   rw[zo rfl] at e4
   obtain⟨ys,eb,e4⟩:=bind_some e4
   obtain⟨zs,e5,e4⟩:=bind_some e4
   cases e4
   have hl:=congrArg List.length ho
   simp only[Zp] at hl
   have he:=hel _ s8 σ7 H8 Hb ρ1 D o o1 ys I8 (E7.grow s78) P7 hD eb (s78 _ _ hD4) (hAk (.of s78) r4) (by omega)
   rw[hx] at he
   refine zd (Qb he (fun _ s10 h10=>?_) fun _ _ z=>z.elim)
   obtain⟨σ9,H9,o',I10,E9,F9,hD9,a5⟩:=h10
   obtain⟨I11,ald,ale⟩:=abr I10
   exact ze ⟨rfl,ds.length - (i+1),by omega,i+1,σ9,H9,o1++ys,zs,o',rfl,hlt,I11,ald,ale,back E9,afW F9,hD9,a5,e5,by rw[JY];exact ho⟩
 ·have hge:ds.length<=i:=by omega
  rw[List.drop_eq_nil_of_le hge] at e4
  cases e4
  refine zd (wpAny_standAt (zd ?_))
  refine mU (T.done X rfl rfl rfl hcalm i pins s4 σ4 H4 _ I4 (hfC fr4) st4 (y2 hge)) fun r s5 ⟨hr,I5⟩=>?_
  subst hr
  rw[kP] at ho
  exact ze (hR s5 σ4 H4 o I5 E4 F4 hD4 (by rw[<-ho];exact r4))
theorem Zt {comp:Expr} {mk:Sem Value} {o0:Obj} {O0:HO} {Ac:Addr->Hp->List Dt->HO->Prop} {el:Addr->Env->Sem Unit} {fs:Ev->Option (List Dt)} {N m:Nat} {pins:List (Addr×Obj)} {σ:L2.St} {H2:Hp} {s2:Shared} {it:Addr} {fp:List Addr} {tn:Nat->Heap->Prop} {J:It} {ds out:List Dt} {ρ:Ev} {RR:Value->Addr->Result->Shared->Prop} {E:VP_}
  (O:Cz X scope cl xs is) (hcalm:X.calm=true)
  (Zr:∀ C s₀ H₀ fp,PTg (Wy X (xs++ts) scope cl C s₀ H₀ fp) tgt gt) (hif:∀ C s₀ H₀ fp,Tests (Wy X (xs++ts) scope cl C s₀ H₀ fp) ifs p) (helt:∀ C s₀ H₀ fp,aew (Wy X (xs++ts) scope cl C s₀ H₀ fp) el fs Ac N m) (htk:TgK is.length m gt) (hnm:is.length<=m)
  (I2:L2.Inv X pins σ H2 s2) (Ec:cF X.K H2 H2 (Gr is σ++List.replicate ts.length none) (uD is ρ++List.replicate ts.length none)) (T:Turn X.prog X.w X.K tgt J fp it tn) (st:tn 0 s2.heap) (hf:∀ b∈fp,BP X pins H2 b) (Y:Yields X.K J ds H2)
  (hout:Jt gt p fs (uD is ρ++List.replicate ts.length none) ds=some out) (hlen:out.length<=N)
  (hRR:∀ (D C:Addr) (s':Shared) (H':Hp) (o:HO),H2 D=none->L2.Inv X pins σ H' s'->BP X pins H' C->(∃ m,s'.heap.Ns C m)->Same H2 H'->H' D=some o->Ac D H' out o->RR (.ref D) C (.ok .next) s')
  (hmk:∀ {Q:VP_},Q (.ref s2.heap.objs.size) { s2 with heap:=s2.heap.push o0 }->wpAny (model X.prog X.w) X.A mk Q E s2) (hO0:∀ H,nY X.prog X.w H (s2.heap.push o0) s2.heap.objs.size O0) (hA0:∀ H,Ac s2.heap.objs.size H [] O0)
  (hAk:∀ {D:Addr} {H H':Hp} {o1:List Dt} {o:HO},Kp H H'->Ac D H o1 o->Ac D H' o1 o)
  (hturn:∀ (it:Value) (D:Addr) (env:Env),compTurn comp 0 it (.ref D) env=(standAt iter.pos >>= fun _=>pyNext it >>= fun r=>match r with
   |none=>pure (.done .next)
   |some v=>letOwnedTupleGo tgt it v >>= fun _=>assign tgt env v >>= fun _=>(forIn ifs true fun c r=>if r=true then isTrue c env (eval c env) >>= fun ok=>pure (ForInStep.yield ok) else pure (ForInStep.yield r)) >>= fun ok=>if ok=true then el D env >>= fun _=>again (.compLoop comp 0 it (.ref D) env) else again (.compLoop comp 0 it (.ref D) env)))
  (hstart:∀ {it acc:Value} {env:Env} {R:Result->Shared->Prop} {s:Shared},codeAny (model X.prog X.w) X.A (.compLoop comp 0 it acc env) R s->wpAny (model X.prog X.w) X.A (pyIter it) (fun it' s'=>codeAny (model X.prog X.w) X.A (.compLoop comp 0 it' acc env) R s') (notedBy (model X.prog X.w) X.A env fun x s'=>R (.error x) s') s->codeAny (model X.prog X.w) X.A (.compStart comp 0 it acc env) R s)
  (hsh:∀ {it acc:Value} {env:Env} {Q:Fin->Shared->Prop} {E:VP_} {s:Shared},wpAny (model X.prog X.w) X.A ((compTurn comp 0 it acc env).onRaise (fun x=>noteFrame x env >>= fun _=>theTreesLotGoes x)) Q E s->wpAny (model X.prog X.w) (X.A.under (.compLoop comp 0 it acc env)) ((model X.prog X.w).den (.compLoop comp 0 it acc env)) Q E s) :
  wpAny (model X.prog X.w) X.A mk (fun acc s₃=>wpAny (model X.prog X.w) X.A (newFunctionEnv scope X.env.globals cl [] X.env.qual none .none (some X.env)) (fun cenv s₄=>
   codeAny (model X.prog X.w) X.A (.compStart comp 0 (.ref it) acc { cenv with scope:=relabel scope X.env }) (RR acc cenv.locals) s₄) E s₃) E s2:=by
 refine hmk (Zo ?_)
 have hD:H2 s2.heap.objs.size=none:=I2.hok.fresh (zi _)
 have I3:L2.Inv X pins σ (upd H2 s2.heap.objs.size O0) { s2 with heap:=s2.heap.push o0 }:=
  I2.laid (t':=s2.toks) (fun b o e=>zg _ e) (zi _) (hO0 _)
 have aja:∀ b∈fp,b < s2.heap.objs.size:=fun b hb=>let ⟨o,e,_⟩:=T.obj 0 _ st b hb;zD e
 have hf3:∀ b∈fp,BP X pins (upd H2 s2.heap.objs.size O0) b:=fun b hb=>⟨by rw[aY (Zl (aja b hb))];exact (hf b hb).1,(hf b hb).2⟩
 have st3:tn 0 (s2.heap.push o0):=T.keep 0 _ _ st fun b hb o e=>zg _ e
 have aex:∀ b∈fp,b < (s2.heap.push o0).objs.size:=fun b hb=>by rw[qk];exact qS (aja b hb)
 generalize hs3:({ s2 with heap:=s2.heap.push o0 }:Shared)=s3 at *
 have alg:s3.heap=s2.heap.push o0:=by rw[<-hs3]
 rw[<-alg] at st3 aex
 have IC:=abq (ts:=ts) I3 O hf3 aex
 have st1:tn 0 (pushCells (s3.heap.push { cls:=.type "dict", data:=.dict #[] }) scope.names):=T.keep 0 _ _ st3 fun b hb o e=>pushCells_keeps _ _ b o (zg _ e)
 have hfC:∀ b∈fp,BP (Wy X (xs++ts) scope cl s3.heap.objs.size s3 (upd H2 s2.heap.objs.size O0) fp) [] (upd H2 s2.heap.objs.size O0) b:=fun b hb=>by
  obtain⟨f0,f1,f2,f3,f4,f5⟩:=hf3 b hb
  refine⟨f0,Zl (aex b hb),fun z=>?_,.inl hb,fun x c e z=>?_,fun q hq=>absurd (show q∈([]:List (Addr×Obj)) from hq) (by simp)⟩
  ·rcases List.mem_cons.mp (I3.QZ b z) with q|q
   ·exact f1 q
   ·exact f2 q
  ·rcases Eh _ _ _ x c e with h|h
   ·exact f4 x c (O.sub.get h) z
   ·rw[z] at h;exact absurd (ZN (aex b hb) (Nat.le_of_succ_le h)) (QY _)
 have P0:Apt H2 (Gr is σ++List.replicate ts.length none) (uD is ρ++List.replicate ts.length none) is.length:=by
  have g:∀ (j:Nat) c,(uD is ρ++List.replicate ts.length none)[j]?=some (some c)->j < is.length/\DX c=false:=fun j c e=>by
   by_cases hj:j < is.length
   ·refine⟨hj,?_⟩
    rw[qf (by simp[uD];omega)] at e
    unfold uD at e
    rw[ZT] at e
    cases q:is[j]? with
    |none=>rw[q] at e;cases e
    |some i=>rw[q] at e;exact J2 (by simpa using e)
   ·rw[Qr (by simp[uD];omega),ja] at e
    split at e<;>cases e
  exact⟨fun j c e=>(g j c e).2,fun j c e=>(g j c e).1,known Ec⟩
 have h:=Zq (X:=Wy X (xs++ts) scope cl s3.heap.objs.size s3 (upd H2 s2.heap.objs.size O0) fp) (R:=RR (.ref s2.heap.objs.size) s3.heap.objs.size) (o0:=[]) hcalm rfl (Zr _ _ _ _) (hif _ _ _ _) (helt _ _ _ _) htk hnm IC (Ec.grow (bV hD)) P0 hD bU (hA0 _) T st1 hfC Y hout (by simpa using hlen) hAk hturn hsh fun s5 σ5 H5 o5 I5 E5 _ hD5 a5=>by
  have IB:L2.Inv X pins σ H5 s5:=I3.call' (ch:=fp) I5.os I5.base I5.hok I5.bare fun b hb=>by
   obtain⟨f0,f1,f2,f3,f4,f5⟩:=hf3 b hb
   exact⟨f3,f1,f4,f5⟩
  obtain⟨m,hn,_⟩:=I5.loc
  exact hRR _ _ s5 H5 o5 hD IB (I3.adV (zi _) I5.free) ⟨m,hn⟩ E5.base hD5 a5
 exact hstart h (T.self _ 0 _ _ _ st1 h)
def AcL (K:FG_) (_:Addr) (H:Hp) (o1:List Dt) (o:HO):Prop:=∃ us,o=.lst us/\aR K H o1 us
theorem AcL.kp {K:FG_} {D:Addr} {H H':Hp} {o1:List Dt} {o:HO} (k:Kp H H'):AcL K D H o1 o->AcL K D H' o1 o:=fun ⟨us,e,r⟩=>⟨us,e,r.kp k⟩
def alh (fe:Ev->Option Bx):Ev->Option (List Dt):=fun ρ=>(fe ρ).bind ahg
theorem aey {n:Nat} (h:PV X elt fe):aew X (fun D env=>do let _ <-call (.builtin "list.append") [.ref D,<-eval elt env]) (alh fe) (AcL X.K) 100000 n:=by
 refine ahh fun pins s σ H Hb ρ D o o1 ys I En ee hD ⟨us,e,r4⟩ hl=>?_
 subst e
 obtain⟨b,eb,ee⟩:=bind_some ee
 obtain⟨y,rfl,rfl⟩:=Pr ee
 refine zd (Qb (h pins s σ H (fun v H9=>Same H H9/\Rep X.K H9 y v) I ⟨Hb,ρ,_,En,eb,fun v H9 s9 _ r9=>⟨s9,r9⟩⟩) (fun v s9 h9=>?_) fun _ _ z=>z)
 obtain⟨v',H9,I9,rv,s89,r9⟩:=h9
 have hD9:=s89 _ _ hD
 refine zd (Qb ((Ph (X:=X)) _ s9 σ H9 (.ref D) [v'] (.ref D) [v] (fun w H10=>H10=upd H9 D (.lst (us++[v']))) I9 rfl (.cons rv .nil) ⟨_,us,v',rfl,rfl,hD9,by rw[r4.length];have h0:(100000:Nat) < sizeLine:=(by decide);simp at hl;omega,rfl⟩) (fun w s10 h10=>?_) fun _ _ z=>z)
 obtain⟨w',H10,I10,_,rfl⟩:=h10
 have kp:Kp H9 (upd H9 D (.lst (us++[v']))):=.lst hD9
 exact ze ⟨H9,_,I10,s89,kp,us++[v'],rfl,((r4.kp (.of s89)).append (aR.cons r9 aR.nil)).kp kp⟩
theorem Ug {pins:List (Addr×Obj)} {σ:L2.St} {H2:Hp} {s2:Shared} {it:Addr} {fp:List Addr} {tn:Nat->Heap->Prop} {J:It} {ds out:List Dt} {ρ:Ev} {RR:Value->Addr->Result->Shared->Prop} {E:VP_}
  (O:Cz X scope cl xs is) (hcalm:X.calm=true)
  (Zr:∀ C s₀ H₀ fp,PTg (Wy X (xs++ts) scope cl C s₀ H₀ fp) tgt gt) (hif:∀ C s₀ H₀ fp,Tests (Wy X (xs++ts) scope cl C s₀ H₀ fp) ifs p) (helt:∀ C s₀ H₀ fp,PV (Wy X (xs++ts) scope cl C s₀ H₀ fp) elt fe) (htk:TgK is.length (is.length+ts.length) gt)
  (I2:L2.Inv X pins σ H2 s2) (Ec:cF X.K H2 H2 (Gr is σ++List.replicate ts.length none) (uD is ρ++List.replicate ts.length none)) (T:Turn X.prog X.w X.K tgt J fp it tn) (st:tn 0 s2.heap) (hf:∀ b∈fp,BP X pins H2 b) (Y:Yields X.K J ds H2)
  (hlen:ds.length<=100000) (hout:Pq gt p fe (uD is ρ++List.replicate ts.length none) ds=some out)
  (hRR:∀ (D C:Addr) (s':Shared) (H':Hp) (us:List V),H2 D=none->L2.Inv X pins σ H' s'->BP X pins H' C->(∃ m,s'.heap.Ns C m)->Same H2 H'->H' D=some (.lst us)->aR X.K H' out us->RR (.ref D) C (.ok .next) s') :
  wpAny (model X.prog X.w) X.A (newList []) (fun acc s₃=>wpAny (model X.prog X.w) X.A (newFunctionEnv scope X.env.globals cl [] X.env.qual none .none (some X.env)) (fun cenv s₄=>
   codeAny (model X.prog X.w) X.A (.compStart (.ListComp elt [⟨tgt,iter,ifs,0⟩] scope pos) 0 (.ref it) acc { cenv with scope:=relabel scope X.env }) (RR acc cenv.locals) s₄) E s₃) E s2:=
 Zt (Ac:=AcL X.K) (O0:=.lst []) (N:=100000) O hcalm Zr hif (fun C s₀ H₀ fp=>aey (helt C s₀ H₀ fp)) htk (Nat.le_add_right ..) I2 Ec T st hf Y hout (zw (Gs hout) hlen) (fun D C s' H' o a b c d e f g=>by obtain⟨us,rfl,r⟩:=g;exact hRR D C s' H' us a b c d e f r)
  ZZ (fun _=>⟨QO _,[],0,.nil,zC _ rfl⟩) (fun _=>⟨[],rfl,aR.nil⟩) AcL.kp (fun _ _ _=>rfl) codeAny_compStart_list fun h=>h
end
def iC (K:FG_) (f:Ev->Option (List Dt)):TI:=fun σ H R=>∃ H0 ρ ds,cF K H0 H σ ρ/\f ρ=some ds/\∀ J H',Same H H'->Yields K J ds H'->R J H'
def PIC (X:Cx) (tg iter:Expr) (f:Ev->Option (List Dt)):Prop:=PI X tg iter (iC X.K f)
structure QIC (X:Cx) (tg iter:Expr) (f:Ev->Option (List Dt)):Prop where
 run:PIC X tg iter f
def abt:Bx->Option (List Dt)
 |.z (.lst ds)=>some ds
 |.z (.tup ds)=>some ds
 |.z (.str x)=>some (signs x)
 |.o ds=>some ds
 |.l ds=>some ds
 |_=>none
section
variable {X:Cx} {e elt tgt iter:Expr} {es ifs:List Expr} {f:Ev->Option Bx} {fs:Ev->Option (List Bx)} {scope:Scope} {cl:List (Str×Addr)} {pos:Pos} {xs ts:LS_} {is:List Nat} {gt:Dt->Ev->Option Ev} {p:Ev->Option Bool} {fe:Ev->Option Bx} {fi:Ev->Option (List Dt)}
theorem Rq (h:QIF X tgt iter fi):QIC X tgt iter fi:=⟨have h:=h.run;fun pins s σ H R I q=>by
 obtain⟨H0,ρ,ds,E,e,q⟩:=q
 exact h pins s σ H R I ⟨H0,ρ,ds,E,e,fun J H' s' y=>q J H' s' (y H' (Same.refl H') (fun _ _=>rfl) (fun _ _ _ _=>rfl) fun _ _ _=>rfl)⟩⟩
theorem fY (h:QV X e f):QIC X tgt e (fun ρ=>(f ρ).bind abt):=⟨have h:=h.run;fun pins s σ H R I q=>by
 refine Wx h pins s σ H R I ?_
 obtain⟨H0,ρ,ds,E,e,q⟩:=q
 obtain⟨b,eb,e⟩:=bind_some e
 refine⟨H0,ρ,b,E,eb,fun v H1 s1 n1 r1=>?_⟩
 cases b with
 |z d=>
  cases d with
  |tup ds'=>
   cases e
   simp only[bF,Rep] at r1
   obtain⟨a,vs,rfl,hq,rs⟩:=r1
   exact .inr (.inl ⟨a,rfl,⟨vs,hq⟩,q _ _ s1 (.tup hq rs)⟩)
  |lst ds'=>
   cases e
   obtain⟨a,vs,rfl,hq,rs⟩:=r1.Pk rfl
   exact .inl ⟨a,rfl,⟨vs,hq⟩,q _ _ s1 (.list hq rs)⟩
  |str x=>
   cases e
   simp only[bF,Rep] at r1
   obtain⟨rfl,_⟩:=r1
   exact .inr (.inr ⟨x,rfl,q _ _ s1 (.str x)⟩)
  |_=>cases e
 |l ds'=>
  cases e
  obtain⟨a,vs,rfl,hq,rs⟩:=r1.Pk rfl
  exact .inl ⟨a,rfl,⟨vs,hq⟩,q _ _ s1 (.list hq rs)⟩
 |o ds'=>
  cases e
  obtain⟨a,vs,rfl,hq,rs⟩:=r1.Pk rfl
  exact .inl ⟨a,rfl,⟨vs,hq⟩,q _ _ s1 (.list hq rs)⟩
 |n _=>cases e
 |m _ _=>cases e⟩
def dW (fi:Ev->Option (List Dt)) (gt:Dt->Ev->Option Ev) (p:Ev->Option Bool) (fe:Ev->Option Bx) (is:List Nat) (n:Nat):Ev->Option Bx:=fun ρ=>(fi ρ).bind fun ds=>
 if ds.length<=100000 then (Pq gt p fe (uD is ρ++List.replicate n none) ds).bind fun out=>some (.o out) else none
theorem eV (ts:LS_) (O:Cz X scope cl xs is) (hcalm:X.calm=true) (hi:QIC X tgt iter fi) (Zr:∀ C s₀ H₀ fp,QTg (Wy X (xs++ts) scope cl C s₀ H₀ fp) tgt gt) (hif:∀ C s₀ H₀ fp,WD (Wy X (xs++ts) scope cl C s₀ H₀ fp) ifs p) (helt:∀ C s₀ H₀ fp,QV (Wy X (xs++ts) scope cl C s₀ H₀ fp) elt fe) (htk:TgK is.length (is.length+ts.length) gt) (hs:∀ x,foldedSetIterable iter X.env x=pure x:=by intro _;rfl):QV X (.ListComp elt [⟨tgt,iter,ifs,0⟩] scope pos) (dW fi gt p fe is ts.length):=⟨have hi:=hi.run;have Zr:=fun C s₀ H₀ fp=>(Zr C s₀ H₀ fp).run;have hif:=fun C s₀ H₀ fp=>(hif C s₀ H₀ fp).run;have helt:=fun C s₀ H₀ fp=>(helt C s₀ H₀ fp).run;fun pins s σ H Q I h=>by
 obtain⟨H0,ρ,b,E,e,q⟩:=h
 obtain⟨ds,ed,e⟩:=bind_some e
 split at e
 ·rename_i hlen
  obtain⟨out,eo,e⟩:=bind_some e
  cases e
  rw[eval_ListComp]
  refine wpAny_comprehension_free (use:=none) rfl hs O.clos O.kind O.names ?_
  refine mU (hi pins s σ H (fun J H'=>Same H H'/\Yields X.K J ds H') I ⟨H0,ρ,ds,E,ed,fun J H' s' y=>⟨s',y⟩⟩) fun v s1 h1=>mU h1 fun itv s2 h2=>?_
  obtain⟨it,fp,tn,J,H2,rfl,I2,T,st,hf,s12,Y⟩:=h2
  refine Ug (RR:=fun acc C=>compPost (model X.prog X.w) X.A X.xe none (EP X pins σ Q) acc C) (ts:=ts) (xs:=xs) O hcalm Zr hif helt htk I2 ((E.grow s12).caps is ts.length) T st hf Y hlen eo ?_
  intro D C s' H' us hD I' fC ⟨m,hn⟩ s2' hD' r'
  refine⟨m,hn,fun h' sb=>⟨.ref D,H',?_,rfl,q _ _ (s12.trans s2') (fun a ea=>by cases ea;exact s12.free hD) ⟨D,us,rfl,hD',r'⟩⟩⟩
  obtain⟨f0,f1,f2,f3,f4,f5⟩:=fC
  exact I'.turned (t':=s'.toks) (fun b o hb e=>(sb.2 b hb).trans e) f0 f1 f3 f4 f5
 ·cases e⟩
theorem Yd (i:Nat) {y:Str} {py spos:Pos} (ts:LS_) (O:Cz X scope cl xs is) (hcalm:X.calm=true) (hN:X.N.Nodup) (hi:QIC X tgt iter fi) (Zr:∀ C s₀ H₀ fp,QTg (Wy X (xs++ts) scope cl C s₀ H₀ fp) tgt gt) (hif:∀ C s₀ H₀ fp,WD (Wy X (xs++ts) scope cl C s₀ H₀ fp) ifs p) (helt:∀ C s₀ H₀ fp,QV (Wy X (xs++ts) scope cl C s₀ H₀ fp) elt fe) (htk:TgK is.length (is.length+ts.length) gt) (hsw:swapsWith (.ListComp elt [⟨tgt,iter,ifs,0⟩] scope pos) (some (.Name y py)) spos.line X.env=pure true:=by with_unfolding_all rfl) (hy:X.N[i]?=some y:=by rfl) (hx:Loc X.env.scope y:=by first|exact kT rfl|exact ki rfl) (hf:X.fn y=true\/X.env.scope.names.lookup y=some .local:=by first|exact .inl rfl|exact .inr rfl) (hs:∀ x,foldedSetIterable iter X.env x=pure x:=by intro _;rfl):QG1 X (.Assign [.Name y py] (.ListComp elt [⟨tgt,iter,ifs,0⟩] scope pos) spos) (fun ρ=>(dW fi gt p fe is ts.length ρ).bind fun b=>(abm ρ i b).bind fun ρ'=>some (.nx ρ')):=⟨have hi:=hi.run;have Zr:=fun C s₀ H₀ fp=>(Zr C s₀ H₀ fp).run;have hif:=fun C s₀ H₀ fp=>(hif C s₀ H₀ fp).run;have helt:=fun C s₀ H₀ fp=>(helt C s₀ H₀ fp).run;fun pins s σ H D I h=>by
 obtain⟨H0,ρ,r,E,e,q⟩:=h
 obtain⟨b,eb,e⟩:=bind_some e
 obtain⟨ds,ed,eb⟩:=bind_some eb
 split at eb
 ·rename_i hlen
  obtain⟨out,eo,eb⟩:=bind_some eb
  cases eb
  cases e
  rw[exec_Assign_Name_used _ _ _ _ hsw]
  refine zd (wpAny_standAt (zd ?_))
  show wpAny _ X.A (do let _ <-comprehension (.ListComp elt [⟨tgt,iter,ifs,0⟩] scope pos) scope X.env _ (newList []) false (eval iter X.env) (some (assign (.Name y py) X.env))) _ _ s
  refine zd (Qb (wpAny_comprehension_free (use:=some (assign (.Name y py) X.env)) (Q:=fun _ s'=>SP X pins D .next s') rfl hs O.clos O.kind O.names ?_) (fun _ s' hq=>ze (ze hq)) fun _ _ e=>e)
  refine mU (hi pins s σ H (fun J H'=>Same H H'/\Yields X.K J ds H') I ⟨H0,ρ,ds,E,ed,fun J H' s' y=>⟨s',y⟩⟩) fun v s1 h1=>mU h1 fun itv s2 h2=>?_
  obtain⟨it,fp,tn,J,H2,rfl,I2,T,st,hf',s12,Y⟩:=h2
  refine Ug (RR:=fun acc C=>compPost (model X.prog X.w) X.A X.xe (some (assign (.Name y py) X.env)) (fun _ s'=>SP X pins D .next s') acc C) (ts:=ts) (xs:=xs) O hcalm Zr hif helt htk I2 ((E.grow s12).caps is ts.length) T st hf' Y hlen eo ?_
  intro Da C s' H' us hD I' fC ⟨m,hn⟩ s2' hD' r'
  show wpAny _ X.A (assign (.Name y py) X.env (.ref Da)) _ _ s'
  obtain⟨f0,f1,f2,f3,f4,f5⟩:=fC
  obtain⟨oC,es',ep,hoC,hdC,hrest⟩:=id hn
  have I'':L2.Inv X (pins++[(C,oC)]) σ H' s':=I'.Q0 fun pp hp=>by
   rcases List.mem_append.mp hp with z|z
   ·exact I'.pin pp (qa _ z)
   ·have:pp=(C,oC):=by simpa using z
    subst this
    exact⟨hoC,f0,f1,f2,fun v z=>by rw[hdC] at z;cases z⟩
  refine mU (L2.X4 hN hy hx hf (pins++[(C,oC)]) s' σ H' (.ref Da) (.ref Da) (fun σ' H''=>σ'=σ.set i (some (.ref Da))/\H''=H') I'' rfl ⟨rfl,rfl⟩) fun _ s'' ⟨σ',H'',J',e1,e2⟩=>?_
  subst e1 e2
  have hC':=(J'.pin (C,oC) (by simp)).1
  refine⟨m,⟨oC,es',ep,hC',hdC,hrest⟩,fun h' sb=>?_⟩
  refine⟨σ.set i (some (.ref Da)),H'',J'.zG.turned (t':=s''.toks) (fun b o hb e=>(sb.2 b hb).trans e) f0 f1 f3 f4 f5,q _ _ ?_⟩
  exact E.set (s12.trans s2') (b:=.o out) ⟨Da,us,rfl,hD',r'⟩ (.inl rfl) fun a ea=>by cases ea;exact s12.free hD
 ·cases eb⟩
def lend:Bx->Bx
 |.o ds=>.l ds
 |.m ds _=>.n ds
 |b=>b
def isO:Bx->Bool
 |.o _=>true
 |.m _ _=>true
 |_=>false
def jD (K:FG_) (n:Nat) (F:List Bx->Option Bx):Sp:=fun vs H Q _=>vs.length=n/\∃ bs r,wJ K H bs vs/\bs.all (fun b=>!isO b)=true/\F bs=some r/\∀ v H',Same H H'->Nw H r v->bF K H' r v->Q v H'
def fu (n:Nat) (g:Ev->Option Out):List Bx->Option Bx:=fun bs=>(g (bs.map some++List.replicate (n - bs.length) none)).bind fun r=>match r with
 |.rt b=>some b
 |.nx _=>some (.z .non)
 |_=>none
theorem cF.start {K:FG_} {H:Hp} {N:LS_} {bs:List Bx} {vs:List V} (r:wJ K H bs vs) (ho:bs.all (fun b=>!isO b)=true):cF K H H (L2.start N vs) (bs.map some++List.replicate (N.length - bs.length) none):=by
 have hl:bs.length=vs.length:=Paired.length r
 have get:∀ (i:Nat) b,(bs.map some++List.replicate (N.length - bs.length) none)[i]?=some (some b)->bs[i]?=some b:=fun i b e=>by
  by_cases hi:i < bs.length
  ·rw[qf (by simpa using hi),ZT] at e
   cases q:bs[i]? with
   |none=>rw[q] at e;cases e
   |some b'=>rw[q] at e;simpa using e
  ·rw[Qr (by simp;omega),ja] at e
   split at e<;>cases e
 have noO:∀ (i:Nat) c,(bs.map some++List.replicate (N.length - bs.length) none)[i]?=some (some c)->DX c=true->False:=fun i c e ec=>by
  have:=List.all_eq_true.mp ho _ (QP (get i _ e))
  cases c with
  |o ds=>cases this
  |m ds _=>cases this
  |_=>cases ec
 refine⟨?_,fun i b e=>?_,fun i j c a b e ec=>(noO i c e ec).elim,Same.refl H,fun i c a e ec=>(noO i c e ec).elim⟩
 ·unfold L2.start
  simp[hl]
 ·have e':=get i b e
  have hi:i < bs.length:=(List.getElem?_eq_some_iff.mp e').1
  have:∀ {bs:List Bx} {vs:List V} {i:Nat} {b:Bx},Paired (bF K H) bs vs->bs[i]?=some b->∃ v,vs[i]?=some v/\bF K H b v:=by
   intro bs vs i b r
   induction r generalizing i with
   |nil=>intro e;simp at e
   |cons p t ih=>
    intro e
    cases i with
    |zero=>simp at e;subst e;exact⟨_,rfl,p⟩
    |succ i=>obtain⟨v,e1,e2⟩:=ih (i:=i) (by simpa using e);exact⟨v,by simpa using e1,e2⟩
  obtain⟨v,e1,e2⟩:=this r e'
  refine⟨v,?_,e2⟩
  unfold L2.start
  rw[qf (by simp;omega),ZT,e1]
  rfl
end
section
variable {P:Program} {w:World} {K:FG_} {mg:Str->Option Value} {base:Heap}
theorem alm {x qual:Str} {st:Stmt} {f:Addr} {fd:FuncData} {N ps:LS_} {k:Nat} {g:Ev->Option Out} (F:zF K x qual st f fd) (S:bT N ps (aW st))
  (hbody:∀ (cdv:Value) (A:Around) (outer:List Env) (s:Shared) (H:Hp) (E:XK),pX k (A.deeper (envOfC qual (aW st) s.heap.objs.size f cdv))->PGs (Q7 jh P w K mg base N qual (aW st) f cdv A outer s H E).nox (qG st) g) :
  bM P w K mg base jh (k+1) f fd ps (jD K ps.length (fu N.length g)):=by
 refine F.ok S (fun vs H Q E h=>h.1) fun cdv A outer s H vs Q E hr h=>?_
 obtain⟨hl,bs,r,rb,ho,e,q⟩:=h
 refine⟨_,hbody cdv A outer s H E hr,?_⟩
 obtain⟨r',er,e⟩:=bind_some e
 refine⟨H,_,r',cF.start rb ho,er,?_⟩
 cases r' with
 |rt b=>cases e;exact fun v H' s' n' r'=>q v H' s' n' r'
 |nx ρ=>cases e;exact fun σ H' E'=>q _ H' E'.base trivial (by unfold bF Rep;rfl)
 |bk ρ=>cases e
 |ct ρ=>cases e
end
section
variable {X:Cx} {k:Nat} {f:Addr} {fd:FuncData} {ps:LS_} {F:List Bx->Option Bx} {x:Str} {p pos:Pos} {e:Expr} {es:List Expr} {fs:Ev->Option (List Bx)} {n:Nat}
theorem Uh {K:FG_} {H:Hp}:∀ {bs:List Bx} {vs:List V},wJ K H bs vs->wJ K H (bs.map lend) vs
 |_,_,.nil=>.nil
 |b::bs,_,.cons h t=>by
  refine .cons ?_ (Uh t)
  cases b with
  |z d=>exact h
  |l ds=>exact h
  |o ds=>obtain⟨a,vs,e,q,r⟩:=h;exact⟨a,vs,e,.inl q,r⟩
  |n ds=>exact h
  |m ds _=>obtain⟨a,vs,e,q,r⟩:=h;exact⟨a,vs,e,.inl q,r.1⟩
theorem Ye:∀ bs:List Bx,(bs.map lend).all (fun b=>!isO b)=true
 |[]=>rfl
 |b::bs=>by
  rw[zz,Jn,Ye bs]
  cases b<;>rfl
def bH (n:Nat) (F:List Bx->Option Bx) (fs:Ev->Option (List Bx)):Ev->Option Bx:=fun ρ=>(fs ρ).bind fun bs=>if bs.length=n then F (bs.map lend) else none
theorem aX (G:bM X.prog X.w X.K X.mg X.base jh k f fd ps (jD X.K n F)) (hr:pX k X.A) (hg:Gl X x) (hm:X.mg x=some (.ref f)) (hk:PySem.W.keepIn X.K (.ref f)=true) (hb:Binds X.K fd ps []) (ha:QVs X (e::es) fs) (hdb:(x==("__debug__" : Str))=false:=by decide) (he:starEach (e::es) X.env=(false,eval e X.env)::starEach es X.env:=by rfl) (hpl:(backTo pos (starEach es X.env)).any (·.1)=false:=by rfl):QV X (.Call (.Name x p) (e::es) [] pos) (bH n F fs):=⟨have ha:=ha.run;Io (ad0 G hr hg hm hk hb .nil (afP) ha hdb he hpl) fun σ H Q h=>by
 obtain⟨H0,ρ,r,E,e,q⟩:=h
 obtain⟨bs,eb,e⟩:=bind_some e
 refine⟨H0,ρ,bs,E,eb,fun vs H1 s1 r1=>?_⟩
 split at e
 ·rename_i hn
  rw[kP]
  exact⟨by rw[<-Paired.length r1];exact hn,_,r,Uh r1,Ye bs,e,fun v H2 s2 n2 r2=>q v H2 (s1.trans s2) (n2.old s1) r2⟩
 ·cases e⟩
end
end P1
end
section
namespace P1
open PySem PySem.Spec PyProof.Rows L2 SeqAt
mutual
def BZ:Dt->Nat
 |.tup xs=>zJ xs+1
 |.lst xs=>zJ xs+1
 |_=>1
def zJ:List Dt->Nat
 |[]=>0
 |d::ds=>max (BZ d) (zJ ds)
end
mutual
def Ju:Dt->Dt->Option Bool
 |.non,.non=>some true
 |.non,.bl _=>some false|.non,.int _=>some false|.non,.str _=>some false|.non,.tup _=>some false|.non,.lst _=>some false
 |.bl a,.bl b=>some (a==b)
 |.bl a,.int b=>some ((if a then 1 else 0)==b)
 |.bl _,.non=>some false|.bl _,.str _=>some false|.bl _,.tup _=>some false|.bl _,.lst _=>some false
 |.int a,.int b=>some (a==b)
 |.int a,.bl b=>some (a==(if b then 1 else 0))
 |.int _,.non=>some false|.int _,.str _=>some false|.int _,.tup _=>some false|.int _,.lst _=>some false
 |.str a,.str b=>some (a==b)
 |.str _,.non=>some false|.str _,.bl _=>some false|.str _,.int _=>some false|.str _,.tup _=>some false|.str _,.lst _=>some false
 |.tup xs,.tup ys=>qg xs ys
 |.tup _,.non=>some false|.tup _,.bl _=>some false|.tup _,.int _=>some false|.tup _,.str _=>some false|.tup _,.lst _=>some false
 |.lst xs,.lst ys=>qg xs ys
 |.lst _,.non=>some false|.lst _,.bl _=>some false|.lst _,.int _=>some false|.lst _,.str _=>some false|.lst _,.tup _=>some false
 |_,_=>none
def qg:List Dt->List Dt->Option Bool
 |[],[]=>some true
 |[],_::_=>some false
 |_::_,[]=>some false
 |x::xs,y::ys=>match Ju x y with
  |some b=>match qg xs ys with
   |some c=>some (b&&c)
   |none=>none
  |none=>none
end
mutual
theorem Ui:∀ {d:Dt} {k:Bool},Ju d d=some k->k=true
 |.non,_,e=>by cases e;rfl
 |.bl b,_,e=>by cases e;simp
 |.int b,_,e=>by cases e;simp
 |.str b,_,e=>by cases e;simp
 |.tup xs,_,e=>Gu (ds:=xs) e
 |.lst xs,_,e=>Gu (ds:=xs) e
 |.emp,_,e=>by cases e
theorem Gu:∀ {ds:List Dt} {k:Bool},qg ds ds=some k->k=true
 |[],_,e=>by simp only[qg] at e;cases e;rfl
 |d::ds,_,e=>by
  simp only[qg] at e
  cases h:Ju d d with
  |none=>rw[h] at e;cases e
  |some b=>
   rw[h] at e
   simp only at e
   cases h2:qg ds ds with
   |none=>rw[h2] at e;cases e
   |some c=>
    rw[h2] at e
    cases e
    rw[Ui h,Gu h2]
    rfl
end
theorem J3 (xs ys:List Dt):Ju (.tup xs) (.tup ys)=qg xs ys:=rfl
theorem zK:∀ {xs ys:List Dt} {k:Bool},qg xs ys=some k->∃ e:Nat->Bool,(∀ (j:Nat) x y,xs[j]?=some x->ys[j]?=some y->Ju x y=some (e j))/\k=((List.range (min xs.length ys.length)).all e&&xs.length==ys.length)
 |[],[],k,h=>by simp only[qg] at h;cases h;exact⟨fun _=>true,fun j x y e=>by simp at e,by simp⟩
 |[],y::ys,k,h=>by simp only[qg] at h;cases h;exact⟨fun _=>true,fun j x y e=>by simp at e,by simp⟩
 |x::xs,[],k,h=>by simp only[qg] at h;cases h;exact⟨fun _=>true,fun j x y _ e=>by simp at e,by simp⟩
 |x::xs,y::ys,k,h=>by
  simp only[qg] at h
  cases h1:Ju x y with
  |none=>rw[h1] at h;cases h
  |some b=>
   rw[h1] at h
   simp only at h
   cases h2:qg xs ys with
   |none=>rw[h2] at h;cases h
   |some c=>
    rw[h2] at h
    cases h
    obtain⟨e,g,hc⟩:=zK h2
    refine⟨fun j=>match j with|0=>b|j+1=>e j,fun j u v eu ev=>?_,?_⟩
    ·cases j with
     |zero=>simp at eu ev;subst eu ev;exact h1
     |succ j=>exact g j u v (by simpa using eu) (by simpa using ev)
    ·have:min (x::xs).length (y::ys).length=min xs.length ys.length+1:=by simp only[qi];omega
     rw[this,List.range_succ_eq_map,Jn,List.all_map,hc]
     have hb:((x::xs).length==(y::ys).length)=(xs.length==ys.length):=by
      rw[kQ];simp
     rw[hb,Bool.and_assoc]
     rfl
theorem zL:∀ {ds:List Dt} {j:Nat} {d:Dt},ds[j]?=some d->BZ d<=zJ ds
 |[],_,_,e=>by simp at e
 |d::ds,0,_,e=>by simp at e;subst e;simp only[zJ];exact Nat.le_max_left _ _
 |d::ds,j+1,_,e=>by
  simp only[zJ]
  exact zw (zL (ds:=ds) (j:=j) (by simpa using e)) (Nat.le_max_right _ _)
section
variable {X:Cx} {pins:List (Addr×Obj)} {σ:L2.St} {H:Hp} {s:Shared}
theorem J4 (I:L2.Inv X pins σ H s) {a:Addr} {vs:List V} (h:BL X.K H a vs):∃ ob,s.heap.get? a=some ob/\ob.cls=.type "tuple" := by
 obtain⟨its,_,⟨ob,e,c,_⟩,_⟩:=I.tuple h
 exact⟨ob,e,c⟩
theorem J5 (I:L2.Inv X pins σ H s) {a:Addr} {vs:List V} (h:yK X.K H a vs):∃ ob,s.heap.get? a=some ob/\ob.cls=.type "list" := by
 obtain⟨its,_,⟨ob,n,e,c,_⟩,_⟩:=I.list h
 exact⟨ob,e,c⟩
theorem uI (I:L2.Inv X pins σ H s) {a:Addr} {o:Obj} (h:H a=some (.Dw o (.dK []))):∃ ob,s.heap.get? a=some ob/\ob.cls=.type "dict" := by
 obtain⟨e,_,_,vs,_,ob,es,ep,e2,ex,_⟩:=I.hok a _ h
 exact⟨ob,e2,ex.1⟩
theorem Gv {a:Addr} {n m:String} (h:∃ ob,s.heap.get? a=some ob/\ob.cls=.type n) (q:∃ ob,s.heap.get? a=some ob/\ob.cls=.type m) (hn:n≠m):False:=by
 obtain⟨o,e,c⟩:=h
 obtain⟨o',e',c'⟩:=q
 rw[e] at e';cases e'
 rw[c] at c'
 exact hn (by injection c')
mutual
theorem Rep.inj (I:L2.Inv X pins σ H s):∀ {d e:Dt} {v:V},Rep X.K H d v->Rep X.K H e v->d=e
 |.non,e,v,h,q=>by
  simp only[Rep] at h;subst h
  cases e<;>simp only[Rep] at q<;>first|rfl|(cases q;done)|(obtain⟨a,b,z,_⟩:=q;cases z;done)|(obtain⟨z,_⟩:=q;cases z;done)
 |.bl _,e,v,h,q=>by
  simp only[Rep] at h;subst h
  cases e<;>simp only[Rep] at q<;>first|(cases q;rfl)|(cases q;done)|(obtain⟨a,b,z,_⟩:=q;cases z;done)|(obtain⟨z,_⟩:=q;cases z;done)
 |.int _,e,v,h,q=>by
  simp only[Rep] at h;subst h
  cases e<;>simp only[Rep] at q<;>first|(cases q;rfl)|(cases q;done)|(obtain⟨a,b,z,_⟩:=q;cases z;done)|(obtain⟨z,_⟩:=q;cases z;done)
 |.str x,e,v,h,q=>by
  simp only[Rep] at h
  have hv:v=.str x:=h.1
  subst hv
  cases e with
  |str y=>
   simp only[Rep] at q
   have z:V.str x=V.str y:=q.1
   injection z with z
   rw[z]
  |tup es=>simp only[Rep] at q;obtain⟨a,b,z,_⟩:=q;cases z
  |lst es=>simp only[Rep] at q;obtain⟨a,b,z,_⟩:=q;cases z
  |emp=>simp only[Rep] at q;obtain⟨a,b,z,_⟩:=q;cases z
  |_=>simp only[Rep] at q;cases q
 |.tup ds,e,v,h,q=>by
  simp only[Rep] at h
  obtain⟨a,vs,rfl,sq,r⟩:=h
  cases e with
  |tup es=>
   simp only[Rep] at q
   obtain⟨b,us,z,Uj,r'⟩:=q
   cases z
   have:=I.O8 sq Uj
   subst this
   rw[aR.inj I r r']
  |lst es=>
   simp only[Rep] at q
   obtain⟨b,us,z,Uj,r'⟩:=q
   cases z
   exact (Gv (J4 I sq) (J5 I Uj.sq) (by decide)).elim
  |emp=>
   simp only[Rep] at q
   obtain⟨b,o,z,Uj⟩:=q
   cases z
   exact (Gv (J4 I sq) (uI I Uj) (by decide)).elim
  |str x=>simp only[Rep] at q;have z:=q.1;cases z
  |_=>simp only[Rep] at q;cases q
 |.lst ds,e,v,h,q=>by
  simp only[Rep] at h
  obtain⟨a,vs,rfl,sq,r⟩:=h
  cases e with
  |lst es=>
   simp only[Rep] at q
   obtain⟨b,us,z,Uj,r'⟩:=q
   cases z
   have:=I.T6 sq.sq Uj.sq
   subst this
   rw[aR.inj I r r']
  |tup es=>
   simp only[Rep] at q
   obtain⟨b,us,z,Uj,r'⟩:=q
   cases z
   exact (Gv (J5 I sq.sq) (J4 I Uj) (by decide)).elim
  |emp=>
   simp only[Rep] at q
   obtain⟨b,o,z,Uj⟩:=q
   cases z
   exact (Gv (J5 I sq.sq) (uI I Uj) (by decide)).elim
  |str x=>simp only[Rep] at q;have z:=q.1;cases z
  |_=>simp only[Rep] at q;cases q
 |.emp,e,v,h,q=>by
  simp only[Rep] at h
  obtain⟨a,o,rfl,sq⟩:=h
  cases e with
  |emp=>rfl
  |tup es=>
   simp only[Rep] at q
   obtain⟨b,us,z,Uj,r'⟩:=q
   cases z
   exact (Gv (uI I sq) (J4 I Uj) (by decide)).elim
  |lst es=>
   simp only[Rep] at q
   obtain⟨b,us,z,Uj,r'⟩:=q
   cases z
   exact (Gv (uI I sq) (J5 I Uj.sq) (by decide)).elim
  |str x=>simp only[Rep] at q;have z:=q.1;cases z
  |_=>simp only[Rep] at q;cases q
theorem aR.inj (I:L2.Inv X pins σ H s):∀ {ds es:List Dt} {vs:List V},aR X.K H ds vs->aR X.K H es vs->ds=es
 |[],es,vs,h,q=>by
  simp only[aR] at h;subst h
  cases es with
  |nil=>rfl
  |cons e es=>simp only[aR] at q;obtain⟨_,_,z,_⟩:=q;cases z
 |d::ds,es,vs,h,q=>by
  simp only[aR] at h
  obtain⟨v,r,rfl,h1,h2⟩:=h
  cases es with
  |nil=>simp only[aR] at q;cases q
  |cons e es=>
   simp only[aR] at q
   obtain⟨v',r',z,q1,q2⟩:=q
   cases z
   rw[Rep.inj I h1 q1,aR.inj I h2 q2]
end
theorem ajb (I:L2.Inv X pins σ H s):∀ (n:Nat) {A:Around} {d e:Dt} {x y:V} {u v:Value} {k:Bool},min (BZ d) (BZ e)<=n->A.units+n < cLine->Rep X.K H d x->Rep X.K H e y->RelV x u->RelV y v->Ju d e=some k->EqAt A s u v k:=by
 intro n
 induction n with
 |zero=>
  intro A d e x y u v k hn
  have h1:1<=BZ d:=by cases d<;>simp only[BZ]<;>omega
  have h2:1<=BZ e:=by cases e<;>simp only[BZ]<;>omega
  omega
 |succ n ih=>
  intro A d e x y u v k hn hA rd re ru rv ek
  have hu:A.units < cLine:=by omega
  by_cases hxy:u=v/\∃ a,u=.ref a
  ·obtain⟨rfl,a,rfl⟩:=hxy
   have hx:x=.ref a:=by have:=ru.abs;simpa [agG] using this.symm
   have hy:y=.ref a:=by have:=rv.abs;simpa [agG] using this.symm
   subst hx hy
   have:=Rep.inj I rd re
   subst this
   rw[Ui ek]
   exact EqAt.same _
  ·have items:∀ {ds es:List Dt} {vs us:List V} {its its2:List Value} {f:Nat->Bool},min (zJ ds) (zJ es)<=n->aR X.K H ds vs->aR X.K H es us->Vals vs its->Vals us its2->(∀ (j:Nat) x y,ds[j]?=some x->es[j]?=some y->Ju x y=some (f j)) →
     ∀ j (h1:j < its.toArray.size) (h2:j < its2.toArray.size),EqAt A.in1 s its.toArray[j] its2.toArray[j] (f j):=by
    intro ds es vs us its its2 f hm r1 r2 w1 w2 hf j h1 h2
    have l1:=w1.length
    have l2:=w2.length
    have l3:=r1.length
    have l4:=r2.length
    have j1:j < its.length:=by simpa using h1
    have j2:j < its2.length:=by simpa using h2
    have d1:ds[j]?=some ds[j]:=by simp
    have d2:es[j]?=some es[j]:=by simp
    obtain⟨a,ea,ra⟩:=r1.get d1
    obtain⟨b,eb,rb⟩:=r2.get d2
    obtain⟨p,ep,rp⟩:=w1.get ea
    obtain⟨q,eq,rq⟩:=w2.get eb
    have e1:its.toArray[j]=p:=by simpa [j1] using ep
    have e2:its2.toArray[j]=q:=by simpa [j2] using eq
    rw[e1,e2]
    have m1:=zL d1
    have m2:=zL d2
    exact ih (by omega) (by rw[units_in1];omega) ra rb rp rq (hf j _ _ d1 d2)
   cases d with
   |non=>
    cases rd;cases ru
    cases e with
    |non=>cases re;cases rv;cases ek;exact EqAt.same _
    |bl b=>cases re;cases rv;cases ek;exact EqAt.none_bool b
    |int b=>cases re;obtain⟨t,rfl⟩:=rv;cases ek;exact EqAt.none_int b t
    |str b=>obtain⟨rfl,_⟩:=re;obtain⟨t,rfl⟩:=rv;cases ek;exact EqAt.none_str b t
    |tup es=>obtain⟨b,us,rfl,sq,_⟩:=re;cases rv;cases ek;obtain⟨_,_,p,_⟩:=I.tuple sq;exact EqAt.none_tuple p hu
    |lst es=>obtain⟨b,us,rfl,sq,_⟩:=re;cases rv;cases ek;obtain⟨_,_,p,_⟩:=I.list sq.sq;exact EqAt.none_list p.isList hu
    |emp=>cases ek
   |bl a=>
    cases rd;cases ru
    cases e with
    |non=>cases re;cases rv;cases ek;exact EqAt.bool_none a
    |bl b=>cases re;cases rv;cases ek;exact EqAt.bool_bool a b
    |int b=>cases re;obtain⟨t,rfl⟩:=rv;cases ek;exact EqAt.bool_int a b t
    |str b=>obtain⟨rfl,_⟩:=re;obtain⟨t,rfl⟩:=rv;cases ek;exact EqAt.bool_str a b t
    |tup es=>obtain⟨b,us,rfl,sq,_⟩:=re;cases rv;cases ek;obtain⟨_,_,p,_⟩:=I.tuple sq;exact EqAt.bool_tuple a p hu
    |lst es=>obtain⟨b,us,rfl,sq,_⟩:=re;cases rv;cases ek;obtain⟨_,_,p,_⟩:=I.list sq.sq;exact EqAt.bool_list a p.isList hu
    |emp=>cases ek
   |int a=>
    cases rd;obtain⟨t',rfl⟩:=ru
    cases e with
    |non=>cases re;cases rv;cases ek;exact EqAt.int_none a t'
    |bl b=>cases re;cases rv;cases ek;exact EqAt.int_bool a t' b
    |int b=>cases re;obtain⟨t,rfl⟩:=rv;cases ek;exact EqAt.int_int a t' b t
    |str b=>obtain⟨rfl,_⟩:=re;obtain⟨t,rfl⟩:=rv;cases ek;exact EqAt.int_str a t' b t
    |tup es=>obtain⟨b,us,rfl,sq,_⟩:=re;cases rv;cases ek;obtain⟨_,_,p,_⟩:=I.tuple sq;exact EqAt.int_tuple a t' p hu
    |lst es=>obtain⟨b,us,rfl,sq,_⟩:=re;cases rv;cases ek;obtain⟨_,_,p,_⟩:=I.list sq.sq;exact EqAt.int_list a t' p.isList hu
    |emp=>cases ek
   |str a=>
    obtain⟨rfl,_⟩:=rd;obtain⟨t',rfl⟩:=ru
    cases e with
    |non=>cases re;cases rv;cases ek;exact EqAt.str_none a t'
    |bl b=>cases re;cases rv;cases ek;exact EqAt.str_bool a t' b
    |int b=>cases re;obtain⟨t,rfl⟩:=rv;cases ek;exact EqAt.str_int a t' b t
    |str b=>obtain⟨rfl,_⟩:=re;obtain⟨t,rfl⟩:=rv;cases ek;exact EqAt.str_str a t' b t
    |tup es=>obtain⟨b,us,rfl,sq,_⟩:=re;cases rv;cases ek;obtain⟨_,_,p,_⟩:=I.tuple sq;exact EqAt.str_tuple a t' p hu
    |lst es=>obtain⟨b,us,rfl,sq,_⟩:=re;cases rv;cases ek;obtain⟨_,_,p,_⟩:=I.list sq.sq;exact EqAt.str_list a t' p.isList hu
    |emp=>cases ek
   |tup ds=>
    obtain⟨a,vs,rfl,sa,ra⟩:=rd;cases ru
    obtain⟨its,wv,p,_⟩:=I.tuple sa
    cases e with
    |non=>cases re;cases rv;cases ek;exact EqAt.tuple_none p hu
    |bl b=>cases re;cases rv;cases ek;exact EqAt.tuple_bool b p hu
    |int b=>cases re;obtain⟨t,rfl⟩:=rv;cases ek;exact EqAt.tuple_int b t p hu
    |str b=>obtain⟨rfl,_⟩:=re;obtain⟨t,rfl⟩:=rv;cases ek;exact EqAt.tuple_str b t p hu
    |lst es=>obtain⟨b,us,rfl,sq,_⟩:=re;cases rv;cases ek;obtain⟨_,_,p2,_⟩:=I.list sq.sq;exact EqAt.tuple_list p p2.isList hu
    |tup es=>
     obtain⟨b,us,rfl,sb,rb⟩:=re;cases rv
     obtain⟨its2,wu,p2,_⟩:=I.tuple sb
     change qg _ _=some _ at ek
     obtain⟨f,hf,rfl⟩:=zK ek
     have hne:a≠b:=fun z=>hxy ⟨by rw[z],a,rfl⟩
     have z:=EqAt.of_refs hne (RcAt.tuples (A:=A) (e:=f) p p2 hu (items (by simp only[BZ] at hn;omega) ra rb wv wu hf))
     have q1:its.toArray.size=ds.length:=by rw[zr,<-wv.length,ra.length]
     have q2:its2.toArray.size=es.length:=by rw[zr,<-wu.length,rb.length]
     rw[q1,q2] at z
     exact z
    |emp=>cases ek
   |lst ds=>
    obtain⟨a,vs,rfl,sa,ra⟩:=rd;cases ru
    obtain⟨its,wv,p,_⟩:=I.list sa.sq
    cases e with
    |non=>cases re;cases rv;cases ek;exact EqAt.list_none p.isList hu
    |bl b=>cases re;cases rv;cases ek;exact EqAt.list_bool b p.isList hu
    |int b=>cases re;obtain⟨t,rfl⟩:=rv;cases ek;exact EqAt.list_int b t p.isList hu
    |str b=>obtain⟨rfl,_⟩:=re;obtain⟨t,rfl⟩:=rv;cases ek;exact EqAt.list_str b t p.isList hu
    |tup es=>obtain⟨b,us,rfl,sq,_⟩:=re;cases rv;cases ek;obtain⟨_,_,p2,_⟩:=I.tuple sq;exact EqAt.list_tuple p.isList p2 hu
    |lst es=>
     obtain⟨b,us,rfl,sb,rb⟩:=re;cases rv
     obtain⟨its2,wu,p2,_⟩:=I.list sb.sq
     change qg _ _=some _ at ek
     obtain⟨f,hf,rfl⟩:=zK ek
     have hne:a≠b:=fun z=>hxy ⟨by rw[z],a,rfl⟩
     have q1:its.toArray.size=ds.length:=by rw[zr,<-wv.length,ra.length]
     have q2:its2.toArray.size=es.length:=by rw[zr,<-wu.length,rb.length]
     by_cases hsz:its.toArray.size=its2.toArray.size
     ·have z:=EqAt.of_refs hne (RcAt.lists (A:=A) (e:=f) p.isList p2.isList hsz hu (items (by simp only[BZ] at hn;omega) ra rb wv wu hf))
      have hl:ds.length=es.length:=by omega
      rw[q1] at z
      rw[hl,Nat.min_self,beq_self_eq_true,JS,<-hl]
      exact z
     ·have hl:(ds.length==es.length)=false:=by rw[beq_eq_false_iff_ne];omega
      rw[hl,jv]
      exact EqAt.of_refs hne (RcAt.lists_lengths p.isList p2.isList (by simpa using hsz) hu)
    |emp=>cases ek
   |emp=>cases e<;>cases ek
theorem Uk (I:L2.Inv X pins σ H s) {n:Nat} {A:Around} {ds es:List Dt} {vs us:List V} {its its2:List Value} {f:Nat->Bool} (hm:min (zJ ds) (zJ es)<=n) (hA:A.units+n+1 < cLine) (r1:aR X.K H ds vs) (r2:aR X.K H es us) (w1:Vals vs its) (w2:Vals us its2)
  (hf:∀ (j:Nat) x y,ds[j]?=some x->es[j]?=some y->Ju x y=some (f j)):∀ j (h1:j < its.toArray.size) (h2:j < its2.toArray.size),EqAt A.in1 s its.toArray[j] its2.toArray[j] (f j):=by
 intro j h1 h2
 have l1:=w1.length
 have l2:=w2.length
 have l3:=r1.length
 have l4:=r2.length
 have j1:j < its.length:=by simpa using h1
 have j2:j < its2.length:=by simpa using h2
 have d1:ds[j]?=some (ds[j]'(by omega)):=by simp
 have d2:es[j]?=some (es[j]'(by omega)):=by simp
 obtain⟨a,ea,ra⟩:=r1.get d1
 obtain⟨b,eb,rb⟩:=r2.get d2
 obtain⟨p,ep,rp⟩:=w1.get ea
 obtain⟨q,eq,rq⟩:=w2.get eb
 have e1:its.toArray[j]=p:=by simpa [j1] using ep
 have e2:its2.toArray[j]=q:=by simpa [j2] using eq
 rw[e1,e2]
 have m1:=zL d1
 have m2:=zL d2
 exact ajb I n (by omega) (by rw[units_in1];omega) ra rb rp rq (hf j _ _ d1 d2)
end
def lg (K:FG_) (H:Hp):Dt->V->Prop
 |.lst ds,v=>∃ a vs,v=.ref a/\yK K H a vs/\aR K H ds vs
 |d,v=>Rep K H d v
def qj:Bx->Bool
 |.n _=>true
 |.m _ _=>true
 |_=>false
def toD:Bx->Dt
 |.z d=>d
 |.l ds=>.lst ds
 |.o ds=>.lst ds
 |.n _=>.non
 |.m _ _=>.non
theorem bF.toD {K:FG_} {H:Hp} {b:Bx} {v:V} (h:bF K H b v) (hm:qj b=false):lg K H (toD b) v:=by
 cases b with
 |z d=>
  cases d with
  |lst ds=>exact h.Pk rfl
  |_=>exact h
 |l ds=>exact h.Pk rfl
 |o ds=>exact h.Pk rfl
 |n _=>cases hm
 |m _ _=>cases hm
section
variable {X:Cx} {pins:List (Addr×Obj)} {σ:L2.St} {H:Hp} {s:Shared}
theorem Yg (I:L2.Inv X pins σ H s) {d e:Dt} {x y:V} {u v:Value} {k:Bool} (hm:min (BZ d) (BZ e)<=100) (hA:X.A.units+100 < cLine) (rd:lg X.K H d x) (re:lg X.K H e y) (ru:RelV x u) (rv:RelV y v) (ek:Ju d e=some k):RcAt X.A s u v k/\RcNeAt X.A s u v (!k):=by
 have hu:X.A.units < cLine:=by omega
 cases d with
 |non=>
  cases rd;cases ru
  cases e with
  |non=>
   cases re;cases rv
   cases ek
   exact⟨.none_none,.none_none⟩
  |bl x2=>
   cases re;cases rv
   cases ek
   exact⟨.none_bool x2,.none_bool x2⟩
  |int x2=>
   cases re;obtain⟨t2,rfl⟩:=rv
   cases ek
   exact⟨.none_int x2 t2,.none_int x2 t2⟩
  |str x2=>
   obtain⟨rfl,_⟩:=re;obtain⟨t2,rfl⟩:=rv
   cases ek
   exact⟨.none_str x2 t2,.none_str x2 t2⟩
  |tup x2=>
   obtain⟨a2,vs2,rfl,Kz,WK⟩:=re;cases rv;obtain⟨its2,w2,p2,_⟩:=I.tuple Kz
   cases ek
   exact⟨.none_tuple p2 hu,.none_tuple p2 hu⟩
  |lst x2=>
   obtain⟨a2,vs2,rfl,Kz,WK⟩:=re;cases rv;obtain⟨its2,w2,p2,_⟩:=I.list Kz
   cases ek
   exact⟨.none_list p2.isList hu,.none_list p2.isList hu⟩
  |emp=>cases ek
 |bl x1=>
  cases rd;cases ru
  cases e with
  |non=>
   cases re;cases rv
   cases ek
   exact⟨.bool_none x1,.bool_none x1⟩
  |bl x2=>
   cases re;cases rv
   cases ek
   exact⟨.bool_bool x1 x2,.bool_bool x1 x2⟩
  |int x2=>
   cases re;obtain⟨t2,rfl⟩:=rv
   cases ek
   exact⟨.bool_int x1 x2 t2,.bool_int x1 x2 t2⟩
  |str x2=>
   obtain⟨rfl,_⟩:=re;obtain⟨t2,rfl⟩:=rv
   cases ek
   exact⟨.bool_str x1 x2 t2,.bool_str x1 x2 t2⟩
  |tup x2=>
   obtain⟨a2,vs2,rfl,Kz,WK⟩:=re;cases rv;obtain⟨its2,w2,p2,_⟩:=I.tuple Kz
   cases ek
   exact⟨.bool_tuple x1 p2 hu,.bool_tuple x1 p2 hu⟩
  |lst x2=>
   obtain⟨a2,vs2,rfl,Kz,WK⟩:=re;cases rv;obtain⟨its2,w2,p2,_⟩:=I.list Kz
   cases ek
   exact⟨.bool_list x1 p2.isList hu,.bool_list x1 p2.isList hu⟩
  |emp=>cases ek
 |int x1=>
  cases rd;obtain⟨t1,rfl⟩:=ru
  cases e with
  |non=>
   cases re;cases rv
   cases ek
   exact⟨.int_none x1 t1,.int_none x1 t1⟩
  |bl x2=>
   cases re;cases rv
   cases ek
   exact⟨.int_bool x1 t1 x2,.int_bool x1 t1 x2⟩
  |int x2=>
   cases re;obtain⟨t2,rfl⟩:=rv
   cases ek
   exact⟨.int_int x1 t1 x2 t2,.int_int x1 t1 x2 t2⟩
  |str x2=>
   obtain⟨rfl,_⟩:=re;obtain⟨t2,rfl⟩:=rv
   cases ek
   exact⟨.int_str x1 t1 x2 t2,.int_str x1 t1 x2 t2⟩
  |tup x2=>
   obtain⟨a2,vs2,rfl,Kz,WK⟩:=re;cases rv;obtain⟨its2,w2,p2,_⟩:=I.tuple Kz
   cases ek
   exact⟨.int_tuple x1 t1 p2 hu,.int_tuple x1 t1 p2 hu⟩
  |lst x2=>
   obtain⟨a2,vs2,rfl,Kz,WK⟩:=re;cases rv;obtain⟨its2,w2,p2,_⟩:=I.list Kz
   cases ek
   exact⟨.int_list x1 t1 p2.isList hu,.int_list x1 t1 p2.isList hu⟩
  |emp=>cases ek
 |str x1=>
  obtain⟨rfl,_⟩:=rd;obtain⟨t1,rfl⟩:=ru
  cases e with
  |non=>
   cases re;cases rv
   cases ek
   exact⟨.str_none x1 t1,.str_none x1 t1⟩
  |bl x2=>
   cases re;cases rv
   cases ek
   exact⟨.str_bool x1 t1 x2,.str_bool x1 t1 x2⟩
  |int x2=>
   cases re;obtain⟨t2,rfl⟩:=rv
   cases ek
   exact⟨.str_int x1 t1 x2 t2,.str_int x1 t1 x2 t2⟩
  |str x2=>
   obtain⟨rfl,_⟩:=re;obtain⟨t2,rfl⟩:=rv
   cases ek
   exact⟨.str_str x1 t1 x2 t2,.str_str x1 t1 x2 t2⟩
  |tup x2=>
   obtain⟨a2,vs2,rfl,Kz,WK⟩:=re;cases rv;obtain⟨its2,w2,p2,_⟩:=I.tuple Kz
   cases ek
   exact⟨.str_tuple x1 t1 p2 hu,.str_tuple x1 t1 p2 hu⟩
  |lst x2=>
   obtain⟨a2,vs2,rfl,Kz,WK⟩:=re;cases rv;obtain⟨its2,w2,p2,_⟩:=I.list Kz
   cases ek
   exact⟨.str_list x1 t1 p2.isList hu,.str_list x1 t1 p2.isList hu⟩
  |emp=>cases ek
 |tup x1=>
  obtain⟨a1,vs1,rfl,sq1,rr1⟩:=rd;cases ru;obtain⟨aez,w1,p1,_⟩:=I.tuple sq1
  cases e with
  |non=>
   cases re;cases rv
   cases ek
   exact⟨.tuple_none p1 hu,.tuple_none p1 hu⟩
  |bl x2=>
   cases re;cases rv
   cases ek
   exact⟨.tuple_bool x2 p1 hu,.tuple_bool x2 p1 hu⟩
  |int x2=>
   cases re;obtain⟨t2,rfl⟩:=rv
   cases ek
   exact⟨.tuple_int x2 t2 p1 hu,.tuple_int x2 t2 p1 hu⟩
  |str x2=>
   obtain⟨rfl,_⟩:=re;obtain⟨t2,rfl⟩:=rv
   cases ek
   exact⟨.tuple_str x2 t2 p1 hu,.tuple_str x2 t2 p1 hu⟩
  |tup x2=>
   obtain⟨a2,vs2,rfl,Kz,WK⟩:=re;cases rv;obtain⟨its2,w2,p2,_⟩:=I.tuple Kz
   change qg _ _=some _ at ek
   obtain⟨f,hf,rfl⟩:=zK ek
   have q1:aez.toArray.size=x1.length:=by rw[zr,<-w1.length,rr1.length]
   have q2:its2.toArray.size=x2.length:=by rw[zr,<-w2.length,WK.length]
   have it:=Uk I (n:=99) (A:=X.A) (by simp only[BZ] at hm;omega) (by omega) rr1 WK w1 w2 hf
   rw[<-q1,<-q2]
   exact⟨.tuples p1 p2 hu it,.tuples p1 p2 hu it⟩
  |lst x2=>
   obtain⟨a2,vs2,rfl,Kz,WK⟩:=re;cases rv;obtain⟨its2,w2,p2,_⟩:=I.list Kz
   cases ek
   exact⟨.tuple_list p1 p2.isList hu,.tuple_list p1 p2.isList hu⟩
  |emp=>cases ek
 |lst x1=>
  obtain⟨a1,vs1,rfl,sq1,rr1⟩:=rd;cases ru;obtain⟨aez,w1,p1,_⟩:=I.list sq1
  cases e with
  |non=>
   cases re;cases rv
   cases ek
   exact⟨.list_none p1.isList hu,.list_none p1.isList hu⟩
  |bl x2=>
   cases re;cases rv
   cases ek
   exact⟨.list_bool x2 p1.isList hu,.list_bool x2 p1.isList hu⟩
  |int x2=>
   cases re;obtain⟨t2,rfl⟩:=rv
   cases ek
   exact⟨.list_int x2 t2 p1.isList hu,.list_int x2 t2 p1.isList hu⟩
  |str x2=>
   obtain⟨rfl,_⟩:=re;obtain⟨t2,rfl⟩:=rv
   cases ek
   exact⟨.list_str x2 t2 p1.isList hu,.list_str x2 t2 p1.isList hu⟩
  |tup x2=>
   obtain⟨a2,vs2,rfl,Kz,WK⟩:=re;cases rv;obtain⟨its2,w2,p2,_⟩:=I.tuple Kz
   cases ek
   exact⟨.list_tuple p1.isList p2 hu,.list_tuple p1.isList p2 hu⟩
  |lst x2=>
   obtain⟨a2,vs2,rfl,Kz,WK⟩:=re;cases rv;obtain⟨its2,w2,p2,_⟩:=I.list Kz
   change qg _ _=some _ at ek
   obtain⟨f,hf,rfl⟩:=zK ek
   have q1:aez.toArray.size=x1.length:=by rw[zr,<-w1.length,rr1.length]
   have q2:its2.toArray.size=x2.length:=by rw[zr,<-w2.length,WK.length]
   have it:=Uk I (n:=99) (A:=X.A) (by simp only[BZ] at hm;omega) (by omega) rr1 WK w1 w2 hf
   by_cases hsz:aez.toArray.size=its2.toArray.size
   ·have hl:x1.length=x2.length:=by omega
    rw[hl,Nat.min_self,beq_self_eq_true,JS,<-hl,<-q1]
    exact⟨.lists p1.isList p2.isList hsz hu it,.lists p1.isList p2.isList hsz hu it⟩
   ·have hl:(x1.length==x2.length)=false:=by rw[beq_eq_false_iff_ne];omega
    rw[hl,jv]
    exact⟨.lists_lengths p1.isList p2.isList (by simpa using hsz) hu,.lists_lengths p1.isList p2.isList (by simpa using hsz) hu⟩
  |emp=>cases ek
 |emp=>cases e<;>cases ek
def eqB (a b:Bx):Option Bx:=if qj a=true\/qj b=true then none else if min (BZ (toD a)) (BZ (toD b))<=100 then (Ju (toD a) (toD b)).bind fun k=>some (.z (.bl k)) else none
def neB (a b:Bx):Option Bx:=if qj a=true\/qj b=true then none else if min (BZ (toD a)) (BZ (toD b))<=100 then (Ju (toD a) (toD b)).bind fun k=>some (.z (.bl (!k))) else none
theorem of_eq (hu:X.A.units+100 < cLine):Jr X (compareOp .Eq) eqB:=by
 intro pins s σ H x y v u Q I rx ry h
 obtain⟨a,b,c,ra,rb,e,q⟩:=h
 unfold eqB at e
 split at e
 ·cases e
 rename_i hz
 have ha:qj a=false:=by cases h:qj a with|false=>rfl|true=>exact absurd (.inl h) hz
 have hb:qj b=false:=by cases h:qj b with|false=>rfl|true=>exact absurd (.inr h) hz
 split at e
 ·rename_i hm
  obtain⟨k,ek,e⟩:=bind_some e
  cases e
  exact (Yg I hm hu (ra.toD ha) (rb.toD hb) rx ry ek).1 X.prog X.w X.xe _ ⟨.bl k,H,I,rfl,q _ H (Same.refl H) trivial (by unfold bF Rep;rfl)⟩
 ·cases e
theorem Pu (hu:X.A.units+100 < cLine):Jr X (compareOp .NotEq) neB:=by
 intro pins s σ H x y v u Q I rx ry h
 obtain⟨a,b,c,ra,rb,e,q⟩:=h
 unfold neB at e
 split at e
 ·cases e
 rename_i hz
 have ha:qj a=false:=by cases h:qj a with|false=>rfl|true=>exact absurd (.inl h) hz
 have hb:qj b=false:=by cases h:qj b with|false=>rfl|true=>exact absurd (.inr h) hz
 split at e
 ·rename_i hm
  obtain⟨k,ek,e⟩:=bind_some e
  cases e
  exact (Yg I hm hu (ra.toD ha) (rb.toD hb) rx ry ek).2 X.prog X.w X.xe _ ⟨.bl (!k),H,I,rfl,q _ H (Same.refl H) trivial (by unfold bF Rep;rfl)⟩
 ·cases e
theorem Jv {K:FG_} {H:Hp} {i:Int}:bF K H (.z (.int i)) (.int i):=by unfold bF Rep;rfl
theorem WL {K:FG_} {H:Hp} {b:Bool}:bF K H (.z (.bl b)) (.bl b):=by unfold bF Rep;rfl
theorem aeA {K:FG_} {H:Hp} {x:Str} (h:x.length<=sizeLine):bF K H (.z (.str x)) (.str x):=by unfold bF Rep;exact⟨rfl,h⟩
theorem Rr {K:FG_} {H:Hp} {i:Int} {v:V} (h:bF K H (.z (.int i)) v):v=.int i:=by simpa only[bF,Rep] using h
theorem inS {K:FG_} {H:Hp} {x:Str} {v:V} (h:bF K H (.z (.str x)) v):v=.str x/\x.length<=sizeLine:=by simpa only[bF,Rep] using h
theorem inT {K:FG_} {H:Hp} {ds:List Dt} {v:V} (h:bF K H (.z (.tup ds)) v):∃ a vs,v=.ref a/\BL K H a vs/\aR K H ds vs:=by simpa only[bF,Rep] using h
def i2 (g:Int->Int->Option Dt):Bx->Bx->Option Bx
 |.z (.int i),.z (.int j)=>(g i j).bind fun d=>some (.z d)
 |_,_=>none
theorem KC {f:Value->Value->Sem Value} {r:R2} {g:Int->Int->Option Dt} (ho:Bc X f r) (h:∀ i j d H Q,g i j=some d->(∀ v,Rep X.K H d v->Q v H)->r (.int i) (.int j) H Q):Jr X f (i2 g):=Bc.imp ho fun x y H Q q=>by
 obtain⟨a,b,c,ra,rb,e,q⟩:=q
 unfold i2 at e
 split at e
 ·rename_i i j
  obtain⟨d,ed,e⟩:=bind_some e
  cases e
  rw[Rr ra,Rr rb]
  exact h i j d H Q ed fun v rv=>q v H (Same.refl H) trivial rv
 ·cases e
theorem okI {K:FG_} {H:Hp} {i:Int}:Rep K H (.int i) (.int i):=by unfold Rep;rfl
theorem okT {K:FG_} {H:Hp} {b:Bool}:Rep K H (.bl b) (.bl b):=by unfold Rep;rfl
abbrev subB:=i2 fun i j=>some (.int (i - j))
abbrev leB:=i2 fun i j=>some (.bl (decide (i<=j)))
abbrev gtB:=i2 fun i j=>some (.bl (decide (j < i)))
abbrev geB:=i2 fun i j=>some (.bl (decide (j<=i)))
abbrev uJ:=i2 fun i j=>if 0 < j/\j < 1073741824 then some (.int (i / j)) else none
abbrev fH:=i2 fun i j=>if 0 < j then some (.int (i % j)) else none
abbrev Zu:=i2 fun i j=>if 0<=j/\j<=1000/\i.natAbs < 2 ^ 64 then some (.int (i ^ j.toNat)) else none
theorem Gw:Jr X (binaryOp .Sub) subB:=KC agP fun i j d H Q e q=>by cases e;exact⟨i,j,rfl,rfl,q _ okI⟩
theorem of_le:Jr X (compareOp .LtE) leB:=KC aiP fun i j d H Q e q=>by cases e;exact⟨i,j,rfl,rfl,q _ okT⟩
theorem abu:Jr X (compareOp .Gt) gtB:=KC aiQ fun i j d H Q e q=>by cases e;exact⟨i,j,rfl,rfl,q _ okT⟩
theorem afY:Jr X (compareOp .GtE) geB:=KC aiR fun i j d H Q e q=>by cases e;exact⟨i,j,rfl,rfl,q _ okT⟩
theorem oY:Jr X (binaryOp .FloorDiv) uJ:=KC adX fun i j d H Q e q=>by
 split at e
 ·rename_i h;cases e;exact⟨i,j,rfl,rfl,h,q _ okI⟩
 ·cases e
theorem cg:Jr X (binaryOp .Mod) fH:=KC agR fun i j d H Q e q=>by
 split at e
 ·rename_i h;cases e;exact⟨i,j,rfl,rfl,h,q _ okI⟩
 ·cases e
theorem WM:Jr X (binaryOp .Pow) Zu:=KC agS fun i j d H Q e q=>by
 split at e
 ·rename_i h;cases e;exact⟨i,j,rfl,rfl,⟨h.1,by omega,h.2.2⟩,q _ okI⟩
 ·cases e
def zM:Bx->Option Bx
 |.z (.int i)=>some (.z (.int (-i)))
 |_=>none
theorem Gx:UnF X (unaryOp .USub) zM:=UnR.imp agT fun x H Q q=>by
 obtain⟨a,c,ra,e,q⟩:=q
 unfold zM at e
 split at e
 ·rename_i i;cases e;exact⟨i,Rr ra,q _ H (Same.refl H) trivial Jv⟩
 ·cases e
def Zv:Nat:=1000000
theorem aeB:Zv<=sizeLine:=by decide
theorem ahi {l b:Addr} {vs us:List V} {Q:VK} (I:L2.Inv X pins σ H s) (hl:yK X.K H l vs) (hb:yK X.K H b us) (hz:vs.length+us.length<=sizeLine) (q:∀ p,H p=none->Q (.ref p) (upd H p (.lst (vs++us)))) :
  wpAny (model X.prog X.w) X.A (binaryOp .Add (.ref l) (.ref b)) (EP X pins σ Q) X.xe s:=by
 obtain⟨its,r1,⟨⟨cls,dd,data,sl⟩,n1,e1,c1,d1,dd1⟩,z1⟩:=I.list hl
 obtain⟨its2,r2,⟨⟨cls2,dd2,data2,sl2⟩,n2,e2,c2,d2,abv⟩,z2⟩:=I.list hb
 simp only at c1 d1 dd1 c2 d2 abv
 subst c1 d1 dd1 c2 d2 abv
 have l1:=r1.length
 have l2:=r2.length
 have e:its.toArray++its2.toArray=(its++its2).toArray:=by simp
 refine concat_meets ⟨_,e1,rfl⟩ ⟨_,e2,rfl⟩ noFill_list_add seq_list_add PySem.F.slot_list_add PySem.F.entry_list_add (PySem.F.args_list_add_2 _ _) (list_addW l b its.toArray its2.toArray n1 n2 none none sl sl2 (by rw[zr,zr];omega)) ⟨e1,e2,?_⟩
 rw[e]
 exact⟨.ref s.heap.objs.size,_,I.laid (t':=s.toks) (o:=.lst (vs++us)) (fun b ob q=>zg _ q) (zi _) ⟨by rw[Zp];exact hz,_,0,r1.append r2,zC _ rfl⟩,rfl,q _ (I.hok.fresh (zi _))⟩
theorem ahj {l b:Addr} {vs us:List V} {Q:VK} (I:L2.Inv X pins σ H s) (hl:BL X.K H l vs) (hb:BL X.K H b us) (hz:vs.length+us.length<=sizeLine) (q0:vs=[]->Q (.ref b) H) (q1:us=[]->Q (.ref l) H) (q2:∀ p,H p=none->Q (.ref p) (upd H p (.tup (vs++us)))) :
  wpAny (model X.prog X.w) X.A (binaryOp .Add (.ref l) (.ref b)) (EP X pins σ Q) X.xe s:=by
 by_cases hv:vs=[]
 ·obtain⟨its,r1,⟨⟨cls,dd,data,sl⟩,e1,c1,n1,dd1⟩,z1⟩:=I.tuple hl
  obtain⟨its2,r2,⟨⟨cls2,dd2,data2,sl2⟩,e2,c2,n2,abv⟩,z2⟩:=I.tuple hb
  simp only at c1 dd1 c2 abv
  subst c1 dd1 c2 abv
  have:its=[]:=r1.J1.mpr hv
  exact concat_meets ⟨_,e1,rfl⟩ ⟨_,e2,rfl⟩ noFill_tuple_add seq_tuple_add PySem.F.slot_tuple_add KS (KM _ _)
   (tuple_addW0 l b its.toArray its2.toArray n1 n2 dd dd2 sl sl2 (by simp[this])) ⟨e1,e2,⟨.ref b,H,I,rfl,q0 hv⟩⟩
 ·exact ad6 pins s σ H (.ref l) (.ref b) (.ref l) (.ref b) Q I rfl rfl ⟨l,b,vs,us,rfl,rfl,hl,hb,hv,hz,q1,fun _=>q2⟩
def bQ:Bx->Bx->Option Bx
 |.z (.int i),.z (.int j)=>some (.z (.int (i+j)))
 |.z (.str i),.z (.str j)=>if i.length+j.length<=Zv then some (.z (.str (i++j))) else none
 |.z (.tup xs),.z (.tup ys)=>if xs.length+ys.length<=Zv then some (.z (.tup (xs++ys))) else none
 |a,b=>(xP a).bind fun xs=>(xP b).bind fun ys=>if xs.length+ys.length<=Zv then some (.o (xs++ys)) else none
theorem str_len (i j:Str):(i++j).length=i.length+j.length:=by
 show (i.cps++j.cps).size=_
 rw[kB];rfl
theorem bh:Jr X (binaryOp .Add) bQ:=by
 intro pins s σ H x y v u Q I rx ry h
 obtain⟨a,b,c,ra,rb,e,q⟩:=h
 have hbig:=aeB
 unfold bQ at e
 split at e
 ·rename_i i j
  cases e
  exact agO pins s σ H x y v u Q I rx ry ⟨i,j,Rr ra,Rr rb,q _ H (Same.refl H) trivial Jv⟩
 ·rename_i i j
  split at e
  ·rename_i hl
   cases e
   exact Wr pins s σ H x y v u Q I rx ry ⟨i,j,(inS ra).1,(inS rb).1,by omega,q _ H (Same.refl H) trivial (aeA (by rw[str_len];omega))⟩
  ·cases e
 ·rename_i xs ys
  split at e
  ·rename_i hl
   cases e
   obtain⟨l,vs,rfl,sl,rl⟩:=inT ra
   obtain⟨m,us,rfl,sm,rm⟩:=inT rb
   cases rx
   cases ry
   have h1:=rl.length
   have h2:=rm.length
   refine ahj I sl sm (by omega) (fun z=>q _ H (Same.refl H) trivial ?_) (fun z=>q _ H (Same.refl H) trivial ?_) fun p hp=>q _ _ (bV hp) trivial ?_
   ·unfold bF Rep
    refine⟨m,us,rfl,sm,?_⟩
    have:xs=[]:=by subst z;exact List.eq_nil_of_length_eq_zero (by simpa using h1.symm)
    rw[this,List.nil_append];exact rm
   ·unfold bF Rep
    refine⟨l,vs,rfl,sl,?_⟩
    have:ys=[]:=by subst z;exact List.eq_nil_of_length_eq_zero (by simpa using h2.symm)
    rw[this,kP];exact rl
   ·unfold bF Rep
    exact⟨p,_,rfl,.inl (.inl bU),(rl.append rm).kp (.of (bV hp))⟩
  ·cases e
 ·obtain⟨xs,ea,e⟩:=bind_some e
  obtain⟨ys,eb,e⟩:=bind_some e
  split at e
  ·rename_i hl
   cases e
   obtain⟨l,vs,rfl,sl,rl⟩:=ra.Pk ea
   obtain⟨m,us,rfl,sm,rm⟩:=rb.Pk eb
   cases rx
   cases ry
   have h1:=rl.length
   have h2:=rm.length
   refine ahi I sl sm (by omega) fun p hp=>q _ _ (bV hp) (fun a ea=>by cases ea;exact hp) ⟨p,_,rfl,bU,(rl.append rm).kp (.of (bV hp))⟩
  ·cases e
def BR:Bx->Bx->Option Bx
 |.z (.int i),.z (.int j)=>if (-(2 ^ 64) < i/\i < 2 ^ 64)\/(-(2 ^ 64) < j/\j < 2 ^ 64) then some (.z (.int (i * j))) else none
 |.z (.str x),.z (.int n)=>if n<=1000 ∧ -1000<=n/\x.length<=1000 then some (.z (.str (Txt.mul x n))) else none
 |_,_=>none
theorem Ca (x:Array Nat):∀ (n:Nat) (acc:Array Nat),((List.replicate n x).foldl (·++·) acc).size=acc.size+n * x.size
 |0,acc=>by simp
 |n+1,acc=>by
  rw[List.replicate_succ,List.foldl_cons,Ca x n,kB,Nat.succ_mul]
  omega
theorem Rt (x:Str) (n:Int):(Txt.mul x n).length<=n.toNat * x.length+x.length:=by
 unfold Txt.mul
 split
 ·exact QO _
 ·split
  ·exact Nat.le_add_left _ _
  ·show ((List.replicate n.toNat x.cps).foldl (·++·) #[]).size<=_
   rw[Ca]
   show (#[]:Array Nat).size+n.toNat * x.cps.size<=n.toNat * x.cps.size+x.cps.size
   simp
theorem xR:Jr X (binaryOp .Mult) BR:=by
 intro pins s σ H x y v u Q I rx ry h
 obtain⟨a,b,c,ra,rb,e,q⟩:=h
 unfold BR at e
 split at e
 ·rename_i i j
  split at e
  ·rename_i hl
   cases e
   exact agQ pins s σ H x y v u Q I rx ry ⟨i,j,Rr ra,Rr rb,hl,q _ H (Same.refl H) trivial Jv⟩
  ·cases e
 ·rename_i x' n
  split at e
  ·rename_i hl
   cases e
   obtain⟨rfl,hx⟩:=inS ra
   have hy:=Rr rb
   subst hy
   obtain⟨t,rfl⟩:=rx
   obtain⟨t',rfl⟩:=ry
   have hs:sizeLine=16777216:=sizeLine_eq
   have hm:n.toNat * x'.length<=1000 * 1000:=Nat.mul_le_mul (by omega) hl.2.2
   refine SB.mul ⟨?_,fun h1 h2=>?_,fun h1 h2=>?_⟩ fun t' k=>⟨.str _,H,I.tok _,⟨_,rfl⟩,q _ H (Same.refl H) trivial (aeA (zw (Rt x' n) (by omega)))⟩
   ·have e1:decide (n < -(2 ^ 63:Int))=false:=qq (by omega)
    have e2:decide (n>=2 ^ 63)=false:=qq (by omega)
    rw[e1,e2];rfl
   ·have hn:0 < n:=by omega
    have:(1000:Int)<=(2 ^ 63 - 1) / n:=(Int.le_ediv_iff_mul_le hn).mpr (by omega)
    omega
   ·show decide (x'.length * n.toNat > sizeLine)=false
    rw[Nat.mul_comm]
    exact qq (by omega)
  ·cases e
 ·cases e
def Ul (i j:Str):Bool:=!(Builtin.Str.occurrences j i 0 j.length 1).isEmpty
def Ej:Dt->Bool
 |.non=>true
 |.bl _=>true
 |.int _=>true
 |.str _=>true
 |_=>false
def memD (x:Dt) (ys:List Dt):Option Bool:=if Ej x=true/\ys.all Ej=true then some (ys.any fun y=>match Ju y x with|some true=>true|_=>false) else none
def vU:Bx->Option (List Dt)
 |.z (.lst ds)=>some ds
 |.z (.tup ds)=>some ds
 |.l ds=>some ds
 |.o ds=>some ds
 |_=>none
def inB:Bx->Bx->Option Bool
 |.z (.str i),.z (.str j)=>some (Ul i j)
 |.z d,b=>(vU b).bind fun ys=>memD d ys
 |_,_=>none
def inF (a b:Bx):Option Bx:=(inB a b).bind fun k=>some (.z (.bl k))
theorem Um {K:FG_} {H:Hp} {d:Dt} {v:V} (r:Rep K H d v) (f:Ej d=true):yL v=true:=by
 cases d<;>first|(cases f;done)|skip
 all_goals simp only[Rep] at r
 ·subst r;rfl
 ·subst r;rfl
 ·subst r;rfl
 ·obtain⟨rfl,_⟩:=r;rfl
theorem Px {K:FG_} {H:Hp}:∀ {ds:List Dt} {vs:List V},aR K H ds vs->ds.all Ej=true->vs.all yL=true
 |[],_,h,_=>by simp only[aR] at h;subst h;rfl
 |d::ds,_,h,f=>by
  simp only[aR] at h
  obtain⟨v,r,rfl,h1,h2⟩:=h
  rw[Jn,zv] at f
  rw[Jn,Um h1 f.1,Px h2 f.2];rfl
theorem Ru (b:Bool):(match some b with|some true=>true|_=>false)=b:=by cases b<;>rfl
theorem aeC {K:FG_} {H:Hp} {d e:Dt} {x y:V} (rd:Rep K H d x) (re:Rep K H e y) (fd:Ej d=true) (fe:Ej e=true):Zg x y=(match Ju d e with|some true=>true|_=>false):=by
 cases d<;>first|(cases fd;done)|skip
 all_goals (cases e<;>first|(cases fe;done)|skip)
 all_goals simp only[Rep] at rd re
 all_goals first
  |(subst rd;subst re;simp only[Zg,Ju,Ru])
  |(obtain⟨rfl,_⟩:=rd;subst re;simp only[Zg,Ju,Ru])
  |(subst rd;obtain⟨rfl,_⟩:=re;simp only[Zg,Ju,Ru])
  |(obtain⟨rfl,_⟩:=rd;obtain⟨rfl,_⟩:=re;simp only[Zg,Ju,Ru])
theorem Yh {K:FG_} {H:Hp} {d:Dt} {x:V} (rd:Rep K H d x) (fd:Ej d=true):∀ {ds:List Dt} {vs:List V},aR K H ds vs->ds.all Ej=true->inV x vs=ds.any fun y=>match Ju y d with|some true=>true|_=>false
 |[],_,h,_=>by simp only[aR] at h;subst h;rfl
 |e::ds,_,h,f=>by
  simp only[aR] at h
  obtain⟨v,r,rfl,h1,h2⟩:=h
  rw[Jn,zv] at f
  have:=Yh rd fd h2 f.2
  unfold inV at this ⊢
  rw[j3,j3,aeC h1 rd f.1 fd,this]
theorem zN {K:FG_} {H:Hp} {b:Bx} {v:V} {ds:List Dt} (h:bF K H b v) (e:vU b=some ds):∃ a vs,v=.ref a/\(yK K H a vs\/BL K H a vs)/\aR K H ds vs:=by
 cases b with
 |z d=>
  cases d<;>first|(cases e;done)|skip
  ·cases e
   obtain⟨a,vs,e,q,r⟩:=inT h
   exact⟨a,vs,e,.inr q,r⟩
  ·cases e
   obtain⟨a,vs,e,q,r⟩:=h.Pk rfl
   exact⟨a,vs,e,.inl q,r⟩
 |l ds'=>
  cases e
  obtain⟨a,vs,e,q,r⟩:=h.Pk rfl
  exact⟨a,vs,e,.inl q,r⟩
 |o ds'=>
  cases e
  obtain⟨a,vs,e,q,r⟩:=h.Pk rfl
  exact⟨a,vs,e,.inl q,r⟩
 |n _=>cases e
 |m _ _=>cases e
theorem Zw {H:Hp} {a b:Bx} {x y:V} {k:Bool} (ra:bF X.K H a x) (rb:bF X.K H b y) (e:inB a b=some k) :
  (∃ i j,x=.str i/\y=.str j/\k=Ul i j)\/(∃ p xs,y=.ref p/\(yK X.K H p xs\/BL X.K H p xs)/\yL x=true/\xs.all yL=true/\k=inV x xs):=by
 unfold inB at e
 split at e
 ·rename_i i j
  cases e
  exact .inl ⟨i,j,(inS ra).1,(inS rb).1,rfl⟩
 ·rename_i d _
  obtain⟨ys,ey,e⟩:=bind_some e
  unfold memD at e
  split at e
  ·rename_i hf
   cases e
   obtain⟨p,vs,rfl,sq,rs⟩:=zN rb ey
   have ra':Rep X.K H d x:=ra
   exact .inr ⟨p,vs,rfl,sq,Um ra' hf.1,Px rs hf.2,(Yh ra' hf.1 rs hf.2).symm⟩
  ·cases e
 ·cases e
theorem Ir:Jr X (compareOp .In) inF:=by
 intro pins s σ H x y v u Q I rx ry h
 obtain⟨a,b,c,ra,rb,e,q⟩:=h
 obtain⟨k,ek,e⟩:=bind_some e
 cases e
 rcases Zw ra rb ek with⟨i,j,rfl,rfl,rfl⟩|⟨p,xs,rfl,sq,f1,f2,rfl⟩
 ·exact Zc pins s σ H _ _ v u Q I rx ry ⟨i,j,rfl,rfl,q _ H (Same.refl H) trivial WL⟩
 ·exact Zh pins s σ H _ _ v u Q I rx ry ⟨p,xs,rfl,sq,f1,f2,q _ H (Same.refl H) trivial WL⟩
def eU:Bx->Bx->Option Bx
 |.z (.str x),.z (.int i)=>(N5 x.cps.toList i).bind fun c=>some (.z (.str ⟨#[c]⟩))
 |b,.z (.int i)=>(vU b).bind fun ds=>(N5 ds i).bind fun d=>some (.z d)
 |_,_=>none
theorem aeD {K:FG_} {H:Hp} {ds:List Dt} {vs:List V} {i:Int} {d:Dt} (r:aR K H ds vs) (e:N5 ds i=some d):∃ v,N5 vs i=some v/\Rep K H d v:=by
 unfold N5 at e ⊢
 rw[r.length]
 obtain⟨j,ej,e⟩:=bind_some e
 rw[ej]
 exact r.get e
theorem bB {a b:Expr} {fa fb:Ev->Option Bx} {pos:Pos} (ha:QV X a fa) (hb:QV X b fb) (hs:X7 b:=by intro _ _;with_unfolding_all rfl):QV X (.Subscript a b pos) (b2 eU fa fb):=⟨have ha:=ha.run;have hb:=hb.run;Io (aiW ag4 ha hb hs) fun σ H Q h=>by
 obtain⟨H0,ρ,c,E,e,q⟩:=h
 obtain⟨a,ea,e⟩:=bind_some e
 obtain⟨b,eb,e⟩:=bind_some e
 refine⟨H0,ρ,a,E,ea,fun v H1 s1 n1 r1=>⟨H0,ρ,b,E.grow s1,eb,fun u H2 s2 n2 r2=>?_⟩⟩
 have r1':=r1.same s2
 unfold eU at e
 split at e
 ·rename_i x i
  obtain⟨c',ec,e⟩:=bind_some e
  cases e
  exact .inr (.inr ⟨_,_,c',(inS r1').1,Rr r2,(inS r1').2,ec,q _ _ (s1.trans s2) trivial (aeA (by show (1:Nat)<=sizeLine;decide))⟩)
 ·obtain⟨ds,ed,e⟩:=bind_some e
  obtain⟨d,ei,e⟩:=bind_some e
  cases e
  obtain⟨p,vs,rfl,sq,rs⟩:=zN r1' ed
  obtain⟨w,ew,rw'⟩:=aeD rs ei
  have hi:=Rr r2
  rcases sq with sq|sq
  ·exact .inl ⟨p,vs,_,w,rfl,hi,sq,ew,q _ _ (s1.trans s2) trivial rw'⟩
  ·exact .inr (.inl ⟨p,vs,_,w,rfl,hi,sq,ew,q _ _ (s1.trans s2) trivial rw'⟩)
 ·cases e⟩
end
theorem aeE:bootBuiltins "bool" = some (.type "bool"):=by decide +kernel
theorem WQ:bootBuiltins "int" = some (.type "int"):=by decide +kernel
theorem ahk:bootBuiltins "str" = some (.type "str"):=by decide +kernel
theorem wM:bootBuiltins "tuple" = some (.type "tuple"):=by decide +kernel
theorem Bg:bootBuiltins "list" = some (.type "list"):=by decide +kernel
theorem qH:bootBuiltins "isinstance" = some (.builtin "isinstance"):=by decide +kernel
theorem ql:bootBuiltins "len" = some (.builtin "len"):=by decide +kernel
theorem ahl:bootBuiltins "abs" = some (.builtin "abs"):=by decide +kernel
theorem oZ:bootBuiltins "all" = some (.builtin "all"):=by decide +kernel
theorem abw:bootBuiltins "min" = some (.builtin "min"):=by decide +kernel
theorem Gy:bootBuiltins "max" = some (.builtin "max"):=by decide +kernel
theorem Gz:bootBuiltins "sorted" = some (.builtin "sorted"):=by decide +kernel
section
variable {X:Cx} {pins:List (Addr×Obj)} {σ:L2.St} {H:Hp} {s:Shared}
def is_bool:Dt->Bool
 |.bl _=>true
 |_=>false
theorem abx (I:L2.Inv X pins σ H s) {d:Dt} {x:V} {v:Value} {Q:VK} (rd:lg X.K H d x) (rv:RelV x v) (q:Q (.bl (is_bool d)) H):wpAny (model X.prog X.w) X.A (call (.builtin "isinstance") [v,.type "bool"]) (EP X pins σ Q) X.xe s:=by
 cases d with
 |non=>simp only[lg,Rep] at rd;subst rd;cases rv;exact IsiPair.NoneType_bool ⟨.bl _,H,I.tok _,rfl,q⟩
 |bl b=>simp only[lg,Rep] at rd;subst rd;cases rv;exact IsiPair.bool_bool ⟨.bl _,H,I,rfl,q⟩
 |int b=>simp only[lg,Rep] at rd;subst rd;obtain⟨t,rfl⟩:=rv;exact IsiPair.int_bool ⟨.bl _,H,I.tok _,rfl,q⟩
 |str b=>simp only[lg,Rep] at rd;obtain⟨rfl,_⟩:=rd;obtain⟨t,rfl⟩:=rv;exact IsiPair.str_bool ⟨.bl _,H,I.tok _,rfl,q⟩
 |tup ds=>simp only[lg,Rep] at rd;obtain⟨a,vs,rfl,sq,_⟩:=rd;cases rv;obtain⟨_,_,p,_⟩:=I.tuple sq;exact IsiPair.isTuple_bool p (fun _ _ e=>e) ⟨.bl _,H,I.tok _,rfl,q⟩
 |lst ds=>simp only[lg] at rd;obtain⟨a,vs,rfl,sq,_⟩:=rd;cases rv;obtain⟨_,_,p,_⟩:=I.list sq;exact IsiPair.isList_bool p.isList (fun _ _ e=>e) ⟨.bl _,H,I.tok _,rfl,q⟩
 |emp=>simp only[lg,Rep] at rd;obtain⟨a,o,rfl,sq⟩:=rd;cases rv;obtain⟨ob,e,c⟩:=uI I sq;exact IsiPair.dict_bool e c ⟨.bl _,H,I.tok _,rfl,q⟩
theorem zO {e:Expr} {f:Ev->Option Bx} {p p2 pos:Pos} (he:QV X e f) (hg:Gl X "isinstance") (hm:X.mg "isinstance" = none) (hg2:Gl X "bool") (hm2:X.mg "bool" = none) (hs:starEach [e,.Name "bool" p2] X.env=[(false,eval e X.env),(false,eval (.Name "bool" p2) X.env)]:=by rfl):QV X (.Call (.Name "isinstance" p) [e,.Name "bool" p2] [] pos) (b1 (fun b=>if qj b=true then none else some (.z (.bl (is_bool (toD b))))) f):=⟨by
 have he:=he.run
 have hc:gn X (.builtin "isinstance") (fun xs H Q=>∃ b x,xs=[x,.ty "bool"]/\bF X.K H b x/\qj b=false/\Q (.bl (is_bool (toD b))) H):=by
  intro pins s σ H xs us Q I r h
  obtain⟨b,x,rfl,rb,hmb,q⟩:=h
  obtain⟨u,w',rfl,r1,r2⟩:=vals2 r
  cases r2
  exact abx I (rb.toD hmb) r1 q
 have ha:PA X [e,.Name "bool" p2] (DK (tF X.K f) (DK (tC (.ty "bool")) Ze)):=jL he (jL (JZ hg2 hm2 (v:=.ty "bool") (u:=.type "bool") aeE rfl) tK) (by rw[hs]<;>rfl)
 refine Io (qW hc hg hm qH ha (by decide) (by decide) (by rw[hs]<;>rfl) rfl) fun σ H Q h=>?_
 obtain⟨H0,ρ,c,E,e,q⟩:=h
 obtain⟨b,eb,e⟩:=bind_some e
 split at e
 ·cases e
 rename_i hz
 cases e
 exact⟨H0,ρ,b,E,eb,fun v H1 s1 n1 r1=>⟨b,v,rfl,r1,by simpa using hz,q _ _ s1 trivial WL⟩⟩⟩
def nF:Dt->Bool
 |.bl _=>true
 |.int _=>true
 |_=>false
theorem aeF (I:L2.Inv X pins σ H s) {d:Dt} {x:V} {v:Value} {Q:VK} (rd:lg X.K H d x) (rv:RelV x v) (q:Q (.bl (nF d)) H):wpAny (model X.prog X.w) X.A (call (.builtin "isinstance") [v,.type "int"]) (EP X pins σ Q) X.xe s:=by
 cases d with
 |non=>simp only[lg,Rep] at rd;subst rd;cases rv;exact IsiPair.NoneType_int ⟨.bl _,H,I.tok _,rfl,q⟩
 |bl b=>simp only[lg,Rep] at rd;subst rd;cases rv;exact IsiPair.bool_int ⟨.bl _,H,I,rfl,q⟩
 |int b=>simp only[lg,Rep] at rd;subst rd;obtain⟨t,rfl⟩:=rv;exact IsiPair.int_int ⟨.bl _,H,I,rfl,q⟩
 |str b=>simp only[lg,Rep] at rd;obtain⟨rfl,_⟩:=rd;obtain⟨t,rfl⟩:=rv;exact IsiPair.str_int ⟨.bl _,H,I.tok _,rfl,q⟩
 |tup ds=>simp only[lg,Rep] at rd;obtain⟨a,vs,rfl,sq,_⟩:=rd;cases rv;obtain⟨_,_,p,_⟩:=I.tuple sq;exact IsiPair.isTuple_int p (fun _ _ e=>e) ⟨.bl _,H,I.tok _,rfl,q⟩
 |lst ds=>simp only[lg] at rd;obtain⟨a,vs,rfl,sq,_⟩:=rd;cases rv;obtain⟨_,_,p,_⟩:=I.list sq;exact IsiPair.isList_int p.isList (fun _ _ e=>e) ⟨.bl _,H,I.tok _,rfl,q⟩
 |emp=>simp only[lg,Rep] at rd;obtain⟨a,o,rfl,sq⟩:=rd;cases rv;obtain⟨ob,e,c⟩:=uI I sq;exact IsiPair.dict_int e c ⟨.bl _,H,I.tok _,rfl,q⟩
theorem CG {e:Expr} {f:Ev->Option Bx} {p p2 pos:Pos} (he:QV X e f) (hg:Gl X "isinstance") (hm:X.mg "isinstance" = none) (hg2:Gl X "int") (hm2:X.mg "int" = none) (hs:starEach [e,.Name "int" p2] X.env=[(false,eval e X.env),(false,eval (.Name "int" p2) X.env)]:=by rfl):QV X (.Call (.Name "isinstance" p) [e,.Name "int" p2] [] pos) (b1 (fun b=>if qj b=true then none else some (.z (.bl (nF (toD b))))) f):=⟨by
 have he:=he.run
 have hc:gn X (.builtin "isinstance") (fun xs H Q=>∃ b x,xs=[x,.ty "int"]/\bF X.K H b x/\qj b=false/\Q (.bl (nF (toD b))) H):=by
  intro pins s σ H xs us Q I r h
  obtain⟨b,x,rfl,rb,hmb,q⟩:=h
  obtain⟨u,w',rfl,r1,r2⟩:=vals2 r
  cases r2
  exact aeF I (rb.toD hmb) r1 q
 have ha:PA X [e,.Name "int" p2] (DK (tF X.K f) (DK (tC (.ty "int")) Ze)):=jL he (jL (JZ hg2 hm2 (v:=.ty "int") (u:=.type "int") WQ rfl) tK) (by rw[hs]<;>rfl)
 refine Io (qW hc hg hm qH ha (by decide) (by decide) (by rw[hs]<;>rfl) rfl) fun σ H Q h=>?_
 obtain⟨H0,ρ,c,E,e,q⟩:=h
 obtain⟨b,eb,e⟩:=bind_some e
 split at e
 ·cases e
 rename_i hz
 cases e
 exact⟨H0,ρ,b,E,eb,fun v H1 s1 n1 r1=>⟨b,v,rfl,r1,by simpa using hz,q _ _ s1 trivial WL⟩⟩⟩
def jz:Dt->Bool
 |.str _=>true
 |_=>false
theorem aeG (I:L2.Inv X pins σ H s) {d:Dt} {x:V} {v:Value} {Q:VK} (rd:lg X.K H d x) (rv:RelV x v) (q:Q (.bl (jz d)) H):wpAny (model X.prog X.w) X.A (call (.builtin "isinstance") [v,.type "str"]) (EP X pins σ Q) X.xe s:=by
 cases d with
 |non=>simp only[lg,Rep] at rd;subst rd;cases rv;exact IsiPair.NoneType_str ⟨.bl _,H,I.tok _,rfl,q⟩
 |bl b=>simp only[lg,Rep] at rd;subst rd;cases rv;exact IsiPair.bool_str ⟨.bl _,H,I.tok _,rfl,q⟩
 |int b=>simp only[lg,Rep] at rd;subst rd;obtain⟨t,rfl⟩:=rv;exact IsiPair.int_str ⟨.bl _,H,I.tok _,rfl,q⟩
 |str b=>simp only[lg,Rep] at rd;obtain⟨rfl,_⟩:=rd;obtain⟨t,rfl⟩:=rv;exact IsiPair.str_str ⟨.bl _,H,I,rfl,q⟩
 |tup ds=>simp only[lg,Rep] at rd;obtain⟨a,vs,rfl,sq,_⟩:=rd;cases rv;obtain⟨_,_,p,_⟩:=I.tuple sq;exact IsiPair.isTuple_str p (fun _ _ e=>e) ⟨.bl _,H,I.tok _,rfl,q⟩
 |lst ds=>simp only[lg] at rd;obtain⟨a,vs,rfl,sq,_⟩:=rd;cases rv;obtain⟨_,_,p,_⟩:=I.list sq;exact IsiPair.isList_str p.isList (fun _ _ e=>e) ⟨.bl _,H,I.tok _,rfl,q⟩
 |emp=>simp only[lg,Rep] at rd;obtain⟨a,o,rfl,sq⟩:=rd;cases rv;obtain⟨ob,e,c⟩:=uI I sq;exact IsiPair.dict_str e c ⟨.bl _,H,I.tok _,rfl,q⟩
theorem CJ {e:Expr} {f:Ev->Option Bx} {p p2 pos:Pos} (he:QV X e f) (hg:Gl X "isinstance") (hm:X.mg "isinstance" = none) (hg2:Gl X "str") (hm2:X.mg "str" = none) (hs:starEach [e,.Name "str" p2] X.env=[(false,eval e X.env),(false,eval (.Name "str" p2) X.env)]:=by rfl):QV X (.Call (.Name "isinstance" p) [e,.Name "str" p2] [] pos) (b1 (fun b=>if qj b=true then none else some (.z (.bl (jz (toD b))))) f):=⟨by
 have he:=he.run
 have hc:gn X (.builtin "isinstance") (fun xs H Q=>∃ b x,xs=[x,.ty "str"]/\bF X.K H b x/\qj b=false/\Q (.bl (jz (toD b))) H):=by
  intro pins s σ H xs us Q I r h
  obtain⟨b,x,rfl,rb,hmb,q⟩:=h
  obtain⟨u,w',rfl,r1,r2⟩:=vals2 r
  cases r2
  exact aeG I (rb.toD hmb) r1 q
 have ha:PA X [e,.Name "str" p2] (DK (tF X.K f) (DK (tC (.ty "str")) Ze)):=jL he (jL (JZ hg2 hm2 (v:=.ty "str") (u:=.type "str") ahk rfl) tK) (by rw[hs]<;>rfl)
 refine Io (qW hc hg hm qH ha (by decide) (by decide) (by rw[hs]<;>rfl) rfl) fun σ H Q h=>?_
 obtain⟨H0,ρ,c,E,e,q⟩:=h
 obtain⟨b,eb,e⟩:=bind_some e
 split at e
 ·cases e
 rename_i hz
 cases e
 exact⟨H0,ρ,b,E,eb,fun v H1 s1 n1 r1=>⟨b,v,rfl,r1,by simpa using hz,q _ _ s1 trivial WL⟩⟩⟩
def is_tuple:Dt->Bool
 |.tup _=>true
 |_=>false
theorem Zx (I:L2.Inv X pins σ H s) {d:Dt} {x:V} {v:Value} {Q:VK} (rd:lg X.K H d x) (rv:RelV x v) (q:Q (.bl (is_tuple d)) H):wpAny (model X.prog X.w) X.A (call (.builtin "isinstance") [v,.type "tuple"]) (EP X pins σ Q) X.xe s:=by
 cases d with
 |non=>simp only[lg,Rep] at rd;subst rd;cases rv;exact IsiPair.NoneType_tuple ⟨.bl _,H,I.tok _,rfl,q⟩
 |bl b=>simp only[lg,Rep] at rd;subst rd;cases rv;exact IsiPair.bool_tuple ⟨.bl _,H,I.tok _,rfl,q⟩
 |int b=>simp only[lg,Rep] at rd;subst rd;obtain⟨t,rfl⟩:=rv;exact IsiPair.int_tuple ⟨.bl _,H,I.tok _,rfl,q⟩
 |str b=>simp only[lg,Rep] at rd;obtain⟨rfl,_⟩:=rd;obtain⟨t,rfl⟩:=rv;exact IsiPair.str_tuple ⟨.bl _,H,I.tok _,rfl,q⟩
 |tup ds=>simp only[lg,Rep] at rd;obtain⟨a,vs,rfl,sq,_⟩:=rd;cases rv;obtain⟨_,_,p,_⟩:=I.tuple sq;exact IsiPair.isTuple_tuple p (fun _ _ e=>e) ⟨.bl _,H,I,rfl,q⟩
 |lst ds=>simp only[lg] at rd;obtain⟨a,vs,rfl,sq,_⟩:=rd;cases rv;obtain⟨_,_,p,_⟩:=I.list sq;exact IsiPair.isList_tuple p.isList (fun _ _ e=>e) ⟨.bl _,H,I.tok _,rfl,q⟩
 |emp=>simp only[lg,Rep] at rd;obtain⟨a,o,rfl,sq⟩:=rd;cases rv;obtain⟨ob,e,c⟩:=uI I sq;exact IsiPair.dict_tuple e c ⟨.bl _,H,I.tok _,rfl,q⟩
theorem fZ {e:Expr} {f:Ev->Option Bx} {p p2 pos:Pos} (he:QV X e f) (hg:Gl X "isinstance") (hm:X.mg "isinstance" = none) (hg2:Gl X "tuple") (hm2:X.mg "tuple" = none) (hs:starEach [e,.Name "tuple" p2] X.env=[(false,eval e X.env),(false,eval (.Name "tuple" p2) X.env)]:=by rfl):QV X (.Call (.Name "isinstance" p) [e,.Name "tuple" p2] [] pos) (b1 (fun b=>if qj b=true then none else some (.z (.bl (is_tuple (toD b))))) f):=⟨by
 have he:=he.run
 have hc:gn X (.builtin "isinstance") (fun xs H Q=>∃ b x,xs=[x,.ty "tuple"]/\bF X.K H b x/\qj b=false/\Q (.bl (is_tuple (toD b))) H):=by
  intro pins s σ H xs us Q I r h
  obtain⟨b,x,rfl,rb,hmb,q⟩:=h
  obtain⟨u,w',rfl,r1,r2⟩:=vals2 r
  cases r2
  exact Zx I (rb.toD hmb) r1 q
 have ha:PA X [e,.Name "tuple" p2] (DK (tF X.K f) (DK (tC (.ty "tuple")) Ze)):=jL he (jL (JZ hg2 hm2 (v:=.ty "tuple") (u:=.type "tuple") wM rfl) tK) (by rw[hs]<;>rfl)
 refine Io (qW hc hg hm qH ha (by decide) (by decide) (by rw[hs]<;>rfl) rfl) fun σ H Q h=>?_
 obtain⟨H0,ρ,c,E,e,q⟩:=h
 obtain⟨b,eb,e⟩:=bind_some e
 split at e
 ·cases e
 rename_i hz
 cases e
 exact⟨H0,ρ,b,E,eb,fun v H1 s1 n1 r1=>⟨b,v,rfl,r1,by simpa using hz,q _ _ s1 trivial WL⟩⟩⟩
def tFO (K:FG_) (f:Ev->Option (Option Int)):TO:=fun σ H Q=>∃ H0 ρ o,cF K H0 H σ ρ/\f ρ=some o/\∀ H',Same H H'->Q o H'
def PVo (X:Cx) (e:Option Expr) (f:Ev->Option (Option Int)):Prop:=PO X e (tFO X.K f)
structure QVo (X:Cx) (e:Option Expr) (f:Ev->Option (Option Int)):Prop where
 run:PVo X e f
theorem poM {e:Option Expr} {t t':TO} (h:PO X e t) (m:∀ σ H Q,t' σ H Q->t σ H Q):PO X e t':=fun pins s σ H Q I q=>h pins s σ H Q I (m σ H Q q)
def dR:Ev->Option (Option Int):=fun _=>some none
theorem cM  : QVo X none dR:=⟨poM ad4 fun σ H Q h=>by
 obtain⟨H0,ρ,o,E,e,q⟩:=h
 cases e
 exact q H (Same.refl H)⟩
def ahm:Bx->Option (Option Int)
 |.z (.int i)=>some (some i)
 |_=>none
def dZ (f:Ev->Option Bx):Ev->Option (Option Int):=fun ρ=>(f ρ).bind ahm
theorem bW {e:Expr} {f:Ev->Option Bx} (h:QV X e f):QVo X (some e) (dZ f):=⟨have h:=h.run;poM (ad5 h) fun σ H Q q=>by
 obtain⟨H0,ρ,o,E,e,q⟩:=q
 obtain⟨b,eb,e⟩:=bind_some e
 refine⟨H0,ρ,b,E,eb,fun v H1 s1 n1 r1=>?_⟩
 unfold ahm at e
 split at e
 ·rename_i i
  cases e
  exact⟨i,Rr r1,q H1 s1⟩
 ·cases e⟩
def cutD (xs:List Dt) (lo hi:Option Int):List Dt:=(xs.drop (HT.kY xs.length 0 lo)).take (HT.kY xs.length xs.length hi - HT.kY xs.length 0 lo)
theorem Uo {K:FG_} {H:Hp} {ds:List Dt} {vs:List V} (r:aR K H ds vs) (lo hi:Option Int):aR K H (cutD ds lo hi) (T9 vs lo hi):=by
 unfold cutD T9
 rw[r.length]
 exact (r.drop _).take _
theorem aby (ds:List Dt) {lo hi:Option Int} (h1:HT.kY ds.length 0 lo=0) (h2:HT.kY ds.length ds.length hi=ds.length):cutD ds lo hi=ds:=by
 unfold cutD
 rw[h1,h2]
 simp
theorem Ek {t sl:Addr} {items:Array Value} {vl vu:Value} {lo hi:Option Int} {Q:VP_} {prog:Program} {w:World} {A:Around} {E:VP_} {s:Shared} (ht:IsTup s.heap t items) (hs:s.heap.IsSliceOf sl vl vu .none) (pl:IsPart vl lo) (pu:IsPart vu hi)
  (h1:HT.kY items.size 0 lo=0) (h2:HT.kY items.size items.size hi=items.size)
  (h:Q (.ref t) s):wpAny (model prog w) A (getItem (.ref t) (.ref sl)) Q E s:=by
 obtain⟨os,hos,hcs,hds⟩:=id hs
 have hTs:s.TypeIs (.ref sl) "slice" := ⟨os,hos,hcs⟩
 unfold getItem
 try with_reducible refine QI ?_
 first|refine zd (ze ?_)|skip
 refine zd (wpAny_sequenceKey ht.typeIs (by decide) ?_)
 refine zd (ky (name:=Str.ofString "__getitem__") ht.typeIs PyProof.Rows.slot_tuple_getitem
  (QR PyProof.Rows.slot_tuple_getitem ht.typeIs entry_tuple_getitem ?_ (args_tuple_getitem _ _)))
 show wpAny _ _ (Builtin.Tuple.tupleItemsOf (.ref t) >>= _) _ _ s
 refine zd (tupleItemsOf_ ht ?_)
 refine zd (QN hTs ?_)
 rw[zo (by decide)]
 refine zd (HT.wI hs pl pu ?_)
 have hyes:(((HT.kY items.size 0 lo:Nat):Int)==0&&(1:Int)==1&&(HT.kY items.size items.size hi - HT.kY items.size 0 lo)==items.size)=true:=by
  rw[h1,h2];simp
 show wpAny _ _ (if (((HT.kY items.size 0 lo:Nat):Int)==0&&(1:Int)==1&&(HT.kY items.size items.size hi - HT.kY items.size 0 lo)==items.size)=true then _ else _) _ _ s
 rw[zo hyes]
 first
  |refine zd (zd (QN ht.typeIs (ze ?_)))
  |refine zd (QN ht.typeIs (zd (ze ?_)))
  |refine zd (QN ht.typeIs ?_)
 rw[zo (by decide)]
 first
  |exact zd (kq (ze ⟨_,rfl,ze h⟩))
  |exact zd (kq (zd (ze (ze ⟨_,rfl,ze h⟩))))
def slB (b:Bx) (lo hi:Option Int):Option Bx:=match b with
 |.z (.str x)=>some (.z (.str (Txt.slice x lo hi)))
 |.z (.tup ds)=>some (.z (.tup (cutD ds lo hi)))
 |b=>(xP b).bind fun ds=>some (.o (cutD ds lo hi))
def rSl (K:FG_):V->Option Int->Option Int->Hp->VK->Prop:=fun x lo hi H Q=>∃ b c,bF K H b x/\slB b lo hi=some c/\∀ w H',Same H H'->Nw H c w->bF K H' c w->Q w H'
theorem ahn:SlR X (rSl X.K):=by
 intro pins s σ H x v vl vu lo hi sl Q I rx hs pl pu h
 obtain⟨b,c,rb,e,q⟩:=h
 unfold slB at e
 split at e
 ·rename_i y
  cases e
  obtain⟨rfl,hy⟩:=inS rb
  obtain⟨t,rfl⟩:=rx
  refine⟨"str", _,F.slot_str_getitem.lookup,typeIs_str _ _ _,?_⟩
  obtain⟨o,e1,e2,e3⟩:=hs
  have fin:∀ t' k,EP X pins σ Q (.str (Txt.slice y lo hi) t') { s with toks:=k }:=fun t' k=>⟨.str _,H,I.tok _,⟨_,rfl⟩,q _ H (Same.refl H) trivial (aeA (zw (Txt.slice_le y _ _) hy))⟩
  cases pl with
  |none=>
   cases pu with
   |none=>exact ku (l:=none) (u:=none) (st:=none) ⟨o,e1,e2,e3⟩ rfl (post_val_or_str ⟨zw (Txt.slice_le y _ _) hy,fin⟩)
   |int j uj=>exact ku (l:=none) (u:=some (j,uj)) (st:=none) ⟨o,e1,e2,e3⟩ rfl (post_val_or_str ⟨zw (Txt.slice_le y _ _) hy,fin⟩)
  |int i ui=>
   cases pu with
   |none=>exact ku (l:=some (i,ui)) (u:=none) (st:=none) ⟨o,e1,e2,e3⟩ rfl (post_val_or_str ⟨zw (Txt.slice_le y _ _) hy,fin⟩)
   |int j uj=>exact ku (l:=some (i,ui)) (u:=some (j,uj)) (st:=none) ⟨o,e1,e2,e3⟩ rfl (post_val_or_str ⟨zw (Txt.slice_le y _ _) hy,fin⟩)
 ·rename_i ds
  cases e
  obtain⟨a,vs,rfl,sq,rs⟩:=inT rb
  by_cases hw:HT.kY vs.length 0 lo=0/\HT.kY vs.length vs.length hi=vs.length
  ·cases rx
   obtain⟨its,r,ht,hz⟩:=I.tuple sq
   have hlen:its.toArray.size=vs.length:=by rw[zr];exact r.length.symm
   refine⟨"tuple", _,PyProof.Rows.slot_tuple_getitem.lookup,ht.typeIs,Ek ht hs pl pu (by rw[hlen];exact hw.1) (by rw[hlen];exact hw.2) ⟨.ref a,H,I,rfl,q _ H (Same.refl H) trivial ?_⟩⟩
   rw[aby ds (by rw[<-rs.length];exact hw.1) (by rw[<-rs.length];exact hw.2)]
   exact rb
  ·refine ag1 pins s σ H _ v vl vu lo hi sl Q I rx hs pl pu ⟨a,vs,rfl,sq,hw,fun p hp=>q _ _ (bV hp) trivial ?_⟩
   unfold bF Rep
   exact⟨p,_,rfl,.inl (.inl bU),(Uo rs lo hi).kp (.of (bV hp))⟩
 ·obtain⟨ds,ed,e⟩:=bind_some e
  cases e
  obtain⟨a,vs,rfl,sq,rs⟩:=rb.Pk ed
  exact aea pins s σ H _ v vl vu lo hi sl Q I rx hs pl pu ⟨a,vs,rfl,sq,fun p hp=>q _ _ (bV hp) (fun a ea=>by cases ea;exact hp) ⟨p,_,rfl,bU,(Uo rs lo hi).kp (.of (bV hp))⟩⟩
def wG (f:Ev->Option Bx) (fl fh:Ev->Option (Option Int)):Ev->Option Bx:=fun ρ=>(f ρ).bind fun b=>(fl ρ).bind fun lo=>(fh ρ).bind fun hi=>slB b lo hi
theorem jE {e:Expr} {lo hi:Option Expr} {f:Ev->Option Bx} {fl fh:Ev->Option (Option Int)} {p2 pos:Pos} (he:QV X e f) (hl:QVo X lo fl) (hh:QVo X hi fh):QV X (.Subscript e (.Slice lo hi none p2) pos) (wG f fl fh):=⟨have he:=he.run;have hl:=hl.run;have hh:=hh.run;Io (aa4 ahn he hl hh) fun σ H Q h=>by
 obtain⟨H0,ρ,c,E,e,q⟩:=h
 obtain⟨b,eb,e⟩:=bind_some e
 obtain⟨lo,el,e⟩:=bind_some e
 obtain⟨hi,eh,e⟩:=bind_some e
 refine⟨H0,ρ,b,E,eb,fun v H1 s1 n1 r1=>⟨H0,ρ,lo,E.grow s1,el,fun H2 s2=>⟨H0,ρ,hi,E.grow (s1.trans s2),eh,fun H3 s3=>?_⟩⟩⟩
 have s13:=(s1.trans s2).trans s3
 exact⟨b,c,(r1.same s2).same s3,e,fun w H4 s4 n4 r4=>q w H4 (s13.trans s4) (n4.old s13) r4⟩⟩
def tM:List Bx->Option Bx
 |[.z (.str x)]=>some (.z (.int x.length))
 |[b]=>(vU b).bind fun ds=>some (.z (.int ds.length))
 |_=>none
theorem rep1 {K:FG_} {H:Hp} {b:Bx} {vs:List V} (r:wJ K H [b] vs):∃ v,vs=[v]/\bF K H b v:=by
 cases r with
 |cons p t=>cases t;exact⟨_,rfl,p⟩
theorem rep2 {K:FG_} {H:Hp} {b c:Bx} {vs:List V} (r:wJ K H [b,c] vs):∃ v u,vs=[v,u]/\bF K H b v/\bF K H c u:=by
 cases r with
 |cons p t=>
  cases t with
  |cons p' t'=>cases t';exact⟨_,_,rfl,p,p'⟩
theorem qm:wK X (.builtin "len") tM:=gn.imp (Rb.or Rc) fun xs H Q q=>by
 obtain⟨bs,c,rb,e,q⟩:=q
 unfold tM at e
 split at e
 ·rename_i x
  cases e
  obtain⟨v,rfl,r1⟩:=rep1 rb
  obtain⟨rfl,hx⟩:=inS r1
  exact .inr ⟨x,rfl,hx,q _ H (Same.refl H) trivial Jv⟩
 ·obtain⟨ds,ed,e⟩:=bind_some e
  cases e
  obtain⟨v,rfl,r1⟩:=rep1 rb
  obtain⟨p,vs,rfl,sq,rs⟩:=zN r1 ed
  exact .inl ⟨p,vs,rfl,sq,by rw[rs.length];exact q _ H (Same.refl H) trivial Jv⟩
 ·cases e
def Zy:List Bx->Option Bx
 |[.z (.int i)]=>some (.z (.int (if i < 0 then -i else i)))
 |_=>none
theorem aho:wK X (.builtin "abs") Zy:=gn.imp aaZ fun xs H Q q=>by
 obtain⟨bs,c,rb,e,q⟩:=q
 unfold Zy at e
 split at e
 ·rename_i i
  cases e
  obtain⟨v,rfl,r1⟩:=rep1 rb
  have:=Rr r1
  subst this
  exact⟨i,rfl,q _ H (Same.refl H) trivial Jv⟩
 ·cases e
def Zz:List Bx->Option Bx
 |[.z (.int i)]=>some (.z (.int i))
 |[.z (.bl k)]=>some (.z (.int (if k then 1 else 0)))
 |_=>none
theorem abz:wK X (.type "int") Zz:=gn.imp Zd fun xs H Q q=>by
 obtain⟨bs,c,rb,e,q⟩:=q
 unfold Zz at e
 split at e
 ·rename_i i
  cases e
  obtain⟨v,rfl,r1⟩:=rep1 rb
  have:=Rr r1
  subst this
  exact .inl ⟨i,rfl,q _ H (Same.refl H) trivial Jv⟩
 ·rename_i k
  cases e
  obtain⟨v,rfl,r1⟩:=rep1 rb
  simp only[bF,Rep] at r1
  subst r1
  exact .inr ⟨k,rfl,q _ H (Same.refl H) trivial Jv⟩
 ·cases e
def qY:List Bx->Option Bx
 |[b]=>(vU b).bind fun ds=>some (.o ds)
 |_=>none
theorem Bh:wK X (.type "list") qY:=gn.imp Rf fun xs H Q q=>by
 obtain⟨bs,c,rb,e,q⟩:=q
 unfold qY at e
 split at e
 ·obtain⟨ds,ed,e⟩:=bind_some e
  cases e
  obtain⟨v,rfl,r1⟩:=rep1 rb
  obtain⟨p,vs,rfl,sq,rs⟩:=zN r1 ed
  exact⟨p,vs,rfl,sq,fun l hl=>q _ _ (bV hl) (fun a ea=>by cases ea;exact hl) ⟨l,vs,rfl,bU,rs.kp (.of (bV hl))⟩⟩
 ·cases e
def vV:List Bx->Option Bx
 |[b]=>(vU b).bind fun ds=>some (.z (.tup ds))
 |_=>none
theorem KD:wK X (.type "tuple") vV:=gn.imp N8 fun xs H Q q=>by
 obtain⟨bs,c,rb,e,q⟩:=q
 unfold vV at e
 split at e
 ·obtain⟨ds,ed,e⟩:=bind_some e
  cases e
  obtain⟨v,rfl,r1⟩:=rep1 rb
  obtain⟨p,vs,rfl,sq,rs⟩:=zN r1 ed
  refine⟨p,vs,rfl,?_⟩
  rcases sq with sq|sq
  ·refine .inl ⟨sq,fun l hl=>q _ _ (bV hl) trivial ?_⟩
   unfold bF Rep
   exact⟨l,vs,rfl,.inl (.inl bU),rs.kp (.of (bV hl))⟩
  ·refine .inr ⟨sq,q _ H (Same.refl H) trivial ?_⟩
   unfold bF Rep
   exact⟨p,vs,rfl,sq,rs⟩
 ·cases e
def Py:List Dt->Option (List Bool)
 |[]=>some []
 |.bl b::ds=>(Py ds).bind fun bs=>some (b::bs)
 |_=>none
theorem KH {K:FG_} {H:Hp}:∀ {ds:List Dt} {bs:List Bool} {vs:List V} {us:List Value},Py ds=some bs->aR K H ds vs->Vals vs us->us=bs.map Value.bool
 |[],_,_,_,e,r,w=>by
  cases e
  simp only[aR] at r;subst r;cases w;rfl
 |d::ds,_,_,_,e,r,w=>by
  simp only[aR] at r
  obtain⟨v,r',rfl,h1,h2⟩:=r
  cases d<;>first|(cases e;done)|skip
  simp only[Py] at e
  obtain⟨bs,e1,e⟩:=bind_some e
  cases e
  simp only[Rep] at h1
  subst h1
  cases w with
  |cons p t=>
   cases p
   rw[KH e1 h2 t]
   rfl
theorem all_range (bs:List Bool):((List.range bs.length).all fun i=>bs.getD i false)=bs.all id:=by
 rw[kQ,QU,QU]
 constructor
 ·intro h b hb
  obtain⟨i,hi,rfl⟩:=List.mem_iff_getElem.mp hb
  have:=h i (by simpa using hi)
  simpa [List.getD,hi] using this
 ·intro h i hi
  have hi:i < bs.length:=by simpa using hi
  have:=h bs[i] (List.getElem_mem hi)
  simpa [List.getD,hi] using this
def allB:List Bx->Option Bx
 |[b]=>(xP b).bind fun ds=>(Py ds).bind fun bs=>some (.z (.bl (bs.all id)))
 |_=>none
theorem Uq {prog:Program} {w:World} {A:Around} (bs:List Bool):TruthOf prog w A (fun i v=>(bs.map Value.bool).toArray[i]?=some v) fun i=>bs.getD i false:=fun i v s Q E h q=>by
 have h':(bs.map Value.bool)[i]?=some v:=by simpa using h
 rw[ZT] at h'
 cases e:bs[i]? with
 |none=>rw[e] at h';cases h'
 |some b=>
  rw[e] at h'
  cases h'
  have:bs.getD i false=b:=by simp[List.getD,e]
  have q':Q b s:=by rw[<-this];exact q
  exact QA q'
theorem o7 (hc:X.calm=true):wK X (.builtin "all") allB:=by
 intro pins s σ H xs us Q I r h
 obtain⟨bs,c,rb,e,q⟩:=h
 unfold allB at e
 split at e
 ·obtain⟨ds,ed,e⟩:=bind_some e
  obtain⟨ks,ek,e⟩:=bind_some e
  cases e
  obtain⟨v,rfl,r1⟩:=rep1 rb
  obtain⟨a,vs,rfl,sq,rs⟩:=r1.Pk ed
  obtain⟨u,rfl,ru⟩:=vals1 r
  cases ru
  obtain⟨its,w,pl,hz⟩:=I.list sq
  have hv:=KH ek rs w
  have hlt:a < s.heap.objs.size:=by obtain⟨o,n,e,_⟩:=pl;exact zD e
  refine call_all_walk (KA pl.isList ?_)
  refine⟨s.heap.objs.size,_,_,_,_,_,fun i=>ks.getD i false,rfl,Walks.list (by show X.A.handled=none;exact I.ok.hd hc) s.heap.objs.size a (Zl hlt) its.toArray,⟨⟨_,zC _ rfl,rfl,rfl⟩,pl.isList.push _⟩,?_,fun h' tk k=>?_⟩
  ·rw[hv];exact Uq ks
  ·have hn:its.toArray.size=ks.length:=by rw[hv];simp
   rw[hn,all_range]
   have I1:L2.Inv X pins σ H { s with heap:=s.heap.push { cls:=.type "list_iterator", data:=.fields #[.ref a,.int 0 0] } }:=I.kept (t':=s.toks) fun b o e=>zg _ e
   refine⟨.bl _,H,?_,rfl,q _ H (Same.refl H) trivial WL⟩
   obtain⟨f0,f1,f2,f3,f4,f5⟩:=I.adV (b:=s.heap.objs.size) (H':=H) (zi _) (I.hok.fresh (zi _))
   exact I1.turned (it:=s.heap.objs.size) (fun b o hb e=>k b o (by simpa using hb) e) f0 f1 f3 f4 f5
 ·cases e
end
end P1
end
section
namespace P1
open PySem PySem.Spec PyProof.Rows L2
def gv (i:Nat):Ev->Option Bx:=fun ρ=>Js ρ i
def Pz (g:Bx->Bx->Option Bx) (fa fb:Ev->Option Bx):Ev->Option Bool:=fun ρ=>(b2 g fa fb ρ).bind DY
def tC3 (g g':Bx->Bx->Option Bx) (fa fb fc:Ev->Option Bx):Ev->Option Bool:=fun ρ=>(ch3 g g' fa fb fc ρ).bind DY
def tV (f:Ev->Option Bx):Ev->Option Bool:=fun ρ=>(f ρ).bind aei
def aC:Ev->Option (List Bx):=fun _=>some []
def n8 (p:Dt->Bool) (f:Ev->Option Bx):Ev->Option Bx:=b1 (fun b=>if qj b=true then none else some (.z (.bl (p (toD b))))) f
def gq:Ev->Option Out:=fun ρ=>some (.nx ρ)
def eX (f:Ev->Option Bx):Ev->Option Out:=fun ρ=>(f ρ).bind abl
def setG (i:Nat) (f:Ev->Option Bx):Ev->Option Out:=fun ρ=>(f ρ).bind fun b=>(abm ρ i b).bind fun ρ'=>some (.nx ρ')
def ZC (gt:Dt->Ev->Option Ev) (f:Ev->Option Bx):Ev->Option Out:=fun ρ=>(f ρ).bind fun b=>match b with|.z d=>(gt d ρ).bind fun ρ'=>some (.nx ρ')|_=>none
def aeH (i j:Nat) (fs:Ev->Option (List Bx)):Ev->Option Out:=fun ρ=>(fs ρ).bind (aeo i j ρ)
def CK (i:Nat) (f:Ev->Option Bx):Ev->Option Out:=fun ρ=>(f ρ).bind (aep ρ i)
def CN (fi:Ev->Option (List Dt)) (gt:Dt->Ev->Option Ev) (gb:Ev->Option Out):Ev->Option Out:=fun ρ=>(fi ρ).bind fun ds=>zH gt gb ds ρ
def itF (f:Ev->Option Bx):Ev->Option (List Dt):=fun ρ=>(f ρ).bind aer
def Bj (f:Ev->Option Bx):Ev->Option (List Dt):=fun ρ=>(f ρ).bind abt
def PJ (fs:Ev->Option (List Bx)):Ev->Option (List Dt):=fun ρ=>(fs ρ).bind ahc
def mK (i:Nat):Dt->Ev->Option Ev:=fun d ρ=>some (ρ.set i (some (.z d)))
def jM:Ev->Option Bool:=fun _=>some true
theorem bL {X:Cx}:WD X [] jM:=⟨.inl ⟨rfl,rfl⟩⟩
theorem ahp {X:Cx} {scope:Scope} {cl:List (Str×Addr)}:Ob X scope cl [] []:=trivial
theorem aeI {X:Cx} {scope:Scope} {cl:List (Str×Addr)} {x:Str} {i:Nat} {xs:LS_} {is:List Nat} (n:X.N[i]?=some x) (k:X.env.kindOf x=some .cell\/X.env.kindOf x=some .free)
  (k':(relabel scope X.env).names.lookup x=some .cell\/(relabel scope X.env).names.lookup x=some .free) (c:∃ c,cl.lookup x=some c) (r:Ob X scope cl xs is):Ob X scope cl (x::xs) (i::is):=⟨⟨n,k,k',c⟩,r⟩
theorem mem_of_lookup {names:List (Str×NameKind)} {x:Str} {k:NameKind}:names.lookup x=some k->(x,k)∈names:=JA
theorem ahq {X:Cx} {scope:Scope} {cl:List (Str×Addr)} {xs:LS_} {is:List Nat} (clos:closureFor scope X.env=pure cl) (kind:scope.kind=.function) (cell:scope.names.all (fun y=>decide (y.2≠.cell)||(cl.lookup y.1).isNone)=true)
  (names:scope.names.all (fun y=>decide (y.2=.local->scope.names.lookup y.1=some .local))=true) (sub:SubL X.env.cells cl)
  (has:(relabel scope X.env).names.all (fun y=>!(y.2==.cell||y.2==.free)||(cl.lookup y.1).isSome||scope.names.contains (y.1,.cell))=true) (cap:Ob X scope cl xs is):Cz X scope cl xs is where
 clos:=clos
 kind:=kind
 cell:=fun y hy hc=>by
  have:=List.all_eq_true.mp cell y hy
  simp only[hc,ne_eq,not_true_eq_false,kc,KL,Option.isNone_iff_eq_none] at this
  exact this
 names:=fun y hy=>QE (List.all_eq_true.mp names y hy)
 sub:=sub
 has:=fun x hx=>by
  have h:∃ k,(relabel scope X.env).names.lookup x=some k/\(k==NameKind.cell||k==NameKind.free)=true:=by
   rcases hx with hx|hx
   ·exact⟨_,hx,rfl⟩
   ·exact⟨_,hx,rfl⟩
  obtain⟨k,e,hk⟩:=h
  have:=List.all_eq_true.mp has _ (mem_of_lookup e)
  simp only[hk,js,KL,Bool.or_eq_true] at this
  rcases this with h|h
  ·exact .inr (Option.isSome_iff_exists.mp h)
  ·exact .inl (List.contains_iff_mem.mp h)
 cap:=cap
theorem cU {k:Nat} {A:Around} (r:pX k A):A.units+100 < cLine:=by have:=r.un;omega
theorem ahr {F:List Bx->Option Bx} (h:∀ ns:List Int,ns.length<=63->F [.z (.lst (ns.map .int))]=some (.z (.bl true))) (hl:∀ ns:List Int,ns.length<=63->F [.l (ns.map .int)]=some (.z (.bl true))) (K:FG_) (H:Hp) (a:Addr) (ns:List Int) (hn:ns.length<=63) (_:Only H) (hS:yK K H a (ns.map V.int)) :
  jD K 1 F [.ref a] H (fun v _=>v=.bl true) fun _ _ _=>False:=by
 have rs:∀ ms:List Int,aR K H (ms.map Dt.int) (ms.map V.int):=fun ms=>by
  induction ms with
  |nil=>exact aR.nil
  |cons m ms ih=>exact aR.cons (by unfold Rep;rfl) ih
 have fin:∀ v (H':Hp),Same H H'->Nw H (.z (.bl true)) v->bF K H' (.z (.bl true)) v->v=.bl true:=fun v H' _ _ r=>by simpa only[bF,Rep] using r
 rcases hS with hS|hS
 ·exact⟨rfl,[.l (ns.map .int)],_,.cons ⟨a,_,rfl,hS,rs ns⟩ .nil,rfl,hl ns hn,fin⟩
 ·refine⟨rfl,[.z (.lst (ns.map .int))],_,.cons ?_ .nil,rfl,h ns hn,fin⟩
  unfold bF Rep
  exact⟨a,_,rfl,.inr hS,rs ns⟩
theorem ajh {P:Program} {w:World} {K:FG_} {mg:Str->Option Value} {base:Heap} {x qual:Str} {st:Stmt} {f:Addr} {fd:FuncData} {N ps:LS_} {k n m:Nat} {g:Ev->Option Out} (F:zF K x qual st f fd) (S:bT N ps (aW st)) (hn:N.length=n) (hm:ps.length=m)
  (hbody:∀ (cdv:Value) (A:Around) (outer:List Env) (s:Shared) (H:Hp) (E:XK),pX k (A.deeper (envOfC qual (aW st) s.heap.objs.size f cdv))->PGs (Q7 jh P w K mg base N qual (aW st) f cdv A outer s H E).nox (qG st) g) :
  bM P w K mg base jh (k+1) f fd ps (jD K m (fu n g)):=by
 subst hn hm
 exact alm F S hbody
section
variable {X:Cx} {e st:Expr} {f fs:Ev->Option Bx} {pos p2:Pos}
theorem Ur {pins:List (Addr×Obj)} {σ:L2.St} {H:Hp} {s:Shared} {a:Addr} (I:L2.Inv X pins σ H s) (h:H a=some (.dK [])):∃ o,L2.Inv X pins σ (upd H a (.Dw o (.dK []))) s:=by
 have hk:=I.hok a _ h
 obtain⟨z1,z2,z3,z4,o,z5,z6,e,ex⟩:=hk
 refine⟨o,⟨I.ok,I.os,I.bare,⟨I.base.keep,I.base.slot,fun b ob q1 q2 q3=>?_,I.base.there,fun b xs q=>?_,fun b ob u q=>?_,fun b ps q=>?_⟩,I.loc,I.cell,?_,fun x c q=>?_,fun p hp=>?_,?_,I.len⟩⟩
 ·have:=I.base.free b ob q1 q2 q3
  rw[aY (cH h this).symm];exact this
 ·have:=I.base.tups b xs q
  rw[aY (tH this h (by intro z;cases z))];exact this
 ·have:=I.base.Cy b ob u q
  rw[aY (tH this h (by intro z;cases z))];exact this
 ·obtain⟨m,this⟩:=I.base.Dz b ps q
  rw[aY (tH this h (by intro z;cases z))];exact⟨m,this⟩
 ·rw[aY (cH h I.free).symm];exact I.free
 ·rw[aY (cH h (I.rQ x c q)).symm];exact I.rQ x c q
 ·obtain⟨q1,q2,q3⟩:=I.pin p hp
  refine⟨q1,?_,q3⟩
  rw[aY (cH h q2).symm];exact q2
 ·intro b u q
  by_cases hb:b=a
  ·subst hb
   rw[bU] at q;cases q
   exact⟨e,z1,z2,z3,z4,o,z5,z6,e,ex⟩
  ·rw[aY hb] at q
   refine (I.hok b u q).stay (fun c v _ w=>w) (fun c w=>?_) fun c xs w=>?_
   ·rw[aY (tH w h (by intro z;cases z))];exact w
   ·rw[aY (tH w h (by intro z;cases z))];exact w
theorem abA  : QV X (.Dict [] [] pos) (cB .emp):=⟨by
 intro pins s σ H Q I q
 obtain⟨H0,ρ,b,E,e,q⟩:=q
 cases e
 refine mU (aa7 pins s σ H (fun v H'=>∃ p,v=.ref p/\H p=none/\H'=upd H p (.dK [])) I fun p hp=>⟨p,rfl,hp,rfl⟩) fun u s1 hq=>?_
 obtain⟨v,H1,I1,rv,p,rfl,hp,rfl⟩:=hq
 obtain⟨o,I2⟩:=Ur I1 bU
 refine⟨.ref p,_,I2,rv,q _ _ (fun c ob hc=>?_) trivial ?_⟩
 ·rw[aY (cH hc hp),aY (cH hc hp)];exact hc
 ·simp only[bF,Rep]
  exact⟨p,o,rfl,bU⟩⟩
section
variable {prog:Program} {w:World} {A:Around} {E:VP_} {s:Shared}
theorem WR (n:Nat):Builtin.Slice.slicePlaces ((n:Int) - 1) (-1) (-1)=n:=by
 unfold Builtin.Slice.slicePlaces
 simp only[show ¬ ((-1:Int) > 0) by decide,ZH,show -(-1:Int)=1 by decide,Int.ediv_one]
 split<;>omega
theorem GC {sl:Addr} {u:Tok} {n:Nat} {Q:Int×Int×Nat->Shared->Prop} (hs:s.heap.IsSliceOf sl .none .none (.int (-1) u)) (h:Q ((n:Int) - 1,-1,n) s):wpAny (model prog w) A (Builtin.Slice.sliceApplied (.ref sl) (pure (n:Int))) Q E s:=by
 obtain⟨os,hos,hcs,hds⟩:=id hs
 unfold Builtin.Slice.sliceApplied Builtin.Slice.sliceFields
 refine zd (zd (Kt hos hds (x:=.none) rfl (zd (Kt hos hds (x:=.none) rfl (zd (Kt hos hds (x:=.int (-1) u) rfl (ze ?_)))))))
 refine zd (HT.tL (.int (-1) u) ?_)
 show wpAny _ _ (if ((-1:Int)==0)=true then _ else _) _ _ s
 rw[zI (by decide)]
 refine zd (HT.tL .none (zd (HT.tL .none (zd (ze ?_)))))
 show wpAny _ _ (pure ((n:Int) - 1,(-1:Int),Builtin.Slice.slicePlaces ((n:Int) - 1) (-1) (-1))) _ _ s
 rw[WR]
 exact ze h
theorem KJ {α β:Type} {f:α->Option β} {g:α->β}:∀ l:List α,(∀ a∈l,f a=some (g a))->l.filterMap f=l.map g
 |[],_=>rfl
 |a::l,h=>by
  rw[kl,h a (zt ..),zz,KJ l fun b hb=>h b (zl _ hb)]
theorem abB (xs:Array Value):((List.range xs.size).filterMap fun (m:Nat)=>xs[(((xs.size:Nat):Int) - 1+(m:Int) * (-1)).toNat]?).toArray=xs.toList.reverse.toArray:=by
 congr 1
 rw[KJ (g:=fun m=>xs.toList.getD (xs.size - 1 - m) .none)]
 ·apply List.ext_getElem
  ·simp
  ·intro k h1 h2
   have hk:k < xs.size:=by simpa using h1
   rw[List.getElem_map,List.getElem_range,List.getElem_reverse,List.getD_eq_getElem?_getD,Zs (by simp;omega)]
   simp
 ·intro m hm
  have hm:=List.mem_range.mp hm
  have e:(((xs.size:Nat):Int) - 1+(m:Int) * (-1)).toNat=xs.size - 1 - m:=by omega
  have hl:xs.size - 1 - m < xs.size:=by omega
  rw[e,ZU hl,List.getD_eq_getElem?_getD,Zs (by simpa using hl)]
  simp
theorem El {t sl:Addr} {items:Array Value} {u:Tok} {Q:VP_} (ht:IsTup s.heap t items) (hs:s.heap.IsSliceOf sl .none .none (.int (-1) u))
  (h:Q (.ref s.heap.objs.size) { s with heap:=s.heap.push { cls:=.type "tuple", data:=.seq items.toList.reverse.toArray } })
  (hsz:items.size<=sizeLine):wpAny (model prog w) A (getItem (.ref t) (.ref sl)) Q E s:=by
 have DP:sizeOk (.seq items.toList.reverse.toArray):=by
  show items.toList.reverse.toArray.size<=sizeLine
  rw[zr,List.length_reverse,ZE]
  exact hsz
 obtain⟨os,hos,hcs,hds⟩:=id hs
 have hTs:s.TypeIs (.ref sl) "slice" := ⟨os,hos,hcs⟩
 unfold getItem
 try with_reducible refine QI ?_
 first|refine zd (ze ?_)|skip
 refine zd (wpAny_sequenceKey ht.typeIs (by decide) ?_)
 refine zd (ky (name:=Str.ofString "__getitem__") ht.typeIs PyProof.Rows.slot_tuple_getitem
  (QR PyProof.Rows.slot_tuple_getitem ht.typeIs entry_tuple_getitem ?_ (args_tuple_getitem _ _)))
 show wpAny _ _ (Builtin.Tuple.tupleItemsOf (.ref t) >>= _) _ _ s
 refine zd (tupleItemsOf_ ht ?_)
 refine zd (QN hTs ?_)
 rw[zo (by decide)]
 refine zd (GC hs ?_)
 have hno:¬ ((((items.size:Int) - 1)==0&&(-1:Int)==1&&items.size==items.size)=true):=by
  rw[show ((-1:Int)==1)=false from rfl,jv,kb]
  exact ZI
 show wpAny _ _ (if (((items.size:Int) - 1)==0&&(-1:Int)==1&&items.size==items.size)=true then _ else _) _ _ s
 rw[zI hno,abB]
 first
  |exact zd (m:=Builtin.Tuple.tupleExact _) (ZZ (ze ⟨_,rfl,ze h⟩) DP)
  |exact zd (m:=Builtin.Tuple.tupleExact _) (ZZ (zd (ze (ze ⟨_,rfl,ze h⟩))) DP)
  |exact zd (zd (m:=Builtin.Tuple.tupleExact _) (ZZ (ze (ze ⟨_,rfl,ze h⟩)) DP))
  |exact zd (zd (m:=Builtin.Tuple.tupleExact _) (ZZ (ze ⟨_,rfl,ze h⟩) DP))
end
def KN:Bx->Bx->Option Bx
 |.z (.tup ds),.z (.int i)=>if i = -1 then some (.z (.tup ds.reverse)) else none
 |_,_=>none
theorem aR.rev {K:FG_} {H:Hp}:∀ {ds:List Dt} {vs:List V},aR K H ds vs->aR K H ds.reverse vs.reverse
 |[],_,h=>by simp only[aR] at h;subst h;exact aR.nil
 |d::ds,_,h=>by
  simp only[aR] at h
  obtain⟨v,r,rfl,hd,hr⟩:=h
  rw[KB,KB]
  exact aR.append (aR.rev hr) (aR.cons hd aR.nil)
theorem ZD {a b c:Bx} (h:KN a b=some c):∃ ds,a=.z (.tup ds)/\b=.z (.int (-1))/\c=.z (.tup ds.reverse):=by
 unfold KN at h
 split at h
 ·rename_i ds i
  split at h
  ·rename_i hi
   subst hi
   cases h
   exact⟨ds,rfl,rfl,rfl⟩
  ·cases h
 ·cases h
theorem WT (he:QV X e f) (hst:QV X st fs) (hsub:∀ v i:Value,subscripted (.Slice none none (some st) p2) false v i=operate [v,i] (getItem v i):=by intro _ _;with_unfolding_all rfl):QV X (.Subscript e (.Slice none none (some st) p2) pos) (b2 KN f fs):=⟨by
 have he:=he.run
 have hst:=hst.run
 intro pins s σ H Q I h
 obtain⟨H0,ρ,c,E,ee,q⟩:=h
 obtain⟨a,ea,ee⟩:=bind_some ee
 obtain⟨b,eb,ee⟩:=bind_some ee
 refine Subscript_ (mU (he pins s σ H (fun x H1=>Same H H1/\bF X.K H1 a x) I ⟨H0,ρ,a,E,ea,fun v H1 s1 n1 r1=>⟨s1,r1⟩⟩) fun v s1 ⟨x,H1,I1,r1,sm1,rep1⟩=>?_)
 refine wpAny_Slice ?_
 rw[evalPart_none]
 refine ze ?_
 refine ze ?_
 rw[evalPart_some]
 refine mU (hst pins s1 σ H1 (fun y H2=>Same H1 H2/\bF X.K H2 b y) I1 ⟨H0,ρ,b,E.grow sm1,eb,fun v H2 s2 n2 r2=>⟨s2,r2⟩⟩) fun vk s2 ⟨y,H2,I2,r2,sm2,rep2⟩=>?_
 obtain⟨ds,rfl,rfl,rfl⟩:=ZD ee
 have hy:y=.int (-1):=by simpa only[bF,Rep] using rep2
 subst hy
 obtain⟨tk,rfl⟩:=r2
 obtain⟨p,vs,rfl,sq,rs⟩:∃ p vs,x=.ref p/\BL X.K H2 p vs/\aR X.K H2 ds vs:=by
  have:=rep1.same sm2
  simpa only[bF,Rep] using this
 cases r1
 have I4:L2.Inv X pins σ H2 { s2 with heap:=s2.heap.push { cls:=.type "slice", data:=.fields #[.none,.none,.int (-1) tk] } }:=I2.kept (t':=s2.toks) fun b ob q=>zg _ q
 obtain⟨its,r,hq,hz⟩:=I4.tuple sq
 show wpAny (model X.prog X.w) X.A (subscriptTail e (.Slice none none (some st) p2) (.ref p) (.ref s2.heap.objs.size)) (EP X pins σ Q) X.xe { s2 with heap:=s2.heap.push { cls:=.type "slice", data:=.fields #[.none,.none,.int (-1) tk] } }
 refine tail_any (ops:=[.ref p,.ref s2.heap.objs.size]) hq.typeIs PyProof.Rows.slot_tuple_getitem.lookup (El hq (Heap.IsSliceOf.new ..) ?_ (by rw[zr,<-r.length];exact hz)) (hsub _ _)
 refine⟨.ref _,_,I4.laid (t':=s2.toks) (o:=.tup vs.reverse) (fun b ob q=>zg _ q) (zi _) ?_,rfl,q _ _ ((sm1.trans sm2).trans (bV (I4.hok.fresh (zi _)))) trivial ?_⟩
 ·exact⟨by rw[List.length_reverse];exact hz,_,r.reverse,qe.new _ _⟩
 ·simp only[bF,Rep]
  exact⟨_,_,rfl,.inl (.inl bU),(aR.rev rs).kp (.of (bV (I4.hok.fresh (zi _))))⟩⟩
theorem abC {st:List Stmt}:PGs X st (fun _=>none):=fun D pins s σ H I q=>by
 obtain⟨H0,ρ,r,E,e,q⟩:=q
 cases e
end
section
variable {X:Cx} {e:Expr} {f:Ev->Option Bx}
def TY:Bx->Bx->Option Bx
 |.z (.int i),.z (.int j)=>some (.z (.bl (decide (i < j))))
 |.z (.str x),.z (.str y)=>some (.z (.bl (decide (x.cps.toList < y.cps.toList))))
 |_,_=>none
theorem CP:Jr X (compareOp .Lt) TY:=by
 intro pins s σ H x y v u Q I rx ry h
 obtain⟨a,b,c,ra,rb,e,q⟩:=h
 unfold TY at e
 split at e
 ·rename_i i j
  cases e
  exact aiO pins s σ H x y v u Q I rx ry ⟨i,j,Rr ra,Rr rb,q _ H (Same.refl H) trivial (by unfold bF;exact okT)⟩
 ·rename_i i j
  cases e
  obtain⟨rfl,_⟩:=inS ra
  obtain⟨rfl,_⟩:=inS rb
  obtain⟨t,rfl⟩:=rx
  obtain⟨t',rfl⟩:=ry
  exact PySem.P.lt_str ⟨.bl _,H,I,rfl,q _ H (Same.refl H) trivial (by unfold bF;exact okT)⟩
 ·cases e
def yM:List Dt->Option LS_
 |[]=>some []
 |.str x::r=>(yM r).bind fun ys=>some (x::ys)
 |_=>none
theorem wN {K:FG_} {H:Hp}:∀ {ds:List Dt} {vs:List V} {ys:LS_},aR K H ds vs->yM ds=some ys->vs=ys.map V.str/\∀ y∈ys,y.length<=sizeLine
 |[],_,_,h,e=>by cases e;simp only[aR] at h;subst h;exact⟨rfl,fun y hy=>by cases hy⟩
 |.str x::ds,_,_,h,e=>by
  simp only[yM] at e
  obtain⟨ys,e1,e2⟩:=bind_some e
  cases e2
  simp only[aR] at h
  obtain⟨v,r,rfl,hd,hr⟩:=h
  obtain⟨rfl,hx⟩:v=.str x/\x.length<=sizeLine:=by simpa only[Rep] using hd
  obtain⟨rfl,h2⟩:=wN hr e1
  refine⟨rfl,fun y hy=>?_⟩
  rcases List.mem_cons.mp hy with rfl|hy
  ·exact hx
  ·exact h2 y hy
 |.non::_,_,_,_,e=>by cases e
 |.bl _::_,_,_,_,e=>by cases e
 |.int _::_,_,_,_,e=>by cases e
 |.tup _::_,_,_,_,e=>by cases e
 |.lst _::_,_,_,_,e=>by cases e
 |.emp::_,_,_,_,e=>by cases e
theorem KQ {K:FG_} {H:Hp}:∀ {ys:LS_},(∀ y∈ys,y.length<=sizeLine)->aR K H (ys.map Dt.str) (ys.map V.str)
 |[],_=>aR.nil
 |y::ys,h=>aR.cons (by unfold Rep;exact⟨rfl,h y (zt ..)⟩) (KQ fun z hz=>h z (zl _ hz))
theorem tO:∀ {ys:LS_} {its:List Value},Vals (ys.map V.str) its->StrsAre its ys
 |[],_,h=>by cases h;exact .nil
 |y::ys,_,h=>by
  cases h with
  |cons r t=>
   obtain⟨tk,rfl⟩:=r
   exact .cons y tk (tO t)
theorem GD:∀ {its:List Value} {ys:LS_},StrsAre its ys->Vals (ys.map V.str) its
 |_,_,.nil=>.nil
 |_,_,.cons y t h=>.cons ⟨t,rfl⟩ (GD h)
theorem Rv:gn X (.builtin "sorted") (fun xs H Q=>∃ p ys,xs=[.ref p]/\yK X.K H p (ys.map V.str)/\ys.length < 64/\∀ l zs,H l=none->zs.Perm ys->sortedS zs=true->Q (.ref l) (upd H l (.lst (zs.map V.str)))):=by
 intro pins s σ H xs us Q I r h
 obtain⟨p,ys,rfl,hq,h64,q⟩:=h
 obtain⟨u,rfl,rx⟩:=vals1 r
 cases rx
 obtain⟨its,r',pl,hz⟩:=I.list hq
 have hlen:=r'.length
 rw[zh] at hlen hz
 refine sorted_strs pl.isList (tO r') (by omega) fun out zs hs hp aji=>?_
 obtain⟨n,en⟩:=sortedAll_at s.heap its out
 refine⟨.ref (s.heap.objs.size+1),_,I.laid (t':=s.toks) (a:=s.heap.objs.size+1) (o:=.lst (zs.map V.str)) (fun b o e=>sortedAll_old e) (kr _) ?_,rfl,q _ zs (I.hok.fresh (kr _)) hp aji⟩
 refine⟨by rw[zh,hp.length_eq];exact hz,out.toList,n,GD hs,?_⟩
 rw[en]
def Rw (a b:Str):Prop:=ltCps b.cps.toList a.cps.toList=false
theorem Em:∀ (p:Str) (l:LS_),risingS p l=true->(p::l).Pairwise Rw
 |p,[],_=>by simp
 |p,x::r,h=>by
  have h':(!ltCps x.cps.toList p.cps.toList&&risingS x r)=true:=h
  rw[zv] at h'
  have ih:=Em x r h'.2
  have hx:Rw p x:=by simpa [Rw] using h'.1
  refine List.pairwise_cons.mpr ⟨fun y hy=>?_,ih⟩
  rcases List.mem_cons.mp hy with rfl|hy
  ·exact hx
  ·have hxy:Rw x y:=QQ ih hy
   unfold Rw at hx hxy ⊢
   rw[ltCps_eq] at hx hxy ⊢
   simp only[Q4] at hx hxy ⊢
   exact List.le_trans (α:=Nat) hx hxy
theorem Rx {l:LS_} (h:sortedS l=true):l.Pairwise Rw:=by
 cases l with
 |nil=>exact .nil
 |cons p l=>exact Em p l h
theorem Us {a b:Str} (h:Rw a b) (h':Rw b a):a=b:=by
 unfold Rw at h h'
 rw[ltCps_eq] at h h'
 simp only[Q4] at h h'
 have:=List.le_antisymm (as:=a.cps.toList) (bs:=b.cps.toList) h h'
 cases a;cases b
 simp only[Str.mk.injEq]
 exact Array.toList_inj.mp this
theorem Ry:∀ {l l':LS_},l.Perm l'->l.Pairwise Rw->l'.Pairwise Rw->l=l'
 |[],l',h,_,_=>by rw[List.nil_perm.mp h]
 |a::l,[],h,_,_=>by cases List.perm_nil.mp h
 |a::l,b::l',h,p,p'=>by
  have e:a=b:=by
   have ha:a∈b::l':=h.mem_iff.mp (zt ..)
   have hb:b∈a::l:=h.mem_iff.mpr (zt ..)
   rcases List.mem_cons.mp ha with h1|h1
   ·exact h1
   ·rcases List.mem_cons.mp hb with h2|h2
    ·exact h2.symm
    ·exact Us (QQ p h2) (QQ p' h1)
  subst e
  rw[Ry ((List.perm_cons a).mp h) (List.pairwise_cons.mp p).2 (List.pairwise_cons.mp p').2]
def ZF (a b:Str):Bool:=!ltCps b.cps.toList a.cps.toList
def uK (ys:LS_):LS_:=ys.mergeSort ZF
theorem tQ (ys:LS_):(uK ys).Perm ys:=List.mergeSort_perm ys ZF
theorem CQ (ys:LS_):(uK ys).Pairwise Rw:=by
 have h:=KU (le:=ZF) (fun a b c h1 h2=>by
  unfold ZF at *
  rw[ltCps_eq] at *
  simp only[Q3,Q4] at *
  exact List.le_trans (α:=Nat) h1 h2) (fun a b=>by
  unfold ZF
  rw[ltCps_eq,ltCps_eq]
  simp only[Bool.or_eq_true,Q3,Q4]
  exact List.le_total a.cps.toList b.cps.toList) ys
 exact h.imp fun {a b} hh=>by simpa [ZF,Rw] using hh
theorem abD {ys zs:LS_} (hp:zs.Perm ys) (hs:sortedS zs=true):zs=uK ys:=Ry (hp.trans (tQ ys).symm) (Rx hs) (CQ ys)
def yN:List Bx->Option Bx
 |[b]=>(xP b).bind fun ds=>(yM ds).bind fun ys=>if ys.length < 64 then some (.o ((uK ys).map Dt.str)) else none
 |_=>none
theorem PK:wK X (.builtin "sorted") yN:=gn.imp Rv fun xs H Q q=>by
 obtain⟨bs,c,rb,e,q⟩:=q
 unfold yN at e
 split at e
 ·rename_i b
  obtain⟨ds,ed,e⟩:=bind_some e
  obtain⟨ys,ey,e⟩:=bind_some e
  split at e
  ·rename_i h64
   cases e
   obtain⟨v,rfl,r1⟩:=rep1 rb
   obtain⟨p,vs,rfl,sq,rs⟩:=r1.Pk ed
   obtain⟨rfl,hy⟩:=wN rs ey
   refine⟨p,ys,rfl,sq,h64,fun l zs hl hp hs=>?_⟩
   rw[abD hp hs]
   refine q _ _ (bV hl) (fun a ea=>by cases ea;exact hl) ⟨l,_,rfl,bU,KQ fun y h=>hy y ((tQ ys).mem_iff.mp h)⟩
  ·cases e
 ·cases e
def PL (x:Str) (b:Bx):Option Bx:=(xP b).bind fun ds=>(yM ds).bind fun ys=>if (ys.map (·.length)).sum+ys.length * x.length<=100000 then some (.z (.str (Txt.join x ys))) else none
theorem aeJ:MtR X "str.join" (fun x xs H Q=>∃ y p ys,x=.str y/\xs=[.ref p]/\yK X.K H p (ys.map V.str)/\(ys.map (·.length)).sum+ys.length * y.length<=100000/\Q (.str (Txt.join y ys)) H):=by
 intro pins s σ H x xs v us Q I rx rs h
 obtain⟨y,p,ys,rfl,rfl,sq,hb,q⟩:=h
 obtain⟨t,rfl⟩:=rx
 obtain⟨u,rfl,ru⟩:=vals1 rs
 cases ru
 obtain⟨its,r',pl,hz⟩:=I.list sq
 exact join_list pl.isList (tO r') (by omega) fun t' k=>⟨.str _,H,I.tok _,⟨_,rfl⟩,q⟩
theorem aeK {x:Str} {j:Nat} {p1 apos cpos:Pos} (h:QV X e f) (hx:x.length<=sizeLine:=by decide) (hbase:attributeBase (.Constant (.str x) j p1) "join" X.env (eval (.Constant (.str x) j p1) X.env)=eval (.Constant (.str x) j p1) X.env:=by rfl) (hfew:((backTo cpos (starEach [e] X.env)).all (fun x=>!x.1)&&(backToKw cpos (keywordEach [] X.env)).all (fun x=>x.1.isSome)&&decide ([e].length+([]:List Keyword).length+(if ([]:List Keyword).isEmpty then 0 else 1) < 30))=true:=by rfl) (hline:(apos.endLine==cpos.line)=true:=by rfl) (hs:starEach [e] X.env=(false,eval e X.env)::starEach [] X.env:=by rfl):QV X (.Call (.Attribute (.Constant (.str x) j p1) "join" apos) [e] [] cpos) (b1 (PL x) f):=⟨have h:=h.run;Io (afN (T := "str") F.plainAttrs_str F.slot_str_join F.type_str_join aeJ (abe (hx:=hx)) (Ud h Yb hs) hbase hfew hline hs rfl) fun σ H Q q=>by
  obtain⟨H0,ρ,c,E,e,q⟩:=q
  obtain⟨a,ea,e⟩:=bind_some e
  refine⟨H0,ρ,_,E,rfl,fun v H1 s1 n1 r1=>?_⟩
  obtain⟨rfl,hx'⟩:v=.str x/\x.length<=sizeLine:=by simpa only[bF,Rep] using r1
  refine⟨rfl,H0,ρ,[a],E.grow s1,by simp only[ak,ea,Option.bind_some],fun vs H2 s2 r2=>?_⟩
  obtain⟨w,rfl,rw1⟩:=rep1 r2
  unfold PL at e
  obtain⟨ds,ed,e⟩:=bind_some e
  obtain⟨ys,ey,e⟩:=bind_some e
  split at e
  ·rename_i hb
   cases e
   obtain⟨p,ws,rfl,sq,rs⟩:=rw1.Pk ed
   obtain⟨rfl,hy⟩:=wN rs ey
   refine⟨x,p,ys,rfl,rfl,sq,hb,q _ _ (s1.trans s2) trivial ?_⟩
   unfold bF Rep
   exact⟨rfl,joinOk_length (joinOk_of (by omega))⟩
  ·cases e⟩
end
section
variable {X:Cx}
def Oc:List Bx->Option Bx
 |[.z (.int a),.z (.int b)]=>some (.z (.int (if b > a then b else a)))
 |_=>none
def ZG:List Bx->Option Bx
 |[.z (.int a),.z (.int b)]=>some (.z (.int (if b < a then b else a)))
 |_=>none
theorem afZ {K:FG_} {H:Hp} {a b:Bx} {vs:List V} (h:wJ K H [a,b] vs):∃ v w,vs=[v,w]/\bF K H a v/\bF K H b w:=by
 cases h with
 |cons p t=>
  cases t with
  |cons p' t'=>cases t';exact⟨_,_,rfl,p,p'⟩
theorem GF (hc:X.calm=true):wK X (.builtin "max") Oc:=by
 intro pins s σ H xs us Q I r h
 obtain⟨bs,c,rb,e,q⟩:=h
 unfold Oc at e
 split at e
 ·rename_i a b
  cases e
  obtain⟨v,w,rfl,r1,r2⟩:=afZ rb
  have hv:=Rr r1
  have hw:=Rr r2
  subst hv hw
  obtain⟨u,u',rfl,ru,ru'⟩:=Vals.two r
  obtain⟨t,rfl⟩:=ru
  obtain⟨t',rfl⟩:=ru'
  refine max_two_ints (I.ok.hd hc) fun h' tk kp=>?_
  by_cases hb:b > a
  ·rw[zo hb] at q ⊢
   exact⟨.int b,H,I.kept kp,⟨_,rfl⟩,q _ H (Same.refl H) trivial Jv⟩
  ·rw[zI hb] at q ⊢
   exact⟨.int a,H,I.kept kp,⟨_,rfl⟩,q _ H (Same.refl H) trivial Jv⟩
 ·cases e
theorem abE (hc:X.calm=true):wK X (.builtin "min") ZG:=by
 intro pins s σ H xs us Q I r h
 obtain⟨bs,c,rb,e,q⟩:=h
 unfold ZG at e
 split at e
 ·rename_i a b
  cases e
  obtain⟨v,w,rfl,r1,r2⟩:=afZ rb
  have hv:=Rr r1
  have hw:=Rr r2
  subst hv hw
  obtain⟨u,u',rfl,ru,ru'⟩:=Vals.two r
  obtain⟨t,rfl⟩:=ru
  obtain⟨t',rfl⟩:=ru'
  refine min_two_ints (I.ok.hd hc) fun h' tk kp=>?_
  by_cases hb:b < a
  ·rw[zo hb] at q ⊢
   exact⟨.int b,H,I.kept kp,⟨_,rfl⟩,q _ H (Same.refl H) trivial Jv⟩
  ·rw[zI hb] at q ⊢
   exact⟨.int a,H,I.kept kp,⟨_,rfl⟩,q _ H (Same.refl H) trivial Jv⟩
 ·cases e
end
def ahs (kvs:List (Key×Dt)) (x:Key) (d:Dt):List (Key×Dt):=
 if (kvs.any fun kv=>decide (kv.1=x))=true then kvs.map (fun kv=>if kv.1=x then (kv.1,d) else kv) else kvs++[(x,d)]
section
variable {K:FG_} {H:Hp}
theorem mV.nil:mV K H [] []:=⟨rfl,aR.nil,fun p hp=>by cases hp⟩
theorem mV.inv {p:Key×Dt} {kvs:List (Key×Dt)} {ks:List (Key×V)} (h:mV K H (p::kvs) ks):∃ v r,ks=(p.1,v)::r/\Rep K H p.2 v/\okK p.1/\mV K H kvs r:=by
 obtain⟨h1,h2,h3⟩:=h
 cases ks with
 |nil=>simp at h1
 |cons q r=>
  simp only[zz,j0] at h1
  obtain⟨e,h1⟩:=h1
  simp only[zz,aR] at h2
  obtain⟨v,r',e2,hv,hr⟩:=h2
  simp only[j0] at e2
  obtain⟨rfl,rfl⟩:=e2
  exact⟨q.2,r,by rw[<-e],hv,h3 p (zt ..),h1,hr,fun x hx=>h3 x (zl _ hx)⟩
theorem mV.cons {p:Key×Dt} {kvs:List (Key×Dt)} {v:V} {r:List (Key×V)} (hv:Rep K H p.2 v) (hp:okK p.1) (h:mV K H kvs r):mV K H (p::kvs) ((p.1,v)::r):=
 ⟨by simp[h.1],aR.cons hv h.2.1,fun x hx=>by
  rcases List.mem_cons.mp hx with rfl|hx
  ·exact hp
  ·exact h.2.2 x hx⟩
theorem mV.append {kvs:List (Key×Dt)} {ks:List (Key×V)} {x:Key} {d:Dt} {v:V} (h:mV K H kvs ks) (hv:Rep K H d v) (hx:okK x):mV K H (kvs++[(x,d)]) (ks++[(x,v)]):=
 ⟨by simp[h.1],by rw[qv,qv];exact aR.append h.2.1 (aR.cons hv aR.nil),fun p hp=>by
  rcases List.mem_append.mp hp with hp|hp
  ·exact h.2.2 p hp
  ·cases List.mem_singleton.mp hp;exact hx⟩
theorem mV.len {kvs:List (Key×Dt)} {ks:List (Key×V)} (h:mV K H kvs ks):ks.length=kvs.length:=by
 have:=congrArg List.length h.1
 simpa using this
theorem mV.any:∀ {kvs:List (Key×Dt)} {ks:List (Key×V)} {x:Key},mV K H kvs ks->(ks.any fun kv=>decide (kv.1=x))=kvs.any fun kv=>decide (kv.1=x)
 |[],ks,_,h=>by
  have:=h.len
  cases ks with
  |nil=>rfl
  |cons _ _=>simp at this
 |p::kvs,_,x,h=>by
  obtain⟨v,r,rfl,hv,hpl,hr⟩:=h.inv
  rw[j3,j3,mV.any hr]
theorem mV.abF:∀ {kvs:List (Key×Dt)} {ks:List (Key×V)} {x:Key} {d:Dt} {v:V},mV K H kvs ks->Rep K H d v->mV K H (kvs.map fun kv=>if kv.1=x then (kv.1,d) else kv) (ks.map fun kv=>if kv.1=x then (kv.1,v) else kv)
 |[],ks,_,_,_,h,_=>by
  have:=h.len
  cases ks with
  |nil=>exact mV.nil
  |cons _ _=>simp at this
 |p::kvs,_,x,d,v,h,hd=>by
  obtain⟨w,r,rfl,hw,hpl,hr⟩:=h.inv
  rw[zz,zz]
  have ih:=mV.abF (x:=x) hr hd
  by_cases hp:p.1=x
  ·rw[zo hp,zo (by simp[hp])]
   exact mV.cons (p:=(p.1,d)) hd hpl ih
  ·rw[zI hp,zI (by simpa using hp)]
   exact mV.cons hw hpl ih
theorem mV.put {kvs:List (Key×Dt)} {ks:List (Key×V)} {x:Key} {d:Dt} {v:V} (h:mV K H kvs ks) (hv:Rep K H d v) (hx:okK x):mV K H (ahs kvs x d) (putK ks x v):=by
 unfold ahs putK
 rw[h.any]
 split
 ·exact h.abF hv
 ·exact h.append hv hx
end
section
variable {X:Cx} {e ek o:Expr} {f fk fo:Ev->Option Bx} {pos pos':Pos}
end
section
variable {X:Cx} {a b c e:Expr} {es:List Expr} {fa fb fc f:Ev->Option Bx} {fs:Ev->Option (List Bx)} {pos:Pos}
theorem aO {x:Str} {j} (hx:x.length<=sizeLine:=by decide):QV X (.Constant (.str x) j pos) (cB (.str x)):=⟨P1.abe (hx:=hx)⟩
end
section
variable {X:Cx} {a b c e:Expr} {es:List Expr} {fa fb fc f:Ev->Option Bx} {fs:Ev->Option (List Bx)} {pos:Pos}
variable {p q:Ev->Option Bool} {rest:List Expr}
theorem aj (h1:QV X e f) (h2:QVs X es fs) (hs:starEach (e::es) X.env=(false,eval e X.env)::starEach es X.env:=by rfl):QVs X (e::es) (ak f fs):=⟨P1.Ud (h1:=h1.run) (h2:=h2.run) (hs:=hs)⟩
theorem au  : QVs X [] (fun _=>some []):=⟨P1.Yb ⟩
end
theorem pY {P:Program} {w:World} {K:FG_} {mg:Str->Option Value} {base:Heap} {x qual:Str} {st:Stmt} {f:Addr} {fd:FuncData} {N ps:LS_} {k n m:Nat} {g:Ev->Option Out} (F:zF K x qual st f fd) (S:bT N ps (aW st)) (hn:N.length=n) (hm:ps.length=m)
  (hbody:∀ (cdv:Value) (A:Around) (outer:List Env) (s:Shared) (H:Hp) (E:XK),pX k (A.deeper (envOfC qual (aW st) s.heap.objs.size f cdv))->QGs (Q7 jh P w K mg base N qual (aW st) f cdv A outer s H E).nox (qG st) g) :
  bM P w K mg base jh (k+1) f fd ps (jD K m (fu n g)):=ajh F S hn hm fun cdv A outer s H E hr=>(hbody cdv A outer s H E hr).run
section
variable {prog:Program} {w:World} {A:Around} {E:VP_} {s:Shared}
theorem Iu:∀ (vs:List Value) (ys:LS_),vs.length=ys.length->(∀ (j:Nat) v,vs[j]?=some v->∃ y t,ys[j]?=some y/\v=.str y t)->StrsAre vs ys
 |[],[],_,_=>.nil
 |v::vs,y::ys,hl,h=>by
  obtain⟨y',t,e,rfl⟩:=h 0 v rfl
  cases e
  exact .cons y t (Iu vs ys (by simpa using hl) fun j v hv=>h (j+1) v (by simpa using hv))
end
section
variable {X:Cx}
end
theorem cF.ajj {K:FG_} {H0 H:Hp} {σ:L2.St} {ρ:Ev} (E:cF K H0 H σ ρ) (i:Nat):cF K H0 H σ (ρ.set i none):=by
 have back:∀ (j:Nat) (b:Bx),(ρ.set i none)[j]?=some (some b)->ρ[j]?=some (some b):=fun j b e=>by
  rw[KG] at e
  split at e
  ·split at e<;>cases e
  ·exact e
 refine⟨by rw[JO];exact E.len,fun j b e=>E.val j b (back j b e),fun j k c a b e1 ec e2 e3 e4 e5=>E.own j k c a b (back _ _ e1) ec e2 (back _ _ e3) e4 e5,E.base,fun j c a e1 ec e2=>E.new j c a (back _ _ e1) ec e2⟩
def kill (is:List Nat) (ρ:Ev):Ev:=is.foldl (fun ρ i=>ρ.set i none) ρ
theorem cF.kill {K:FG_} {H0 H:Hp} {σ:L2.St}:∀ (is:List Nat) {ρ:Ev},cF K H0 H σ ρ->cF K H0 H σ (P1.kill is ρ)
 |[],_,E=>E
 |i::is,_,E=>cF.kill is (E.ajj i)
def oh (is:List Nat):Ev->Option Out:=fun ρ=>some (.nx (kill is ρ))
theorem abG {X:Cx} {ss:List Stmt} {g:Ev->Option Out} (is:List Nat) (h:PGs X ss g):PGs X ss (aK g (oh is)):=ag9 h fun D σ H q=>by
 obtain⟨H0,ρ,r,E,e,q⟩:=q
 obtain⟨r1,e1,e⟩:=bind_some e
 refine⟨H0,ρ,r1,E,e1,?_⟩
 cases r1 with
 |nx ρ1=>cases e;exact fun σ' H' E'=>q σ' H' (E'.kill is)
 |rt b=>cases e;exact q
 |bk b=>cases e;exact q
 |ct b=>cases e;exact q
theorem gW {X:Cx} {ss:List Stmt} {g:Ev->Option Out} (is:List Nat) (h:QGs X ss g):QGs X ss (aK g (oh is)):=⟨abG is h.run⟩
end P1
end
section
namespace S1
open PySem PySem.Spec PyProof.Rows
section
variable (rk:Value->Nat)
def at_ (xs:Array Keyed) (i:Nat):Nat:=match xs[i]? with
 |some p=>rk p.1
 |none=>0
def Up (xs:Array Keyed) (k:Nat):Prop:=∀ i j,i<=j->j < k->at_ rk xs i<=at_ rk xs j
def Down (xs:Array Keyed) (k:Nat):Prop:=∀ i j,i<=j->j < k->at_ rk xs j<=at_ rk xs i
structure Bs (kd:SortKind) (b:Array Keyed) (st:SortSt):Prop where
 pm:(arrOf st).Perm b
 kd:kindOf st=kd
 fl:failedOf st=none
 pd:pendingOf st=#[]
variable {rk} {kd:SortKind} {b:Array Keyed}
theorem Bs.sz {st:SortSt} (h:Bs kd b st):(arrOf st).size=b.size:=h.pm.size_eq
theorem Bs.arr {st:SortSt} {xs:Array Keyed} (h:Bs kd b st) (hp:xs.Perm (arrOf st)):Bs kd b (PyProof.Rows.setArr st xs):=⟨hp.trans h.pm,h.kd,h.fl,h.pd⟩
theorem zP {xs ys:Array Keyed} {i j:Nat} (h:xs[i]?=ys[j]?):at_ rk xs i=at_ rk ys j:=by unfold at_;rw[h]
theorem abH {xs:Array Keyed} {p d:Nat} (hs:p < xs.size) (hd:d<=p) (k:Nat):at_ rk (bubble xs p d) k=if k=p - d then at_ rk xs p else if p - d < k/\k<=p then at_ rk xs (k - 1) else at_ rk xs k:=by
 have e:=getElem?_bubble hs d hd k
 by_cases q:k=p - d
 ·simp only[zo q] at e ⊢;exact zP e
 ·simp only[zI q] at e ⊢
  by_cases q2:p - d < k/\k<=p
  ·simp only[zo q2] at e ⊢;exact zP e
  ·simp only[zI q2] at e ⊢;exact zP e
theorem WW {xs:Array Keyed} {i j:Nat} (hj:j<=xs.size) (k:Nat):at_ rk (mirror xs i j ((j - i) / 2)) k=if i<=k/\k < j then at_ rk xs (i+j - 1 - k) else at_ rk xs k:=by
 have e:=getElem?_mirror_all (i:=i) hj k
 by_cases q:i<=k/\k < j
 ·simp only[zo q] at e ⊢;exact zP e
 ·simp only[zI q] at e ⊢;exact zP e
theorem Eo {xs:Array Keyed} {i j:Nat} (hj:j<=xs.size) (he:∀ k,i<=k->k < j->at_ rk xs k=at_ rk xs (j - 1)) (k:Nat):at_ rk (mirror xs i j ((j - i) / 2)) k=at_ rk xs k:=by
 rw[WW hj]
 by_cases q:i<=k/\k < j
 ·rw[zo q,he (i+j - 1 - k) (by omega) (by omega),he k q.1 q.2]
 ·rw[zI q]
end
section
variable {prog:Program} {w:World} {A:Around} {E:VP_} {s:Shared} {b:Array Keyed} {kd:SortKind} {rk:Value->Nat}
def Cmp (prog:Program) (w:World) (A:Around) (s:Shared) (kd:SortKind) (rk:Value->Nat) (b:Array Keyed):Prop:=
 ∀ (E:VP_) (p q:Keyed) (Q:Bool->Shared->Prop),p∈b.toList->q∈b.toList->Q (decide (rk p.1 < rk q.1)) s->wpAny (model prog w) A (keyLt' kd p.1 q.1) Q E s
theorem Ut {st:SortSt} {i j:Nat} {Q:Option Bool->SortSt->Prop} (hC:Cmp prog w A s kd rk b) (B:Bs kd b st) (hi:i < b.size) (hj:j < b.size)
  (h:Q (some (decide (at_ rk (arrOf st) i < at_ rk (arrOf st) j))) st):wpS (model prog w) A E s (ltAt' i j) Q st:=by
 have get:∀ k,k < b.size->∃ p,(arrOf st)[k]?=some p/\p∈b.toList:=fun k hk=>by
  have hk':k < (arrOf st).size:=by rw[B.sz];exact hk
  exact⟨(arrOf st)[k],getElem?_pos _ k hk',(Array.perm_iff_toList_perm.mp B.pm).mem_iff.mp (by simp)⟩
 obtain⟨p,e1,m1⟩:=get i hi
 obtain⟨q,e2,m2⟩:=get j hj
 have h:Q (some (decide (rk p.1 < rk q.1))) st:=by unfold at_ at h;rw[e1,e2] at h;exact h
 rw[ltAt'_eq]
 refine wpS_bind (wpS_get ?_)
 show wpS _ _ _ _ (elem' (arrOf st) i >>= fun x=>elem' (arrOf st) j >>= fun y=>lt' x y) Q st
 rw[elem'_eq,elem'_eq,e1,e2]
 refine wpS_bind (wpS_pure ?_)
 refine wpS_bind (wpS_pure ?_)
 rw[lt'_eq]
 refine wpS_bind (wpS_get ?_)
 rw[B.kd]
 exact wpS_bind (wpS_lift (wpAny_attempt (hC _ p q _ m1 m2 ⟨rfl,wpS_pure h⟩)))
theorem asc {st:SortSt} {a n:Nat} {Q:AscSt->SortSt->Prop} (hC:Cmp prog w A s kd rk b) (hn:n<=b.size) (ha:1<=a) (han:a<=n) (B:Bs kd b st) (hs:Up rk (arrOf st) a)
  (h:∀ m,a<=m->m<=n->Up rk (arrOf st) m->(m=n\/at_ rk (arrOf st) m < at_ rk (arrOf st) (m - 1))->Q (none,m) st):wpS (model prog w) A E s (ascLoop a n) Q st:=by
 unfold ascLoop
 refine wpS_forRange (I:=fun x c t=>t=st/\c=(none,x)/\Up rk (arrOf st) x) ?_ ?_ ⟨rfl,rfl,hs⟩
 ·rintro x c t hax hxn ⟨rfl,rfl,up⟩
  refine wpS_bind (Ut hC B (by omega) (by omega) ?_)
  by_cases q:at_ rk (arrOf t) x < at_ rk (arrOf t) (x - 1)
  ·simp only[q,kK,qB]
   exact wpS_pure (h x hax (by omega) up (.inr q))
  ·simp only[q,kc,zk,ZH]
   refine wpS_pure ⟨rfl,rfl,fun i j hij hj=>?_⟩
   by_cases hx:j < x
   ·exact up i j hij hx
   ·have e:j=x:=by omega
    subst e
    by_cases hi:i=j
    ·rw[hi];exact zi _
    ·have:=up i (j - 1) (by omega) (by omega);omega
 ·rintro c t ⟨rfl,rfl,up⟩
  rw[show max a n=n by omega] at up ⊢
  exact h n han (zi _) up (.inl rfl)
theorem t3 {st:SortSt} {m n:Nat} {Q:Option Nat->SortSt->Prop} (hC:Cmp prog w A s kd rk b) (hn:n<=b.size) (h1:1<=m) (hmn:m<=n) (B:Bs kd b st) (hs:Down rk (arrOf st) m)
  (h:∀ k t,Bs kd b t->1<=k->k<=n->Up rk (arrOf t) k->Q (some k) t):wpS (model prog w) A E s (tail3 m n) Q st:=by
 unfold tail3
 have hz:m<=(arrOf st).size:=by rw[B.sz];omega
 refine wpS_bind (wpS_reverse ?_)
 have B':Bs kd b (PyProof.Rows.setArr st (mirror (arrOf st) 0 m ((m - 0) / 2))):=B.arr (mirror_perm _ _ _ _)
 refine wpS_bind (asc hC hn h1 hmn B' (fun i j hij hj=>?_) fun k k1 k2 up _=>wpS_pure (h k _ B' (by omega) k2 up))
 show at_ rk (mirror (arrOf st) 0 m ((m - 0) / 2)) i<=at_ rk (mirror (arrOf st) 0 m ((m - 0) / 2)) j
 rw[WW hz,WW hz,zo ⟨by omega,by omega⟩,zo ⟨by omega,by omega⟩]
 exact hs _ _ (by omega) (by omega)
theorem dsc {st:SortSt} {m n:Nat} {Q:DescSt->SortSt->Prop} (hC:Cmp prog w A s kd rk b) (hn:n<=b.size) (h1:1<=m) (hmn:m<=n) (B:Bs kd b st) (hs:Down rk (arrOf st) m)
  (h:∀ k e t,Bs kd b t->m<=k->k<=n->Down rk (arrOf t) k->e+1<=k->(∀ i,k - (e+1)<=i->i < k->at_ rk (arrOf t) i=at_ rk (arrOf t) (k - 1))->Q (none,k,e) t):wpS (model prog w) A E s (descLoop m n) Q st:=by
 unfold descLoop
 refine wpS_forRange (I:=fun x c t=>∃ e,c=(none,x,e)/\Bs kd b t/\Down rk (arrOf t) x/\e+1<=x/\∀ i,x - (e+1)<=i->i < x->at_ rk (arrOf t) i=at_ rk (arrOf t) (x - 1)) ?_ ?_ ⟨0,rfl,B,hs,by omega,fun i q1 q2=>by rw[show i=m - 1 by omega]⟩
 ·rintro x c t hax hxn ⟨e,rfl,B',dn,he,eq⟩
  have hz:x<=(arrOf t).size:=by rw[B'.sz];omega
  have grow:∀ xs:Array Keyed,(∀ k,at_ rk xs k=at_ rk (arrOf t) k)->at_ rk (arrOf t) x<=at_ rk (arrOf t) (x - 1)->Down rk xs (x+1):=fun xs hk hl i j hij hj=>by
   rw[hk,hk]
   by_cases hx:j < x
   ·exact dn i j hij hx
   ·have ej:j=x:=by omega
    subst ej
    by_cases hi:i=j
    ·rw[hi];exact zi _
    ·have:=dn i (j - 1) (by omega) (by omega);omega
  dsimp only
  refine wpS_bind (Ut hC B' (by omega) (by omega) ?_)
  by_cases q:at_ rk (arrOf t) x < at_ rk (arrOf t) (x - 1)
  ·simp only[q,kK,qB]
   by_cases h0:e > 0
   ·rw[zo h0]
    exact wpS_bind (wpS_reverse (wpS_pure ⟨0,rfl,B'.arr (mirror_perm _ _ _ _),grow _ (Eo hz eq) (by omega),by omega,fun i q1 q2=>by rw[show i=x by omega];rfl⟩))
   ·rw[zI h0]
    exact wpS_pure ⟨0,rfl,B',grow _ (fun _=>rfl) (by omega),by omega,fun i q1 q2=>by rw[show i=x by omega];rfl⟩
  ·simp only[q,kc,zk,ZH]
   refine wpS_bind (Ut hC B' (by omega) (by omega) ?_)
   by_cases q2:at_ rk (arrOf t) (x - 1) < at_ rk (arrOf t) x
   ·simp only[q2,kK,qB]
    exact wpS_pure (h x e t B' hax (by omega) dn he eq)
   ·simp only[q2,kc,zk,ZH]
    refine wpS_pure ⟨e+1,rfl,B',grow _ (fun _=>rfl) (by omega),by omega,fun i q3 q4=>?_⟩
    rw[show x+1 - 1=x by omega]
    by_cases hi:i=x
    ·rw[hi]
    ·rw[eq i (by omega) (by omega)];omega
 ·rintro c t ⟨e,rfl,B',dn,he,eq⟩
  rw[show max m n=n by omega] at dn he eq ⊢
  exact h n e t B' hmn (zi _) dn he eq
theorem af0 {st:SortSt} {m n:Nat} {Q:Option Nat->SortSt->Prop} (hC:Cmp prog w A s kd rk b) (hn:n<=b.size) (hmn:m+1<=n) (B:Bs kd b st) (hs:Down rk (arrOf st) (m+1))
  (h:∀ k t,Bs kd b t->1<=k->k<=n->Up rk (arrOf t) k->Q (some k) t):wpS (model prog w) A E s (descPart m n) Q st:=by
 unfold descPart
 refine wpS_bind (wpS_lift (kq ⟨rfl,?_⟩))
 refine wpS_bind (dsc hC hn (by omega) hmn B hs fun k e t B' k1 k2 dn he eq=>?_)
 have hz:k<=(arrOf t).size:=by rw[B'.sz];omega
 by_cases h0:e > 0
 ·simp only[zo h0]
  refine wpS_bind (wpS_reverse (t3 hC hn (by omega) k2 (B'.arr (mirror_perm _ _ _ _)) (fun i j hij hj=>?_) h))
  show at_ rk (mirror (arrOf t) _ _ _) j<=at_ rk (mirror (arrOf t) _ _ _) i
  rw[Eo hz eq,Eo hz eq]
  exact dn i j hij hj
 ·simp only[zI h0]
  exact t3 hC hn (by omega) k2 B' dn h
theorem alq {st:SortSt} {n:Nat} {Q:Option Nat->SortSt->Prop} (hC:Cmp prog w A s kd rk b) (hn:n<=b.size) (h1:1<=n) (B:Bs kd b st)
  (h:∀ k t,Bs kd b t->1<=k->k<=n->Up rk (arrOf t) k->Q (some k) t):wpS (model prog w) A E s (countRun' 0 n) Q st:=by
 rw[countRun0_eq]
 refine wpS_bind (asc hC hn (zi 1) h1 B (fun i j hij hj=>by rw[show i=j by omega];exact zi _) fun m m1 m2 up or=>?_)
 by_cases hm:m=n
 ·simp only[zo (show (m==n)=true by simpa using hm)]
  exact wpS_pure (h m st B m1 m2 up)
 ·simp only[zI (show ¬ (m==n)=true by simpa using hm)]
  have lt:=or.resolve_left hm
  have hz:m<=(arrOf st).size:=by rw[B.sz];omega
  by_cases g1:m > 1
  ·rw[zo g1]
   refine wpS_bind (Ut hC B (by omega) (by omega) ?_)
   by_cases q:at_ rk (arrOf st) 0 < at_ rk (arrOf st) (m - 1)
   ·simp only[q,kK,qB]
    exact wpS_pure (h m st B m1 m2 up)
   ·simp only[q,kc,zk,ZH]
    have all:∀ k,0<=k->k < m->at_ rk (arrOf st) k=at_ rk (arrOf st) (m - 1):=fun k _ hk=>by
     have a1:=up 0 k (by omega) hk
     have a2:=up k (m - 1) (by omega) (by omega)
     omega
    refine wpS_bind (wpS_reverse (af0 hC hn (by omega) (B.arr (mirror_perm _ _ _ _)) (fun i j hij hj=>?_) h))
    show at_ rk (mirror (arrOf st) _ _ _) j<=at_ rk (mirror (arrOf st) _ _ _) i
    rw[Eo hz all,Eo hz all]
    by_cases hj':j < m
    ·rw[all i (by omega) (by omega),all j (by omega) hj'];exact zi _
    ·have ej:j=m:=by omega
     subst ej
     by_cases hi:i=j
     ·rw[hi];exact zi _
     ·rw[all i (by omega) (by omega)];omega
  ·rw[zI g1]
   have e1:m=1:=by omega
   subst e1
   refine af0 hC hn (by omega) B (fun i j hij hj=>?_) h
   by_cases hi:i=j
   ·rw[hi];exact zi _
   ·rw[show i=0 by omega,show j=1 by omega];exact jn lt
theorem bins {st:SortSt} {n k0:Nat} {Q:Bool->SortSt->Prop} (hC:Cmp prog w A s kd rk b) (hn:n<=b.size) (hk0:k0<=n) (B:Bs kd b st) (hs:Up rk (arrOf st) k0)
  (h:∀ t,Bs kd b t->Up rk (arrOf t) n->Q true t):wpS (model prog w) A E s (binarySort' 0 n k0) Q st:=by
 rw[binarySort'_eq]
 simp only[kR]
 refine wpS_bind (wpS_mono (wpS_forRange (I:=fun k c t=>c=(none,())/\Bs kd b t/\Up rk (arrOf t) (min k n)) (Q:=fun c t=>c=(none,())/\Bs kd b t/\Up rk (arrOf t) n) ?_ ?_ ?_) ?_)
 ·rintro k c t hak hkn ⟨rfl,B',up⟩
  rw[show min k n=k by omega] at up
  have hk:k < b.size:=by omega
  refine wpS_bind (wpS_mono (wpS_forRange (I:=fun x c t'=>t'=t/\∃ l r,c=(none,l,r)/\l<=r/\r<=k/\r - l<=k - x/\(∀ i,i < l->at_ rk (arrOf t) i<=at_ rk (arrOf t) k)/\(∀ i,r<=i->i < k->at_ rk (arrOf t) k < at_ rk (arrOf t) i))
   (Q:=fun c t'=>t'=t/\∃ l r,c=(none,l,r)/\l<=k/\(∀ i,i < l->at_ rk (arrOf t) i<=at_ rk (arrOf t) k)/\(∀ i,l<=i->i < k->at_ rk (arrOf t) k < at_ rk (arrOf t) i)) ?_ ?_ ?_) ?_)
  ·rintro x c t' _ hx ⟨rfl,l,r,rfl,lr,rk',mm,lo,hi⟩
   dsimp only
   by_cases ge:l>=r
   ·rw[zo ge]
    have e:l=r:=by omega
    subst e
    exact wpS_pure ⟨rfl,l,l,rfl,rk',lo,hi⟩
   ·rw[zI ge]
    refine wpS_bind (Ut hC B' hk (by omega) ?_)
    by_cases q:at_ rk (arrOf t') k < at_ rk (arrOf t') ((l+r) / 2)
    ·simp only[q,kK,qB]
     refine wpS_pure ⟨rfl,l,(l+r) / 2,rfl,by omega,by omega,by omega,lo,fun i q1 q2=>?_⟩
     have:=up ((l+r) / 2) i q1 q2
     omega
    ·simp only[q,kc,zk,ZH]
     refine wpS_pure ⟨rfl,(l+r) / 2+1,r,rfl,by omega,by omega,by omega,fun i q1=>?_,hi⟩
     have:=up i ((l+r) / 2) (by omega) (by omega)
     omega
  ·rintro c t' ⟨rfl,l,r,rfl,lr,rk',mm,lo,hi⟩
   have e:l=r:=by omega
   subst e
   exact⟨rfl,l,l,rfl,rk',lo,hi⟩
  ·exact⟨rfl,0,k,rfl,by omega,by omega,by omega,fun i hi=>by omega,fun i q1 q2=>by omega⟩
  ·rintro c t' ⟨rfl,l,r,rfl,lk,lo,hi⟩
   show wpS _ _ _ _ (moveDown' k l >>= fun _=>pure (ForInStep.yield (none,()))) _ _
   rw[moveDown'_eq]
   refine wpS_bind (wpS_modify (wpS_pure ⟨rfl,B'.arr (bubble_perm _ _ _),?_⟩))
   rw[show min (k+1) n=k+1 by omega]
   have hz:k < (arrOf t').size:=by rw[B'.sz];exact hk
   intro i j hij hj
   show at_ rk (bubble (arrOf t') k (k - l)) i<=at_ rk (bubble (arrOf t') k (k - l)) j
   rw[abH hz (by omega),abH hz (by omega),show k - (k - l)=l by omega]
   repeat' split
   all_goals first
    |(exfalso;omega)
    |exact zi _
    |exact lo _ (by omega)
    |exact jn (hi _ (by omega) (by omega))
    |exact up _ _ (by omega) (by omega)
 ·rintro c t ⟨hc,B',up⟩
  refine⟨hc,B',?_⟩
  rwa [show min (max (max k0 1) n) n=n by omega] at up
 ·refine⟨rfl,B,fun i j hij hj=>?_⟩
  by_cases z:k0=0
  ·rw[show i=j by omega];exact zi _
  ·exact hs i j hij (by omega)
 ·rintro c t ⟨rfl,B',up⟩
  exact wpS_pure (h t B' up)
def Dn (kd:SortKind) (rk:Value->Nat) (b:Array Keyed) (st:SortSt):Prop:=(arrOf st).Perm b/\failedOf st=none/\pendingOf st=#[(0,b.size,0)]/\Up rk (arrOf st) b.size
theorem Bs.dn {st:SortSt} (B:Bs kd b st) (up:Up rk (arrOf st) b.size):Dn kd rk b (setPending st ((pendingOf st).push (0,b.size,0))):=⟨B.pm,B.fl,(by show (pendingOf st).push _=_;rw[B.pd];rfl),up⟩
theorem runs {st:SortSt} {Q:Unit->SortSt->Prop} (hC:Cmp prog w A s kd rk b) (B:Bs kd b st) (h2:2<=b.size) (h64:b.size < 64)
  (h:∀ t,(arrOf t).Perm b->failedOf t=none->Up rk (arrOf t) b.size->Q () t):wpS (model prog w) A E s sortRuns' Q st:=by
 rw[sortRuns'_eq]
 refine wpS_bind (wpS_get ?_)
 have mr:minRun' b.size b.size 0=b.size:=by
  obtain⟨f,hf⟩:∃ f,b.size=f+1:=⟨b.size - 1,by omega⟩
  have q:minRun' (f+1) b.size 0=b.size:=(minRun'_succ f b.size 0).trans (zo h64)
  rwa [<-hf] at q
 simp only[B.sz,mr]
 have back:∀ {t:SortSt},Bs kd b t->(pendingOf t).back?=none:=fun B=>by rw[B.pd];rfl
 refine wpS_bind (wpS_mono (wpS_forRange (I:=fun x c t=>(x=0/\c=(none,0)/\Bs kd b t)\/(1<=x/\c=(none,b.size)/\Dn kd rk b t)) (Q:=fun c t=>c=(none,b.size)/\Dn kd rk b t) ?_ ?_ (.inl ⟨rfl,rfl,B⟩)) ?_)
 ·rintro x c t _ hx (⟨rfl,rfl,B'⟩|⟨hx1,rfl,D⟩)
  ·dsimp only
   rw[zI (by omega)]
   simp only[Nat.sub_zero,Nat.min_self,kR]
   refine wpS_bind (alq hC (zi _) (by omega) B' fun m t2 B2 m1 m2 up2=>?_)
   dsimp only
   by_cases lt:m < b.size
   ·rw[zo lt]
    refine wpS_bind (wpS_lift (kq ⟨rfl,wpS_bind (bins hC (zi _) m2 B2 up2 fun t3 B3 up3=>?_)⟩))
    simp only[js,zk,ZH]
    refine wpS_bind (wpS_get ?_)
    rw[back B3]
    exact wpS_bind (wpS_modify (wpS_pure (.inr ⟨by omega,rfl,B3.dn up3⟩)))
   ·rw[zI lt]
    have e:m=b.size:=by omega
    subst e
    refine wpS_bind (wpS_get ?_)
    rw[back B2]
    exact wpS_bind (wpS_modify (wpS_pure (.inr ⟨by omega,rfl,B2.dn up2⟩)))
  ·dsimp only
   rw[zo (zi _)]
   exact wpS_pure ⟨rfl,D⟩
 ·rintro c t (⟨hx,_,_⟩|⟨_,hc,D⟩)
  ·omega
  ·exact⟨hc,D⟩
 ·rintro c t ⟨rfl,D⟩
  dsimp only
  refine wpS_bind (wpS_mono (wpS_forRange (I:=fun _ c u=>u=t/\c=(none,())) (Q:=fun c u=>u=t/\c=(none,())) ?_ (fun _ _ q=>q) ⟨rfl,rfl⟩) ?_)
  ·rintro x c u _ _ ⟨rfl,rfl⟩
   refine wpS_bind (wpS_get ?_)
   rw[zo (by rw[D.2.2.1];exact zi 1)]
   exact wpS_pure ⟨rfl,rfl⟩
  ·rintro c u ⟨rfl,rfl⟩
   exact wpS_pure (h _ D.1 D.2.1 D.2.2.2)
def Old (a:Addr) (s s':Shared):Prop:=∀ c o,c≠a->s.heap.get? c=some o->s'.heap.get? c=some o
theorem af2 {a:Addr} {vs:List Value} {n:Nat} {P:Fin->Shared->Prop} (ho:s.heap.get? a=some (seqObj "list" vs.toArray n))
  (hK:2<=vs.length->∀ s',Old a s s'->∀ Q:SortKind->Shared->Prop,Q kd s'->wpAny (model prog w) A (keyKind' vs.toArray) Q E s') (hC:∀ s',Old a s s'->Cmp prog w A s' kd rk (pairsOf vs)) (h64:vs.length < 64)
  (h:∀ st:SortSt,(arrOf st).Perm (pairsOf vs)->Up rk (arrOf st) (pairsOf vs).size->P (.done (.ret .none)) { s with heap:=sortedHeap s.heap a vs ((arrOf st).map (·.2)) }) :
  wpAny (model prog w) A (Builtin.«list.sort» ⟨[.ref a],[]⟩) P E s:=by
 rw[list_sort_plain]
 have ha:=zD ho
 refine zd (listItems_at ho rfl (zd (listUpdate_at ho rfl ?_)))
 obtain⟨e1,g1⟩:∃ e1,(s.heap.update a (Obj.mapSeq fun _=>#[])).get? a=some (seqObj "list" #[] e1):=⟨_,get?_update_seq ho fun _=>#[]⟩
 refine zd (seqEpoch_at g1 rfl (zd (wpAny_newTuple (zd (wpAny_newList (QI ?_))))))
 have z1:(s.heap.update a (Obj.mapSeq fun _=>#[])).objs.size=s.heap.objs.size:=Heap.size_update ..
 have keep:∀ c,c < s.heap.objs.size->(((s.heap.update a (Obj.mapSeq fun _=>#[])).push (seqObj "tuple" vs.toArray 0)).push (seqObj "list" #[] 0)).get? c=(s.heap.update a (Obj.mapSeq fun _=>#[])).get? c:=fun c hc=>by
  rw[Heap.get?_push_ne _ _ _ (by rw[size_push',z1];exact Zl (qS hc)),Heap.get?_push_ne _ _ _ (by rw[z1];exact Zl hc)]
 have g6:=(keep a ha).trans g1
 have old:Old a s { s with heap:=((s.heap.update a (Obj.mapSeq fun _=>#[])).push (seqObj "tuple" vs.toArray 0)).push (seqObj "list" #[] 0) }:=fun c o hc e=>by
  show (((s.heap.update a (Obj.mapSeq fun _=>#[])).push (seqObj "tuple" vs.toArray 0)).push (seqObj "list" #[] 0)).get? c=some o
  rw[keep c (zD e),km _ _ _ _ hc]
  exact e
 show wpAny _ _ _ _ _ { s with heap:=((s.heap.update a (Obj.mapSeq fun _=>#[])).push (seqObj "tuple" vs.toArray 0)).push (seqObj "list" #[] 0) }
 have hz:vs.toArray.size=vs.length:=by simp
 have lz:∀ st:SortSt,(arrOf st).Perm (pairsOf vs)->((arrOf st).map (·.2)).size<=sizeLine+1:=fun st hp=>by
  have q:((arrOf st).map (·.2)).size=vs.length:=(Array.size_map ..).trans (hp.size_eq.trans (pairsOf_size _))
  rw[q,sizeLine_eq];omega
 by_cases h2:vs.toArray.size < 2
 ·simp only[zo h2]
  refine zd (ze ?_)
  rw[StateT.run_pure]
  refine zd (ze (zd (seqEpoch_at g6 rfl (zd (listUpdate_at g6 rfl ?_ (hsz2:=lz (SortSt.mk' general' (pairsOf vs) #[] 7 none) (Array.Perm.refl _)))))))
  simp only[bne_self_eq_false,zk,ZH]
  refine ze (h (SortSt.mk' general' (pairsOf vs) #[] 7 none) (Array.Perm.refl _) fun i j hij hj=>?_)
  rw[pairsOf_size] at hj
  rw[show i=j by omega]
  exact zi _
 ·simp only[zI h2]
  refine zd (hK (by omega) _ old _ ?_)
  refine zd (Qb (runs (hC _ old) (st:=SortSt.mk' kd (pairsOf vs) #[] 7 none) (Q:=fun _ t=>(arrOf t).Perm (pairsOf vs)/\failedOf t=none/\Up rk (arrOf t) (pairsOf vs).size) ⟨Array.Perm.refl _,rfl,rfl,rfl⟩ (by rw[pairsOf_size];omega) (by rw[pairsOf_size];exact h64) fun t q1 q2 q3=>⟨q1,q2,q3⟩) ?_ fun _ _ q=>q)
  rintro⟨⟨⟩,t⟩ s' ⟨rfl,hp,hf,up⟩
  dsimp only
  refine zd (seqEpoch_at g6 rfl (zd (listUpdate_at g6 rfl ?_ (hsz2:=lz t hp))))
  rw[hf]
  simp only[bne_self_eq_false,zk,ZH]
  exact ze (h t hp up)
theorem ZJ {x:Value} {vs:List Value} {Q:VP_} (aht:∀ (E':VP_) (Q':List Value->Shared->Prop),(∀ h' tk,s.heap.objs.size<=h'.objs.size->(∀ c o,s.heap.get? c=some o->h'.get? c=some o)->Q' vs { s with heap:=h',toks:=tk })->wpAny (model prog w) A.in1 (collect x) Q' E' s)
  (hK:2<=vs.length->∀ (E':VP_) (A':Around) (s':Shared),(∀ c o,s.heap.get? c=some o->s'.heap.get? c=some o)->∀ Q:SortKind->Shared->Prop,Q kd s'->wpAny (model prog w) A' (keyKind' vs.toArray) Q E' s') (hC:∀ (A':Around) (s':Shared),(∀ c o,s.heap.get? c=some o->s'.heap.get? c=some o)->Cmp prog w A' s' kd rk (pairsOf vs)) (h64:vs.length < 64)
  (h:∀ (l:Addr) (h':Heap) (tk n:Nat) (st:SortSt),(arrOf st).Perm (pairsOf vs)->Up rk (arrOf st) (pairsOf vs).size->s.heap.objs.size<=l->(∀ c o,s.heap.get? c=some o->h'.get? c=some o)->h'.get? l=some (seqObj "list" ((arrOf st).map (·.2)) n)->Q (.ref l) { s with heap:=h',toks:=tk }) :
  wpAny (model prog w) A (call (.builtin "sorted") [x]) Q E s:=by
 refine Calls.call_function_entry kind_sorted plain_sorted entry_sorted (args_sorted1 _) ?_;unfold Builtin.«sorted»
 refine zd (m:=checkCount "sorted" 1 1 _) (ze (zd (aht _ _ fun h1 tk hle ext=>zd (wpAny_newList ?_))))
 have hoL:(h1.push (seqObj "list" vs.toArray 0)).get? h1.objs.size=some (seqObj "list" vs.toArray 0):=zC _ rfl
 have old:∀ s':Shared,Old h1.objs.size { s with heap:=h1.push (seqObj "list" vs.toArray 0),toks:=tk } s'->∀ c o,s.heap.get? c=some o->s'.heap.get? c=some o:=fun s' q c o e=>
  q c o (Zl (zD (ext c o e))) (zg _ (ext c o e))
 refine zd (QI (QR slot_list_sort ⟨_,hoL,rfl⟩ entry_list_sort (af2 hoL (fun q s' o=>hK q _ _ s' (old s' o)) (fun s' o=>hC _ s' (old s' o)) h64 fun st q1 q2=>⟨_,rfl,ze ⟨_,rfl,?_⟩⟩) (args_list_sort _)))
 obtain⟨n,en⟩:=sortedHeap_at (out:=(arrOf st).map (·.2)) hoL
 refine h h1.objs.size _ tk n st q1 q2 hle (fun c o e=>?_) en
 have hb:=zD (ext c o e)
 rw[sortedHeap_old (Zl hb) (by rw[qk];exact qS hb)]
 exact zg _ (ext c o e)
end
end S1
end
section
namespace S1
open PySem PySem.Spec PyProof.Rows L2
theorem ZK (fb:Bool) (x y:Value):keyLt' (tuples' fb) x y=(do
  let xs <-Builtin.List.listItems x
  let ys <-Builtin.List.listItems y
  for ((p,q),i) in (xs.toList.zip ys.toList).zipIdx do
   if !(<-eqBool p q) then return <-oneLt' (fb&&i==0) p q
  return decide (xs.size < ys.size)):=rfl
def Yi:Key->Key->Bool
 |.inl a,.inl b=>decide (a < b)
 |.inr x,.inr y=>decide (x.cps.toList < y.cps.toList)
 |.inl _,.inr _=>true
 |.inr _,.inl _=>false
def Uu:Key->Key->Bool
 |.inl _,.inl _=>true
 |.inr _,.inr _=>true
 |_,_=>false
def lU:List Key->List Key->Bool
 |[],[]=>false
 |[],_::_=>true
 |_::_,[]=>false
 |x::xs,y::ys=>if x=y then lU xs ys else Yi x y
def Shp:List Key->List Key->Prop
 |x::xs,y::ys=>Uu x y=true/\Shp xs ys
 |_,_=>True
section
variable {prog:Program} {w:World} {A:Around} {E:VP_} {s:Shared}
theorem key_eq {x y:Key} {p q:Value} {Q:Bool->Shared->Prop} (hp:oU x p=true) (hq:oU y q=true) (h:Q (decide (x=y)) s):wpAny (model prog w) A (eqBool p q) Q E s:=
 (dJ prog w).eqBool (a:=x) (b:=y) hp hq h
theorem ahu {fb:Bool} {x y:Key} {p q:Value} {Q:Bool->Shared->Prop} (hs:Uu x y=true) (hp:oU x p=true) (hq:oU y q=true) (h:Q (Yi x y) s):wpAny (model prog w) A (oneLt' fb p q) Q E s:=by
 rcases bN hp with⟨i,t,rfl,rfl⟩|⟨z,t,rfl,rfl⟩
 ·rcases bN hq with⟨j,u,rfl,rfl⟩|⟨z,u,rfl,rfl⟩
  ·cases fb with
   |true=>exact oneLt_int h
   |false=>
    rw[oneLt'_eq]
    simp only[zk,ZH]
    refine zd (show wpAny _ _ (compareOp .Lt (.int i t) (.int j u)) _ _ _ from lt_int ?_)
    exact QA h
  ·cases hs
 ·rcases bN hq with⟨j,u,rfl,rfl⟩|⟨z',u,rfl,rfl⟩
  ·cases hs
  ·cases fb with
   |true=>exact oneLt_str h
   |false=>
    rw[oneLt'_eq]
    simp only[zk,ZH]
    refine zd (show wpAny _ _ (compareOp .Lt (.str z t) (.str z' u)) _ _ _ from PySem.P.lt_str ?_)
    exact QA h
def Ks (ks:List Key) (its:List Value):Prop:=Paired (fun k v=>oU k v=true) ks its
def dif:List Key->List Key->Option Bool
 |x::xs,y::ys=>if x=y then dif xs ys else some (Yi x y)
 |_,_=>none
theorem abJ:∀ ks ls:List Key,lU ks ls=match dif ks ls with|some r=>r|none=>decide (ks.length < ls.length)
 |[],[]=>rfl
 |[],_::_=>by simp[lU,dif]
 |_::_,[]=>rfl
 |x::xs,y::ys=>by
  simp only[lU,dif]
  by_cases e:x=y
  ·rw[zo e,zo e,abJ xs ys]
   simp only[qi,Nat.add_lt_add_iff_right]
  ·rw[zI e,zI e]
def turn (fb:Bool):(Value×Value)×Nat->Option Bool×Unit->Sem (ForInStep (Option Bool×Unit)):=fun x _=>match x with
 |((p,q),i)=>do
  let e <-eqBool p q
  if (!e)=true then do
    let r <-oneLt' (fb&&i==0) p q
    pure (ForInStep.done (some r,()))
   else pure (ForInStep.yield (none,()))
theorem walk (fb:Bool):∀ (ks ls:List Key) (its jts:List Value) (i:Nat) (R:Option Bool×Unit->Shared->Prop),Ks ks its->Ks ls jts->Shp ks ls->R (dif ks ls,()) s->wpAny (model prog w) A (forIn ((its.zip jts).zipIdx i) ((none,()):Option Bool×Unit) (turn fb)) R E s
 |[],_,_,_,_,R,.nil,_,_,h=>ze h
 |_::_,[],_::_,_,_,R,_,.nil,_,h=>ze h
 |x::xs,y::ys,p::its,q::jts,i,R,.cons hp hk,.cons hq hl,hs,h=>by
  rw[Kn,List.zipIdx_cons,List.forIn_cons]
  refine zd ?_
  show wpAny _ _ (eqBool p q >>= _) _ _ _
  refine zd (key_eq hp hq ?_)
  by_cases e:x=y
  ·simp only[e,kK,js,zk,ZH]
   refine ze (walk fb xs ys its jts (i+1) R hk hl hs.2 ?_)
   simp only[dif,zo e] at h
   exact h
  ·simp only[e,kc,Kb,qB]
   refine zd (ahu hs.1 hp hq (ze (ze ?_)))
   simp only[dif,zI e] at h
   exact h
theorem ahv {fb:Bool} {a c:Addr} {oa oc:Obj} {its jts:List Value} {n m:Nat} {ks ls:List Key} {Q:Bool->Shared->Prop} (ha:s.heap.get? a=some oa) (da:oa.data=.seq its.toArray n) (hc:s.heap.get? c=some oc) (dc:oc.data=.seq jts.toArray m)
  (hk:Ks ks its) (hl:Ks ls jts) (hs:Shp ks ls) (h:Q (lU ks ls) s):wpAny (model prog w) A (keyLt' (tuples' fb) (.ref a) (.ref c)) Q E s:=by
 rw[ZK]
 refine zd (listItems_at ha da (zd (listItems_at hc dc ?_)))
 have hl1:its.length=ks.length:=(Paired.length hk).symm
 have hl2:jts.length=ls.length:=(Paired.length hl).symm
 refine zd (walk fb ks ls its jts 0 _ hk hl hs ?_)
 rw[abJ] at h
 cases e:dif ks ls with
 |some r=>rw[e] at h;exact ze h
 |none=>
  rw[e] at h
  refine ze ?_
  simpa [hl1,hl2] using h
end
theorem aeL (x:Key):Yi x x=false:=by
 cases x with
 |inl a=>simp[Yi]
 |inr a=>simp[Yi]
theorem ZL {x y z:Key} (h:Yi x y=true) (h':Yi y z=true):Yi x z=true:=by
 cases x<;>cases y<;>cases z<;>simp only[Yi,zS,zk,reduceCtorEq] at h h' ⊢
 ·omega
 ·exact List.lt_trans h h'
theorem aeM {x y:Key} (h:Yi x y=false) (h':Yi y x=false):x=y:=by
 cases x<;>cases y<;>simp only[Yi,Q4,Bool.true_eq_false,reduceCtorEq] at h h'
 ·congr 1;omega
 ·rename_i a b
  have:=List.le_antisymm (as:=a.cps.toList) (bs:=b.cps.toList) h' h
  cases a;cases b
  simp only at this
  rw[Array.toList_inj.mp this]
theorem zQ:∀ xs:List Key,lU xs xs=false
 |[]=>rfl
 |x::xs=>by simp only[lU,qB];exact zQ xs
theorem nG:∀ {xs ys zs:List Key},lU xs ys=true->lU ys zs=true->lU xs zs=true
 |[],[],_,h,_=>by cases h
 |[],_::_,[],_,h'=>by cases h'
 |[],_::_,_::_,_,_=>rfl
 |_::_,[],_,h,_=>by cases h
 |_::_,_::_,[],_,h'=>by cases h'
 |x::xs,y::ys,z::zs,h,h'=>by
  simp only[lU] at h h' ⊢
  by_cases e1:x=y
  ·subst e1
   rw[zo rfl] at h
   by_cases e2:x=z
   ·subst e2
    rw[zo rfl] at h' ⊢
    exact nG h h'
   ·rw[zI e2] at h' ⊢;exact h'
  ·rw[zI e1] at h
   by_cases e2:y=z
   ·subst e2
    rw[zI e1];exact h
   ·rw[zI e2] at h'
    have:=ZL h h'
    rw[zI (fun e=>by subst e;rw[aeL] at this;cases this)]
    exact this
theorem zR:∀ {xs ys:List Key},lU xs ys=false->lU ys xs=false->xs=ys
 |[],[],_,_=>rfl
 |[],_::_,h,_=>by cases h
 |_::_,[],_,h'=>by cases h'
 |x::xs,y::ys,h,h'=>by
  simp only[lU] at h h'
  by_cases e:x=y
  ·subst e
   rw[zo rfl] at h h'
   rw[zR h h']
  ·rw[zI e] at h
   rw[zI (Ne.symm e)] at h'
   exact absurd (aeM h h') e
def BW (xs ys:List Key):Bool:=!lU ys xs
theorem KR (a b c:List Key) (h:BW a b=true) (h':BW b c=true):BW a c=true:=by
 unfold BW at *
 simp only[Q3] at *
 cases hc:lU c a with
 |false=>rfl
 |true=>
  cases hab:lU a b with
  |true=>rw[nG hc hab] at h';cases h'
  |false=>
   have e:=zR hab h
   subst e
   rw[hc] at h';cases h'
theorem KY (a b:List Key):(BW a b||BW b a)=true:=by
 unfold BW
 cases h:lU b a with
 |false=>rfl
 |true=>
  cases h':lU a b with
  |false=>rfl
  |true=>have:=nG h h';rw[zQ] at this;cases this
theorem PN {a b:List Key} (h:BW a b=true) (h':BW b a=true):a=b:=by
 unfold BW at *
 simp only[Q3] at *
 exact zR h' h
theorem zT {α:Type} {le:α->α->Prop} (anti:∀ a b,le a b->le b a->a=b):∀ {l l':List α},l.Perm l'->l.Pairwise le->l'.Pairwise le->l=l'
 |[],l',h,_,_=>by rw[List.nil_perm.mp h]
 |a::l,[],h,_,_=>by cases List.perm_nil.mp h
 |a::l,b::l',h,p,p'=>by
  have e:a=b:=by
   have ha:a∈b::l':=h.mem_iff.mp (zt ..)
   have hb:b∈a::l:=h.mem_iff.mpr (zt ..)
   rcases List.mem_cons.mp ha with h1|h1
   ·exact h1
   ·rcases List.mem_cons.mp hb with h2|h2
    ·exact h2.symm
    ·exact anti a b (QQ p h2) (QQ p' h1)
  subst e
  rw[zT anti ((List.perm_cons a).mp h) (List.pairwise_cons.mp p).2 (List.pairwise_cons.mp p').2]
def qp (cT:List (List Key)):List (List Key):=cT.mergeSort BW
theorem qZ (cT:List (List Key)):(qp cT).Perm cT:=List.mergeSort_perm ..
theorem zU (cT:List (List Key)):(qp cT).Pairwise (fun a b=>BW a b=true):=KU KR KY cT
theorem Bl {cT out:List (List Key)} (hp:out.Perm cT) (hs:out.Pairwise (fun a b=>BW a b=true)):out=qp cT:=zT (fun _ _=>PN) (hp.trans (qZ cT).symm) hs (zU cT)
def rank (cT:List (List Key)) (k:List Key):Nat:=cT.countP fun u=>lU u k
theorem PX {α:Type} {p q:α->Bool}:∀ {l:List α},(∀ x∈l,p x=true->q x=true)->(∃ x∈l,p x=false/\q x=true)->l.countP p < l.countP q
 |[],_,⟨x,hx,_⟩=>by cases hx
 |a::l,h,⟨x,hx,h1,h2⟩=>by
  have le:l.countP p<=l.countP q:=List.countP_mono_left fun y hy=>h y (zl _ hy)
  rw[List.countP_cons,List.countP_cons]
  rcases List.mem_cons.mp hx with rfl|hx
  ·rw[h1,h2];simp;omega
  ·have:=PX (fun y hy=>h y (zl _ hy)) ⟨x,hx,h1,h2⟩
   have ha:=h a (zt ..)
   cases hp:p a with
   |true=>rw[ha hp];simp;omega
   |false=>simp;omega
theorem Yj {cT:List (List Key)} {a b:List Key} (ha:a∈cT):decide (rank cT a < rank cT b)=lU a b:=by
 cases h:lU a b with
 |true=>
  refine Q1 (PX (fun u _ hu=>nG hu h) ⟨a,ha,zQ a,h⟩)
 |false=>
  refine qq (Nat.not_lt.mpr (List.countP_mono_left fun u _ hu=>?_))
  cases hb:lU b a with
  |true=>exact nG hu hb
  |false=>rw[zR h hb];exact hu
def mX (h:Heap) (ks:List Key) (v:Value):Prop:=∃ (a:Addr) (o:Obj) (its:List Value) (n:Nat),v=.ref a/\h.get? a=some o/\o.cls=.type "tuple" ∧ o.data=.seq its.toArray n/\Ks ks its
theorem mX.keep {h h':Heap} {ks:List Key} {v:Value} (q:mX h ks v) (k:∀ c o,h.get? c=some o->h'.get? c=some o):mX h' ks v:=by
 obtain⟨a,o,its,n,e,g,c,d,p⟩:=q
 exact⟨a,o,its,n,e,k _ _ g,c,d,p⟩
theorem aeN {k l:Key} {v:Value} (h:oU k v=true) (h':oU l v=true):k=l:=by
 rcases bN h with⟨i,t,rfl,rfl⟩|⟨x,t,rfl,rfl⟩
 ·rcases bN h' with⟨j,u,rfl,e⟩|⟨y,u,rfl,e⟩
  ·cases e;rfl
  ·cases e
 ·rcases bN h' with⟨j,u,rfl,e⟩|⟨y,u,rfl,e⟩
  ·cases e
  ·cases e;rfl
theorem Ks.inj:∀ {ks ls:List Key} {its:List Value},Ks ks its->Ks ls its->ks=ls
 |_,_,[],h,h'=>by cases h;cases h';rfl
 |_,_,v::its,h,h'=>by
  cases h with
  |cons p t=>cases h' with
   |cons p' t'=>rw[aeN p p',Ks.inj t t']
theorem mX.inj {h:Heap} {ks ls:List Key} {v:Value} (q:mX h ks v) (q':mX h ls v):ks=ls:=by
 obtain⟨a,o,its,n,rfl,g,c,d,p⟩:=q
 obtain⟨a',o',its',n',e,g',c',d',p'⟩:=q'
 cases e
 rw[g] at g'
 cases g'
 rw[d] at d'
 injection d' with e1 e2
 have e3:its=its':=by simpa using congrArg Array.toList e1
 subst e3
 exact p.inj p'
section
variable {prog:Program} {w:World} {A:Around} {E:VP_} {s:Shared}
theorem Rz {α β:Type} {f:α->Sem β}:∀ (xs:List α) (ys:List β) (Q:List β->Shared->Prop),Paired (fun x y=>∀ (E':VP_) (Q':β->Shared->Prop),Q' y s->wpAny (model prog w) A (f x) Q' E' s) xs ys->Q ys s->wpAny (model prog w) A (xs.mapM f) Q E s
 |[],_,Q,.nil,h=>by rw[List.mapM_nil];exact ze h
 |x::xs,y::ys,Q,.cons h t,q=>by
  rw[List.mapM_cons]
  exact zd (h _ _ (zd (Rz xs ys _ t (ze q))))
theorem abK (v:Value):firstOfTuple' v=(do
  if (<-typeOf v) != .type "tuple" then return none
  return (<-Builtin.List.listItems v)[0]?):=rfl
theorem ZM {k:Key} {ks:List Key} {v:Value} (q:mX s.heap (k::ks) v):∃ u,oU k u=true/\∀ (E':VP_) (Q':Option Value->Shared->Prop),Q' (some u) s->wpAny (model prog w) A (firstOfTuple' v) Q' E' s:=by
 obtain⟨a,o,its,n,rfl,g,c,d,p⟩:=q
 cases p with
 |@cons _ u _ its hp t=>
  refine⟨u,hp,fun E' Q' h=>?_⟩
  rw[abK]
  refine zd (QN (T := "tuple") ⟨o,g,c⟩ ?_)
  rw[zI (by decide)]
  exact zd (listItems_at g d (ze h))
theorem abL {k:Key} {u:Value} (h:oU k u=true) (E':VP_) (Q':VP_) (q:Q' (.type (if k.isLeft then "int" else "str")) s):wpAny (model prog w) A (typeOf u) Q' E' s:=by
 rcases bN h with⟨i,t,rfl,rfl⟩|⟨x,t,rfl,rfl⟩
 ·exact QN (typeIs_int s i t) q
 ·exact QN (typeIs_str s x t) q
theorem Qa {vs:List Value} {cT:List (List Key)} {Q:SortKind->Shared->Prop} (hv:Paired (mX s.heap) cT vs) (hne:∀ k∈cT,k≠[]) (hsh:∀ k∈cT,∀ l∈cT,Shp k l) (h2:1<=vs.length) (h:Q (tuples' true) s):wpAny (model prog w) A (keyKind' vs.toArray) Q E s:=by
 have step:∀ (cT:List (List Key)) (vs:List Value),Paired (mX s.heap) cT vs->(∀ k∈cT,k≠[])->∃ us:List Value,Paired (fun v u=>∀ (E':VP_) (Q':Option Value->Shared->Prop),Q' (some u) s->wpAny (model prog w) A (firstOfTuple' v) Q' E' s) vs us/\Paired (fun (k:List Key) u=>∃ x r,k=x::r/\oU x u=true) cT us:=by
  intro cT vs hv
  induction hv with
  |nil=>intro _;exact⟨[],.nil,.nil⟩
  |@cons k v cT vs q t ih=>
   intro hne
   obtain⟨us,p1,p2⟩:=ih fun k hk=>hne k (zl _ hk)
   cases k with
   |nil=>exact absurd rfl (hne _ (zt ..))
   |cons x r=>
    obtain⟨u,hu,hw⟩:=ZM (prog:=prog) (w:=w) (A:=A) q
    exact⟨u::us,.cons hw p1,.cons ⟨x,r,rfl,hu⟩ p2⟩
 obtain⟨us,p1,p2⟩:=step cT vs hv hne
 have hlen:us.length=vs.length:=(Paired.length p1).symm
 have lift:∀ {l:List Value} {ws:List Value},Paired (fun v u=>∀ (E':VP_) (Q':Option Value->Shared->Prop),Q' (some u) s->wpAny (model prog w) A (firstOfTuple' v) Q' E' s) l ws->Paired (fun v u=>∀ (E':VP_) (Q':Option Value->Shared->Prop),Q' u s->wpAny (model prog w) A (firstOfTuple' v) Q' E' s) l (ws.map some):=fun h=>by
  induction h with
  |nil=>exact .nil
  |cons q t ih=>exact .cons q ih
 rw[keyKind'_eq,List.mapM_toArray,map_eq_pure_bind]
 refine zd (zd (Rz vs (us.map some) _ (lift p1) (ze ?_)))
 have hall:(us.map some).toArray.all (·.isSome)=true:=by simp
 rw[zo hall]
 refine zd (kq ?_)
 have hf:(us.map some).toArray.filterMap id=us.toArray:=by simp
 rw[hf,oneTypeOnly'_eq,List.mapM_toArray,map_eq_pure_bind]
 have ty:∀ (cT:List (List Key)) (us:List Value),Paired (fun (k:List Key) u=>∃ x r,k=x::r/\oU x u=true) cT us->∃ ts:List Value,Paired (fun u t=>∀ (E':VP_) (Q':VP_),Q' t s->wpAny (model prog w) A (typeOf u) Q' E' s) us ts/\Paired (fun (k:List Key) t=>∃ x r,k=x::r/\t=.type (if x.isLeft then "int" else "str")) cT ts:=by
  intro cT us hp
  induction hp with
  |nil=>exact⟨[],.nil,.nil⟩
  |@cons k u cT us q t ih=>
   obtain⟨ts,q1,q2⟩:=ih
   obtain⟨x,r,rfl,hx⟩:=q
   exact⟨_::ts,.cons (fun E' Q' h=>abL hx E' Q' h) q1,.cons ⟨x,r,rfl,rfl⟩ q2⟩
 obtain⟨ts,q1,q2⟩:=ty cT us p2
 refine zd (zd (zd (Rz us ts _ q1 (ze ?_))))
 have lt:ts.length=vs.length:=by rw[<-Paired.length q1,hlen]
 cases q2 with
 |nil=>simp at lt;omega
 |@cons k0 t0 aqR ts' h0 r0=>
  obtain⟨x0,r,rfl,rfl⟩:=h0
  have same:∀ t∈ts',t=Value.type (if x0.isLeft then "int" else "str"):=by
   have aux:∀ (cT:List (List Key)) (ts:List Value),Paired (fun (k:List Key) t=>∃ x r,k=x::r/\t=Value.type (if x.isLeft then "int" else "str")) cT ts->(∀ k∈cT,Shp (x0::r) k)->∀ t∈ts,t=Value.type (if x0.isLeft then "int" else "str"):=by
    intro cT ts hp
    induction hp with
    |nil=>intro _ t ht;cases ht
    |@cons k t cT ts q _ ih=>
     intro hs u hu
     rcases List.mem_cons.mp hu with rfl|hu
     ·obtain⟨x,r',rfl,rfl⟩:=q
      have:=(hs _ (zt ..)).1
      cases x0<;>cases x<;>first|rfl|cases this
     ·exact ih (fun k hk=>hs k (zl _ hk)) u hu
   exact aux _ _ r0 fun k hk=>hsh _ (zt ..) k (zl _ hk)
  have e0:(Value.type (if x0.isLeft then "int" else "str")::ts').toArray[0]?=some (Value.type (if x0.isLeft then "int" else "str")):=by simp
  have e1:((Value.type (if x0.isLeft then "int" else "str")::ts').toArray.all fun x=>x==Value.type (if x0.isLeft then "int" else "str"))=true:=by
   simp only[List.all_toArray,QU]
   intro t ht
   rcases List.mem_cons.mp ht with rfl|ht
   ·simp
   ·rw[same t ht];simp
  rw[e0]
  simp only[e1,qB]
  refine ze (ze ?_)
  have e2:((some (Value.type (if x0.isLeft then "int" else "str"))).any fun x=>x != Value.type "tuple")=true:=by
   cases x0 with
   |inl _=>exact (by decide:((some (Value.type "int")).any fun x=>x != Value.type "tuple")=true)
   |inr _=>exact (by decide:((some (Value.type "str")).any fun x=>x != Value.type "tuple")=true)
  rw[e2]
  exact h
def keyOf (cT:List (List Key)) (vs:List Value) (v:Value):List Key:=match (vs.zip cT).find? (fun p=>p.1==v) with
 |some p=>p.2
 |none=>[]
theorem qt {h:Heap}:∀ {cT:List (List Key)} {vs:List Value},Paired (mX h) cT vs->∀ v∈vs,keyOf cT vs v∈cT/\mX h (keyOf cT vs v) v
 |_,_,.nil,v,hv=>by cases hv
 |k::cT,u::vs,.cons q t,v,hv=>by
  unfold keyOf
  rw[Kn,JP]
  by_cases e:u=v
  ·subst e
   simp only[beq_self_eq_true]
   exact⟨zt ..,q⟩
  ·have e':(u==v)=false:=by simpa using e
   simp only[e']
   have hv':v∈vs:=by
    rcases List.mem_cons.mp hv with h|h
    ·exact absurd h.symm e
    ·exact h
   have ih:=qt t v hv'
   exact⟨zl _ ih.1,ih.2⟩
theorem Iv {h:Heap}:∀ {cT:List (List Key)} {vs:List Value},Paired (mX h) cT vs->∀ (K:Value->List Key),(∀ v∈vs,mX h (K v) v)->vs.map K=cT
 |_,_,.nil,_,_=>rfl
 |k::cT,v::vs,.cons q t,K,hK=>by
  rw[zz,(hK v (zt ..)).inj q,Iv t K fun u hu=>hK u (zl _ hu)]
theorem CT {h:Heap}:∀ {vs:List Value} {K:Value->List Key},(∀ v∈vs,mX h (K v) v)->Paired (mX h) (vs.map K) vs
 |[],_,_=>.nil
 |v::vs,K,hK=>.cons (hK v (zt ..)) (CT fun u hu=>hK u (zl _ hu))
theorem Uv {vs:List Value} {cT:List (List Key)} (hv:Paired (mX s.heap) cT vs) (hsh:∀ k∈cT,∀ l∈cT,Shp k l):Cmp prog w A s (tuples' true) (fun v=>rank cT (keyOf cT vs v)) (pairsOf vs):=by
 intro E p q Q hp hq h
 rw[pairsOf_toList] at hp hq
 obtain⟨m1,t1⟩:=qt hv p.1 (mem_zip_self hp).2
 obtain⟨m2,t2⟩:=qt hv q.1 (mem_zip_self hq).2
 rw[Yj m1] at h
 have sh:=hsh _ m1 _ m2
 obtain⟨a,o,its,n,e,g,c,d,k⟩:=t1
 obtain⟨a',o',its',n',e',g',c',d',k'⟩:=t2
 rw[e,e']
 exact ahv g d g' d' k k' sh h
theorem Uw {h:Heap} {vs:List Value} {cT:List (List Key)} (hv:Paired (mX h) cT vs) {xs:Array Keyed} (hp:xs.Perm (pairsOf vs)) (up:Up (fun v=>rank cT (keyOf cT vs v)) xs (pairsOf vs).size):Paired (mX h) (qp cT) (xs.map (·.2)).toList:=by
 have hl:xs.toList.Perm (vs.zip vs):=by rw[<-pairsOf_toList];exact Array.perm_iff_toList_perm.mp hp
 have hm:∀ p∈xs.toList,p.1=p.2/\p.1∈vs:=fun p q=>mem_zip_self (hl.mem_iff.mp q)
 have e:(xs.map (·.2)).toList=xs.toList.map (·.1):=by
  rw[Array.toList_map];exact ZO fun p q=>(hm p q).1.symm
 have pv:(xs.toList.map (·.1)).Perm vs:=by
  have:=hl.map Prod.fst
  rwa [List.map_fst_zip (zi _)] at this
 have key:qp cT=(xs.toList.map (·.1)).map (keyOf cT vs):=by
  refine (Bl ?_ ?_).symm
  ·have:=pv.map (keyOf cT vs)
   rwa [Iv hv _ fun v q=>(qt hv v q).2] at this
  ·rw[List.pairwise_iff_getElem]
   intro i j hi hj hij
   have hi':i < xs.size:=by simpa using hi
   have hj':j < xs.size:=by simpa using hj
   have u:=up i j (jn hij) (by rw[<-hp.size_eq];exact hj')
   unfold at_ at u
   rw[getElem?_pos xs i hi',getElem?_pos xs j hj'] at u
   have m2:=(qt hv xs[j].1 (hm xs[j] (by simp)).2).1
   simp only[List.getElem_map,Array.getElem_toList]
   unfold BW
   rw[<-Yj m2,qq (Nat.not_lt.mpr u)]
   rfl
 rw[key,e]
 refine CT fun v q=>(qt hv v ?_).2
 exact pv.mem_iff.mp q
end
end S1
end
section
namespace P1
open PySem PySem.Spec PyProof.Rows L2 S1
section
variable {prog:Program} {w:World} {A:Around} {E:VP_} {s:Shared}
theorem WX {l:Addr} {o:Obj} {T:String} {vs:List Value} {n:Nat} {Q:List Value->Shared->Prop} (ho:s.heap.get? l=some o) (hc:o.cls=.type T) (hT:T = "list" ∨ T = "tuple") (hd:o.data=.seq vs.toArray n) (hz:vs.length<=sizeLine)
  (h:∀ h' tk,s.heap.objs.size<=h'.objs.size->(∀ c o,s.heap.get? c=some o->h'.get? c=some o)->Q vs { s with heap:=h',toks:=tk }):wpAny (model prog w) A (collect (.ref l)) Q E s:=by
 unfold collect
 refine zd (wpAny_runValue (jI entry_proto_collect' ?_))
 show wpAny _ _ (newList [] >>= fun q=>again (.builtin "list.__iadd__" ⟨[q,.ref l],[]⟩)) _ _ s
 refine zd (wpAny_newList (ze ⟨Code.quiet_builtin _ (by decide +kernel),jI entry_list_iadd' ?_⟩))
 show wpAny _ _ (Builtin.List.listExtendWith (.ref s.heap.objs.size) (.ref l) (.ref s.heap.objs.size)) _ _ _
 unfold Builtin.List.listExtendWith
 have g1:(s.heap.push (seqObj "list" #[] 0)).get? l=some o:=zg _ ho
 refine zd (QN (T:=T) ⟨o,g1,hc⟩ ?_)
 have ht:(Value.type T==Value.type "list" || Value.type T==Value.type "tuple")=true:=by rcases hT with rfl|rfl<;>decide
 rw[zo (by rw[Bool.or_assoc,ht];simp)]
 refine zd (listItems_at g1 hd (zd (listItems_at (xs:=#[]) (n:=0) (zC _ rfl) rfl ?_)))
 rw[zI (by simp)]
 have g2:(s.heap.push (seqObj "list" #[] 0)).get? s.heap.objs.size=some (seqObj "list" #[] 0):=zC _ rfl
 refine zd (listUpdate_at (xs:=#[]) (n:=0) g2 rfl (ze ?_) (QO _) (by show (#[]++vs.toArray).size<=sizeLine+1;simp only[kB,zr,List.length_nil];omega))
 show wpAny (model prog w) A (load s.heap.objs.size >>= _) Q E _
 refine zd (wpAny_load (get?_update_seq g2 _) ?_)
 show wpAny _ _ (pure ((#[]:Array Value)++vs.toArray).toList) Q E _
 rw[show ((#[]:Array Value)++vs.toArray).toList=vs by simp]
 refine ze (h _ s.toks ?_ fun c oc e=>?_)
 ·rw[Heap.size_update,size_push'];exact kr _
 ·rw[km _ _ _ _ (Zl (zD e))]
  exact zg _ e
end
def ahw:Dt->Option Key
 |.int i=>some (.inl i)
 |.str x=>some (.inr x)
 |_=>none
def Qc:List Dt->Option (List Key)
 |[]=>some []
 |d::ds=>(ahw d).bind fun k=>(Qc ds).bind fun ks=>some (k::ks)
def Iw:Dt->Option (List Key)
 |.tup ds=>Qc ds
 |_=>none
def CV:List Dt->Option (List (List Key))
 |[]=>some []
 |d::ds=>(Iw d).bind fun k=>(CV ds).bind fun ks=>some (k::ks)
def dK:Key->Dt
 |.inl i=>.int i
 |.inr x=>.str x
def tupK (ks:List Key):Dt:=.tup (ks.map dK)
theorem aeO {d:Dt} {k:Key} (h:ahw d=some k):d=dK k:=by
 cases d<;>cases h<;>rfl
theorem Ux:∀ {ds:List Dt} {ks:List Key},Qc ds=some ks->ds=ks.map dK
 |[],_,h=>by cases h;rfl
 |d::ds,_,h=>by
  obtain⟨k,e1,h⟩:=bind_some h
  obtain⟨ks,e2,h⟩:=bind_some h
  cases h
  rw[zz,aeO e1,Ux e2]
theorem tR {d:Dt} {ks:List Key} (h:Iw d=some ks):d=tupK ks:=by
 cases d with
 |tup ds=>exact congrArg Dt.tup (Ux h)
 |_=>cases h
theorem GJ:∀ {ds:List Dt} {cT:List (List Key)},CV ds=some cT->ds=cT.map tupK
 |[],_,h=>by cases h;rfl
 |d::ds,_,h=>by
  obtain⟨k,e1,h⟩:=bind_some h
  obtain⟨ks,e2,h⟩:=bind_some h
  cases h
  rw[zz,tR e1,GJ e2]
section
variable {X:Cx}
theorem aeP {K:FG_} {H:Hp} {k:Key} {v:V} (h:Rep K H (dK k) v):v=kV k:=by
 cases k with
 |inl i=>exact (show v=.int i by simpa only[dK,Rep] using h)
 |inr x=>exact (show v=.str x/\x.length<=sizeLine by simpa only[dK,Rep] using h).1
theorem Bm {K:FG_} {H:Hp}:∀ {ks:List Key} {vs:List V},aR K H (ks.map dK) vs->vs=ks.map kV
 |[],_,h=>by simp only[JE,aR] at h;exact h
 |k::ks,_,h=>by
  simp only[zz,aR] at h
  obtain⟨v,r,rfl,h1,h2⟩:=h
  rw[aeP h1,Bm h2,zz]
theorem abM (X:Cx) {ks:List Key}:∀ {us:List Value},Vals (ks.map kV) us->Ks ks us:=by
 induction ks with
 |nil=>intro us h;cases h;exact .nil
 |cons k ks ih=>
  intro us h
  cases h with
  |cons r t=>exact .cons (ai0 (P:=X.prog) (w:=X.w) r) (ih t)
theorem uL {pins:List (Addr×Obj)} {σ:L2.St} {H:Hp} {s:Shared} (I:Inv X pins σ H s):∀ {cT:List (List Key)} {vs:List V} {its:List Value},aR X.K H (cT.map tupK) vs->Vals vs its->Paired (mX s.heap) cT its
 |[],_,_,h,r=>by
  simp only[JE,aR] at h
  subst h;cases r;exact .nil
 |k::cT,_,_,h,r=>by
  simp only[zz,aR] at h
  obtain⟨v,vs,rfl,h1,h2⟩:=h
  cases r with
  |cons r1 r2=>
   refine .cons ?_ (uL I h2 r2)
   simp only[tupK,Rep] at h1
   obtain⟨a,ws,rfl,sq,rs⟩:=h1
   obtain⟨its,rv,⟨o,g,c,n,d⟩,_⟩:=I.tuple sq
   cases r1
   rw[Bm rs] at rv
   exact⟨a,o,its,n,rfl,g,c,d,abM X rv⟩
theorem GK {pins:List (Addr×Obj)} {σ:L2.St} {H:Hp} {s:Shared} (I:Inv X pins σ H s) {cT:List (List Key)} {vs:List V} {its:List Value} (h:aR X.K H (cT.map tupK) vs) (r:Vals vs its):∀ {lss:List (List Key)} {out:List Value},Paired (mX s.heap) lss out->(∀ u∈out,u∈its)->∃ zs,Vals zs out/\aR X.K H (lss.map tupK) zs
 |_,_,.nil,_=>⟨[],.nil,aR.nil⟩
 |l::lss,u::out,.cons q t,hm=>by
  obtain⟨zs,z1,z2⟩:=GK I h r t fun x hx=>hm x (zl _ hx)
  have aux:∀ (cT:List (List Key)) (vs:List V) (its:List Value),aR X.K H (cT.map tupK) vs->Vals vs its->u∈its->∃ v,RelV v u/\Rep X.K H (tupK l) v:=by
   intro cT
   induction cT with
   |nil=>
    intro vs its h r hu
    simp only[JE,aR] at h
    subst h;cases r;cases hu
   |cons k cT ih=>
    intro vs its h r hu
    simp only[zz,aR] at h
    obtain⟨v,vs,rfl,h1,h2⟩:=h
    cases r with
    |@cons _ u' _ _ r1 r2=>
     rcases List.mem_cons.mp hu with rfl|hu
     ·have e:k=l:=by
       have:=uL I (cT:=[k]) (vs:=[v]) (its:=[u]) (by simp only[zz,JE];exact aR.cons h1 aR.nil) (.cons r1 .nil)
       cases this with
       |cons q' _=>exact q'.inj q
      subst e
      exact⟨v,r1,h1⟩
     ·exact ih vs _ h2 r2 hu
  obtain⟨v,r1,h1⟩:=aux cT vs its h r (hm u (zt ..))
  exact⟨v::zs,.cons r1 z1,by rw[zz];exact aR.cons h1 z2⟩
def Uy (k l:List Key):Bool:=((k.zip l).all fun p=>Uu p.1 p.2)
theorem GP:∀ {k l:List Key},Uy k l=true->Shp k l
 |[],_,_=>by simp[Shp]
 |_::_,[],_=>by simp[Shp]
 |x::k,y::l,h=>by
  unfold Uy at h
  rw[Kn,Jn,zv] at h
  exact⟨h.1,GP h.2⟩
def Od (cT:List (List Key)):Bool:=decide (cT.length < 64)&&(cT.all (fun k=>!k.isEmpty)&&cT.all fun k=>cT.all fun l=>Uy k l)
def GQ:List Bx->Option Bx
 |[b]=>(vU b).bind fun ds=>(CV ds).bind fun cT=>if Od cT=true then some (.o ((qp cT).map tupK)) else none
 |_=>none
theorem J6 {K:FG_} {H:Hp} {b:Bx} {v:V} {ds:List Dt} (h:bF K H b v) (e:vU b=some ds):∃ a vs,v=.ref a/\(yK K H a vs\/BL K H a vs)/\aR K H ds vs:=by
 cases b with
 |z d=>
  cases d<;>first|(cases e;done)|skip
  ·cases e
   simp only[bF,Rep] at h
   obtain⟨a,vs,e,q,r⟩:=h
   exact⟨a,vs,e,.inr q,r⟩
  ·cases e
   simp only[bF,Rep] at h
   obtain⟨a,vs,e,q,r⟩:=h
   exact⟨a,vs,e,.inl q.sq,r⟩
 |l ds'=>cases e;obtain⟨a,vs,e,q,r⟩:=h;exact⟨a,vs,e,.inl (.inl q),r⟩
 |o ds'=>cases e;obtain⟨a,vs,e,q,r⟩:=h;exact⟨a,vs,e,.inl (.inl (.inl q)),r⟩
 |n _=>cases e
 |m _ _=>cases e
theorem abN:wK X (.builtin "sorted") GQ:=by
 intro pins s σ H xs us Q I rx h
 obtain⟨bs,c,rb,e,q⟩:=h
 unfold GQ at e
 split at e
 ·rename_i b
  obtain⟨ds,ed,e⟩:=bind_some e
  obtain⟨cT,ek,e⟩:=bind_some e
  split at e
  ·rename_i hs
   cases e
   simp only[Od,zv,zS,QU,Q3] at hs
   obtain⟨h64,hne,hsh⟩:=hs
   obtain⟨v,rfl,r1⟩:=rep1 rb
   obtain⟨p,vs,rfl,sq,rs⟩:=J6 r1 ed
   obtain⟨u,rfl,ru⟩:=vals1 rx
   cases ru
   have eds:=GJ ek
   subst eds
   have got:∃ (its:List Value) (o:Obj) (T:String) (n:Nat),Vals vs its/\s.heap.get? p=some o/\o.cls=.type T/\(T = "list" ∨ T = "tuple")/\o.data=.seq its.toArray n/\vs.length<=sizeLine:=by
    rcases sq with sq|sq
    ·obtain⟨its,r',pl,hz⟩:=I.list sq
     obtain⟨o,g,c,n,d⟩:=pl.isList
     exact⟨its,o,_,n,r',g,c,.inl rfl,d,hz⟩
    ·obtain⟨its,r',⟨o,g,c,n,d⟩,hz⟩:=I.tuple sq
     exact⟨its,o,_,n,r',g,c,.inr rfl,d,hz⟩
   obtain⟨its,o,T,n,r',g,hc,hT,hd,hz⟩:=got
   have hlen:its.length=cT.length:=by rw[<-r'.length,rs.length,zh]
   have tv:=uL I rs r'
   refine ZJ (kd:=tuples' true) (rk:=fun v=>rank cT (keyOf cT its v)) (vs:=its) (fun E' Q' hq=>WX g hc hT hd (by rw[<-r'.length];exact hz) hq)
    (fun h2 E' A' s' k Q' hq=>Qa (Paired.imp' (fun _ _ z=>mX.keep z k) tv) (fun k hk=>by have:=hne k hk;cases k with|nil=>cases this|cons _ _=>exact List.cons_ne_nil _ _) (fun k hk l hl=>GP (hsh k hk l hl)) (by omega) hq)
    (fun A' s' k=>Uv (Paired.imp' (fun _ _ z=>mX.keep z k) tv) fun k hk l hl=>GP (hsh k hk l hl)) (by omega) fun l h' tk m st hp up hl ext hL=>?_
   have out:=Uw tv hp up
   have mem:∀ u∈((arrOf st).map (·.2)).toList,u∈its:=fun u hu=>by
    rw[Array.toList_map] at hu
    obtain⟨pr,hpr,rfl⟩:=List.mem_map.mp hu
    have ahx:pr∈its.zip its:=by rw[<-pairsOf_toList];exact (Array.perm_iff_toList_perm.mp hp).mem_iff.mp hpr
    have:=mem_zip_self ahx
    rw[<-this.1];exact this.2
   obtain⟨zs,z1,z2⟩:=GK I rs r' out mem
   have hzl:zs.length=cT.length:=by rw[z2.length,zh,(qZ cT).length_eq]
   have hH:H l=none:=I.hok.fresh hl
   refine⟨.ref l,_,I.laid (t':=tk) (a:=l) (o:=.lst zs) ext hl ⟨by rw[hzl];exact jn (ZN h64 (by decide)),_,m,z1,?_⟩,rfl,q _ _ (bV hH) (fun a ea=>by cases ea;exact hH) ⟨l,zs,rfl,bU,z2.kp (.of (bV hH))⟩⟩
   rw[hL]
  ·cases e
 ·cases e
end
end P1
end
section
namespace S6
open PySem PySem.Spec PyProof.Rows
theorem ZP {M:Model} {A:Around} {E:VP_} {s:Shared} {src:Source} {n:Nat} {Q:Nat->Shared->Prop} (hn:n≠0) (h:∀ i d,i < n->Q i { s with drawn:=d }):wpAny M A (choose src n) Q E s:=
 fun Γ p hΓ=>⟨hn,h _ _ (Nat.mod_lt _ (Nat.pos_of_ne_zero hn))⟩
theorem RB {α:Type}:∀ {xs:List α} {i:Nat} (hi:i < xs.length),(xs[i]::xs.eraseIdx i).Perm xs
 |x::xs,0,_=>kX _
 |x::xs,i+1,h=>by
  rw[List.eraseIdx_cons_succ,List.getElem_cons_succ]
  exact (List.Perm.swap _ _ _).trans ((RB (xs:=xs) (i:=i) (by simpa using h)).cons x)
theorem aeQ {M:Model} {A:Around} {E:VP_} {α:Type}:∀ (n:Nat) (xs:List α) (s:Shared) (Q:List α->Shared->Prop),xs.length=n->(∀ ys d,ys.Perm xs->Q ys { s with drawn:=d })->wpAny M A (drawOrder n xs) Q E s:=by
 intro n
 induction n with
 |zero=>
  intro xs s Q hl h
  cases xs with
  |nil=>
   unfold drawOrder
   exact ze (h [] s.drawn (kX _))
  |cons x xs=>simp at hl
 |succ n ih=>
  intro xs s Q hl h
  cases xs with
  |nil=>simp at hl
  |cons x xs=>
   unfold drawOrder
   refine zd (ZP (by simp) fun i d hi=>?_)
   have e:(x::xs)[i]?=some (x::xs)[i]:=by simp[hi]
   rw[e]
   dsimp only
   refine zd (ih ((x::xs).eraseIdx i) _ _ (by rw[List.length_eraseIdx,zo hi];simp at hl ⊢;omega) fun ys d' hp=>ze ?_)
   exact h _ d' ((List.Perm.cons _ hp).trans (RB hi))
theorem Yk {α:Type} (next:Nat->Nat):∀ (n k:Nat) (xs:List α) (out:Array α),xs.length=n->(pickOrder.go next n k xs out).toList.Perm (out.toList++xs)
 |0,k,[],out,_=>by unfold pickOrder.go;simp
 |n+1,k,x::xs,out,hl=>by
  unfold pickOrder.go
  have hi:next k % (x::xs).length < (x::xs).length:=Nat.mod_lt _ (by simp)
  have e:(x::xs)[next k % (x::xs).length]?=some (x::xs)[next k % (x::xs).length]:=by rw[Zs hi]
  rw[e]
  dsimp only
  refine (Yk next n (k+1) _ _ (by rw[List.length_eraseIdx,zo hi];simp at hl ⊢;omega)).trans ?_
  rw[Array.toList_push,JY]
  exact (kX _).append (RB hi)
theorem ZQ {α:Type} (next:Nat->Nat) (xs:Array α):(pickOrder next xs).toList.Perm xs.toList:=by
 have:=Yk next xs.size 0 xs.toList #[] (by simp)
 simpa [pickOrder] using this
structure Wk (w:World) (h:Heap) (a:Addr) (es:Array (Int×Value)) (ep:Nat) (t:SetTable):Prop where
 at_:∃ o,h.get? a=some o/\o.cls=.type "set" ∧ o.data=.set es ep t
 fit:t.fits es.size=true
 led:w.params.followText "set-order" = false->t.led=true
 non:1 < es.size->t.plain=false
theorem Wk.keep {w:World} {h h':Heap} {a:Addr} {es:Array (Int×Value)} {ep:Nat} {t:SetTable} (x:Wk w h a es ep t) (k:∀ o,h.get? a=some o->h'.get? a=some o):Wk w h' a es ep t:=
 ⟨let ⟨o,e,r⟩:=x.at_;⟨o,k o e,r⟩,x.fit,x.led,x.non⟩
def It (h:Heap) (it a:Addr) (first:Value) (i n ep:Nat):Prop:=∃ o,h.get? it=some o/\o.cls=.type "set_iterator" ∧ o.data=.fields #[first,.int (i:Int) 0,.ref a,.int (n:Int) 0,.int (ep:Int) 0]
theorem It.keep {h h':Heap} {it a:Addr} {f:Value} {i n ep:Nat} (x:It h it a f i n ep) (k:∀ o,h.get? it=some o->h'.get? it=some o):It h' it a f i n ep:=
 let ⟨o,e,r⟩:=x;⟨o,k o e,r⟩
theorem It.ty {s:Shared} {it a:Addr} {f:Value} {i n ep:Nat} (x:It s.heap it a f i n ep):s.TypeIs (.ref it) "set_iterator" := let ⟨o,e,c,_⟩:=x;⟨o,e,c⟩
theorem lV:Slot "set_iterator" "__next__" "set_iterator.__next__" :=
 .of (owner := "set_iterator") (n := "__next__") (by rw[typeLookup_type,builtinLookup_eq_fast];kernel_rfl) (by decide +kernel) (by decide +kernel) (by decide +kernel)
  (by first|exact .inl (by decide +kernel)|exact .inr (by decide +kernel)) (by rw[isSubtype_type];kernel_rfl)
theorem Ep:Slot "set_iterator" "__iter__" "set_iterator.__iter__" :=
 .of (owner := "set_iterator") (n := "__iter__") (by rw[typeLookup_type,builtinLookup_eq_fast];kernel_rfl) (by decide +kernel) (by decide +kernel) (by decide +kernel)
  (by first|exact .inl (by decide +kernel)|exact .inr (by decide +kernel)) (by rw[isSubtype_type];kernel_rfl)
theorem Oe:entryFor table "set_iterator.__next__" = some Builtin.«set_iterator.__next__»:=entryFor_of_tree (by kernel_rfl)
theorem Jw:entryFor table "set.__iter__" = some Builtin.«frozenset.__iter__»:=entryFor_alias (id' := "frozenset.__iter__") (by kernel_rfl) rfl (by decide +kernel) (by kernel_rfl)
theorem Og:entryFor table "set_iterator.__iter__" = some Builtin.«dict_keyiterator.__iter__»:=entryFor_alias (id' := "dict_keyiterator.__iter__") (by kernel_rfl) rfl (by decide +kernel) (by kernel_rfl)
theorem abO:Manifest.owners.lookup (String.ofList "rotareti_tes".toList.reverse)=some Manifest.sig_set_iterator:=by kernel_rfl
theorem RD (a:Value):argsOk "set_iterator.__next__" ⟨[a],[]⟩:=by
 unfold argsOk;rw[signature?_of (id := "set_iterator.__next__") (n := "__txen__".toList) (o := "rotareti_tes".toList) (by kernel_rfl) abO];kernel_rfl
theorem RG (a:Value):argsOk "set_iterator.__iter__" ⟨[a],[]⟩:=by
 unfold argsOk;rw[signature?_of (id := "set_iterator.__iter__") (n := "__reti__".toList) (o := "rotareti_tes".toList) (by kernel_rfl) abO];kernel_rfl
section
variable {prog:Program} {w:World} {A:Around} {E:VP_} {s:Shared} {it a:Addr} {i ep:Nat} {es:Array (Int×Value)} {t:SetTable}
theorem J7 {first:Value} {Q:Option Value->Shared->Prop} (hit:It s.heap it a first i es.size ep) (hw:Wk w s.heap a es ep t)
  (h:wpAny (model prog w) A.in1 (if let .int slot _:=first then (do
    match <-setNext a slot.toNat (i:Int).toNat (ep:Int).toNat with
    |some (x,next)=>
     setField (.ref it) 0 (rawInt next)
     setField (.ref it) 1 (rawInt ((i:Int)+1))
     ret x
    |none=>setField (.ref it) 2 .none;raiseNew (<-newExc (.type "StopIteration") []))
   else (do
    let some places <-seqItems? first|unsupported "internal:set_iterator"
    match places[(i:Int).toNat]? with
    |some (.int place _)=>
     let x <-setNextDrawn a place.toNat (ep:Int).toNat
     setField (.ref it) 1 (rawInt ((i:Int)+1))
     ret x
    |some _=>unsupported "internal:set_iterator"
    |none=>setField (.ref it) 0 (rawInt 0);setField (.ref it) 2 .none;raiseNew (<-newExc (.type "StopIteration") []))) (fun fin s'=>∃ v,fin=.done (.ret v)/\Q (some v) s') (fun e s'=>s'.TypeIs e "StopIteration" ∧ Q none s') s):wpAny (model prog w) A (pyNext (.ref it)) Q E s:=by
 obtain⟨o,ho,hc,hd⟩:=id hit
 obtain⟨oa,hoa,hca,hda⟩:=hw.at_
 unfold pyNext
 refine zd (wpAny_attempt (ky (name:=Str.ofString "__next__") hit.ty lV (QR lV hit.ty Oe ?_ (RD _))))
 unfold Builtin.«set_iterator.__next__»
 refine zd (ze ?_)
 refine zd (wpAny_fieldsOf ho hd ?_)
 show wpAny _ _ (setEntries a >>= _) _ _ s
 refine zd (wpAny_setEntries_of hoa hda hw.fit ?_)
 rw[zI (by simp)]
 refine Qb h (fun fin s' hq=>?_) fun e s' hq=>?_
 ·obtain⟨v,rfl,hv⟩:=hq
  exact⟨v,rfl,ze hv⟩
 ·refine zd (kF (T := "StopIteration") (b:=true) hq.1 isSubtype_stop ?_)
  exact ze hq.2
theorem Yl {hp:Heap} {Q:Option Value->Shared->Prop} (hh:A.handled=none) (h:∀ h',(∀ b o,hp.get? b=some o->h'.get? b=some o)->Q none { s with heap:=h' }) :
  wpAny (model prog w) A.in1 (do raiseNew (<-newExc (.type "StopIteration") [])) (fun (fin:Fin) s'=>∃ v,fin=.done (.ret v)/\Q (some v) s') (fun e s'=>s'.TypeIs e "StopIteration" ∧ Q none s') { s with heap:=hp }:=by
 refine zd ?_
 simp only[newExc,newTuple]
 refine zd (ZZ ?_ (by size_fits))
 refine zd (m:=firstArgMember _ _) (wpAny_of_eq (a:=Value.none) (by first|rfl|(simp only[firstArgMember];rfl)) ?_)
 refine ZZ ?_ (by size_fits)
 simp only[raiseNew]
 refine zd (wpAny_handled ?_)
 rw[show A.in1.handled=none from hh]
 refine zd (ze (wpAny_throw ⟨⟨_,zC _ rfl,rfl⟩,?_⟩))
 exact h _ fun b o e=>zg _ (zg _ e)
theorem It.put {h:Heap} {f:Value} {n:Nat} (hit:It h it a f i n ep) (x:Value):It (h.update it (Obj.mapFields (·.setIfInBounds 0 x))) it a x i n ep:=by
 obtain⟨o,ho,hc,hd⟩:=hit
 exact⟨_,kD _ ho (Obj.isFreed_of_fields (Kj hd _)),(Obj.cls_mapFields ..).trans hc,by rw[Kj hd];simp⟩
theorem It.step {h:Heap} {f:Value} {n:Nat} (hit:It h it a f i n ep):It (h.update it (Obj.mapFields (·.setIfInBounds 1 (rawInt ((i:Int)+1))))) it a f (i+1) n ep:=by
 obtain⟨o,ho,hc,hd⟩:=hit
 exact⟨_,kD _ ho (Obj.isFreed_of_fields (Kj hd _)),(Obj.cls_mapFields ..).trans hc,by rw[Kj hd];simp[rawInt]⟩
theorem It.field {f:Value} {n k:Nat} {x:Value} {A:Around} {Q:Unit->Shared->Prop} {E:VP_} (hit:It s.heap it a f i n ep) (hk:k < 5) (h:Q () { s with heap:=s.heap.update it (Obj.mapFields (·.setIfInBounds k x)) }):wpAny (model prog w) A (setField (.ref it) k x) Q E s:=by
 obtain⟨o,ho,hc,hd⟩:=hit
 exact wpAny_setField ho hd (by simpa using hk) h
theorem wO {h:Heap} {f:Obj->Obj} {b:Addr} {o:Obj} (hb:b≠it) (e:h.get? b=some o):(h.update it f).get? b=some o:=by rw[km _ _ _ _ hb];exact e
theorem abP {slot next:Nat} {x:Value} {Q:Option Value->Shared->Prop} (hit:It s.heap it a (.int (slot:Int) 0) i es.size ep) (hw:Wk w s.heap a es ep t)
  (hS:∀ {A':Around} {E':VP_} {Q':Option (Value×Nat)->Shared->Prop},Q' (some (x,next)) s->wpAny (model prog w) A' (setNext a slot i ep) Q' E' s)
  (h:∀ h',It h' it a (.int (next:Int) 0) (i+1) es.size ep->(∀ b o,b≠it->s.heap.get? b=some o->h'.get? b=some o)->Q (some x) { s with heap:=h' }):wpAny (model prog w) A (pyNext (.ref it)) Q E s:=by
 refine J7 hit hw ?_
 show wpAny _ _ (setNext a slot i ep >>= _) _ _ s
 refine zd (hS ?_)
 refine zd (hit.field (by decide) ?_)
 refine zd ((hit.put _).field (s:={ s with heap:=_ }) (by decide) ?_)
 exact ze ⟨x,rfl,h _ ((hit.put _).step) fun b o hb e=>wO hb (wO hb e)⟩
theorem KZ {slot:Nat} {Q:Option Value->Shared->Prop} (hh:A.handled=none) (hit:It s.heap it a (.int (slot:Int) 0) i es.size ep) (hw:Wk w s.heap a es ep t)
  (hS:∀ {A':Around} {E':VP_} {Q':Option (Value×Nat)->Shared->Prop},Q' none s->wpAny (model prog w) A' (setNext a slot i ep) Q' E' s)
  (h:∀ h',(∀ b o,b≠it->s.heap.get? b=some o->h'.get? b=some o)->Q none { s with heap:=h' }):wpAny (model prog w) A (pyNext (.ref it)) Q E s:=by
 refine J7 hit hw ?_
 show wpAny _ _ (setNext a slot i ep >>= _) _ _ s
 refine zd (hS ?_)
 refine zd (hit.field (by decide) (Yl hh fun h' k=>h h' fun b o hb e=>k b o (wO hb e)))
theorem aeR {tp:Addr} {pl:List Nat} {ot:Obj} {c:Nat} {j:Nat} {x:Int×Value} {Q:Option Value->Shared->Prop} (hit:It s.heap it a (.ref tp) i es.size ep) (hw:Wk w s.heap a es ep t)
  (ht:s.heap.get? tp=some ot) (hd:ot.data=.seq (pl.map fun (k:Nat)=>rawInt (k:Int)).toArray c) (hj:pl[i]?=some j) (hx:es[j]?=some x)
  (h:∀ h',It h' it a (.ref tp) (i+1) es.size ep->(∀ b o,b≠it->s.heap.get? b=some o->h'.get? b=some o)->Q (some x.2) { s with heap:=h' }):wpAny (model prog w) A (pyNext (.ref it)) Q E s:=by
 refine J7 hit hw ?_
 show wpAny _ _ (seqItems? (.ref tp) >>= _) _ _ s
 refine zd (m:=seqItems? (.ref tp)) ?_
 unfold seqItems?
 refine zd (wpAny_load ht ?_)
 rw[hd]
 refine ze ?_
 dsimp only
 rw[KI,show ((pl.map fun (k:Nat)=>rawInt (k:Int)).toArray)[i]?=some (rawInt (j:Int)) by simp[hj]]
 show wpAny _ _ (setNextDrawn a j ep >>= _) _ _ s
 obtain⟨oa,hoa,hca,hda⟩:=hw.at_
 refine zd (m:=setNextDrawn a j ep) ?_
 unfold setNextDrawn
 refine zd (qE hoa hda hw.fit ?_)
 dsimp only
 rw[zI (by simp),hx]
 refine ze ?_
 refine zd (hit.field (by decide) ?_)
 exact ze ⟨x.2,rfl,h _ hit.step fun b o hb e=>wO hb e⟩
theorem Uz {tp:Addr} {pl:List Nat} {ot:Obj} {c:Nat} {Q:Option Value->Shared->Prop} (hh:A.handled=none) (hit:It s.heap it a (.ref tp) i es.size ep) (hw:Wk w s.heap a es ep t)
  (ht:s.heap.get? tp=some ot) (hd:ot.data=.seq (pl.map fun (k:Nat)=>rawInt (k:Int)).toArray c) (hj:pl[i]?=none)
  (h:∀ h',(∀ b o,b≠it->s.heap.get? b=some o->h'.get? b=some o)->Q none { s with heap:=h' }):wpAny (model prog w) A (pyNext (.ref it)) Q E s:=by
 refine J7 hit hw ?_
 show wpAny _ _ (seqItems? (.ref tp) >>= _) _ _ s
 refine zd (m:=seqItems? (.ref tp)) ?_
 unfold seqItems?
 refine zd (wpAny_load ht ?_)
 rw[hd]
 refine ze ?_
 dsimp only
 rw[KI,show ((pl.map fun (k:Nat)=>rawInt (k:Int)).toArray)[i]?=none by simpa using hj]
 refine zd (hit.field (by decide) ?_)
 refine zd ((hit.put _).field (s:={ s with heap:=_ }) (by decide) (Yl hh fun h' k=>h h' fun b o hb e=>k b o (wO hb (wO hb e))))
theorem Bo {Q:Bool->Shared->Prop} (h:Q (w.params.followText "set-order") s):wpAny (model prog w) A setsByText Q E s:=by
 unfold setsByText
 exact zd (wpAny_askSetting (ze h))
theorem RJ {f:Value} {n:Nat} {Q:VP_} (hit:It s.heap it a f i n ep) (h:Q (.ref it) s):wpAny (model prog w) A (pyIter (.ref it)) Q E s:=by
 refine wpAny_pyIter_slot hit.ty Ep (QR Ep hit.ty Og ?_ (RG _))
 show wpAny _ _ (ret (.ref it)) _ _ s
 exact ze ⟨_,rfl, "set_iterator", _,hit.ty,lV.lookup,h⟩
def RK (w:World) (a:Addr) (ep:Nat) (es:Array (Int×Value)):List Value:=(pickOrder (w.params.setOrder a ep) es).toList.map (·.2)
theorem GR:(RK w a ep es).Perm (es.toList.map (·.2)):=(ZQ _ _).map _
theorem Qd {slot:Nat} {Q:Option (Value×Nat)->Shared->Prop} (hf:w.params.followText "set-order" = true) (hw:Wk w s.heap a es ep t) (h:Q (((RK w a ep es)[i]?).map fun v=>(v,slot)) s):wpAny (model prog w) A (setNext a slot i ep) Q E s:=by
 obtain⟨oa,hoa,hca,hda⟩:=hw.at_
 unfold setNext
 refine zd (qE hoa hda hw.fit (zd (Bo ?_)))
 rw[hf]
 simp only[↓reduceIte,bne_self_eq_false,zk]
 refine zd (m:=setWalk a) ?_
 unfold setWalk
 refine zd (qE hoa hda hw.fit (zd (Bo ?_)))
 rw[hf]
 simp only[↓reduceIte]
 refine zd (wpAny_askSetting (ze (ze ?_)))
 have e:(pickOrder (w.params.setOrder a ep) es)[i]?.map (fun e=>(e.2,slot))=((RK w a ep es)[i]?).map fun v=>(v,slot):=by
  unfold RK
  rw[ZT,Option.map_map,qo]
  rfl
 rw[<-e] at h
 exact h
theorem WY (hh:A.handled=none) (hf:w.params.followText "set-order" = true) (hne:a≠it) (c:es.size<=sizeLine):Walks prog w A it [it,a] [it] es.size (fun i v=>(RK w a ep es)[i]?=some v) (fun i h=>It h it a (.int 0 0) i es.size ep/\Wk w h a es ep t) where
 sub:=fun b hb=>by simp at hb;simp[hb]
 frame:=fun _ _ _ st hk=>⟨st.1.keep fun o e=>hk it (by simp) o e,st.2.keep fun o e=>hk a (by simp) o e⟩
 item:=fun i s Q E hi st hQ=>by
  have hl:(RK w a ep es).length=es.size:=by rw[GR.length_eq];simp
  obtain⟨v,hv⟩:∃ v,(RK w a ep es)[i]?=some v:=⟨(RK w a ep es)[i]'(by omega),by rw[Zs]⟩
  refine abP (slot:=0) (next:=0) (x:=v) st.1 st.2 (fun {A' E' Q'} hq=>Qd hf st.2 (by rw[hv];exact hq)) fun h' hi' k=>?_
  exact hQ v h' s.toks hv ⟨hi',st.2.keep fun o e=>k a o hne e⟩ fun b o hb e=>k b o (fun x=>hb (by simp[x])) e
 done:=fun s Q E st hQ=>by
  have hl:(RK w a ep es).length=es.size:=by rw[GR.length_eq];simp
  refine KZ (slot:=0) hh st.1 st.2 (fun {A' E' Q'} hq=>Qd hf st.2 (by rw[qr (by omega)];exact hq)) fun h' k=>?_
  exact hQ h' s.toks fun b o hb e=>k b o (fun x=>hb (by simp[x])) e
 self:=fun _ _ _ _ st hQ=>RJ st.1 hQ
def ZR (pl:List Nat) (es:Array (Int×Value)):List Value:=pl.filterMap fun j=>es[j]?.map (·.2)
theorem ZS {pl:List Nat} (h:pl.Perm (List.range es.size)):(ZR pl es).Perm (es.toList.map (·.2)):=by
 refine (h.filterMap _).trans ?_
 rw[show (List.range es.size).filterMap (fun j=>es[j]?.map (·.2))=((List.range es.size).filterMap fun j=>es[j]?).map (·.2) by rw[List.map_filterMap],filterMap_getElem?_range]
theorem UG:∀ {pl:List Nat},(∀ j∈pl,j < es.size)->∀ (i:Nat) (j:Nat),pl[i]?=some j->(ZR pl es)[i]?=es[j]?.map (·.2)
 |[],_,_,_,h=>by simp at h
 |k::pl,hb,i,j,h=>by
  have hk:=hb k (zt ..)
  have e:ZR (k::pl) es=es[k].2::ZR pl es:=by simp[ZR,hk]
  rw[e]
  cases i with
  |zero=>cases (show k=j by simpa using h);simp[hk]
  |succ i=>rw[qV];exact UG (fun j hj=>hb j (zl _ hj)) i j (by simpa using h)
theorem W0 {tp:Addr} {pl:List Nat} (hh:A.handled=none) (hne:a≠it) (htp:tp≠it) (hp:pl.Perm (List.range es.size)):Walks prog w A it [it,a,tp] [it] es.size (fun i v=>(ZR pl es)[i]?=some v)
  (fun i h=>It h it a (.ref tp) i es.size ep/\Wk w h a es ep t/\∃ ot c,h.get? tp=some ot/\ot.data=.seq (pl.map fun (k:Nat)=>rawInt (k:Int)).toArray c) where
 sub:=fun b hb=>by simp at hb;simp[hb]
 frame:=fun _ _ _ st hk=>⟨st.1.keep fun o e=>hk it (by simp) o e,st.2.1.keep fun o e=>hk a (by simp) o e,let ⟨ot,c,e,r⟩:=st.2.2;⟨ot,c,hk tp (by simp) ot e,r⟩⟩
 item:=fun i s Q E hi st hQ=>by
  obtain⟨ot,c,e1,e2⟩:=st.2.2
  have hl:pl.length=es.size:=by rw[hp.length_eq];simp
  have hb:∀ j∈pl,j < es.size:=fun j hj=>List.mem_range.mp (hp.mem_iff.mp hj)
  have hj:pl[i]?=some (pl[i]'(by omega)):=by rw[Zs]
  have hx:es[pl[i]'(by omega)]?=some (es[pl[i]'(by omega)]'(hb _ (List.getElem_mem _))):=by rw[ZU]
  refine aeR st.1 st.2.1 e1 e2 hj hx fun h' hi' k=>?_
  exact hQ _ h' s.toks (by rw[UG hb i _ hj,hx];rfl) ⟨hi',st.2.1.keep fun o e=>k a o hne e,ot,c,k tp ot htp e1,e2⟩ fun b o hb e=>k b o (fun x=>hb (by simp[x])) e
 done:=fun s Q E st hQ=>by
  obtain⟨ot,c,e1,e2⟩:=st.2.2
  have hl:pl.length=es.size:=by rw[hp.length_eq];simp
  refine Uz hh st.1 st.2.1 e1 e2 (by rw[qr (by omega)]) fun h' k=>?_
  exact hQ h' s.toks fun b o hb e=>k b o (fun x=>hb (by simp[x])) e
 self:=fun _ _ _ _ st hQ=>RJ st.1 hQ
def zV (t:SetTable) (i:Nat):Nat:=if i=0 then 0 else t.place.getD 0 0+1
theorem aeS (j:Nat):SetTable.below #[j] 0=0:=by
 show SetTable.below.go #[j] 0 1 0 1=0
 unfold SetTable.below.go
 rw[zo (by decide)]
 show (if #[j].getD 0 0 < 0 then _ else SetTable.below.go #[j] 0 0 0 0)=0
 rw[zI (JI _)]
 rfl
theorem aeT (j:Nat):SetTable.below #[j] (j+1)=1:=by
 show SetTable.below.go #[j] (j+1) 1 0 1=1
 unfold SetTable.below.go
 rw[zo (by decide)]
 show (if j < j+1 then SetTable.below.go #[j] (j+1) 0 1 1 else _)=1
 rw[zo (qA _)]
 rfl
theorem ZV {P:Option (Value×Nat)->Prop} {r:Option (Value×Nat)} (hp:t.place.size=es.size) (hn:es.size<=1) (hi:i<=es.size)
  (hr:r=match es[SetTable.below t.place (zV t i)]?,t.place[SetTable.below t.place (zV t i)]? with
   |some (_,x),some j=>some (x,j+1)
   |_,_=>none) (h:P (((es.toList.map (·.2))[i]?).map fun v=>(v,zV t (i+1)))):P r:=by
 subst hr
 by_cases h0:es.size=0
 ·have e:es=#[]:=Array.eq_empty_of_size_eq_zero h0
  subst e
  simpa using h
 ·have h1:es.size=1:=by omega
  obtain⟨x,rfl⟩:=Array.size_eq_one_iff.mp h1
  obtain⟨j,hj⟩:=Array.size_eq_one_iff.mp (hp.trans h1)
  have hi:i=0\/i=1:=by omega
  rcases hi with rfl|rfl
  ·have e1:zV t 0=0:=rfl
   have e2:zV t (0+1)=j+1:=by unfold zV;rw[hj];rfl
   rw[e2] at h
   rw[e1,hj,aeS]
   exact h
  ·have e2:zV t 1=j+1:=by unfold zV;rw[hj];rfl
   rw[e2,hj,aeT]
   exact h
theorem K1 {Q:Option (Value×Nat)->Shared->Prop} (hf:w.params.followText "set-order" = false) (hw:Wk w s.heap a es ep t) (hn:es.size<=1) (hi:i<=es.size) (h:Q (((es.toList.map (·.2))[i]?).map fun v=>(v,zV t (i+1))) s):wpAny (model prog w) A (setNext a (zV t i) i ep) Q E s:=by
 obtain⟨oa,hoa,hca,hda⟩:=hw.at_
 have hp:t.place.size=es.size:=by
  have:=hw.fit
  simp only[SetTable.fits,zv,beq_iff_eq] at this
  exact this.1
 unfold setNext
 refine zd (qE hoa hda hw.fit (zd (Bo ?_)))
 rw[hf]
 simp only[zk,↓reduceIte]
 split
 ·rename_i hc
  have hc:(!t.plain&&decide (es.size > 1))=true:=hc
  simp at hc
  omega
 ·have hl:wpAny (model prog w) A (if (!t.led&&!es.isEmpty)=true then unsupported "set:maker-not-led" else pure PUnit.unit) (fun _ s'=>s'=s) E s:=by
   rw[hw.led hf]
   exact ze rfl
  refine zd (Qb hl (fun _ s' e=>?_) fun _ _ x=>x)
  subst e
  refine ze ?_
  exact ZV (P:=fun r=>Q r s') hp hn hi rfl h
theorem UJ (hh:A.handled=none) (hf:w.params.followText "set-order" = false) (hn:es.size<=1) (hne:a≠it):Walks prog w A it [it,a] [it] es.size (fun i v=>(es.toList.map (·.2))[i]?=some v) (fun i h=>It h it a (.int (zV t i:Nat) 0) i es.size ep/\Wk w h a es ep t) where
 sub:=fun b hb=>by simp at hb;simp[hb]
 frame:=fun _ _ _ st hk=>⟨st.1.keep fun o e=>hk it (by simp) o e,st.2.keep fun o e=>hk a (by simp) o e⟩
 item:=fun i s Q E hi st hQ=>by
  obtain⟨v,hv⟩:∃ v,(es.toList.map (·.2))[i]?=some v:=⟨(es.toList.map (·.2))[i]'(by simpa using hi),by rw[Zs]⟩
  refine abP (x:=v) st.1 st.2 (fun {A' E' Q'} hq=>K1 hf st.2 hn (jn hi) (by rw[hv];exact hq)) fun h' hi' k=>?_
  exact hQ v h' s.toks hv ⟨hi',st.2.keep fun o e=>k a o hne e⟩ fun b o hb e=>k b o (fun x=>hb (by simp[x])) e
 done:=fun s Q E st hQ=>by
  refine KZ hh st.1 st.2 (fun {A' E' Q'} hq=>K1 hf st.2 hn (zi _) (by rw[qr (by simp)];exact hq)) fun h' k=>?_
  exact hQ h' s.toks fun b o hb e=>k b o (fun x=>hb (by simp[x])) e
 self:=fun _ _ _ _ st hQ=>RJ st.1 hQ
theorem abQ (hw:Wk w s.heap a es ep t) (hc:es.size<=sizeLine) {Q:VP_}
  (h:∀ (it:Addr) (h':Heap) (d:Drawn) (fp:List Addr) (St:Nat->Heap->Prop) (ord:List Value),ord.Perm (es.toList.map (·.2))->(∀ A':Around,A'.handled=none->Walks prog w A' it fp [it] es.size (fun i v=>ord[i]?=some v) St)->St 0 h'->s.heap.objs.size<=it->it < h'.objs.size →
   (∀ b∈fp,b=a\/s.heap.objs.size<=b)->(∀ b∈fp,b < h'.objs.size)->(∀ b o,s.heap.get? b=some o->h'.get? b=some o)->Q (.ref it) { s with heap:=h',drawn:=d }):wpAny (model prog w) A (pyIter (.ref a)) Q E s:=by
 obtain⟨oa,hoa,hca,hda⟩:=id hw.at_
 have hT:s.TypeIs (.ref a) "set" := ⟨oa,hoa,hca⟩
 have hlt:a < s.heap.objs.size:=zD hoa
 refine wpAny_pyIter_slot hT F.slot_set_iter (QR F.slot_set_iter hT Jw ?_ (F.args_set_iter_1 _))
 show wpAny _ _ (Builtin.Frozenset.sizeOf a >>= _) _ _ s
 refine zd (m:=Builtin.Frozenset.sizeOf a) (zd (wpAny_setEntries_of hoa hda hw.fit (ze ?_)))
 have hd:wpAny (model prog w) A.in1 (setDrawn a) (fun b s'=>s'=s/\b=(!(w.params.followText "set-order")&&(!t.plain&&decide (es.size > 1)))) E s:=by
  unfold setDrawn
  exact zd (qE hoa hda hw.fit (zd (Bo (ze ⟨rfl,rfl⟩))))
 refine zd (Qb hd (fun b s' e=>?_) fun _ _ x=>x)
 obtain⟨rfl,rfl⟩:=e
 dsimp only
 by_cases hf:w.params.followText "set-order" = true
 ·rw[hf]
  simp only[js,kb,zk,ZH]
  refine zd (ze ?_)
  refine zd (m:=setEpoch a) (wpAny_setEpoch_of hoa hda hw.fit ?_)
  refine zd (ZZ (ze ⟨_,rfl, "set_iterator", _,⟨_,zC _ rfl,rfl⟩,lV.lookup,?_⟩))
  have:=h s'.heap.objs.size (s'.heap.push { cls:=.type "set_iterator", data:=.fields #[.int 0 0,.int 0 0,.ref a,.int es.size 0,.int ep 0] }) s'.drawn [s'.heap.objs.size,a] _ _ GR (fun A' hh=>WY hh hf (t:=t) (ep:=ep) (Zl hlt) hc)
   ⟨⟨_,zC _ rfl,rfl,rfl⟩,hw.keep fun o e=>zg _ e⟩ (zi _) (by rw[qk];exact qA _) (fun b hb=>by simp at hb;rcases hb with rfl|rfl;exact .inr (zi _);exact .inl rfl)
   (fun b hb=>by simp at hb;rw[qk];rcases hb with rfl|rfl;exact qA _;exact qS hlt) fun b o e=>zg _ e
  exact this
 ·have hf:w.params.followText "set-order" = false:=by simpa using hf
  rw[hf]
  simp only[Kb,ko]
  by_cases hn:es.size<=1
  ·rw[zI (by simp;omega)]
   refine zd (ze ?_)
   refine zd (m:=setEpoch a) (wpAny_setEpoch_of hoa hda hw.fit ?_)
   refine zd (ZZ (ze ⟨_,rfl, "set_iterator", _,⟨_,zC _ rfl,rfl⟩,lV.lookup,?_⟩))
   have:=h s'.heap.objs.size (s'.heap.push { cls:=.type "set_iterator", data:=.fields #[.int 0 0,.int 0 0,.ref a,.int es.size 0,.int ep 0] }) s'.drawn [s'.heap.objs.size,a] _ _ (kX _) (fun A' hh=>UJ hh hf hn (t:=t) (ep:=ep) (Zl hlt))
    ⟨⟨_,zC _ rfl,rfl,rfl⟩,hw.keep fun o e=>zg _ e⟩ (zi _) (by rw[qk];exact qA _) (fun b hb=>by simp at hb;rcases hb with rfl|rfl;exact .inr (zi _);exact .inl rfl)
    (fun b hb=>by simp at hb;rw[qk];rcases hb with rfl|rfl;exact qA _;exact qS hlt) fun b o e=>zg _ e
   exact this
  ·rw[zo (by rw[hw.non (by omega)];simp;omega)]
   refine zd (aeQ _ _ _ _ (by simp) fun pl d hp=>?_)
   refine zd (wpAny_newTuple ?_ (by rw[zh,hp.length_eq,kA];exact hc))
   refine zd (m:=setEpoch a) (wpAny_setEpoch_of (zg _ hoa) hda hw.fit ?_)
   refine zd (ZZ (ze ⟨_,rfl, "set_iterator", _,⟨_,zC _ rfl,rfl⟩,lV.lookup,?_⟩))
   generalize hG:s'.heap.push { cls:=.type "tuple", data:=.seq (pl.map fun (k:Nat)=>rawInt (k:Int)).toArray }=G
   have sG:G.objs.size=s'.heap.objs.size+1:=by rw[<-hG,qk]
   have gG:G.get? s'.heap.objs.size=some { cls:=.type "tuple", data:=.seq (pl.map fun (k:Nat)=>rawInt (k:Int)).toArray }:=by rw[<-hG];exact zC _ rfl
   have kG:∀ b o,s'.heap.get? b=some o->G.get? b=some o:=fun b o e=>by rw[<-hG];exact zg _ e
   have ltG:a < G.objs.size:=by rw[sG];exact qS hlt
   have:=h G.objs.size (G.push { cls:=.type "set_iterator", data:=.fields #[.ref s'.heap.objs.size,.int 0 0,.ref a,.int es.size 0,.int ep 0] }) d [G.objs.size,a,s'.heap.objs.size] _ _ (ZS hp) (fun A' hh=>W0 hh (t:=t) (ep:=ep) (tp:=s'.heap.objs.size) (Zl ltG) (by rw[sG];exact Zl (qA _)) hp)
    ⟨⟨_,zC _ rfl,rfl,rfl⟩,hw.keep fun o e=>zg _ (kG _ _ e),_,0,zg _ gG,rfl⟩ (by rw[sG];exact kr _) (by rw[qk];exact qA _)
    (fun b hb=>by simp at hb;rcases hb with rfl|rfl|rfl;exact .inr (by rw[sG];exact kr _);exact .inl rfl;exact .inr (zi _))
    (fun b hb=>by
     simp at hb
     rw[qk]
     rcases hb with rfl|rfl|rfl
     ·exact qA _
     ·exact qS ltG
     ·exact qS (by rw[sG];exact qA _)) fun b o e=>zg _ (kG _ _ e)
   exact this
end
end S6
end
section
namespace S6
open PySem PySem.Spec PyProof.Rows P1
section
variable {prog:Program} {w:World} {A:Around} {E:VP_} {s:Shared} {it a:Addr} {i ep:Nat} {es:Array (Int×Value)} {t:SetTable}
theorem ZW {ord:List Value} {acc:Array Value} {n:Nat} (hn:ord.length=n) (h:ItemsOf (fun i v=>ord[i]?=some v) acc n):acc.toList=ord:=by
 apply List.ext_getElem?
 intro j
 by_cases hj:j < n
 ·have hl:j < acc.size:=by rw[h.1];exact hj
  have e:acc.toList[j]?=some acc[j]:=by simp[hl]
  rw[e,h.2 j acc[j] (by simp[hl])]
 ·rw[qr (by rw[ZE,h.1];omega),qr (by omega)]
theorem UL {Q:List Value->Shared->Prop} (hh:A.handled=none) (hw:Wk w s.heap a es ep t) (hc:es.size<=sizeLine)
  (hQ:∀ ord h' d tk,ord.Perm (es.toList.map (·.2))->s.heap.objs.size<=h'.objs.size->(∀ b o,s.heap.get? b=some o->h'.get? b=some o)->Q ord { s with heap:=h',drawn:=d,toks:=tk }) :
  wpAny (model prog w) A (collect (.ref a)) Q E s:=by
 obtain⟨oa,hoa,hca,hda⟩:=id hw.at_
 have hT:s.TypeIs (.ref a) "set" := ⟨oa,hoa,hca⟩
 have hlt:a < s.heap.objs.size:=zD hoa
 unfold collect
 refine zd (wpAny_runValue (jI F.entry_proto_collect ?_))
 rw[Around.under_plainId F.plain_proto_collect _]
 show wpAny _ A.in1 (newList [] >>= fun q=>again (.builtin "list.__iadd__" ⟨[q,.ref a],[]⟩)) _ _ s
 refine zd (ZZ (ze ⟨plainId_quiet F.plain_list_iadd _,jI F.entry_list_iadd ?_⟩))
 rw[Around.under_plainId F.plain_list_iadd _]
 show wpAny _ A.in1 (Builtin.List.listExtendWith (.ref s.heap.objs.size) (.ref a) (.ref s.heap.objs.size)) _ _ _
 unfold Builtin.List.listExtendWith
 generalize hH:(s.heap.push { cls:=.type "list", data:=.seq ([]:List Value).toArray })=H
 have kH:∀ b o,s.heap.get? b=some o->H.get? b=some o:=fun b o e=>by rw[<-hH];exact zg _ e
 have sH:H.objs.size=s.heap.objs.size+1:=by rw[<-hH,qk]
 have gH:H.get? s.heap.objs.size=some (seqObj "list" #[] 0):=by rw[<-hH];exact zC _ rfl
 have hw1:Wk w H a es ep t:=hw.keep fun o e=>kH a o e
 refine zd (QN (T := "set") ⟨oa,kH _ _ hoa,hca⟩ ?_)
 have h1:Builtin.List.listSameRef (.ref s.heap.objs.size) (.ref a)=false:=by simp[Builtin.List.listSameRef];exact Nat.ne_of_gt hlt
 simp only[h1,show (Value.type "set" == Value.type "list")=false by decide,show (Value.type "set" == Value.type "tuple")=false by decide,Bool.or_false,zk,ZH]
 refine zd (abQ (s:={ s with heap:=H }) hw1 hc fun it G d fp St ord hp W st0 hit hit2 hfp aqS kG=>?_)
 refine zd (QI ?_)
 unfold Builtin.List.listLengthHint
 have hT2:Shared.TypeIs { s with heap:=G,drawn:=d } (.ref a) "set" := ⟨oa,kG _ _ (kH _ _ hoa),hca⟩
 refine zd (wpAny_specialOf (T := "set") hT2 F.slot_set_len.lookup ?_)
 wp_delta
 refine zd (kF (T := "set") (b:=true) hT2 (by rw[isSubtype_type];kernel_rfl) ?_)
 show wpAny _ A.in1 (typeOf (Value.ref a) >>= _) _ _ _
 refine zd (QN (T := "set") hT2 (ze ?_))
 rw[zo (by decide)]
 show wpAny _ A.in1 (Builtin.List.listTouch (Value.ref s.heap.objs.size) >>= fun _=>again (Code.builtin "list.extend.loop" ⟨[Value.ref s.heap.objs.size,Value.ref it,Value.ref s.heap.objs.size],[]⟩)) _ _ _
 have hS:G.get? s.heap.objs.size=some (seqObj "list" #[] 0):=kG _ _ gH
 unfold Builtin.List.listTouch
 refine zd (zd (listUpdate_at hS rfl (listUpdate_at (get?_update_seq hS _) rfl ?_ (by show _<=_;decide) (by show _<=_;decide)) (by show _<=_;decide) (by show _<=_;decide)))
 have hSf:s.heap.objs.size∉fp:=fun hm=>by
  rcases hfp _ hm with e|e
  ·exact Nat.ne_of_gt hlt e
  ·have e:H.objs.size<=s.heap.objs.size:=e
   rw[sH] at e
   exact absurd e (Nat.not_succ_le_self _)
 have hS3:=get?_update_seq (get?_update_seq hS (fun x=>x.push Value.none)) (fun x=>x.pop)
 generalize hU:(G.update s.heap.objs.size (Obj.mapSeq fun x=>x.push Value.none)).update s.heap.objs.size (Obj.mapSeq fun x=>x.pop)=U at hS3
 have keep:∀ b,b≠s.heap.objs.size->U.get? b=G.get? b:=fun b hb=>by rw[<-hU,km _ _ _ _ hb,km _ _ _ _ hb]
 have st1:St 0 U:=(W A hh).frame 0 G U st0 fun b hb o e=>by rw[keep b fun x=>hSf (x▸hb)];exact e
 show wpAny _ A.in1 (again _) _ _ { s with heap:=U,drawn:=d }
 have ho:ord.length=es.size:=by rw[hp.length_eq];simp
 refine ze ⟨plainId_quiet F.plain_extend_loop _,codeAny_extend_loopS (W A.in1 hh).toS hc s.heap.objs.size hSf _ es.size 0 { s with heap:=U,drawn:=d } #[] _ rfl (QO _) st1 hS3 (ItemsOf.nil _) fun s' acc' c' mv hS' hacc=>?_⟩
 show wpAny _ A (load s.heap.objs.size >>= _) _ _ s'
 refine zd (wpAny_load hS' (ze ?_))
 show Q acc'.toList s'
 rw[ZW ho hacc]
 have key:=hQ ord s'.heap s'.drawn s'.toks hp (jn (zD hS')) fun b ob e=>by
  have hb:=zD e
  refine mv.heap b ob (fun hm=>?_) ((keep b (Zl hb)).trans (kG _ _ (kH _ _ e)))
  simp only[ZY,Z3,or_false] at hm
  rcases hm with hm|hm
  ·exact Zl hb hm
  ·have:H.objs.size<=it:=hit
   rw[sH,<-hm] at this
   exact absurd hb (Nat.not_lt.mpr (Nat.le_of_succ_le this))
 have e1:s'.gens=s.gens:=mv.gens
 have e2:s'.os=s.os:=mv.os
 rw[<-e1,<-e2] at key
 exact key
end
theorem uM {α:Type} [DecidableEq α]:∀ {xs ys:List α},xs.Nodup->ys.Nodup->(∀ z,z∈xs↔z∈ys)->xs.Perm ys
 |[],ys,_,_,h=>by
  have:ys=[]:=List.eq_nil_iff_forall_not_mem.mpr fun z hz=>by simpa using (h z).mpr hz
  subst this;exact .refl _
 |x::xs,ys,hx,hy,h=>by
  have hm:x∈ys:=(h x).mp (zt ..)
  have hc:=List.nodup_cons.mp hx
  refine ((uM hc.2 (hy.erase x) fun z=>?_).cons x).trans (List.perm_cons_erase hm).symm
  rw[hy.mem_erase_iff]
  constructor
  ·intro hz
   exact⟨fun e=>hc.1 (e▸hz),(h z).mp (zl _ hz)⟩
  ·intro ⟨hn,hz⟩
   rcases List.mem_cons.mp ((h z).mpr hz) with e|e
   ·exact absurd e hn
   ·exact e
theorem uN {α β:Type} {R:α->β->Prop}:∀ {l l':List β},l'.Perm l->∀ {ys:List α},Paired R ys l->∃ ys',ys'.Perm ys/\Paired R ys' l':=by
 intro l l' hp
 replace hp:=hp.symm
 induction hp with
 |nil=>intro ys h;exact⟨ys,.refl _,h⟩
 |cons x _ ih=>intro ys h;cases h with|cons r t=>obtain⟨zs,z1,z2⟩:=ih t;exact⟨_::zs,z1.cons _,.cons r z2⟩
 |swap x y l=>intro ys h;cases h with|cons r t=>cases t with|cons r' t'=>exact⟨_,List.Perm.swap _ _ _,.cons r' (.cons r t')⟩
 |trans _ _ ih1 ih2=>intro ys h;obtain⟨zs,z1,z2⟩:=ih1 h;obtain⟨us,u1,u2⟩:=ih2 z2;exact⟨us,u1.trans z1,u2⟩
theorem K3 {α β:Type} {R:α->β->Prop} {xs:List α} {us:List β} {ys:List α} {vs:List β} (h:Paired R xs us) (k:Paired R ys vs):Paired R (xs++ys) (us++vs):=by
 induction h with
 |nil=>exact k
 |cons r _ ih=>exact .cons r ih
theorem aeU (t:SetTable) (es:Array (Int×Value)) (h:Int) (x:Value):(layNew t es h x).2.1.led=t.led:=by
 unfold layNew
 split
 ·dsimp only[SetTable.put,SetTable.orStandIn]
  generalize SetTable.fits _ _=b
  cases b<;>rfl
 ·rfl
theorem ZX (t:SetTable) (es:Array (Int×Value)) (n:Nat):(relayAll t es n).2.1.led=t.led/\(t.plain=false->(relayAll t es n).2.1.plain=false):=by
 unfold relayAll
 split
 ·rename_i t' order e
  have ht:t'.led=t.led/\t'.plain=t.plain:=by
   unfold SetTable.relaid SetTable.laid at e
   cases hl:SetTable.layClean (SetTable.sizeAbove n - 1) (es.map (·.1)) with
   |none=>rw[hl] at e;cases e
   |some ow=>rw[hl] at e;cases e;exact⟨rfl,rfl⟩
  dsimp only
  generalize (coversAll order es.size&&_)=b
  cases b
  ·exact⟨rfl,fun _=>rfl⟩
  ·exact⟨ht.1,fun hp=>ht.2.trans hp⟩
 ·exact⟨rfl,fun _=>rfl⟩
section
variable {prog:Program} {w:World} {A:Around} {E:VP_} {s:Shared} {a:Addr}
def abR (prog:Program) (w:World) (y:Str) (e:Int×Value):Prop:=∃ tk,e=((strKind prog w).hash y,.str y tk)
structure abS (prog:Program) (w:World) (ys:LS_) (es:Array (Int×Value)) (t:SetTable):Prop where
 rel:Paired (abR prog w) ys es.toList
 nd:ys.Nodup
 fit:t.fits es.size=true
 led:w.params.followText "set-order" = false->t.led=true
 non:0 < es.size->t.plain=false
def Tx (prog:Program) (w:World) (h:Heap) (a:Addr) (ys:LS_):Prop:=∃ o es ep t,h.get? a=some o/\o.ExactSet/\o.data=.set es ep t/\abS prog w ys es t
theorem Tx.keep {h h':Heap} {ys:LS_} (x:Tx prog w h a ys) (k:∀ o,h.get? a=some o->h'.get? a=some o):Tx prog w h' a ys:=
 let ⟨o,es,ep,t,e,r⟩:=x;⟨o,es,ep,t,k o e,r⟩
theorem abS.elems {ys:LS_} {es:Array (Int×Value)} {t:SetTable} (x:abS prog w ys es t):ElemsOf (strKind prog w) es.toList:=by
 have:∀ {ys:LS_} {l:List (Int×Value)},Paired (abR prog w) ys l->ElemsOf (strKind prog w) l:=by
  intro ys l h
  induction h with
  |nil=>intro e he;cases he
  |cons r _ ih=>
   intro e he
   rcases List.mem_cons.mp he with rfl|he
   ·obtain⟨tk,rfl⟩:=r
    exact⟨⟨_,strKind_is _ _ _ _,rfl⟩,rfl⟩
   ·exact ih e he
 exact this x.rel
theorem abS.size {ys:LS_} {es:Array (Int×Value)} {t:SetTable} (x:abS prog w ys es t):es.size=ys.length:=by rw[x.rel.length];simp
theorem Ym {y z:Str} {e:Int×Value} (h:abR prog w y e):(strKind prog w).is z e.2=true↔z=y:=by
 obtain⟨tk,rfl⟩:=h
 constructor
 ·intro q;exact (strKind prog w).inj _ _ _ q (strKind_is _ _ _ _)
 ·rintro rfl;exact strKind_is _ _ _ _
theorem K4 {y:Str}:∀ {ys:LS_} {l:List (Int×Value)},Paired (abR prog w) ys l->((l.findIdx? fun e=>(strKind prog w).is y e.2)=none↔y∉ys)
 |_,_,.nil=>by simp
 |z::ys,e::l,.cons r t=>by
  rw[List.findIdx?_cons]
  by_cases q:(strKind prog w).is y e.2=true
  ·rw[zo q,(Ym r).mp q];simp
  ·rw[zI q]
   have:y≠z:=fun e'=>q ((Ym r).mpr e')
   rw[Option.map_eq_none_iff,K4 t]
   simp[this]
theorem abT {ys:LS_} {y:Str} {tk:Nat} {Q:Bool->Shared->Prop} (hS:Tx prog w s.heap a ys) (hroom:ys.length+1 < scanBound)
  (h:∀ b h' ys',Heap.SameBut a s.heap h'->Tx prog w h' a ys'->(∀ z,z∈ys'↔z∈ys\/z=y)->ys'.length<=ys.length+1->Q b { s with heap:=h' }):wpAny (model prog w) A (setAddHashed a (.str y tk) ((strKind prog w).hash y)) Q E s:=by
 obtain⟨o,es,ep,t,ho,hex,hd,x⟩:=id hS
 have hsz:=x.size
 have hb1:es.size+1 < scanBound:=by rw[hsz];exact hroom
 have hel:=x.elems
 have hkey:=strKind_is prog w y tk
 unfold setAddHashed setAddHashedIn
 refine QI (zd (qE ho hd x.fit ?_))
 dsimp only
 rw[byScan_of (knd:=strKind prog w) (x:=.str y tk) rfl (by omega) hel]
 simp only[↓reduceIte]
 unfold setAddByScan
 refine zd (zd (kq (zd (wpAny_setScan_of hkey ho hd x.fit hel ?_))))
 cases hr:es.toList.findIdx? (fun e=>(strKind prog w).is y e.2) with
 |some j=>
  dsimp only
  have hm:y∈ys:=by
   by_cases q:y∈ys
   ·exact q
   ·rw[(K4 x.rel).mpr q] at hr;cases hr
  refine ze (ze (h _ s.heap ys (Heap.SameBut.refl a s.heap) hS (fun z=>⟨.inl,fun q=>q.elim id fun e=>e▸hm⟩) (kr _)))
 |none=>
  dsimp only
  have hm:y∉ys:=(K4 x.rel).mp hr
  have gw:∀ (b:Bool) {s₁:Shared} {Q':Unit->Shared->Prop},Q' () s₁->wpAny (model prog w) A (match b with|true=>rule "set.scan.the-table-gave-way" | false=>pure ()) Q' E s₁:=
   fun b _ _ hq=>by cases b;exact ze hq;exact kq hq
  have hperm:=layNew_perm t es ((strKind prog w).hash y) (.str y tk)
  have hfits:=layNew_fits t es ((strKind prog w).hash y) (.str y tk)
  have Z0:=aeU t es ((strKind prog w).hash y) (.str y tk)
  generalize layNew t es ((strKind prog w).hash y) (.str y tk)=L at hperm hfits Z0 ⊢
  obtain⟨es1,t1,wasDummy,gave⟩:=L
  dsimp only at hperm hfits Z0 ⊢
  rw[Array.toList_push] at hperm
  refine zd (gw _ ?_)
  have hrel:Paired (abR prog w) (ys++[y]) (es.toList++[((strKind prog w).hash y,.str y tk)]):=K3 x.rel (.cons ⟨tk,rfl⟩ .nil)
  obtain⟨ys1,p1,r1⟩:=uN hperm hrel
  have nd1:ys1.Nodup:=p1.nodup_iff.mpr (List.nodup_append.mpr ⟨x.nd,by simp,fun u hu v hv=>by simp at hv;subst hv;exact fun e=>hm (e▸hu)⟩)
  have m1:∀ z,z∈ys1↔z∈ys\/z=y:=fun z=>by rw[p1.mem_iff];simp
  have l1:ys1.length=ys.length+1:=by rw[p1.length_eq];simp
  have z1:es1.size=es.size+1:=by rw[<-ZE,hperm.length_eq];simp
  have tail:∀ t2:SetTable,t2.fits es1.size=true->t2.led=t1.led->t2.plain=false->wpAny (model prog w) A (do
    storeSet a es1 t2
    if (!wasDummy&&t2.tooFull)=true then do
      (match (relayAll t2 es1 (SetTable.grown es1.size)).2.2 with|true=>rule "set.scan.the-table-gave-way" | false=>pure ())
      storeSet a (relayAll t2 es1 (SetTable.grown es1.size)).1 (relayAll t2 es1 (SetTable.grown es1.size)).2.1
      pure (some true)
     else pure (some true)) (fun r s'=>∃ b,r=some b/\Q b s') E s:=by
   intro t2 f2 l2 p2
   have up:∀ (hp:Heap) (ob:Obj) (e1 e2:Array (Int×Value)) (n1:Nat) (u1 u2:SetTable),hp.get? a=some ob->ob.data=.set e1 n1 u1->(hp.update a (Obj.putSet e2 u2)).get? a=some { ob with data:=.set e2 (n1+1) u2 }:=fun hp ob e1 e2 n1 u1 u2 g q=>by
    have:=kD (Obj.putSet e2 u2) g (by rw[putSet_of e2 u2 q];rfl)
    rw[putSet_of e2 u2 q] at this;exact this
   have g1:=up s.heap o es es1 ep t t2 ho hd
   refine zd (Kx ho hd ?_ (fits_of_scanBound (by omega)))
   split
   ·have hp:=relayAll_perm t2 es1 (SetTable.grown es1.size)
    have hf:=relayAll_fits t2 es1 (SetTable.grown es1.size)
    have hl:=ZX t2 es1 (SetTable.grown es1.size)
    generalize relayAll t2 es1 (SetTable.grown es1.size)=Rl at hp hf hl ⊢
    obtain⟨es2,t3,gave2⟩:=Rl
    dsimp only at hp hf hl ⊢
    obtain⟨ys2,p2',r2⟩:=uN hp r1
    refine zd (gw _ ?_)
    refine zd (Kx g1 rfl ?_ (fits_of_scanBound (by rw[<-ZE,hp.length_eq,ZE];omega)))
    have g2:=up _ _ es1 es2 _ t2 t3 g1 rfl
    exact ze ⟨true,rfl,h _ _ ys2 ((kn ..).trans (kn ..)) ⟨_,es2,_,t3,g2,hex,rfl,r2,p2'.nodup_iff.mpr nd1,hf,fun q=>(hl.1.trans l2).trans (Z0.trans (x.led q)),fun _=>hl.2 p2⟩ (fun z=>by rw[p2'.mem_iff];exact m1 z) (by rw[p2'.length_eq];exact ke l1)⟩
   ·exact ze ⟨true,rfl,h _ _ ys1 (kn ..) ⟨_,es1,_,t2,g1,hex,rfl,r1,nd1,f2,fun q=>l2.trans (Z0.trans (x.led q)),fun _=>p2⟩ m1 (ke l1)⟩
  have fin:∀ {m:Sem (Option Bool)},wpAny (model prog w) A m (fun r s'=>∃ b,r=some b/\Q b s') E s->wpAny (model prog w) A m (fun r s'=>wpAny (model prog w) A (match r with|some added=>pure added|none=>setAddHashedIn a (.str y tk) ((strKind prog w).hash y) 99999) Q E s') E s:=fun hm=>Qb hm (fun r s' q=>by obtain⟨b,rfl,q⟩:=q;exact ze q) fun _ _ q=>q
  refine fin ?_
  split
  ·refine zd ?_
   rw[hashByValue_scannable 8 (x:=.str y tk) rfl]
   refine ze ?_
   exact tail { t1 with plain:=false } (SetTable.fits_plain_off hfits) rfl rfl
  ·rename_i hp
   refine zd (ze ?_)
   simp only[↓reduceIte]
   exact tail t1 hfits rfl (by simpa using hp)
end
def blank (w:World):Obj:={ cls:=.type "set", dict:=none,data:=.set #[] 0 (.fresh 0 0 (!w.params.followText "set-order")) }
structure Adds (prog:Program) (w:World) (S:Addr) (wr:List Addr) {κ:Type} (C:Heap->List κ->Prop) (P:Nat->Value->Prop) (val:Nat->κ) (n:Nat):Prop where
 keep:∀ h h' ys,C h ys->(∀ b o,b∉wr->h.get? b=some o->h'.get? b=some o)->C h' ys
 add:∀ (A:Around) (E:VP_) (s:Shared) (i:Nat) (v:Value) (ys:List κ) (Q:Bool->Shared->Prop),A.units < cLine->i < n->P i v->C s.heap ys->ys.length<=i →
  (∀ b h' tk ys',Heap.SameBut S s.heap h'->C h' ys'->(∀ z,z∈ys'↔z∈ys\/z=val i)->ys'.length<=i+1->s.toks<=tk->Q b { s with heap:=h',toks:=tk })->wpAny (model prog w) A (setAdd S v) Q E s
section
variable {prog:Program} {w:World} {A:Around} {R:Result->Shared->Prop} {I:Addr} {fp wr:List Addr} {n:Nat} {P:Nat->Value->Prop} {St:Nat->Shared->Prop} {κ:Type} {C:Heap->List κ->Prop} {val:Nat->κ}
theorem abU (W:WalksS prog w A.in1 I fp wr (fun a b=>b=a) n P St) (S:Addr) (hSf:S∉fp) (ad:Adds prog w S wr C P val n) (hU:A.units+1 < cLine) :
  ∀ (k i:Nat) (s:Shared) (ys:List κ),n - i=k->i<=n->St i s->C s.heap ys->(∀ z,z∈ys↔∃ j,j < i/\z=val j)->ys.length<=i →
   (∀ s' ys',Moved (S::wr) (fun a b=>b=a) s s'->C s'.heap ys'->(∀ z,z∈ys'↔∃ j,j < n/\z=val j)->R (.ok (.ret .none)) s') →
   codeAny (model prog w) A (.builtin "set.update.loop" ⟨[.ref S,.ref I],[]⟩) R s:=by
 have sub:∀ b,b∈wr->b∈S::wr:=fun b q=>zl _ q
 intro k
 induction k with
 |zero=>
  intro i s ys hk hi st hc hm hl hR
  have:i=n:=by omega
  subst this
  refine jI F.entry_set_update_loop ?_
  rw[Around.under_plainId KW _]
  show wpAny _ A.in1 (pyNext (.ref I) >>= _) _ _ s
  refine zd (W.done s _ _ st fun s' mv=>?_)
  show wpAny _ A.in1 (ret Value.none) _ _ s'
  exact ze (hR s' ys (mv.mono sub) (ad.keep _ _ _ hc mv.heap) hm)
 |succ k ih=>
  intro i s ys hk hi st hc hm hl hR
  have hlt:i < n:=by omega
  refine jI F.entry_set_update_loop ?_
  rw[Around.under_plainId KW _]
  show wpAny _ A.in1 (pyNext (.ref I) >>= _) _ _ s
  refine zd (W.item i s _ _ hlt st fun v s' hP st' mv=>?_)
  show wpAny _ A.in1 (holding [v] (setAdd S v) >>= _) _ _ s'
  refine zd (QI (ad.add _ _ s' i v ys _ hU hlt hP (ad.keep _ _ _ hc mv.heap) hl fun b h' tk ys' sb hc' hm' hl' htk=>?_))
  refine ze ⟨plainId_quiet KW _,ih (i+1) _ ys' (by omega) hlt (W.frame _ s' _ _ st' htk fun b hb o e=>?_) hc' (fun z=>?_) hl' fun s'' ys'' alu hc'' hm''=>?_⟩
  ·rw[sb.2 b fun q=>hSf (q▸hb)];exact e
  ·rw[hm' z,hm z]
   constructor
   ·rintro (⟨j,hj,e⟩|e)
    ·exact⟨j,by omega,e⟩
    ·exact⟨i,by omega,e⟩
   ·rintro⟨j,hj,e⟩
    by_cases q:j=i
    ·exact .inr (q▸e)
    ·exact .inl ⟨j,by omega,e⟩
  ·refine hR s'' ys'' (Moved.trans W.gtrans ((mv.mono sub).then_heap htk fun b o hb e=>?_) alu) hc'' hm''
   rw[sb.2 b fun q=>hb (by rw[q];exact zt)];exact e
end
section
variable {prog:Program} {w:World} {A:Around} {E:VP_} {s:Shared}
theorem W2 (x:Value) {Q₁:VP_} (h:Q₁ (.ref s.heap.objs.size) { s with heap:=s.heap.push (blank w) }) :
  codeAny (model prog w) A (.call (.builtin "set.__new__") ⟨[.type "set", x],[]⟩) (wants Q₁ E) s:=by
 refine codeAny_of_tree ?_
 show wpAny _ A.in1 (do checkBuiltinCall "set.__new__" ⟨[.type "set", x],[]⟩;again (.builtin "set.__new__" ⟨[.type "set", x],[]⟩)) _ _ s
 refine zd (wpAny_of_eq (F.newCall_set_1 x) (ze ⟨plainId_quiet F.plain_set_new _,jI F.entry_set_new ?_⟩))
 rw[Around.under_plainId F.plain_set_new _]
 unfold Builtin.«set.__new__» Builtin.Frozenset.newClass
 have hsub:=sub_set_self
 obtain⟨hp,g,d,tk,os⟩:=s
 dsimp only
 wp_walk
 refine wpAny_askSetting (ze ?_)
 dsimp only
 simp only[newObj]
 refine zd (wpAny_alloc (ze ?_))
 exact ze h
theorem sub_tuple_set:isSubtype (.type "tuple") (.type "set")=pure false:=by rw[isSubtype_type];kernel_rfl
theorem sub_tuple_frozenset:isSubtype (.type "tuple") (.type "frozenset")=pure false:=by rw[isSubtype_type];kernel_rfl
theorem RM (hU:A.units+60 < cLine) {T:String} {l:Addr} {o:Obj} {κ:Type} {C:Heap->List κ->Prop} {P:Nat->Value->Prop} {val:Nat->κ} {n:Nat} {Q:VP_} (hh:A.handled=none) (ho:s.heap.get? l=some o) (hcl:o.cls=.type T) (hT:T = "list" ∨ T = "tuple")
  (hit:∀ (A':Around) (E':VP_) (Q':VP_) (h0:Heap),A'.handled=none->(∀ b ob,s.heap.get? b=some ob->h0.get? b=some ob) →
   (∀ (h':Heap) (St:Nat->Heap->Prop),(∀ A',A'.handled=none->Walks prog w A' h0.objs.size [h0.objs.size,l] [h0.objs.size] n P St)->St 0 h'->(∀ b ob,h0.get? b=some ob->h'.get? b=some ob)->Q' (.ref h0.objs.size) { s with heap:=h' })->wpAny (model prog w) A' (pyIter (.ref l)) Q' E' { s with heap:=h0 })
  (ad:Adds prog w s.heap.objs.size [s.heap.objs.size+1] C P val n) (hc0:∀ h',h'.get? s.heap.objs.size=some (blank w)->(∀ b ob,s.heap.get? b=some ob->h'.get? b=some ob)->C h' [])
  (h:∀ (h':Heap) (tk:Nat) (ys:List κ),C h' ys->(∀ z,z∈ys↔∃ j,j < n/\z=val j)->(∀ b ob,s.heap.get? b=some ob->h'.get? b=some ob)->Q (.ref s.heap.objs.size) { s with heap:=h',toks:=tk }) :
  wpAny (model prog w) A (call (.type "set") [.ref l]) Q E s:=by
 obtain⟨c,tl,hmro⟩:=F.called_set.mro
 have hmade:=F.called_set.made
 have hsub:=F.called_set.sub
 have hlS:l < s.heap.objs.size:=zD ho
 refine wpAny_call (codeAny_of_tree ?_)
 show wpAny _ _ (callAny (.type "set") _) _ _ _
 refine ze ⟨Code.quiet_builtin _ (by decide +kernel),jI F.entry_type_call ?_⟩
 rw[Around.under_plain (weight_type_call_type "set" [.ref l] []) rfl]
 have h1:=F.called_set.notType
 have h2:=F.called_set.canCreate
 have hct:=F.typeCall_set_1 (.ref l)
 repeat (any_goals (first|assumption|wp_step))
 refine codeAny_mono (W2 (.ref l) (E:=E) (Q₁:=fun obj s₁=>obj=.ref s.heap.objs.size/\s₁={ s with heap:=s.heap.push (blank w) }) ⟨rfl,rfl⟩) fun r s₁ hr=>?_
 cases r with
 |error e=>exact hr
 |ok fl=>
  cases fl with
  |ret obj=>
   obtain⟨rfl,rfl⟩:=hr
   generalize hH:s.heap.push (blank w)=H
   have sH:H.objs.size=s.heap.objs.size+1:=by rw[<-hH,qk]
   have hS:H.get? s.heap.objs.size=some (blank w):=by rw[<-hH];exact zC _ rfl
   have kH:∀ b ob,s.heap.get? b=some ob->H.get? b=some ob:=fun b ob e=>by rw[<-hH];exact zg _ e
   have hTS:Shared.TypeIs { s with heap:=H } (.ref s.heap.objs.size) "set" := ⟨_,hS,rfl⟩
   have hli:=F.called_set.init.lookup
   have hbi:=F.called_set.init.bind (.ref s.heap.objs.size)
   repeat (any_goals (first|assumption|wp_step))
   refine codeAny_mono (codeAny_call_builtin (R:=wants (fun r s₂=>r=.none/\∃ h' tk ys,s₂={ s with heap:=h',toks:=tk }/\C h' ys/\(∀ z,z∈ys↔∃ j,j < n/\z=val j)/\(∀ b ob,s.heap.get? b=some ob->h'.get? b=some ob)) E) F.called_set.init.plain F.entry_set_init (check_set_init_1 hTS ?_)) fun r₂ s₂ hr₂=>?_
   ·have hT2:Shared.TypeIs { s with heap:=H } (.ref l) T:=⟨o,kH _ _ ho,hcl⟩
    have i1:isSubtype (.type T) (.type "set")=pure false:=by rcases hT with rfl|rfl;exact F.sub_list_set;exact sub_tuple_set
    have i2:isSubtype (.type T) (.type "frozenset")=pure false:=by rcases hT with rfl|rfl;exact F.sub_list_frozenset;exact sub_tuple_frozenset
    have i3:(Value.type T==Value.type "dict")=false:=by rcases hT with rfl|rfl<;>decide
    show wpAny _ _ (Builtin.«set.__init__» ⟨[.ref s.heap.objs.size,.ref l],[]⟩) _ _ _
    have hup:∀ A':Around,A'.handled=none->A'.units+4 < cLine->wpAny (model prog w) A' (Builtin.Frozenset.updateFrom "set.__init__" s.heap.objs.size (.ref l)) (fun _ s₂=>∃ h' tk ys,s₂={ s with heap:=h',toks:=tk }/\C h' ys/\(∀ z,z∈ys↔∃ j,j < n/\z=val j)/\(∀ b ob,s.heap.get? b=some ob->h'.get? b=some ob)) E { s with heap:=H }:=by
     intro A' hA hA4
     unfold Builtin.Frozenset.updateFrom Builtin.Frozenset.isAnySet
     refine zd (zd (kF hT2 i1 ?_))
     refine kF hT2 i2 ?_
     simp only[zk,ZH]
     refine zd (QN hT2 ?_)
     simp only[i3,zk,ZH]
     refine zd (hit A' _ _ H hA kH fun G St W st0 kG=>?_)
     rw[sH] at W
     rw[sH]
     have hSf:s.heap.objs.size∉[s.heap.objs.size+1,l]:=fun q=>by
      simp only[ZY,Z3,or_false] at q
      rcases q with q|q
      ·exact Zl (qA _) q
      ·exact Nat.ne_of_gt hlS q
     refine zd (wpAny_runValue (abU (W A'.in1 hA).toS s.heap.objs.size hSf ad (by omega) (n - 0) 0 _ [] rfl (QO _) st0 (hc0 G (kG _ _ hS) fun b ob e=>kG _ _ (kH _ _ e)) (fun z=>⟨fun q=>(by cases q),fun ⟨j,q,_⟩=>absurd q (JI _)⟩) (zi _) fun s' ys mv c1 c2=>?_))
     refine ze ⟨s'.heap,s'.toks,ys,?_,c1,c2,fun b ob e=>?_⟩
     ·have e1:s'.gens=s.gens:=mv.gens
      have e2:s'.os=s.os:=mv.os
      have e3:s'.drawn=s.drawn:=mv.drawn
      rw[<-e1,<-e2,<-e3]
     ·have hb:=zD e
      refine mv.heap b ob (fun q=>?_) (kG _ _ (kH _ _ e))
      simp only[ZY,Z3,or_false] at q
      rcases q with q|q
      ·exact Zl hb q
      ·exact Zl (qS hb) q
    have hb:(blank w).data=.set #[] 0 (.fresh 0 0 (!w.params.followText "set-order")):=rfl
    unfold Builtin.«set.__init__» noKeywords
    generalize hUF:Builtin.Frozenset.updateFrom=UF at hup ⊢
    unfold blank at hS
    wp_walk
    refine Qb (hup _ (by simp[hh]) (by simp;omega)) (fun u s₂ q=>?_) fun _ _ q=>q
    obtain⟨h',tk,ys,rfl,q⟩:=q
    show wpAny _ _ (ret Value.none) _ _ _
    exact ze ⟨rfl,h',tk,ys,rfl,q⟩
   ·cases r₂ with
    |error e=>exact hr₂
    |ok fl₂=>
     cases fl₂ with
     |ret r=>
      obtain⟨rfl,h',tk,ys,rfl,c1,c2,c3⟩:=hr₂
      repeat (any_goals (first|assumption|wp_step))
      exact h _ _ _ c1 c2 c3
     |_=>exact False.elim hr₂
  |_=>exact False.elim hr
end
end S6
end
section
namespace S6
open PySem
def W3 (xs:Array Nat):Prop:=∀ i j,i < j->j < xs.size->xs.getD i 0 < xs.getD j 0
theorem getD_in {xs:Array Nat} {k a b:Nat} (h:k < xs.size):xs.getD k a=xs.getD k b:=by simp[Array.getD,h]
theorem aeV {xs:Array Nat} {k a j:Nat} (h:xs[k]?=some j):k < xs.size/\xs.getD k a=j:=by
 have hk:k < xs.size:=by
  by_cases q:k < xs.size
  ·exact q
  ·rw[kC (by omega)] at h;cases h
 refine⟨hk,?_⟩
 rw[ZU hk] at h
 cases h
 simp[Array.getD,hk]
theorem aeW {xs:Array Nat} {k a j:Nat} (hk:k < xs.size) (h:xs.getD k a=j):xs[k]?=some j:=by
 rw[ZU hk]
 simp[Array.getD,hk] at h
 rw[h]
theorem K5 (xs:Array Nat) (j:Nat) (hr:W3 xs):∀ (fuel lo hi:Nat),lo<=hi->hi<=xs.size->hi - lo<=fuel->(∀ k,k < lo->xs.getD k 0 < j)->(∀ k,hi<=k->k < xs.size->j<=xs.getD k 0) →
  SetTable.below.go xs j fuel lo hi<=xs.size/\(∀ k,k < SetTable.below.go xs j fuel lo hi->xs.getD k 0 < j)/\∀ k,SetTable.below.go xs j fuel lo hi<=k->k < xs.size->j<=xs.getD k 0
 |0,lo,hi,h1,h2,h3,h4,h5=>by
  have e:lo=hi:=by omega
  subst e
  unfold SetTable.below.go
  exact⟨h2,h4,h5⟩
 |fuel+1,lo,hi,h1,h2,h3,h4,h5=>by
  unfold SetTable.below.go
  by_cases hl:lo < hi
  ·rw[zo hl]
   dsimp only
   have hm:(lo+hi) / 2 < xs.size:=by omega
   rw[getD_in (b:=0) hm]
   by_cases q:xs.getD ((lo+hi) / 2) 0 < j
   ·rw[zo q]
    refine K5 xs j hr fuel _ hi (by omega) h2 (by omega) (fun k hk=>?_) h5
    by_cases e:k=(lo+hi) / 2
    ·rw[e];exact q
    ·exact Nat.lt_trans (hr k _ (by omega) hm) q
   ·rw[zI q]
    refine K5 xs j hr fuel lo _ (by omega) (by omega) (by omega) h4 fun k hk hs=>?_
    by_cases e:k=(lo+hi) / 2
    ·rw[e];omega
    ·have:=hr _ k (by omega:(lo+hi) / 2 < k) hs;omega
  ·rw[zI hl]
   have e:lo=hi:=by omega
   subst e
   exact⟨h2,h4,h5⟩
theorem below_at {xs:Array Nat} (hr:W3 xs) (j:Nat):SetTable.below xs j<=xs.size/\(∀ k,k < SetTable.below xs j->xs.getD k 0 < j)/\∀ k,SetTable.below xs j<=k->k < xs.size->j<=xs.getD k 0:=
 K5 xs j hr xs.size 0 xs.size (QO _) (zi _) (by omega) (fun k h=>absurd h (JI _)) fun k h h'=>absurd h' (by omega)
theorem K6 {xs:Array Nat} (hr:W3 xs) {i j:Nat} (h:xs[i]?=some j):SetTable.below xs j=i:=by
 obtain⟨h1,h2,h3⟩:=below_at hr j
 obtain⟨hi,e⟩:=aeV (a:=0) h
 rcases Nat.lt_trichotomy (SetTable.below xs j) i with q|q|q
 ·have:=h3 _ (zi _) (by omega)
  have:=hr _ _ q hi
  omega
 ·exact q
 ·have:=h2 _ q;omega
theorem Yn (j:Nat):SetTable.has #[] j=false:=by
 unfold SetTable.has
 simp
structure Tb (t:SetTable):Prop where
 mask:t.mask=7\/t.mask=31\/t.mask=127
 dum:t.dummies=#[]
 rise:W3 t.place
 bd:∀ j:Nat,j∈t.place->j<=t.mask
 full:t.place.size<=t.mask
theorem GX {t:SetTable} (h:Tb t) {i j:Nat} (e:t.place[i]?=some j):t.slot j=.live i:=by
 unfold SetTable.slot
 simp only[K6 h.rise e,e,beq_self_eq_true,qB]
theorem Z1 {t:SetTable} (h:Tb t) {j:Nat} (e:j∉t.place):t.slot j=.empty:=by
 unfold SetTable.slot
 have:(t.place[SetTable.below t.place j]?==some j)=false:=by
  cases q:t.place[SetTable.below t.place j]? with
  |none=>rfl
  |some x=>
   by_cases hx:x=j
   ·subst hx;exact absurd (Array.mem_of_getElem? q) e
   ·simp[hx]
 simp only[this,zk,ZH,h.dum,Yn]
def Oh (mask:Nat) (p:SetTable.Probe):SetTable.Probe:=
 if p.more > 0 then { p with j:=p.j+1,more:=p.more - 1 } else
 { p with j:=(SetTable.leap mask p.i p.perturb).1,more:=SetTable.runEnd mask (SetTable.leap mask p.i p.perturb).1 - (SetTable.leap mask p.i p.perturb).1,i:=(SetTable.leap mask p.i p.perturb).1,perturb:=(SetTable.leap mask p.i p.perturb).2 }
theorem abV (t:SetTable) (p:SetTable.Probe):t.advance p=Oh t.mask p:=rfl
def at0 (mask i perturb:Nat):SetTable.Probe:={ j:=i,more:=SetTable.runEnd mask i - i,i,perturb,dummy:=none }
def jF (mask:Nat) (h:Int):Nat->SetTable.Probe
 |0=>at0 mask (SetTable.bits h % (mask+1)) (SetTable.bits h)
 |n+1=>Oh mask (jF mask h n)
theorem Yo (mask:Nat) (h:Int):∀ n,(jF mask h n).dummy=none
 |0=>rfl
 |n+1=>by
  have:=Yo mask h n
  unfold jF Oh
  split<;>exact this
theorem UW {t:SetTable} (ht:Tb t) (hashAt:Nat->Int) (h:Int):∀ (d fuel n:Nat),d < fuel->(∀ m,n<=m->m < n+d->∃ i,t.place[i]?=some (jF t.mask h m).j/\hashAt i≠h) →
  ((jF t.mask h (n+d)).j∉t.place->SetTable.probe.go t hashAt h fuel (jF t.mask h n)=some (.empty (jF t.mask h (n+d)).j none)) ∧
  ∀ i,t.place[i]?=some (jF t.mask h (n+d)).j->hashAt i=h->SetTable.probe.go t hashAt h fuel (jF t.mask h n)=some (.candidate (jF t.mask h (n+d)).j i (jF t.mask h (n+d+1)))
 |0,fuel+1,n,_,_=>by
  refine⟨fun e=>?_,fun i e1 e2=>?_⟩
  ·unfold SetTable.probe.go
   rw[Nat.add_zero] at e ⊢
   rw[Z1 ht e]
   simp only[Yo]
  ·unfold SetTable.probe.go
   rw[Nat.add_zero] at e1 ⊢
   rw[GX ht e1]
   simp only[e2,beq_self_eq_true,qB,abV]
   rfl
 |d+1,fuel+1,n,hd,hp=>by
  obtain⟨i,e1,e2⟩:=hp n (zi _) (by omega)
  have ih:=UW ht hashAt h d fuel (n+1) (by omega) fun m h1 h2=>hp m (by omega) (by omega)
  have e:SetTable.probe.go t hashAt h (fuel+1) (jF t.mask h n)=SetTable.probe.go t hashAt h fuel (jF t.mask h (n+1)):=by
   conv=>lhs;unfold SetTable.probe.go
   rw[GX ht e1]
   simp only[beq_iff_eq,e2,ZH,abV]
   rfl
  rw[e,show n+(d+1)=n+1+d by omega]
  exact ih
theorem W4:∀ (xs ys:List Nat),xs.Nodup->(∀ x,x∈xs->x∈ys)->xs.length<=ys.length
 |[],_,_,_=>QO _
 |x::xs,ys,hn,hs=>by
  have hc:=List.nodup_cons.mp hn
  have hm:=hs x (zt ..)
  have:=W4 xs (ys.erase x) hc.2 fun z hz=>(List.mem_erase_of_ne (fun e:z=x=>hc.1 (by rw[<-e];exact hz))).mpr (hs z (zl _ hz))
  have:=List.length_erase_of_mem hm
  have:0 < ys.length:=List.length_pos_of_mem hm
  simp only[qi]
  omega
def nx (M i:Nat):Nat:=(i * 5+1) % M
def U0 (M:Nat):Nat->Nat->Nat
 |0,i=>i
 |k+1,i=>U0 M k (nx M i)
theorem J8 (M:Nat):∀ (a b i:Nat),U0 M (a+b) i=U0 M b (U0 M a i)
 |0,b,i=>by rw[kR];rfl
 |a+1,b,i=>by rw[Nat.succ_add];exact J8 M a b _
theorem alv:(∀ r,r < 8->∃ k,k < 8/\U0 8 k 0=r)/\U0 8 8 0=0:=by decide +kernel
theorem ajl:(∀ r,r < 32->∃ k,k < 32/\U0 32 k 0=r)/\U0 32 32 0=0:=by decide +kernel
theorem ahy:(∀ r,r < 128->∃ k,k < 128/\U0 128 k 0=r)/\U0 128 128 0=0:=by decide +kernel
theorem cyc {M:Nat} (h:(∀ r,r < M->∃ k,k < M/\U0 M k 0=r)/\U0 M M 0=0) {i r:Nat} (hi:i < M) (hr:r < M):∃ k,k < M/\U0 M k i=r:=by
 obtain⟨a,ha,rfl⟩:=h.1 i hi
 obtain⟨b,hb,rfl⟩:=h.1 r hr
 by_cases q:a<=b
 ·exact⟨b - a,by omega,by rw[<-J8,show a+(b - a)=b by omega]⟩
 ·exact⟨M - a+b,by omega,by rw[<-J8,show a+(M - a+b)=M+b by omega,J8,h.2]⟩
theorem alx {mask:Nat} (h:mask=7\/mask=31\/mask=127) {i r:Nat} (hi:i < mask+1) (hr:r < mask+1):∃ k,k < mask+1/\U0 (mask+1) k i=r:=by
 rcases h with rfl|rfl|rfl
 ·exact cyc alv hi hr
 ·exact cyc ajl hi hr
 ·exact cyc ahy hi hr
def lp (mask:Nat) (h:Int):Nat->Nat×Nat
 |0=>(SetTable.bits h % (mask+1),SetTable.bits h)
 |l+1=>SetTable.leap mask (lp mask h l).1 (lp mask h l).2
theorem K7 (mask i:Nat):i<=SetTable.runEnd mask i/\SetTable.runEnd mask i<=i+9:=by unfold SetTable.runEnd;split<;>omega
theorem abW {mask i:Nat} (h:i<=mask):SetTable.runEnd mask i<=mask:=by unfold SetTable.runEnd;split<;>omega
theorem Er {mask:Nat} {h:Int} {s i p:Nat} (e:jF mask h s=at0 mask i p):∀ k,k<=SetTable.runEnd mask i - i->jF mask h (s+k)={ at0 mask i p with j:=i+k,more:=SetTable.runEnd mask i - i - k }
 |0,_=>by rw[Nat.add_zero,e];rfl
 |k+1,hk=>by
  have ih:=Er e k (by omega)
  show Oh mask (jF mask h (s+k))=_
  rw[ih]
  unfold Oh
  rw[zo (by dsimp only;omega)]
  rfl
theorem U3 {mask:Nat} {h:Int} {s i p:Nat} (e:jF mask h s=at0 mask i p):jF mask h (s+(SetTable.runEnd mask i - i)+1)=at0 mask (SetTable.leap mask i p).1 (SetTable.leap mask i p).2:=by
 show Oh mask (jF mask h (s+(SetTable.runEnd mask i - i)))=_
 rw[Er e _ (zi _)]
 unfold Oh
 rw[zI (by dsimp only;omega)]
 rfl
theorem abX (mask:Nat) (h:Int):∀ l,∃ s,s<=10 * l/\jF mask h s=at0 mask (lp mask h l).1 (lp mask h l).2
 |0=>⟨0,by omega,rfl⟩
 |l+1=>by
  obtain⟨s,hs,e⟩:=abX mask h l
  have:=K7 mask (lp mask h l).1
  exact⟨_,by omega,U3 e⟩
theorem ajm (mask:Nat) (h:Int):∀ l,(lp mask h l).1 < mask+1
 |0=>Nat.mod_lt _ (Nat.succ_pos _)
 |l+1=>Nat.mod_lt _ (Nat.succ_pos _)
theorem U4 (mask:Nat) (h:Int):∀ l,(lp mask h l).2 * 32 ^ l<=SetTable.bits h
 |0=>by simp[lp]
 |l+1=>by
  have ih:=U4 mask h l
  show (lp mask h l).2 / 32 * 32 ^ (l+1)<=_
  have h1:(lp mask h l).2 / 32 * 32<=(lp mask h l).2:=Nat.div_mul_le_self _ _
  have h2:=Nat.mul_le_mul_right (32 ^ l) h1
  rw[Nat.pow_succ,Nat.mul_comm (32 ^ l) 32,<-Nat.mul_assoc]
  exact zw h2 ih
theorem aeY (h:Int):SetTable.bits h < 18446744073709551616:=by
 unfold SetTable.bits
 have h1:h % 18446744073709551616 < 18446744073709551616:=Int.emod_lt_of_pos _ (by decide)
 have h2:0<=h % 18446744073709551616:=Int.emod_nonneg _ (by decide)
 show (h % 18446744073709551616).toNat < _
 omega
theorem Yp (mask:Nat) (h:Int):∀ k,(lp mask h (12+k)).2 < 32
 |0=>by
  have h1:=U4 mask h 12
  have h2:=aeY h
  rw[show (32:Nat) ^ 12=1152921504606846976 from rfl] at h1
  show (lp mask h 12).2 < 32
  omega
 |k+1=>by
  have:=Yp mask h k
  show (lp mask h (12+k)).2 / 32 < 32
  omega
theorem ajn (mask:Nat) (h:Int):∀ k,(lp mask h (12+k)).1=U0 (mask+1) k (lp mask h 12).1:=by
 have step:∀ k,(lp mask h (12+k+1)).1=nx (mask+1) (lp mask h (12+k)).1:=fun k=>by
  have:=Yp mask h k
  show ((lp mask h (12+k)).1 * 5+1+(lp mask h (12+k)).2 / 32) % (mask+1)=_
  rw[show (lp mask h (12+k)).2 / 32=0 by omega]
  rfl
 have comm:∀ k i,U0 (mask+1) k (nx (mask+1) i)=nx (mask+1) (U0 (mask+1) k i):=fun k=>by
  induction k with
  |zero=>intro i;rfl
  |succ k ih=>intro i;exact ih _
 intro k
 induction k with
 |zero=>rfl
 |succ k ih=>
  rw[show 12+(k+1)=12+k+1 by omega,step,ih]
  exact (comm k _).symm
theorem abY {mask:Nat} (hm:mask=7\/mask=31\/mask=127) (h:Int) {r:Nat} (hr:r < mask+1):∃ l,l < mask+13/\(lp mask h l).1=r:=by
 obtain⟨k,hk,e⟩:=alx hm (ajm mask h 12) hr
 exact⟨12+k,by omega,by rw[ajn,e]⟩
theorem gap {t:SetTable} (h:Tb t):∃ r,r < t.mask+1/\r∉t.place:=by
 by_cases q:∃ r,r < t.mask+1/\r∉t.place
 ·exact q
 ·exfalso
  have:=W4 (List.range (t.mask+1)) t.place.toList List.nodup_range fun x hx=>by
   rw[kU] at hx
   by_cases q':x∈t.place
   ·exact Array.mem_toList_iff.mpr q'
   ·exact absurd ⟨x,hx,q'⟩ q
  rw[kA,ZE] at this
  have:=h.full
  omega
theorem abZ {t:SetTable} (ht:Tb t) (h:Int):∃ n,n < 10 * SetTable.turns t.mask/\(jF t.mask h n).j∉t.place:=by
 obtain⟨r,hr,hn⟩:=gap ht
 obtain⟨l,hl,e⟩:=abY ht.mask h hr
 obtain⟨s,hs,e'⟩:=abX t.mask h l
 refine⟨s,by unfold SetTable.turns;omega,?_⟩
 rw[e']
 show (lp t.mask h l).1∉_
 rw[e];exact hn
theorem W5 {t:SetTable} (ht:Tb t) (h:Int):∃ n,n < 10 * SetTable.turns t.mask/\(jF t.mask h n).j∉t.place/\∀ m,m < n->(jF t.mask h m).j∈t.place:=by
 obtain⟨n,hn,hf⟩:=abZ ht h
 have:∀ k,(∃ n,n<=k/\(jF t.mask h n).j∉t.place/\∀ m,m < n->(jF t.mask h m).j∈t.place)\/∀ m,m<=k->(jF t.mask h m).j∈t.place:=fun k=>by
  induction k with
  |zero=>
   by_cases q:(jF t.mask h 0).j∈t.place
   ·exact .inr fun m hm=>by rw[show m=0 by omega];exact q
   ·exact .inl ⟨0,zi _,q,fun m hm=>absurd hm (JI _)⟩
  |succ k ih=>
   rcases ih with⟨n,h1,h2⟩|ih
   ·exact .inl ⟨n,by omega,h2⟩
   ·by_cases q:(jF t.mask h (k+1)).j∈t.place
    ·exact .inr fun m hm=>by
      by_cases e:m=k+1
      ·rw[e];exact q
      ·exact ih m (by omega)
    ·exact .inl ⟨k+1,zi _,q,fun m hm=>ih m (by omega)⟩
 rcases this n with⟨m,h1,h2,h3⟩|q
 ·exact⟨m,by omega,h2,h3⟩
 ·exact absurd (q n (zi _)) hf
theorem gD {α:Type} (xs:Array α) (k:Nat) (a:α):xs.getD k a=xs[k]?.getD a:=by
 by_cases h:k < xs.size
 ·rw[ZU h];simp[Array.getD,h]
 ·rw[kC (by omega)];simp[Array.getD,h]
structure Tok (t:SetTable) (es:Array (Int×Value)):Prop extends Tb t where
 size:t.place.size=es.size
 reach:∀ (i j:Nat) e,t.place[i]?=some j->es[i]?=some e->∃ n,n < 10 * SetTable.turns t.mask/\(jF t.mask e.1 n).j=j/\∀ m,m < n->(jF t.mask e.1 m).j∈t.place
theorem Es {α:Type} (xs:Array α) (p:Nat) (x:α):(SetTable.insertAt xs p x).toList=xs.toList.take p++x::xs.toList.drop p:=by
 unfold SetTable.insertAt
 simp[Array.toList_extract,List.take_of_length_le]
theorem J0 {α:Type} {xs:Array α} {p:Nat} (hp:p<=xs.size) (x:α) (i:Nat):(SetTable.insertAt xs p x)[i]?=if i < p then xs[i]? else if i=p then some x else xs[i - 1]?:=by
 rw[<-qo,Es,List.getElem?_append]
 have hl:(xs.toList.take p).length=p:=by rw[kf,ZE];omega
 rw[hl]
 by_cases h1:i < p
 ·rw[zo h1,zo h1,List.getElem?_take,zo h1,qo]
 ·rw[zI h1,zI h1]
  by_cases h2:i=p
  ·rw[zo h2,h2,Nat.sub_self];rfl
  ·rw[zI h2,show i - p=(i - p - 1)+1 by omega,qV,List.getElem?_drop,qo,show p+(i - p - 1)=i - 1 by omega]
theorem zW {α:Type} (xs:Array α) (p:Nat) (x:α):(SetTable.insertAt xs p x).size=xs.size+1:=by
 rw[<-ZE,Es,Zp,qi,kf,kg,ZE]
 omega
theorem Yq {α:Type} {xs:Array α} {p:Nat} {x y:α}:y∈SetTable.insertAt xs p x↔y∈xs\/y=x:=by
 rw[<-Array.mem_toList_iff,Es,JJ,ZY,<-Array.mem_toList_iff]
 constructor
 ·rintro (h|h|h)
  ·exact .inl (List.mem_of_mem_take h)
  ·exact .inr h
  ·exact .inl (List.mem_of_mem_drop h)
 ·rintro (h|h)
  ·rw[<-List.take_append_drop p xs.toList,JJ] at h
   rcases h with h|h
   ·exact .inl h
   ·exact .inr (.inr h)
  ·exact .inr (.inl h)
theorem ab0 {xs:Array Nat} (hr:W3 xs) {j:Nat} (hj:j∉xs):W3 (SetTable.insertAt xs (SetTable.below xs j) j):=by
 obtain⟨h1,h2,h3⟩:=below_at hr j
 intro a b hab hb
 rw[zW] at hb
 have ga:∀ i,i < xs.size+1->(SetTable.insertAt xs (SetTable.below xs j) j).getD i 0=if i < SetTable.below xs j then xs.getD i 0 else if i=SetTable.below xs j then j else xs.getD (i - 1) 0:=fun i hi=>by
  rw[gD,J0 h1]
  by_cases q1:i < SetTable.below xs j
  ·rw[zo q1,zo q1,<-gD]
  ·rw[zI q1,zI q1]
   by_cases q2:i=SetTable.below xs j
   ·rw[zo q2,zo q2];rfl
   ·rw[zI q2,zI q2,<-gD]
 have gt:∀ k,SetTable.below xs j<=k->k < xs.size->j < xs.getD k 0:=fun k hk hs=>by
  have q:=h3 k hk hs
  rcases Nat.lt_or_eq_of_le q with q|q
  ·exact q
  ·exact absurd (Array.mem_of_getElem? (aeW hs q.symm)) hj
 rw[ga a (by omega),ga b hb]
 by_cases a1:a < SetTable.below xs j
 ·rw[zo a1]
  by_cases b1:b < SetTable.below xs j
  ·rw[zo b1];exact hr a b hab (by omega)
  ·rw[zI b1]
   have:=h2 a a1
   by_cases b2:b=SetTable.below xs j
   ·rw[zo b2];exact this
   ·rw[zI b2];exact Nat.lt_trans this (gt _ (by omega) (by omega))
 ·rw[zI a1]
  by_cases a2:a=SetTable.below xs j
  ·rw[zo a2,zI (by omega),zI (by omega)]
   exact gt _ (by omega) (by omega)
  ·rw[zI a2,zI (by omega),zI (by omega)]
   exact hr _ _ (by omega) (by omega)
theorem aeZ {t:SetTable} {es:Array (Int×Value)} (h:Tok t es) {hh:Int} {x:Value} {n:Nat} (hn:n < 10 * SetTable.turns t.mask) (hf:(jF t.mask hh n).j∉t.place) (hp:∀ m,m < n->(jF t.mask hh m).j∈t.place) (hj:(jF t.mask hh n).j<=t.mask) (hs:es.size+1<=t.mask) :
  Tok (t.put (jF t.mask hh n).j).1 (SetTable.insertAt es (t.put (jF t.mask hh n).j).2 (hh,x))/\(t.put (jF t.mask hh n).j).1.led=t.led/\(t.put (jF t.mask hh n).j).1.plain=t.plain/\(t.put (jF t.mask hh n).j).1.mask=t.mask:=by
 have hd:=h.dum
 have he:t.put (jF t.mask hh n).j=({ t with place:=SetTable.insertAt t.place (SetTable.below t.place (jF t.mask hh n).j) (jF t.mask hh n).j,dummies:=#[] },SetTable.below t.place (jF t.mask hh n).j):=by
  unfold SetTable.put
  rw[hd]
  simp only[Yn,zk,ZH]
 rw[he]
 have hz:=h.size
 have hb:=(below_at h.rise (jF t.mask hh n).j).1
 refine⟨{ mask:=h.mask,dum:=rfl,rise:=ab0 h.rise hf,bd:=fun j hj'=>?_,full:=?_,size:=?_,reach:=fun i j e h1 h2=>?_ },rfl,rfl,rfl⟩
 ·rcases Yq.mp hj' with q|q
  ·exact h.bd j q
  ·rw[q];exact hj
 ·show (SetTable.insertAt _ _ _).size<=t.mask
  rw[zW];omega
 ·show (SetTable.insertAt _ _ _).size=_
  rw[zW,zW,hz]
 ·have h1:(SetTable.insertAt t.place (SetTable.below t.place (jF t.mask hh n).j) (jF t.mask hh n).j)[i]?=some j:=h1
  rw[J0 hb] at h1
  rw[J0 (by rw[<-hz];exact hb)] at h2
  have up:∀ e':Int×Value,(∃ n,n < 10 * SetTable.turns t.mask/\(jF t.mask e'.1 n).j=j/\∀ m,m < n->(jF t.mask e'.1 m).j∈t.place)->∃ n',n' < 10 * SetTable.turns t.mask/\(jF t.mask e'.1 n').j=j/\∀ m,m < n'->(jF t.mask e'.1 m).j∈SetTable.insertAt t.place (SetTable.below t.place (jF t.mask hh n).j) (jF t.mask hh n).j:=
   fun e' ⟨n,a,b,c⟩=>⟨n,a,b,fun m hm=>Yq.mpr (.inl (c m hm))⟩
  by_cases q1:i < SetTable.below t.place (jF t.mask hh n).j
  ·rw[zo q1] at h1 h2
   exact up e (h.reach i j e h1 h2)
  ·rw[zI q1] at h1 h2
   by_cases q2:i=SetTable.below t.place (jF t.mask hh n).j
   ·rw[zo q2] at h1 h2
    cases h1;cases h2
    exact up (hh,x) ⟨n,hn,rfl,hp⟩
   ·rw[zI q2] at h1 h2
    exact up e (h.reach (i - 1) j e h1 h2)
theorem ab1 {mask:Nat} (h:Int):∀ n,(jF mask h n).j+(jF mask h n).more<=mask
 |0=>by
  have h1:SetTable.bits h % (mask+1) < mask+1:=Nat.mod_lt _ (Nat.succ_pos _)
  have:=abW (mask:=mask) (i:=SetTable.bits h % (mask+1)) (by omega)
  have:=K7 mask (SetTable.bits h % (mask+1))
  show SetTable.bits h % (mask+1)+(SetTable.runEnd mask (SetTable.bits h % (mask+1)) - SetTable.bits h % (mask+1))<=mask
  omega
 |n+1=>by
  have ih:=ab1 (mask:=mask) h n
  show (Oh mask (jF mask h n)).j+(Oh mask (jF mask h n)).more<=mask
  unfold Oh
  split
  ·dsimp only;omega
  ·dsimp only
   generalize hl:(SetTable.leap mask (jF mask h n).i (jF mask h n).perturb).1=i
   have h1:i < mask+1:=by rw[<-hl];exact Nat.mod_lt _ (Nat.succ_pos _)
   have:=abW (mask:=mask) (i:=i) (by omega)
   have:=K7 mask i
   omega
theorem W6 {mask:Nat} (h:Int) (n:Nat):(jF mask h n).j<=mask:=by have:=ab1 (mask:=mask) h n;omega
def W7 (owner:Array (Option Nat)) (j:Nat):Prop:=(owner.getD j (some 0)).isNone=false
theorem Qe {mask:Nat} {h:Int} {owner:Array (Option Nat)}:∀ (fuel l s j:Nat),jF mask h s=at0 mask (lp mask h l).1 (lp mask h l).2->s<=10 * l->(∀ m,m < s->W7 owner (jF mask h m).j) →
  SetTable.layClean.free mask owner fuel (lp mask h l).1 (lp mask h l).2=some j->∃ n,n < 10 * (l+fuel)/\(jF mask h n).j=j/\(owner.getD j (some 0)).isNone=true/\∀ m,m < n->W7 owner (jF mask h m).j
 |0,l,s,j,_,_,_,e=>by unfold SetTable.layClean.free at e;cases e
 |fuel+1,l,s,j,hs,hl,ho,e=>by
  have hr:=K7 mask (lp mask h l).1
  unfold SetTable.layClean.free at e
  cases hf:(List.range (SetTable.runEnd mask (lp mask h l).1+1 - (lp mask h l).1)).find? fun k=>(owner.getD ((lp mask h l).1+k) (some 0)).isNone with
  |some k=>
   rw[hf] at e
   cases e
   obtain⟨h1,h2,h3⟩:=List.find?_range_eq_some.mp hf
   rw[kU] at h2
   refine⟨s+k,by omega,?_,h1,fun m hm=>?_⟩
   ·rw[Er hs k (by omega)]
   ·by_cases q:m < s
    ·exact ho m q
    ·have h4:=h3 (m - s) (by omega)
     rw[show m=s+(m - s) by omega,Er hs (m - s) (by omega)]
     simpa [W7] using h4
  |none=>
   rw[hf] at e
   have h3:=List.find?_range_eq_none.mp hf
   obtain⟨n,a,b⟩:=Qe fuel (l+1) _ j (U3 hs) (by omega) (fun m hm=>by
    by_cases q:m < s
    ·exact ho m q
    ·have h4:=h3 (m - s) (by omega)
     rw[show m=s+(m - s) by omega,Er hs (m - s) (by omega)]
     simpa [W7] using h4) e
   exact⟨n,by omega,b⟩
theorem Qf {mask:Nat} {h:Int} {owner:Array (Option Nat)}:∀ (fuel l:Nat),SetTable.layClean.free mask owner fuel (lp mask h l).1 (lp mask h l).2=none->∀ l',l<=l'->l' < l+fuel->W7 owner (lp mask h l').1
 |0,l,_,l',h1,h2=>by omega
 |fuel+1,l,e,l',h1,h2=>by
  have hr:=K7 mask (lp mask h l).1
  unfold SetTable.layClean.free at e
  cases hf:(List.range (SetTable.runEnd mask (lp mask h l).1+1 - (lp mask h l).1)).find? fun k=>(owner.getD ((lp mask h l).1+k) (some 0)).isNone with
  |some k=>rw[hf] at e;cases e
  |none=>
   rw[hf] at e
   have h3:=List.find?_range_eq_none.mp hf
   by_cases q:l'=l
   ·subst q
    have h4:=h3 0 (by omega)
    simpa [W7] using h4
   ·exact Qf fuel (l+1) e l' (by omega) (by omega)
structure Ow (mask:Nat) (hs:List Int) (owner:Array (Option Nat)):Prop where
 size:owner.size=mask+1
 lt:∀ (j idx:Nat),owner[j]?=some (some idx)->idx < hs.length
 all:∀ (idx:Nat) h,hs[idx]?=some h->∃ j,owner[j]?=some (some idx)/\∃ n,n < 10 * SetTable.turns mask/\(jF mask h n).j=j/\∀ m,m < n->W7 owner (jF mask h m).j
 inj:∀ (j j' idx:Nat),owner[j]?=some (some idx)->owner[j']?=some (some idx)->j=j'
theorem ab2 {mask:Nat} {hs:List Int} {owner:Array (Option Nat)} (o:Ow mask hs owner) {j:Nat} (hj:j<=mask):W7 owner j↔∃ idx,owner[j]?=some (some idx):=by
 unfold W7
 have hlt:j < owner.size:=by rw[o.size];omega
 rw[gD,ZU hlt]
 cases owner[j] with
 |none=>simp
 |some i=>simp
theorem Z2 {f:Nat->Nat}:∀ {xs:List Nat},xs.Nodup->(∀ x∈xs,∀ y∈xs,f x=f y->x=y)->(xs.map f).Nodup:=fun {xs} hn hi=>
 List.pairwise_map.mpr (List.Pairwise.imp_of_mem (fun ha hb hne e=>hne (hi _ ha _ hb e)) hn)
theorem ae0 {mask:Nat} {hs:List Int} {owner:Array (Option Nat)} (o:Ow mask hs owner) (hl:hs.length<=mask):∃ r,r < mask+1/\¬ W7 owner r:=by
 by_cases q:∃ r,r < mask+1/\¬ W7 owner r
 ·exact q
 ·exfalso
  have all:∀ r,r < mask+1->∃ idx,owner[r]?=some (some idx):=fun r hr=>by
   by_cases q':W7 owner r
   ·exact (ab2 o (by omega)).mp q'
   ·exact absurd ⟨r,hr,q'⟩ q
  have f:∀ r,r < mask+1->owner[r]?=some (some ((owner[r]?.getD none).getD 0)):=fun r hr=>by
   obtain⟨idx,e⟩:=all r hr
   rw[e];rfl
  have:=W4 ((List.range (mask+1)).map fun r=>(owner[r]?.getD none).getD 0) (List.range hs.length) (Z2 List.nodup_range fun x hx y hy e=>by
   rw[kU] at hx hy
   have e1:=f x hx
   have e2:=f y hy
   rw[e] at e1
   exact o.inj x y _ e1 e2) fun x hx=>by
    obtain⟨r,hr,rfl⟩:=List.mem_map.mp hx
    rw[kU] at hr
    exact List.mem_range.mpr (o.lt r _ (f r hr))
  rw[zh,kA,kA] at this
  omega
theorem ae1 {mask:Nat} (hm:mask=7\/mask=31\/mask=127) {hs:List Int} {owner:Array (Option Nat)} (o:Ow mask hs owner) (hl:hs.length<=mask) (h:Int) :
  ∃ j,SetTable.layClean.free mask owner (SetTable.turns mask) (SetTable.bits h % (mask+1)) (SetTable.bits h)=some j/\Ow mask (hs++[h]) (owner.setIfInBounds j (some hs.length)):=by
 obtain⟨r,hr,hn⟩:=ae0 o hl
 cases hf:SetTable.layClean.free mask owner (SetTable.turns mask) (SetTable.bits h % (mask+1)) (SetTable.bits h) with
 |none=>
  obtain⟨l,hl',e⟩:=abY hm h hr
  have:=Qf (h:=h) (owner:=owner) (SetTable.turns mask) 0 hf l (QO _) (by unfold SetTable.turns;omega)
  rw[e] at this
  exact absurd this hn
 |some j=>
  obtain⟨n,h1,h2,h3,h4⟩:=Qe (h:=h) (owner:=owner) (SetTable.turns mask) 0 0 j rfl (zi _) (fun m hm=>absurd hm (JI _)) hf
  rw[kR] at h1
  have hj:j<=mask:=by rw[<-h2];exact W6 h n
  have hjs:j < owner.size:=by rw[o.size];omega
  have get:∀ k:Nat,(owner.setIfInBounds j (some hs.length))[k]?=if k=j then some (some hs.length) else owner[k]?:=fun k=>by
   rw[Array.getElem?_setIfInBounds]
   by_cases q:k=j
   ·rw[zo q,zo q.symm,zo hjs]
   ·rw[zI q,zI (fun e=>q e.symm)]
  have old:∀ k idx:Nat,owner[k]?=some (some idx)->k≠j:=fun k idx e q=>by
   subst q
   rw[gD,e] at h3
   cases h3
  have up:∀ k,W7 owner k->W7 (owner.setIfInBounds j (some hs.length)) k:=fun k q=>by
   unfold W7 at q ⊢
   rw[gD] at q ⊢
   rw[get]
   by_cases e:k=j
   ·rw[zo e];rfl
   ·rw[zI e];exact q
  refine⟨j,rfl,⟨by rw[Array.size_setIfInBounds];exact o.size,fun k idx e=>?_,fun idx g e=>?_,fun a b idx e1 e2=>?_⟩⟩
  ·rw[get] at e
   rw[Zp]
   by_cases q:k=j
   ·rw[zo q] at e;cases e;simp
   ·rw[zI q] at e;have:=o.lt k idx e;simp;omega
  ·by_cases q:idx < hs.length
   ·rw[qf q] at e
    obtain⟨k,e1,n',a,b,c⟩:=o.all idx g e
    exact⟨k,by rw[get,zI (old k idx e1)];exact e1,n',a,b,fun m hm=>up _ (c m hm)⟩
   ·rw[Qr (by omega)] at e
    have:idx - hs.length=0:=by
     by_cases q':idx - hs.length=0
     ·exact q'
     ·rw[qr (by simp;omega)] at e;cases e
    rw[this] at e
    cases e
    have:idx=hs.length:=by omega
    subst this
    exact⟨j,by rw[get,zo rfl],n,h1,h2,fun m hm=>up _ (h4 m hm)⟩
  ·rw[get] at e1 e2
   by_cases q1:a=j
   ·by_cases q2:b=j
    ·rw[q1,q2]
    ·rw[zo q1] at e1;rw[zI q2] at e2
     cases e1
     have:=o.lt b _ e2;omega
   ·by_cases q2:b=j
    ·rw[zI q1] at e1;rw[zo q2] at e2
     cases e2
     have:=o.lt a _ e1;omega
    ·rw[zI q1] at e1;rw[zI q2] at e2
     exact o.inj a b idx e1 e2
theorem ahz (mask:Nat):Ow mask [] (Array.replicate (mask+1) none):=by
 have no:∀ (j idx:Nat),(Array.replicate (mask+1) (none:Option Nat))[j]?≠some (some idx):=fun j idx e=>by
  rw[Array.getElem?_replicate] at e
  split at e<;>cases e
 exact⟨Array.size_replicate,fun j idx e=>absurd e (no j idx),fun idx h e=>by simp at e,fun j j' idx e=>absurd e (no j idx)⟩
theorem ahA {mask:Nat} (hm:mask=7\/mask=31\/mask=127) (hs:List Int) (hl:hs.length<=mask):∃ owner,SetTable.layClean mask hs.toArray=some owner/\Ow mask hs owner:=by
 have key:∀ (ys xs:List Int) (owner:Array (Option Nat)),Ow mask xs owner->xs.length+ys.length<=mask->∃ ab3,ys.foldl (fun (acc:Option (Array (Option Nat)×Nat)) h=>do
   let (owner,k) <-acc
   let j <-SetTable.layClean.free mask owner (SetTable.turns mask) (SetTable.bits h % (mask+1)) (SetTable.bits h)
   pure (owner.setIfInBounds j (some k),k+1)) (some (owner,xs.length))=some (ab3,xs.length+ys.length)/\Ow mask (xs++ys) ab3:=by
  intro ys
  induction ys with
  |nil=>intro xs owner o _;exact⟨owner,rfl,by rw[kP];exact o⟩
  |cons y ys ih=>
   intro xs owner o hl
   rw[qi] at hl
   obtain⟨j,e,o'⟩:=ae1 hm o (by omega) y
   obtain⟨ow,e2,o2⟩:=ih (xs++[y]) _ o' (by simp;omega)
   refine⟨ow,?_,by rw[JY] at o2;exact o2⟩
   rw[List.foldl_cons]
   simp only[Option.bind_eq_bind,Option.bind_some,e,pure]
   rw[show (xs++[y]).length=xs.length+1 by simp] at e2
   rw[qi,show xs.length+(ys.length+1)=xs.length+1+ys.length by omega]
   exact e2
 obtain⟨ow,e,o⟩:=key hs [] _ (ahz mask) (by simpa using hl)
 refine⟨ow,?_,by simpa using o⟩
 unfold SetTable.layClean
 rw[List.foldl_toArray]
 exact congrArg (Option.map (·.1)) e
theorem KJ {α β:Type} {f:α->Option β} {g:α->β}:∀ {xs:List α},(∀ x∈xs,f x=some (g x))->xs.filterMap f=xs.map g
 |[],_=>rfl
 |x::xs,h=>by
  rw[kl,h x (zt ..),zz,KJ fun y hy=>h y (zl _ hy)]
theorem ae2 {xs:List Nat} (h:xs.Pairwise (· < ·)):W3 xs.toArray:=by
 intro i j hij hj
 have hj':j < xs.length:=by simpa using hj
 rw[gD,gD,List.getElem?_toArray,List.getElem?_toArray,Zs hj',Zs (by omega)]
 exact List.pairwise_iff_getElem.mp h i j (by omega) hj' hij
theorem Z4 {t:SetTable} {es:Array (Int×Value)} {wanted:Nat} (hm:SetTable.sizeAbove wanted - 1=7\/SetTable.sizeAbove wanted - 1=31\/SetTable.sizeAbove wanted - 1=127) (hl:es.size<=SetTable.sizeAbove wanted - 1) :
  ∃ t' order,t.relaid (es.map (·.1)) wanted=some (t',order)/\(order.filterMap (es[·]?)).toList.Perm es.toList/\Tok t' (order.filterMap (es[·]?))/\t'.led=t.led/\t'.plain=t.plain/\t'.mask=SetTable.sizeAbove wanted - 1:=by
 generalize hM:SetTable.sizeAbove wanted - 1=mask at hm hl ⊢
 have hs:(es.toList.map (·.1)).length=es.size:=by simp
 obtain⟨ow,e,o⟩:=ahA hm (es.toList.map (·.1)) (by omega)
 have ea:es.map (·.1)=(es.toList.map (·.1)).toArray:=by
  apply Array.ext'
  simp
 let L:List (Nat×Nat):=(List.range (mask+1)).filterMap fun j=>(ow.getD j none).map fun k=>(j,k)
 have hL:∀ j k,(j,k)∈L↔ow[j]?=some (some k):=fun j k=>by
  show (j,k)∈List.filterMap _ _↔_
  rw[List.mem_filterMap]
  constructor
  ·rintro⟨a,ha,q⟩
   rw[gD] at q
   cases h1:ow[a]? with
   |none=>rw[h1] at q;cases q
   |some x=>
    rw[h1] at q
    cases x with
    |none=>cases q
    |some y=>cases q;exact h1
  ·intro q
   refine⟨j,List.mem_range.mpr ?_,?_⟩
   ·by_cases h:j < ow.size
    ·rw[<-o.size];exact h
    ·rw[kC (by omega)] at q;cases q
   ·rw[gD,q];rfl
 have pL:L.Pairwise fun a b=>a.1 < b.1:=by
  refine List.pairwise_filterMap.mpr (List.pairwise_lt_range.imp fun {a b} hab x hx y hy=>?_)
  cases h1:ow.getD a none with
  |none=>rw[h1] at hx;cases hx
  |some u=>
   cases h2:ow.getD b none with
   |none=>rw[h2] at hy;cases hy
   |some v=>rw[h1] at hx;rw[h2] at hy;cases hx;cases hy;exact hab
 have ndO:(L.map (·.2)).Nodup:=by
  refine List.pairwise_map.mpr (List.Pairwise.imp_of_mem (fun {a b} ha hb hab e=>?_) pL)
  have h1:=(hL a.1 a.2).mp ha
  have h2:=(hL b.1 b.2).mp hb
  rw[e] at h1
  have:=o.inj _ _ _ h1 h2
  omega
 have pO:(L.map (·.2)).Perm (List.range es.size):=uM ndO List.nodup_range fun z=>by
  rw[List.mem_map,kU]
  constructor
  ·rintro⟨a,ha,rfl⟩
   have:=o.lt _ _ ((hL a.1 a.2).mp ha)
   omega
  ·intro hz
   obtain⟨j,h1,_⟩:=o.all z ((es.toList.map (·.1))[z]'(by omega)) (Zs (by omega))
   exact⟨(j,z),(hL j z).mpr h1,rfl⟩
 let g:Nat->Int×Value:=fun k=>es.getD k (0,.none)
 have hg:∀ k,k < es.size->es[k]?=some (g k):=fun k hk=>by
  show _=some (es.getD k _)
  rw[gD,ZU hk];rfl
 have fO:(L.map (·.2)).filterMap (fun k=>es[k]?)=(L.map (·.2)).map g:=KJ fun k hk=>hg k (List.mem_range.mp (pO.mem_iff.mp hk))
 have eL:((L.map (·.2)).toArray.filterMap (fun k=>es[k]?)).toList=L.map fun p=>g p.2:=by
  rw[Array.toList_filterMap,fO,qh];rfl
 refine⟨{ mask:=mask,place:=(L.map (·.1)).toArray,dummies:=#[],finger:=t.finger,led:=t.led,moves:=t.movedTo mask,plain:=t.plain },(L.map (·.2)).toArray,?_,?_,?_,rfl,rfl,rfl⟩
 ·unfold SetTable.relaid SetTable.laid
  rw[hM,ea,e]
  rfl
 ·rw[Array.toList_filterMap,fO]
  refine (pO.map g).trans ?_
  have:(List.range es.size).map g=es.toList:=by
   apply List.ext_getElem?
   intro i
   rw[ZT]
   by_cases h:i < es.size
   ·rw[List.getElem?_range h,qo,hg i h];rfl
   ·rw[qr (by simp;omega),qr (by simp;omega)];rfl
  rw[this]
 ·have sz:L.length=es.size:=by
   have:=pO.length_eq
   rw[zh,kA] at this
   exact this
  refine { mask:=hm,dum:=rfl,rise:=ae2 (List.pairwise_map.mpr pL),bd:=fun j hj=>?_,full:=?_,size:=?_,reach:=fun i j x h1 h2=>?_ }
  ·have hj:j∈L.map (·.1):=by simpa using hj
   obtain⟨a,ha,rfl⟩:=List.mem_map.mp hj
   have q:=(hL a.1 a.2).mp ha
   have:a.1 < ow.size:=by
    by_cases h:a.1 < ow.size
    ·exact h
    ·rw[kC (by omega)] at q;cases q
   have:=o.size
   show a.1<=mask
   omega
  ·show (L.map (·.1)).toArray.size<=mask
   simp only[zr,zh]
   omega
  ·rw[<-ZE (xs:=Array.filterMap _ _),eL]
   simp
  ·have h1:(L.map (·.1)).toArray[i]?=some j:=h1
   rw[List.getElem?_toArray,ZT] at h1
   rw[<-qo,eL,ZT] at h2
   cases hi:L[i]? with
   |none=>rw[hi] at h1;cases h1
   |some p=>
    rw[hi] at h1 h2
    cases h1;cases h2
    have hp:(p.1,p.2)∈L:=QP hi
    have q:=(hL p.1 p.2).mp hp
    have hk:p.2 < es.size:=List.mem_range.mp (pO.mem_iff.mp (List.mem_map.mpr ⟨p,hp,rfl⟩))
    have hh:(es.toList.map (·.1))[p.2]?=some (g p.2).1:=by
     rw[ZT,qo,hg _ hk];rfl
    obtain⟨j',q1,n,a,b,c⟩:=o.all _ _ hh
    have:j'=p.1:=o.inj _ _ _ q1 q
    subst this
    refine⟨n,a,b,fun m hm'=>?_⟩
    obtain⟨k,q2⟩:=(ab2 o (W6 _ _)).mp (c m hm')
    show _∈(L.map (·.1)).toArray
    rw[List.mem_toArray]
    exact List.mem_map.mpr ⟨(_,k),(hL _ _).mpr q2,rfl⟩
end S6
end
section
namespace S6
open PySem PySem.Spec PyProof.Rows P1 L2
section
variable {prog:Program} {w:World} {A:Around} {E:VP_} {s:Shared} {a:Addr}
abbrev cN (prog:Program) (w:World) (ks:List Key):Int:=tupleKeyHash (dJ prog w) ks
def TE (prog:Program) (w:World) (h:Heap) (z:List Key×Addr) (e:Int×Value):Prop:=e=(cN prog w z.1,.ref z.2)/\IsTupleKey (dJ prog w) h z.1 z.2
structure ae3 (prog:Program) (w:World) (h:Heap) (zs:List (List Key×Addr)) (es:Array (Int×Value)) (t:SetTable):Prop where
 rel:Paired (TE prog w h) zs es.toList
 nd:(zs.map (·.1)).Nodup
 tok:Tok t es
 load:es.size * 5 < t.mask * 3
 led:w.params.followText "set-order" = false->t.led=true
 non:0 < es.size->t.plain=false
def Tu (prog:Program) (w:World) (h:Heap) (a:Addr) (zs:List (List Key×Addr)):Prop:=∃ o es ep t,h.get? a=some o/\o.ExactSet/\o.data=.set es ep t/\ae3 prog w h zs es t
theorem Yr {h h':Heap} {ks:List Key} {b:Addr} (x:IsTupleKey (dJ prog w) h ks b) (k:∀ o,h.get? b=some o->o.cls=.type "tuple" → h'.get? b=some o):IsTupleKey (dJ prog w) h' ks b:=
 let ⟨o,its,n,e,c,r⟩:=x;⟨o,its,n,k o e c,c,r⟩
theorem K8 {h h':Heap} {zs:List (List Key×Addr)} {l:List (Int×Value)} (k:∀ b o,h.get? b=some o->o.cls=.type "tuple" → h'.get? b=some o) (r:Paired (TE prog w h) zs l):Paired (TE prog w h') zs l:=by
 induction r with
 |nil=>exact .nil
 |cons q _ ih=>exact .cons ⟨q.1,Yr q.2 fun o e c=>k _ o e c⟩ ih
theorem Tu.keep {h h':Heap} {zs:List (List Key×Addr)} (x:Tu prog w h a zs) (k:∀ b o,h.get? b=some o->h'.get? b=some o):Tu prog w h' a zs:=
 let ⟨o,es,ep,t,e,r,d,q⟩:=x;⟨o,es,ep,t,k a o e,r,d,⟨K8 (fun b o e _=>k b o e) q.rel,q.nd,q.tok,q.load,q.led,q.non⟩⟩
theorem ae3.size {h:Heap} {zs:List (List Key×Addr)} {es:Array (Int×Value)} {t:SetTable} (x:ae3 prog w h zs es t):es.size=zs.length:=by rw[x.rel.length];simp
theorem Tok.fits {t:SetTable} {es:Array (Int×Value)} (h:Tok t es):t.fits es.size=true:=by
 unfold SetTable.fits SetTable.fill
 have h1:=h.full
 have h2:=h.size
 rw[h.dum]
 simp[h2]
 omega
theorem Tok.odd {t:SetTable} {es:Array (Int×Value)} (h:Tok t es):t.gaveWay=false:=by
 unfold SetTable.gaveWay
 rcases h.mask with e|e|e<;>rw[e]<;>rfl
theorem Qg {d:Nat} {ks:List Key} {b:Addr} {Q:Bool->Shared->Prop} (hk:IsTupleKey (dJ prog w) s.heap ks b) (h:Q false s):wpAny (model prog w) A (ofAClassStatement (d+1) (.ref b)) Q E s:=by
 have hT:=hk.typeIs
 obtain⟨o,items,n,ho,_,hd,hi⟩:=hk
 unfold ofAClassStatement
 refine zd (QN hT ?_)
 dsimp only
 refine zd (ze ?_)
 simp only[js,zk,ZH]
 refine zd (wpAny_seqItems ho hd ?_)
 dsimp only
 refine zd ?_
 rw[<-Array.forIn_toList]
 refine KO _ (fun rest r s'=>r.1=none/\s'=s/\∀ v∈rest,carriedByValue v=true) _ ?_ ?_ _ _ ⟨rfl,rfl,hi.byValue⟩
 ·rintro v rest r s' ⟨hr,rfl,hall⟩
  have hv:ofAClassStatement d v=pure false:=by
   have:=hall v zt
   cases v with
   |ref a=>simp[carriedByValue] at this
   |_=>unfold ofAClassStatement;rfl
  rw[hv]
  refine zd (ze ?_)
  simp only[zk,ZH]
  exact ze ⟨rfl,rfl,fun u hu'=>hall u (zl _ hu')⟩
 ·rintro⟨r1,r2⟩ s' ⟨hr,rfl,_⟩
  simp only at hr
  subst hr
  exact ze h
theorem ahB {ks:List Key} {b:Addr} {Q:Bool->Shared->Prop} (hk:IsTupleKey (dJ prog w) s.heap ks b) (vs:List Value) (hv:∀ v∈vs,∃ c ls,v=.ref c/\IsTupleKey (dJ prog w) s.heap ls c) (h:Q false s):wpAny (model prog w) A (searchCouldBeSeen (.ref b) vs) Q E s:=by
 unfold searchCouldBeSeen
 refine zd ?_
 refine KO _ (fun rest r s'=>r.1=none/\s'=s/\∀ v∈rest,∃ c ls,v=.ref c/\IsTupleKey (dJ prog w) s.heap ls c) _ ?_ ?_ _ _ ⟨rfl,rfl,hv⟩
 ·rintro v rest r s' ⟨hr,rfl,hall⟩
  obtain⟨c,ls,rfl,hc⟩:=hall v zt
  have rest':∀ v∈rest,∃ c ls,v=.ref c/\IsTupleKey (dJ prog w) s'.heap ls c:=fun u hu=>hall u (zl _ hu)
  dsimp only
  split
  ·exact ze ⟨rfl,rfl,rest'⟩
  ·refine zd (wpAny_eqIsQuiet_tuple hk ?_)
   simp only[js,zk,ZH]
   refine zd (wpAny_eqIsQuiet_tuple hc ?_)
   simp only[js,zk,ZH]
   refine zd (Qg hk ?_)
   simp only[zk,ZH]
   refine zd (Qg hc ?_)
   simp only[zk,ZH]
   exact ze ⟨rfl,rfl,rest'⟩
 ·rintro⟨r1,r2⟩ s' ⟨hr,rfl,_⟩
  simp only at hr
  subst hr
  exact ze h
theorem RN {h:Heap}:∀ {zs:List (List Key×Addr)} {l:List (Int×Value)},Paired (TE prog w h) zs l->∀ {i:Nat} {e},l[i]?=some e->∃ z,zs[i]?=some z/\TE prog w h z e
 |_,_,.nil,i,e,q=>by simp at q
 |_,_,.cons r _,0,e,q=>by simp at q;subst q;exact⟨_,rfl,r⟩
 |_,_,.cons _ t,i+1,e,q=>by
  rw[qV] at q
  obtain⟨z,z1,z2⟩:=RN t q
  exact⟨z,by rw[qV];exact z1,z2⟩
theorem Et {h:Heap}:∀ {zs:List (List Key×Addr)} {l:List (Int×Value)},Paired (TE prog w h) zs l->∀ {i:Nat} {z},zs[i]?=some z->∃ e,l[i]?=some e/\TE prog w h z e
 |_,_,.nil,i,e,q=>by simp at q
 |_,_,.cons r _,0,e,q=>by simp at q;subst q;exact⟨_,rfl,r⟩
 |_,_,.cons _ t,i+1,e,q=>by
  rw[qV] at q
  obtain⟨z,z1,z2⟩:=Et t q
  exact⟨z,by rw[qV];exact z1,z2⟩
theorem least (p:Nat->Prop):∀ (k n:Nat),p (n+k)->∃ d,d<=k/\p (n+d)/\∀ m,n<=m->m < n+d->¬ p m
 |0,n,h=>⟨0,zi _,h,fun m h1 h2=>absurd h2 (by omega)⟩
 |k+1,n,h=>by
  by_cases q:p n
  ·exact⟨0,QO _,q,fun m h1 h2=>absurd h2 (by omega)⟩
  ·obtain⟨d,h1,h2,h3⟩:=least p k (n+1) (by rw[show n+1+k=n+(k+1) by omega];exact h)
   refine⟨d+1,by omega,by rw[show n+(d+1)=n+1+d by omega];exact h2,fun m a b=>?_⟩
   by_cases e:m=n
   ·rw[e];exact q
   ·exact h3 m (by omega) (by omega)
theorem search {o:Obj} {es:Array (Int×Value)} {ep:Nat} {t:SetTable} {zs:List (List Key×Addr)} {ks:List Key} {b:Addr} (hu:A.units < cLine) (ho:s.heap.get? a=some o) (hd:o.data=.set es ep t) (x:ae3 prog w s.heap zs es t) (hk:IsTupleKey (dJ prog w) s.heap ks b)
  {N:Nat} (hN:N < 10 * SetTable.turns t.mask) (hf:(jF t.mask (cN prog w ks) N).j∉t.place) (hp:∀ m,m < N->(jF t.mask (cN prog w ks) m).j∈t.place) {Q:SetFound->Shared->Prop}
  (h1:ks∈zs.map (·.1)->Q (.there none) s) (h2:ks∉zs.map (·.1)->Q (.free (jF t.mask (cN prog w ks) N).j false) s) :
  ∀ (k n fuel:Nat) (stand:Option SetTable.Probe),n+k=N->k < fuel->stand.getD (t.probeStart (cN prog w ks))=jF t.mask (cN prog w ks) n->(∀ m,m < n->∀ i:Nat,t.place[i]?=some (jF t.mask (cN prog w ks) m).j->∀ z:List Key×Addr,zs[i]?=some z->z.1≠ks) →
   wpAny (model prog w) A (setSearchFrom a (.ref b) (cN prog w ks) true fuel stand) Q E s:=by
 have get:∀ {i:Nat} {e},es[i]?=some e->∃ z,zs[i]?=some z/\TE prog w s.heap z e:=fun {i e} q=>RN x.rel (by rw[qo];exact q)
 have fit:=x.tok.fits
 intro k
 induction k using Nat.strongRecOn with
 |ind k ih=>
  intro n fuel stand hn hfu hst hb
  cases fuel with
  |zero=>omega
  |succ fuel=>
  unfold setSearchFrom
  refine zd (qE ho hd fit ?_)
  dsimp only
  rw[zI (by rw[x.tok.odd];decide)]
  refine zd (ze ?_)
  rw[hst]
  obtain⟨d,d1,d2,d3⟩:=least (fun m=>m=N\/∃ i:Nat,t.place[i]?=some (jF t.mask (cN prog w ks) m).j/\∃ e:Int×Value,es[i]?=some e/\e.1=cN prog w ks) k n (.inl hn)
  have live:∀ m,m < N->∃ i:Nat,t.place[i]?=some (jF t.mask (cN prog w ks) m).j/\∃ e,es[i]?=some e:=fun m hm=>by
   obtain⟨i,hi,e⟩:=Array.getElem_of_mem (hp m hm)
   have hi':i < es.size:=by rw[<-x.tok.size];exact hi
   exact⟨i,by rw[ZU hi,e],es[i],ZU hi'⟩
  have pr:=UW x.tok.toTb (fun i=>(es[i]?.map (·.1)).getD 0) (cN prog w ks) d (10 * SetTable.turns t.mask) n (by omega) fun m a1 a2=>by
   have q:=d3 m a1 a2
   obtain⟨i,e1,e,e2⟩:=live m (by omega)
   refine⟨i,e1,fun q'=>q (.inr ⟨i,e1,e,e2,?_⟩)⟩
   simpa [e2] using q'
  have prb:t.probe (fun i=>(es[i]?.map (·.1)).getD 0) (cN prog w ks) (jF t.mask (cN prog w ks) n)=SetTable.probe.go t (fun i=>(es[i]?.map (·.1)).getD 0) (cN prog w ks) (10 * SetTable.turns t.mask) (jF t.mask (cN prog w ks) n):=rfl
  by_cases hE:n+d=N
  ·have p1:=pr.1 (by rw[hE];exact hf)
   rw[hE] at p1
   show wpAny _ _ (match t.probe (fun i=>(es[i]?.map (·.1)).getD 0) (cN prog w ks) (jF t.mask (cN prog w ks) n) with|some met=>_|_=>_) _ _ _
   rw[prb,p1]
   dsimp only
   refine ze (h2 fun hm=>?_)
   obtain⟨z,hz,ez⟩:=List.mem_map.mp hm
   obtain⟨i,hi,e⟩:=jb hz
   obtain⟨ee,e1,e2⟩:=Et x.rel (show zs[i]?=some z by rw[Zs hi,e])
   rw[qo] at e1
   have hi':i < t.place.size:=by rw[x.tok.size,x.size];exact hi
   obtain⟨n0,b1,b2,b3⟩:=x.tok.reach i _ ee (ZU hi') e1
   rw[e2.1,ez] at b2 b3
   have lt:n0 < N:=by
    rcases Nat.lt_trichotomy n0 N with q|q|q
    ·exact q
    ·exfalso;rw[<-q] at hf;rw[b2] at hf;exact hf (Array.getElem_mem hi')
    ·exact absurd (b3 N q) hf
   by_cases q:n0 < n
   ·exact hb n0 q i (by rw[b2];exact ZU hi') z (by rw[Zs hi,e]) ez
   ·exact d3 n0 (by omega) (by omega) (.inr ⟨i,by rw[b2];exact ZU hi',ee,e1,by rw[e2.1,ez]⟩)
  ·rcases d2 with q|⟨i,i1,e,i2,i3⟩
   ·exact absurd q hE
   ·have p2:=pr.2 i i1 (by simpa [i2] using i3)
    show wpAny _ _ (match t.probe (fun i=>(es[i]?.map (·.1)).getD 0) (cN prog w ks) (jF t.mask (cN prog w ks) n) with|some met=>_|_=>_) _ _ _
    rw[prb,p2]
    dsimp only
    obtain⟨z,z1,z2⟩:=get i2
    have hv:∀ v∈((es.filter (·.1==cN prog w ks)).toList.map (·.2)),∃ c ls,v=.ref c/\IsTupleKey (dJ prog w) s.heap ls c:=fun v hv=>by
     obtain⟨u,hu',rfl⟩:=List.mem_map.mp hv
     rw[Array.toList_filter,List.mem_filter] at hu'
     obtain⟨jj,hj,ej⟩:=jb hu'.1
     obtain⟨y,y1,y2⟩:=RN x.rel (show es.toList[jj]?=some u by rw[Zs hj,ej])
     exact⟨y.2,y.1,by rw[y2.1],y2.2⟩
    have go:wpAny (model prog w) A (do
      let some (_,y):=es[i]?|unsupported "internal:set-entry"
      let equal <-holding [y] (eqBool y (.ref b))
      let (es',_,t') <-setState a
      if (true&&equal)=true then return SetFound.there none
      let some same:=t'.sameMemory t.moves t.mask|unsupported "set.changed-during-lookup:is-the-new-block-at-the-old-address"
      let still <-match (if same then t'.slot (jF t.mask (cN prog w ks) (n+d)).j else .empty) with
       |.live i'=>match es'[i']? with
        |some (_,y')=>do pure (if <-isSame y' y then some i' else none)
        |none=>pure none
       |_=>pure none
      match still with
      |none=>rule "set.search.anew"; setSearchFrom a (.ref b) (cN prog w ks) true fuel none
      |some i'=>if equal then return .there (some i') else setSearchFrom a (.ref b) (cN prog w ks) true fuel (some (jF t.mask (cN prog w ks) (n+d+1)))) Q E s:=by
     rw[i2,z2.1]
     dsimp only
     refine zd (QI (wpAny_eqBool_tuple hu z2.2 hk ?_))
     refine zd (qE ho hd fit ?_)
     dsimp only
     by_cases hq:z.1=ks
     ·rw[Q1 hq]
      simp only[Bool.and_self,qB]
      exact ze (h1 (List.mem_map.mpr ⟨z,QP z1,hq⟩))
     ·rw[qq hq]
      simp only[jv,zk,ZH]
      have sm:t.sameMemory t.moves t.mask=some true:=by unfold SetTable.sameMemory;simp
      rw[sm]
      dsimp only
      simp only[qB]
      rw[GX x.tok.toTb i1]
      dsimp only
      rw[i2,z2.1]
      dsimp only
      refine zd (wpAny_isSame_ref_self (zd (ze ?_)))
      simp only[qB]
      refine ih (N - (n+d+1)) (by omega) (n+d+1) fuel _ (by omega) (by omega) rfl fun m hm i' j1 y y1=>?_
      by_cases c1:m < n
      ·exact hb m c1 i' j1 y y1
      ·by_cases c2:m=n+d
       ·subst c2
        have:i'=i:=by
         have s1:=K6 x.tok.rise j1
         have s2:=K6 x.tok.rise i1
         omega
        subst this
        rw[z1] at y1
        cases y1
        exact hq
       ·have q:=d3 m (by omega) (by omega)
        intro e'
        obtain⟨ee,e1,e2⟩:=Et x.rel y1
        rw[qo] at e1
        exact q (.inr ⟨i',j1,ee,e1,by rw[e2.1,e']⟩)
    split
    ·refine zd (ahB hk _ hv ?_)
     simp only[zk,ZH]
     exact go
    ·exact go
def Txs (ks:List Key):Prop:=∃ x:Str,(Sum.inr x:Key)∈ks
theorem ab4 {ks:List Key} {b:Addr} {Q:Bool->Shared->Prop} (hk:IsTupleKey (dJ prog w) s.heap ks b) (hx:Txs ks) (h:Q false s):wpAny (model prog w) A (hashByValue 8 (.ref b)) Q E s:=by
 have hT:=hk.typeIs
 obtain⟨o,items,n,ho,_,hd,hi⟩:=hk
 unfold hashByValue
 refine zd (wpAny_specialOf hT F.slot_tuple_hash.lookup ?_)
 dsimp only
 refine zd (wpAny_seqItems ho hd ?_)
 show wpAny _ _ (forIn items _ _ >>= _) _ _ s
 refine zd ?_
 rw[<-Array.forIn_toList]
 refine KO _ (fun rest r s'=>r.1=none/\s'=s/\∃ left,ItemsAre (dJ prog w) left rest/\Txs left) _ ?_ ?_ _ _ ⟨rfl,rfl,ks,hi,hx⟩
 ·rintro v rest r s' ⟨hr,rfl,left,hl,x,hx⟩
  cases hl with
  |@cons k _ ks' _ h1 hl'=>
   rcases bN h1 with⟨i,t,rfl,rfl⟩|⟨y,t,rfl,rfl⟩
   ·have e:hashByValue 7 (.int i t)=pure true:=by unfold hashByValue;rfl
    rw[e]
    refine zd (ze ?_)
    simp only[js,zk,ZH]
    refine ze ⟨rfl,rfl,ks',hl',x,?_⟩
    rcases List.mem_cons.mp hx with q|q
    ·cases q
    ·exact q
   ·have e:hashByValue 7 (.str y t)=pure false:=by unfold hashByValue;rfl
    rw[e]
    refine zd (ze ?_)
    simp only[Kb,qB]
    exact ze (ze h)
 ·rintro⟨r1,r2⟩ s' ⟨hr,rfl,left,hl,x,hx⟩
  cases hl
  cases hx
theorem Z5 {t:SetTable} {es:Array (Int×Value)} (h:Tok t es):Tok { t with plain:=false } es:={ mask:=h.mask,dum:=h.dum,rise:=h.rise,bd:=h.bd,full:=h.full,size:=h.size,reach:=h.reach }
theorem ae4 {zs:List (List Key×Addr)} {ks:List Key} {b:Addr} {Q:Bool->Shared->Prop} (hu:A.units < cLine) (hS:Tu prog w s.heap a zs) (hk:IsTupleKey (dJ prog w) s.heap ks b) (hx:Txs ks) (hroom:zs.length+1<=70)
  (h:∀ r h' zs',Heap.SameBut a s.heap h'->Tu prog w h' a zs'->(∀ z,z∈zs'↔z∈zs\/(z=(ks,b)/\ks∉zs.map (·.1)))->zs'.length<=zs.length+1->Q r { s with heap:=h' }):wpAny (model prog w) A (setAddHashed a (.ref b) (cN prog w ks)) Q E s:=by
 obtain⟨o,es,ep,t,ho,hex,hd,x⟩:=id hS
 have hsz:=x.size
 have fit:=x.tok.fits
 have hld:=x.load
 have hcl:o.cls≠.type "tuple" := by rw[hex.1];decide
 obtain⟨N,n1,n2,n3⟩:=W5 x.tok.toTb (cN prog w ks)
 have hturn:10 * SetTable.turns t.mask < 100000:=by
  unfold SetTable.turns
  rcases x.tok.mask with e|e|e<;>rw[e]<;>decide
 unfold setAddHashed setAddHashedIn
 refine QI (zd (qE ho hd fit ?_))
 dsimp only
 have hb:byScan (.ref b) es=false:=by unfold byScan;rfl
 rw[hb]
 simp only[zk,ZH]
 unfold setSearch
 refine zd (search hu ho hd x hk n1 n2 n3 (fun hm=>?_) (fun hm=>?_) N 0 100000 none (by omega) (by omega) rfl fun m hm=>absurd hm (JI _))
 ·dsimp only
  exact ze (h _ s.heap zs (Heap.SameBut.refl a s.heap) hS (fun z=>⟨.inl,fun q=>q.elim id fun q=>absurd hm q.2⟩) (kr _))
 ·dsimp only
  refine zd (qE ho hd fit ?_)
  dsimp only
  have hj:=W6 (mask:=t.mask) (cN prog w ks) N
  have hm7:es.size+1<=t.mask:=by rcases x.tok.mask with e|e|e<;>rw[e] at hld ⊢<;>omega
  obtain⟨pt,pl,pp,pm⟩:=aeZ (x:=.ref b) x.tok n1 n2 n3 hj hm7
  generalize hP:t.put (jF t.mask (cN prog w ks) N).j=P at pt pl pp pm ⊢
  obtain⟨t1,p⟩:=P
  dsimp only at pt pl pp pm ⊢
  have hil:(SetTable.insertAt es p (cN prog w ks,.ref b)).toList.Perm (es.toList++[(cN prog w ks,.ref b)]):=by
   rw[Es]
   refine (List.perm_middle).trans ?_
   rw[List.take_append_drop]
   exact (List.perm_append_singleton _ _).symm
  have r0:Paired (TE prog w s.heap) (zs++[(ks,b)]) (es.toList++[(cN prog w ks,.ref b)]):=K3 x.rel (.cons ⟨rfl,hk⟩ .nil)
  obtain⟨zs1,q1,r1⟩:=uN hil r0
  have nd1:(zs1.map (·.1)).Nodup:=(q1.map (·.1)).nodup_iff.mpr (by
   rw[qv]
   exact List.nodup_append.mpr ⟨x.nd,by simp,fun u hu' v hv=>by simp at hv;subst hv;exact fun e=>hm (e▸hu')⟩)
  have m1:∀ z,z∈zs1↔z∈zs\/(z=(ks,b)/\ks∉zs.map (·.1)):=fun z=>by
   rw[q1.mem_iff,JJ,List.mem_singleton]
   exact⟨fun q=>q.imp id fun e=>⟨e,hm⟩,fun q=>q.imp id fun e=>e.1⟩
  have l1:zs1.length=zs.length+1:=by rw[q1.length_eq];simp
  have s1:(SetTable.insertAt es p (cN prog w ks,Value.ref b)).size=es.size+1:=zW _ _ _
  have up:∀ (hp:Heap) (ob:Obj) (e1 e2:Array (Int×Value)) (n1:Nat) (u1 u2:SetTable),hp.get? a=some ob->ob.data=.set e1 n1 u1->(hp.update a (Obj.putSet e2 u2)).get? a=some { ob with data:=.set e2 (n1+1) u2 }:=fun hp ob e1 e2 n1 u1 u2 g q=>by
   have:=kD (Obj.putSet e2 u2) g (by rw[putSet_of e2 u2 q];rfl)
   rw[putSet_of e2 u2 q] at this;exact this
  have kp:∀ {h':Heap},Heap.SameBut a s.heap h'->∀ c oc,s.heap.get? c=some oc->oc.cls=.type "tuple" → h'.get? c=some oc:=fun sb c oc e ec=>by
   rw[sb.2 c fun q=>by subst q;rw[ho] at e;cases e;exact hcl ec];exact e
  have fin:∀ t2:SetTable,Tok t2 (SetTable.insertAt es p (cN prog w ks,.ref b))->t2.led=t1.led->t2.plain=false->t2.mask=t1.mask->wpAny (model prog w) A (do
    storeSet a (SetTable.insertAt es p (cN prog w ks,.ref b)) t2
    if (!false&&t2.tooFull)=true then setRelay a (SetTable.grown (es.size+1))
    pure true) Q E s:=by
   intro t2 k2 l2 p2 m2
   have g1:=up s.heap o es (SetTable.insertAt es p (cN prog w ks,.ref b)) ep t t2 ho hd
   refine zd (Kx ho hd ?_ (fits_of_scanBound (by rw[s1];have:scanBound=4096:=rfl;omega)))
   have sb1:Heap.SameBut a s.heap (s.heap.update a (Obj.putSet (SetTable.insertAt es p (cN prog w ks,.ref b)) t2)):=kn ..
   have hfill:t2.fill=es.size+1:=by unfold SetTable.fill;rw[k2.dum,k2.size,s1];rfl
   have ajo:w.params.followText "set-order" = false->t2.led=true:=fun q=>l2.trans (pl.trans (x.led q))
   by_cases Eu:t2.tooFull=true
   ·rw[Eu]
    simp only[Kb,Bool.and_self,qB]
    have hf:t2.fill * 5>=t2.mask * 3:=by unfold SetTable.tooFull at Eu;simpa using Eu
    rw[hfill,m2,pm] at hf
    have hg:SetTable.grown (es.size+1)=(es.size+1) * 4:=by unfold SetTable.grown;rw[zI (by omega)]
    have cas:(es.size=4/\t.mask=7)\/(es.size=18/\t.mask=31):=by
     rcases x.tok.mask with e|e|e<;>rw[e] at hf hld
     ·exact .inl ⟨by omega,e⟩
     ·exact .inr ⟨by omega,e⟩
     ·omega
    have hsa:(es.size=4->SetTable.sizeAbove (SetTable.grown (es.size+1))=32)/\(es.size=18->SetTable.sizeAbove (SetTable.grown (es.size+1))=128):=by
     rw[hg]
     exact⟨fun e=>by rw[e];decide,fun e=>by rw[e];decide⟩
    have hms:SetTable.sizeAbove (SetTable.grown (es.size+1)) - 1=31/\es.size=4\/SetTable.sizeAbove (SetTable.grown (es.size+1)) - 1=127/\es.size=18:=by
     rcases cas with⟨e,_⟩|⟨e,_⟩
     ·exact .inl ⟨by rw[hsa.1 e],e⟩
     ·exact .inr ⟨by rw[hsa.2 e],e⟩
    obtain⟨t3,order,e3,pr3,k3,l3,p3,m3⟩:=Z4 (t:=t2) (es:=SetTable.insertAt es p (cN prog w ks,.ref b)) (wanted:=SetTable.grown (es.size+1)) (by rcases hms with⟨e,_⟩|⟨e,_⟩<;>rw[e]<;>simp) (by rw[s1];rcases hms with⟨e,e'⟩|⟨e,e'⟩<;>rw[e,e']<;>decide)
    unfold setRelay
    refine zd (zd (qE g1 rfl k2.fits ?_))
    dsimp only
    have hsl:¬ (SetTable.sizeAbove (SetTable.grown (es.size+1)) > sizeLine):=by
     rcases cas with⟨e,_⟩|⟨e,_⟩
     ·rw[hsa.1 e];decide
     ·rw[hsa.2 e];decide
    rw[zI hsl]
    have sz3:(order.filterMap (fun i=>(SetTable.insertAt es p (cN prog w ks,Value.ref b))[i]?)).size=(SetTable.insertAt es p (cN prog w ks,Value.ref b)).size:=by
     rw[<-ZE,pr3.length_eq,ZE]
    rw[e3]
    refine zd ?_
    show wpAny _ _ (if ((order.filterMap (fun i=>(SetTable.insertAt es p (cN prog w ks,Value.ref b))[i]?)).size != (SetTable.insertAt es p (cN prog w ks,Value.ref b)).size)=true then _ else pure (order.filterMap (fun i=>(SetTable.insertAt es p (cN prog w ks,Value.ref b))[i]?),t3)) _ _ _
    rw[zI (by rw[sz3];simp)]
    refine ze ?_
    dsimp only
    refine Kx g1 rfl ?_ (fits_of_scanBound (by rw[sz3,s1];have:scanBound=4096:=rfl;omega))
    have g2:=up _ _ (SetTable.insertAt es p (cN prog w ks,.ref b)) (order.filterMap (fun i=>(SetTable.insertAt es p (cN prog w ks,Value.ref b))[i]?)) _ t2 t3 g1 rfl
    have sb2:Heap.SameBut a s.heap ((s.heap.update a (Obj.putSet (SetTable.insertAt es p (cN prog w ks,.ref b)) t2)).update a (Obj.putSet (order.filterMap (fun i=>(SetTable.insertAt es p (cN prog w ks,Value.ref b))[i]?)) t3)):=sb1.trans (kn ..)
    obtain⟨zs2,q2,r2⟩:=uN pr3 r1
    refine ze (h _ _ zs2 sb2 ⟨_,_,_,t3,g2,hex,rfl,⟨K8 (kp sb2) r2,(q2.map (·.1)).nodup_iff.mpr nd1,k3,?_,fun q=>l3.trans (ajo q),fun _=>p3.trans p2⟩⟩ (fun z=>by rw[q2.mem_iff];exact m1 z) (by rw[q2.length_eq];omega))
    rw[sz3,s1,m3]
    rcases hms with⟨e,e'⟩|⟨e,e'⟩<;>rw[e,e']<;>decide
   ·have Eu:t2.tooFull=false:=by simpa using Eu
    rw[Eu]
    simp only[jv,zk,ZH]
    refine zd (ze ?_)
    refine ze (h _ _ zs1 sb1 ⟨_,_,_,t2,g1,hex,rfl,⟨K8 (kp sb1) r1,nd1,k2,?_,ajo,fun _=>p2⟩⟩ m1 (by omega))
    unfold SetTable.tooFull at Eu
    rw[hfill] at Eu
    rw[s1]
    simpa using Eu
  split
  ·refine zd (ab4 hk hx ?_)
   simp only[zk,ZH]
   exact fin { t1 with plain:=false } (Z5 pt) rfl rfl rfl
  ·rename_i hp
   refine zd (ze ?_)
   simp only[qB]
   exact fin t1 pt rfl (by simpa using hp) rfl
end
end S6
end
section
namespace S1
open PySem PySem.Spec PyProof.Rows L2
section
variable {prog:Program} {w:World} {A:Around} {E:VP_} {s:Shared}
theorem W8 {x:Value} (G:List Value->Prop) (kd:SortKind) (rk:List Value->Value->Nat) {Q:VP_} (aht:∀ (E':VP_) (Q':List Value->Shared->Prop),(∀ vs h' d tk,G vs->s.heap.objs.size<=h'.objs.size->(∀ c o,s.heap.get? c=some o->h'.get? c=some o)->Q' vs { s with heap:=h',drawn:=d,toks:=tk })->wpAny (model prog w) A.in1 (collect x) Q' E' s)
  (hK:∀ vs,G vs->2<=vs.length->∀ (E':VP_) (A':Around) (s':Shared),(∀ c o,s.heap.get? c=some o->s'.heap.get? c=some o)->∀ Q:SortKind->Shared->Prop,Q kd s'->wpAny (model prog w) A' (keyKind' vs.toArray) Q E' s') (hC:∀ vs,G vs->∀ (A':Around) (s':Shared),(∀ c o,s.heap.get? c=some o->s'.heap.get? c=some o)->Cmp prog w A' s' kd (rk vs) (pairsOf vs)) (h64:∀ vs,G vs->vs.length < 64)
  (h:∀ vs,G vs->∀ (l:Addr) (h':Heap) (d:Drawn) (tk n:Nat) (st:SortSt),(arrOf st).Perm (pairsOf vs)->Up (rk vs) (arrOf st) (pairsOf vs).size->s.heap.objs.size<=l->(∀ c o,s.heap.get? c=some o->h'.get? c=some o)->h'.get? l=some (seqObj "list" ((arrOf st).map (·.2)) n)->Q (.ref l) { s with heap:=h',drawn:=d,toks:=tk }) :
  wpAny (model prog w) A (call (.builtin "sorted") [x]) Q E s:=by
 refine Calls.call_function_entry kind_sorted plain_sorted entry_sorted (args_sorted1 _) ?_;unfold Builtin.«sorted»
 refine zd (m:=checkCount "sorted" 1 1 _) (ze (zd (aht _ _ fun vs h1 d tk hG hle ext=>?_)))
 have aqW:=h64 vs hG
 refine zd (wpAny_newList ?_)
 have hoL:(h1.push (seqObj "list" vs.toArray 0)).get? h1.objs.size=some (seqObj "list" vs.toArray 0):=zC _ rfl
 have old:∀ s':Shared,Old h1.objs.size { s with heap:=h1.push (seqObj "list" vs.toArray 0),drawn:=d,toks:=tk } s'->∀ c o,s.heap.get? c=some o->s'.heap.get? c=some o:=fun s' q c o e=>
  q c o (Zl (zD (ext c o e))) (zg _ (ext c o e))
 refine zd (QI (QR slot_list_sort ⟨_,hoL,rfl⟩ entry_list_sort (af2 hoL (fun q s' o=>hK vs hG q _ _ s' (old s' o)) (fun s' o=>hC vs hG _ s' (old s' o)) (h64 vs hG) fun st q1 q2=>⟨_,rfl,ze ⟨_,rfl,?_⟩⟩) (args_list_sort _)))
 obtain⟨n,en⟩:=sortedHeap_at (out:=(arrOf st).map (·.2)) hoL
 refine h vs hG h1.objs.size _ d tk n st q1 q2 hle (fun c o e=>?_) en
 have hb:=zD (ext c o e)
 rw[sortedHeap_old (Zl hb) (by rw[qk];exact qS hb)]
 exact zg _ (ext c o e)
end
end S1
end
section
namespace P1
open PySem PySem.Spec PyProof.Rows L2 S6
def wQ:LS_->LS_
 |[]=>[]
 |y::ys=>if y∈ys then wQ ys else y::wQ ys
theorem zX:∀ {ys:LS_} {z:Str},z∈wQ ys↔z∈ys
 |[],z=>by simp[wQ]
 |y::ys,z=>by
  unfold wQ
  split
  ·rename_i h
   rw[zX,ZY]
   exact⟨.inr,fun q=>q.elim (fun e=>e▸h) id⟩
  ·rw[ZY,zX,ZY]
theorem J9:∀ (ys:LS_),(wQ ys).Nodup
 |[]=>by simp[wQ]
 |y::ys=>by
  unfold wQ
  split
  ·exact J9 ys
  ·rename_i h
   exact List.nodup_cons.mpr ⟨fun q=>h (zX.mp q),J9 ys⟩
theorem K9:∀ (ys:LS_),(wQ ys).length<=ys.length
 |[]=>by simp[wQ]
 |y::ys=>by
  have:=K9 ys
  unfold wQ
  split<;>simp<;>omega
theorem Iz:∀ {vs:List Value} {ys:LS_},StrsAre vs ys->∀ (i:Nat) (v:Value),vs[i]?=some v->∃ y t,ys[i]?=some y/\v=.str y t
 |_,_,.nil,i,v,h=>by simp at h
 |_,_,.cons y t r,0,v,h=>by simp at h;exact⟨y,t,rfl,h.symm⟩
 |_,_,.cons y t r,i+1,v,h=>by
  obtain⟨z,t',e,r'⟩:=Iz r i v (by simpa using h)
  exact⟨z,t',by simpa using e,r'⟩
section
variable {X:Cx}
def hoS (X:Cx) (a:Addr) (zs:LS_):HO:=.ext fun h=>Tx X.prog X.w h a zs
def alA (X:Cx):List V->Hp->VK->Prop:=fun xs H Q=>∃ v b ds ys,xs=[v]/\bF X.K H b v/\vU b=some ds/\yM ds=some ys/\ys.length < 4000/\∀ a zs H',Same H H'->H' a=some (hoS X a zs)->(∀ z,z∈zs↔z∈ys)->zs.Nodup->Q (.ref a) H'
theorem U5 {S:Addr} {ys:LS_} {its:List Value} (hs:StrsAre its ys) (hl:ys.length < 4000):Adds X.prog X.w S [S+1] (fun h zs=>Tx X.prog X.w h S zs) (fun i v=>its.toArray[i]?=some v) (fun i=>ys.getD i "") its.length where
 keep:=fun h h' zs t k=>t.keep fun o e=>k S o (by simp only[ZY,Z3,or_false];exact Zl (qA _)) e
 add:=fun A E s i v zs Q _ hi hP hC hz h=>by
  obtain⟨y,t,ey,rfl⟩:=Iz hs i v (by simpa using hP)
  have hle:i < ys.length:=by
   rcases Nat.lt_or_ge i ys.length with q|q
   ·exact q
   ·rw[qr q] at ey;cases ey
  have hv:ys.getD i "" = y:=by simp[List.getD,ey]
  unfold setAdd
  refine QI (zd ((strKind X.prog X.w).pyHash (strKind_is X.prog X.w y t) ?_))
  have hb:scanBound=4096:=rfl
  refine abT (s:={ s with toks:=s.toks+1 }) hC (by rw[hb];omega) fun b h' zs' sb t' m l=>?_
  exact h b h' _ zs' sb t' (by rw[hv];exact m) (by omega) (kr _)
theorem ahC (hc:X.calm=true) (hu:X.A.units+100 < cLine):gn X (.type "set") (alA X):=by
 intro pins s σ H xs us Q I r h
 obtain⟨v,b,ds,ys,rfl,rb,ed,ey,hl,q⟩:=h
 obtain⟨u,rfl,ru⟩:=vals1 r
 obtain⟨p,vs,rfl,sq,rs⟩:=J6 rb ed
 obtain⟨rfl,hy⟩:=wN rs ey
 cases ru
 have hh:=I.ok.hd hc
 have fin:∀ (h':Heap) (tk:Nat) (zs:LS_) (its:List Value),StrsAre its ys->its.length=ys.length->Tx X.prog X.w h' s.heap.objs.size zs->(∀ z,z∈zs↔∃ j,j < its.length/\z=ys.getD j "")->(∀ b ob,s.heap.get? b=some ob->h'.get? b=some ob)->EP X pins σ Q (.ref s.heap.objs.size) { s with heap:=h',toks:=tk }:=by
  intro h' tk zs its _ hlen tx hm k
  have hfr:=I.hok.fresh (zi s.heap.objs.size)
  refine⟨.ref s.heap.objs.size,_,I.laid (t':=tk) (a:=s.heap.objs.size) (o:=hoS X s.heap.objs.size zs) k (zi _) ?_,rfl,q _ zs _ (bV hfr) bU (fun z=>?_) ?_⟩
  ·obtain⟨o,es,ep,t,ho,_⟩:=id tx
   exact⟨tx,⟨o,ho⟩,fun h1 h2 t1 k1=>Tx.keep t1 k1⟩
  ·rw[hm z]
   constructor
   ·rintro⟨j,hj,rfl⟩
    rw[hlen] at hj
    simp[List.getD,hj]
   ·intro hz
    obtain⟨j,hj,e⟩:=jb hz
    exact⟨j,by rw[hlen];exact hj,by simp[List.getD,hj,e]⟩
  ·obtain⟨o,es,ep,t,ho,_,_,x⟩:=tx
   exact x.nd
 rcases sq with sq|sq
 ·obtain⟨its,r',pl,hz⟩:=I.list sq
  have hs:=tO r'
  have hlen:its.length=ys.length:=by rw[<-r'.length,zh]
  obtain⟨o,g,c,n,d⟩:=pl.isList
  refine RM (by omega) (T := "list") hh g c (.inl rfl) (P:=fun i v=>its.toArray[i]?=some v) (n:=its.length) (fun A' E' Q' h0 hA k0 hq=>?_) (U5 hs hl) (fun h' e k=>?_) fun h' tk zs tx hm k=>fin h' tk zs its hs hlen tx hm k
  ·refine KA (items:=its.toArray) ⟨o,k0 _ _ g,c,n,d⟩ ?_
   have hne:p≠h0.objs.size:=Zl (zD (k0 _ _ g))
   refine hq _ (fun i h=>h.IsListIter h0.objs.size p i/\h.IsList p its.toArray) (fun A' hA=>by have:=Walks.list (prog:=X.prog) (w:=X.w) hA h0.objs.size p hne its.toArray;rw[zr] at this;exact this) ⟨⟨_,zC _ rfl,rfl,rfl⟩,⟨o,zg _ (k0 _ _ g),c,n,d⟩⟩ fun b ob e=>zg _ e
  ·exact⟨_,#[],0,_,e,⟨rfl,rfl,rfl⟩,rfl,.nil,kz,rfl,fun q=>by simp[SetTable.fresh,q],fun q=>absurd q (QY _)⟩
 ·obtain⟨its,r',pl,hz⟩:=I.tuple sq
  have hs:=tO r'
  have hlen:its.length=ys.length:=by rw[<-r'.length,zh]
  obtain⟨o,g,c,n,d⟩:=id pl
  refine RM (by omega) (T := "tuple") hh g c (.inr rfl) (P:=fun i v=>its.toArray[i]?=some v) (n:=its.length) (fun A' E' Q' h0 hA k0 hq=>?_) (U5 hs hl) (fun h' e k=>?_) fun h' tk zs tx hm k=>fin h' tk zs its hs hlen tx hm k
  ·refine wpAny_pyIter_tuple (items:=its.toArray) ⟨o,k0 _ _ g,c,n,d⟩ ?_
   have hne:p≠h0.objs.size:=Zl (zD (k0 _ _ g))
   refine hq _ (fun i h=>h.IsTupleIter h0.objs.size p i/\h.IsTuple p its.toArray) (fun A' hA=>by have:=Walks.tuple (prog:=X.prog) (w:=X.w) hA h0.objs.size p hne its.toArray;rw[zr] at this;exact this) ⟨⟨_,zC _ rfl,rfl,rfl⟩,⟨o,zg _ (k0 _ _ g),c,n,d⟩⟩ fun b ob e=>zg _ e
  ·exact⟨_,#[],0,_,e,⟨rfl,rfl,rfl⟩,rfl,.nil,kz,rfl,fun q=>by simp[SetTable.fresh,q],fun q=>absurd q (QY _)⟩
theorem ahD {pins:List (Addr×Obj)} {σ:L2.St} {H:Hp} {s:Shared} (I:Inv X pins σ H s) {a:Addr} {zs:LS_} (h:H a=some (hoS X a zs)):Tx X.prog X.w s.heap a zs:=(I.hok _ _ h).1
def ajp (X:Cx):List V->Hp->VK->Prop:=fun xs H Q=>∃ a zs,xs=[.ref a]/\H a=some (hoS X a zs)/\zs.length < 4096/\Q (.int zs.length) H
theorem ae5:gn X (.builtin "len") (ajp X):=by
 intro pins s σ H xs us Q I r h
 obtain⟨a,zs,rfl,ha,hl,q⟩:=h
 obtain⟨u,rfl,ru⟩:=vals1 r
 cases ru
 obtain⟨o,es,ep,t,ho,hex,hd,x⟩:=ahD I ha
 have hz:=x.size
 exact call_len_set ho hex hd x.fit (by omega) ⟨.int zs.length,H,I.tok _,⟨s.toks+1,by rw[hz]⟩,q⟩
theorem Z6 {pins:List (Addr×Obj)} {σ:L2.St} {H:Hp} {s:Shared} {d:Drawn} (I:Inv X pins σ H s):Inv X pins σ H { s with drawn:=d }:=⟨I.ok,I.os,I.bare,I.base,I.loc,I.cell,I.free,I.rQ,I.pin,I.hok,I.len⟩
def tS (X:Cx) (f:Ev->Option LS_):TE:=fun σ H Q=>∃ H0 ρ ys,cF X.K H0 H σ ρ/\f ρ=some ys/\ys.length < 4000/\∀ a zs H',Same H H'->H' a=some (hoS X a zs)->(∀ z,z∈zs↔z∈ys)->zs.Nodup->(∀ z∈zs,z.length<=sizeLine)->Q (.ref a) H'
def PVS (X:Cx) (e:Expr) (f:Ev->Option LS_):Prop:=PE X e (tS X f)
def U6 (b:Bx):Option LS_:=(vU b).bind yM
variable {x:Str} {e:Expr} {f:Ev->Option Bx} {fs:Ev->Option LS_} {p pos:Pos}
theorem ae6 (hc:X.calm=true) (hu:X.A.units+100 < cLine) (hg:Gl X "set") (hm:X.mg "set" = none) (ha:PV X e f) (he:starEach (e::[]) X.env=(false,eval e X.env)::starEach [] X.env:=by rfl):PVS X (.Call (.Name "set" p) [e] [] pos) (fun ρ=>(f ρ).bind U6):=by
 refine Io (Gn (T := "set") (ahC hc hu) hg hm rfl (jL ha tK he) (he:=he)) fun σ H Q h=>?_
 obtain⟨H0,ρ,ys,E,ef,hl,q⟩:=h
 obtain⟨b,eb,ef⟩:=bind_some ef
 obtain⟨ds,ed,ey⟩:=bind_some ef
 refine⟨H0,ρ,b,E,eb,fun v H1 s1 n1 r1=>⟨v,b,ds,ys,rfl,r1,ed,ey,hl,fun a zs H2 s2 e2 m nd=>?_⟩⟩
 refine q a zs H2 (s1.trans s2) e2 m nd fun z hz=>?_
 obtain⟨p',vs,rfl,sq,rs⟩:=J6 r1 ed
 exact (wN rs ey).2 z ((m z).mp hz)
theorem ae7 (hg:Gl X "len") (hm:X.mg "len" = none) (ha:PVS X e fs) (he:starEach (e::[]) X.env=(false,eval e X.env)::starEach [] X.env:=by rfl):PV X (.Call (.Name "len" p) [e] [] pos) (fun ρ=>(fs ρ).bind fun ys=>if ys.length < 4000 then some (.z (.int (wQ ys).length)) else none):=by
 refine Io (qW (id := "len") ae5 hg hm rfl (jL ha tK he) (he:=he)) fun σ H Q h=>?_
 obtain⟨H0,ρ,b,E,ef,q⟩:=h
 obtain⟨ys,ey,ef⟩:=bind_some ef
 split at ef
 ·rename_i hl
  cases ef
  refine⟨H0,ρ,ys,E,ey,hl,fun a zs H1 s1 e1 m nd hy=>⟨a,zs,rfl,e1,?_,?_⟩⟩
  ·have:=(uM nd (J9 ys) fun z=>by rw[m z,zX]).length_eq
   have:=K9 ys
   omega
  ·rw[(uM nd (J9 ys) fun z=>by rw[m z,zX]).length_eq]
   exact q _ H1 s1 trivial (by simp only[bF,Rep])
 ·cases ef
end
section
variable {X:Cx}
end
section
variable {X:Cx} {elt tgt iter:Expr} {ifs:List Expr} {scope:Scope} {cl:List (Str×Addr)} {pos:Pos} {xs ts:LS_} {is:List Nat} {gt:Dt->Ev->Option Ev} {p:Ev->Option Bool} {fe:Ev->Option Bx} {fi:Ev->Option (List Dt)}
def AcS (X:Cx) (D:Addr) (_:Hp) (o1:List Dt) (o:HO):Prop:=∃ us,o=hoS X D us/\(∀ z,z∈us↔Dt.str z∈o1)/\us.Nodup/\(∀ z∈us,z.length<=sizeLine)/\us.length<=o1.length
end
section
variable {X:Cx} {elt tgt iter:Expr} {ifs:List Expr} {scope:Scope} {cl:List (Str×Addr)} {pos:Pos} {xs:LS_} {is:List Nat} {gt:Dt->Ev->Option Ev} {p:Ev->Option Bool} {fe:Ev->Option Bx} {fi:Ev->Option (List Dt)}
structure QVS (X:Cx) (e:Expr) (f:Ev->Option LS_):Prop where
 run:PVS X e f
def RQ (f:Ev->Option Bx):Ev->Option LS_:=fun ρ=>(f ρ).bind U6
def Ew (fs:Ev->Option LS_):Ev->Option Bx:=fun ρ=>(fs ρ).bind fun ys=>if ys.length < 4000 then some (.z (.int (wQ ys).length)) else none
variable {e:Expr} {f:Ev->Option Bx} {fs:Ev->Option LS_} {p':Pos}
theorem ae8 (hc:X.calm=true) (hu:X.A.units+100 < cLine) (hg:Gl X "set") (hm:X.mg "set" = none) (ha:QV X e f) (he:starEach (e::[]) X.env=(false,eval e X.env)::starEach [] X.env:=by rfl):QVS X (.Call (.Name "set" p') [e] [] pos) (RQ f):=⟨ae6 hc hu hg hm ha.run he⟩
theorem ae9 (hg:Gl X "len") (hm:X.mg "len" = none) (ha:QVS X e fs) (he:starEach (e::[]) X.env=(false,eval e X.env)::starEach [] X.env:=by rfl):QV X (.Call (.Name "len" p') [e] [] pos) (Ew fs):=⟨ae7 hg hm ha.run he⟩
end
end P1
end
section
namespace P1
open PySem PySem.Spec PyProof.Rows L2 S1 S6
section
variable {X:Cx}
def Ts (prog:Program) (w:World) (h:Heap) (a:Addr) (zs:List (List Key×Addr)):Prop:=∃ o es ep t,h.get? a=some o/\o.ExactSet/\o.data=.set es ep t/\es.toList=zs.map (fun z=>(cN prog w z.1,(.ref z.2:Value)))/\t.fits es.size=true/\(w.params.followText "set-order" = false->t.led=true)/\(0 < es.size->t.plain=false)
theorem U7 {prog:Program} {w:World} {h:Heap}:∀ {zs:List (List Key×Addr)} {l:List (Int×Value)},Paired (TE prog w h) zs l->l=zs.map (fun z=>(cN prog w z.1,(.ref z.2:Value)))
 |_,_,.nil=>rfl
 |_,_,.cons r t=>by rw[zz,<-U7 t,r.1]
theorem Ts.of {prog:Program} {w:World} {h:Heap} {a:Addr} {zs:List (List Key×Addr)} (x:Tu prog w h a zs):Ts prog w h a zs:=
 let ⟨o,es,ep,t,e,r,d,q⟩:=x;⟨o,es,ep,t,e,r,d,U7 q.rel,q.tok.fits,q.led,q.non⟩
theorem Ts.keep {prog:Program} {w:World} {h h':Heap} {a:Addr} {zs:List (List Key×Addr)} (x:Ts prog w h a zs) (k:∀ o,h.get? a=some o->h'.get? a=some o):Ts prog w h' a zs:=
 let ⟨o,es,ep,t,e,r⟩:=x;⟨o,es,ep,t,k o e,r⟩
def hoU (X:Cx) (a:Addr) (zs:List (List Key×Addr)):HO:=.ext fun h=>Ts X.prog X.w h a zs
theorem ab5 (X:Cx) {ks:List Key} {us:List Value} (h:Ks ks us):ItemsAre (dJ X.prog X.w) ks us:=by
 induction h with
 |nil=>exact .nil
 |cons r _ ih=>exact .cons r ih
theorem ab6 (X:Cx) {ks:List Key} {us:List Value} (h:ItemsAre (dJ X.prog X.w) ks us):Ks ks us:=by
 induction h with
 |nil=>exact .nil
 |cons r _ ih=>exact .cons r ih
theorem U8 (X:Cx) {h:Heap} {ks:List Key} {v:Value} (q:mX h ks v):∃ b,v=.ref b/\IsTupleKey (dJ X.prog X.w) h ks b:=by
 obtain⟨a,o,its,n,e,g,c,d,p⟩:=q
 exact⟨a,e,o,its.toArray,n,g,c,d,by simpa using ab5 X p⟩
theorem ab7 (X:Cx) {h:Heap} {ks:List Key} {b:Addr} (q:IsTupleKey (dJ X.prog X.w) h ks b):mX h ks (.ref b):=by
 obtain⟨o,its,n,g,c,d,p⟩:=q
 exact⟨b,o,its.toList,n,rfl,g,c,by simpa using d,ab6 X p⟩
def ajq (X:Cx):List V->Hp->VK->Prop:=fun xs H Q=>∃ v b ds cT,xs=[v]/\bF X.K H b v/\vU b=some ds/\CV ds=some cT/\cT.length<=64/\(∀ k∈cT,Txs k) ∧
 ∀ a zs H',Same H H'->H' a=some (hoU X a zs)->(∀ k,k∈zs.map (·.1)↔k∈cT)->(zs.map (·.1)).Nodup->(∀ z∈zs,Rep X.K H' (tupK z.1) (.ref z.2))->Q (.ref a) H'
def CU (X:Cx) (S:Addr) (its:List Value) (h:Heap) (ys:List (List Key)):Prop:=∃ zs,zs.map (·.1)=ys/\Tu X.prog X.w h S zs/\∀ z∈zs,(.ref z.2:Value)∈its
theorem Ey {h:Heap}:∀ {cT:List (List Key)} {vs:List Value},Paired (mX h) cT vs->∀ {i:Nat} {v:Value},vs[i]?=some v->∃ k,cT[i]?=some k/\mX h k v
 |_,_,.nil,i,v,q=>by simp at q
 |_,_,.cons r _,0,v,q=>by simp at q;subst q;exact⟨_,rfl,r⟩
 |_,_,.cons _ t,i+1,v,q=>by
  rw[qV] at q
  obtain⟨z,z1,z2⟩:=Ey t q
  exact⟨z,by rw[qV];exact z1,z2⟩
theorem U9 {h0:Heap} {S:Addr} {cT:List (List Key)} {its:List Value} (hs:Paired (mX h0) cT its) (hl:cT.length<=64) (hx:∀ k∈cT,Txs k) (hS:h0.objs.size=S):Adds X.prog X.w S [S+1] (fun h zs=>(∀ b o,h0.get? b=some o->h.get? b=some o)/\CU X S its h zs) (fun i v=>its.toArray[i]?=some v) (fun i=>cT.getD i []) its.length where
 keep:=fun h h' ys t k=>by
  obtain⟨t0,zs,e,t,m⟩:=t
  have k':∀ b o,(b=S\/b < S)->h.get? b=some o->h'.get? b=some o:=fun b o hb e=>k b o (by
   simp only[ZY,Z3,or_false]
   rcases hb with rfl|hb
   ·exact Zl (qA _)
   ·exact Zl (qS hb)) e
  have old:∀ b o,h0.get? b=some o->h'.get? b=some o:=fun b o e=>k' b o (.inr (by rw[<-hS];exact zD e)) (t0 b o e)
  refine⟨old,zs,e,?_,m⟩
  obtain⟨o,es,ep,tt,g,r,d,q⟩:=t
  refine⟨o,es,ep,tt,k' S o (.inl rfl) g,r,d,⟨?_,q.nd,q.tok,q.load,q.led,q.non⟩⟩
  have key:∀ {zs:List (List Key×Addr)} {l:List (Int×Value)},Paired (TE X.prog X.w h) zs l->(∀ z∈zs,(.ref z.2:Value)∈its)->Paired (TE X.prog X.w h') zs l:=by
   intro zs l r
   induction r with
   |nil=>intro _;exact .nil
   |cons q _ ih=>
    intro m
    refine .cons ⟨q.1,Yr q.2 fun o e c=>?_⟩ (ih fun z hz=>m z (zl _ hz))
    obtain⟨i,hi,ei⟩:=jb (m _ (zt ..))
    obtain⟨kk,_,tv⟩:=Ey hs (show its[i]?=some _ by rw[Zs hi,ei])
    obtain⟨b,eb,⟨ob,_,_,gb,_⟩⟩:=U8 X tv
    cases eb
    exact k' _ o (.inr (by rw[<-hS];exact zD gb)) e
  exact key q.rel m
 add:=fun A E s i v ys Q hu hi hP hC hz h=>by
  obtain⟨t0,zs,e,t,m⟩:=hC
  have hP:its[i]?=some v:=by simpa using hP
  obtain⟨ks,e1,tv⟩:=Ey hs hP
  have tv':=tv.keep t0
  obtain⟨b,rfl,hk⟩:=U8 X tv'
  have hv:cT.getD i []=ks:=by simp[List.getD,e1]
  have hlen:its.length=cT.length:=hs.length.symm
  have hyl:zs.length=ys.length:=by rw[<-e,zh]
  unfold setAdd
  refine QI (zd (wpAny_pyHash_tuple hu hk ?_))
  refine ae4 (s:={ s with toks:=s.toks+(ks.length+1) }) hu t hk (hx ks (QP e1)) (by omega) fun r h' zs' sb t' mm l=>?_
  refine h r h' _ (zs'.map (·.1)) sb ⟨fun c o g=>?_,zs',rfl,t',fun z hz=>?_⟩ (fun z=>?_) (by rw[zh];omega) (Nat.le_add_right _ _)
  ·rw[sb.2 c fun q=>by subst q;have:=zD g;rw[hS] at this;exact QY _ this];exact t0 c o g
  ·rcases (mm z).mp hz with q|⟨q,_⟩
   ·exact m z q
   ·subst q;exact QP hP
  ·rw[hv,<-e,List.mem_map,List.mem_map]
   constructor
   ·rintro⟨y,hy,rfl⟩
    rcases (mm y).mp hy with q|⟨q,_⟩
    ·exact .inl ⟨y,q,rfl⟩
    ·exact .inr (congrArg Prod.fst q)
   ·rintro (⟨y,hy,ey⟩|ez)
    ·exact⟨y,(mm y).mpr (.inl hy),ey⟩
    ·rw[ez]
     by_cases q:ks∈zs.map (·.1)
     ·obtain⟨y,hy,ey⟩:=List.mem_map.mp q
      exact⟨y,(mm y).mpr (.inl hy),ey⟩
     ·exact⟨(ks,b),(mm _).mpr (.inr ⟨rfl,q⟩),rfl⟩
theorem afa (hc:X.calm=true) (hu:X.A.units+100 < cLine):gn X (.type "set") (ajq X):=by
 intro pins s σ H xs us Q I r h
 obtain⟨v,b,ds,cT,rfl,rb,ed,ek,hl,hx,q⟩:=h
 obtain⟨u,rfl,ru⟩:=vals1 r
 obtain⟨p,vs,rfl,sq,rs⟩:=J6 rb ed
 have eds:=GJ ek
 subst eds
 cases ru
 have hh:=I.ok.hd hc
 have fin:∀ (h':Heap) (tk:Nat) (ys:List (List Key)) (its:List Value),Vals vs its->((∀ b o,s.heap.get? b=some o->h'.get? b=some o)/\CU X s.heap.objs.size its h' ys)->(∀ z,z∈ys↔∃ j,j < its.length/\z=cT.getD j [])->(∀ b ob,s.heap.get? b=some ob->h'.get? b=some ob)->EP X pins σ Q (.ref s.heap.objs.size) { s with heap:=h',toks:=tk }:=by
  intro h' tk ys its rv cu hm k
  obtain⟨_,zs,e,t,m⟩:=cu
  have hfr:=I.hok.fresh (zi s.heap.objs.size)
  have hlen:its.length=cT.length:=by rw[<-rv.length,rs.length,zh]
  have tv:=uL I rs rv
  refine⟨.ref s.heap.objs.size,_,I.laid (t':=tk) (a:=s.heap.objs.size) (o:=hoU X s.heap.objs.size zs) k (zi _) ?_,rfl,q _ zs _ (bV hfr) bU (fun z=>?_) ?_ fun z hz=>?_⟩
  ·obtain⟨o,es,ep,t',ho,_⟩:=id t
   exact⟨Ts.of t,⟨o,ho⟩,fun h1 h2 t1 k1=>Ts.keep t1 k1⟩
  ·rw[e,hm z]
   constructor
   ·rintro⟨j,hj,rfl⟩
    rw[hlen] at hj
    simp[List.getD,hj]
   ·intro hz
    obtain⟨j,hj,e⟩:=jb hz
    exact⟨j,by rw[hlen];exact hj,by simp[List.getD,hj,e]⟩
  ·obtain⟨o,es,ep,t',ho,_,_,x⟩:=t
   exact x.nd
  ·obtain⟨o,es,ep,t',ho,_,_,x⟩:=t
   obtain⟨i,hi,ei⟩:=jb hz
   obtain⟨ee,_,te⟩:=Et x.rel (show zs[i]?=some z by rw[Zs hi,ei])
   have tz:=ab7 X te.2
   have hz':=m z hz
   obtain⟨j,hj,ej⟩:=jb hz'
   obtain⟨kk,_,tv1⟩:=Ey tv (show its[j]?=some (.ref z.2) by rw[Zs hj,ej])
   have ek:kk=z.1:=(tv1.keep k).inj tz
   obtain⟨w1,r1,r2⟩:=GK I rs rv (lss:=[kk]) (out:=[.ref z.2]) (.cons tv1 .nil) (fun u hu=>by cases List.mem_singleton.mp hu;exact hz')
   cases r1 with
   |@cons w0 _ _ _ r0 r1=>
    cases r1
    simp only[zz,JE,aR] at r2
    obtain⟨v0,r',ev,q0,_⟩:=r2
    simp only[j0] at ev
    rw[<-ev.1] at q0
    have hw:w0=V.ref z.2:=by
     have q1:=q0
     simp only[tupK,Rep] at q1
     obtain⟨a0,ws,e0,_⟩:=q1
     subst e0
     cases r0;rfl
    rw[<-ek,<-hw]
    exact q0.kp (.of (bV hfr))
 have ab8:∀ h':Heap,h'.get? s.heap.objs.size=some (blank X.w)->∀ its:List Value,CU X s.heap.objs.size its h' []:=fun h' e its=>
  ⟨[],rfl,⟨_,#[],0,_,e,⟨rfl,rfl,rfl⟩,rfl,⟨.nil,kz,{ mask:=.inl rfl,dum:=rfl,rise:=fun i j _ hj=>absurd hj (JI _),bd:=fun j hj=>by simp[SetTable.fresh] at hj,full:=QO _,size:=rfl,reach:=fun i j e h1=>by simp[SetTable.fresh] at h1 },(show 0 * 5 < 7 * 3 by decide),fun q=>by simp[SetTable.fresh,q],fun q=>absurd q (QY _)⟩⟩,fun z hz=>by cases hz⟩
 rcases sq with sq|sq
 ·obtain⟨its,r',pl,hz⟩:=I.list sq
  obtain⟨o,g,c,n,d⟩:=pl.isList
  refine RM (by omega) (T := "list") hh g c (.inl rfl) (P:=fun i v=>its.toArray[i]?=some v) (n:=its.length) (fun A' E' Q' h0 hA k0 hq=>?_) (U9 (uL I rs r') hl hx rfl) (fun h' e k=>⟨k,ab8 h' e its⟩) fun h' tk zs tx hm k=>fin h' tk zs its r' tx hm k
  refine KA (items:=its.toArray) ⟨o,k0 _ _ g,c,n,d⟩ ?_
  have hne:p≠h0.objs.size:=Zl (zD (k0 _ _ g))
  refine hq _ (fun i h=>h.IsListIter h0.objs.size p i/\h.IsList p its.toArray) (fun A' hA=>by have:=Walks.list (prog:=X.prog) (w:=X.w) hA h0.objs.size p hne its.toArray;rw[zr] at this;exact this) ⟨⟨_,zC _ rfl,rfl,rfl⟩,⟨o,zg _ (k0 _ _ g),c,n,d⟩⟩ fun b ob e=>zg _ e
 ·obtain⟨its,r',pl,hz⟩:=I.tuple sq
  obtain⟨o,g,c,n,d⟩:=id pl
  refine RM (by omega) (T := "tuple") hh g c (.inr rfl) (P:=fun i v=>its.toArray[i]?=some v) (n:=its.length) (fun A' E' Q' h0 hA k0 hq=>?_) (U9 (uL I rs r') hl hx rfl) (fun h' e k=>⟨k,ab8 h' e its⟩) fun h' tk zs tx hm k=>fin h' tk zs its r' tx hm k
  refine wpAny_pyIter_tuple (items:=its.toArray) ⟨o,k0 _ _ g,c,n,d⟩ ?_
  have hne:p≠h0.objs.size:=Zl (zD (k0 _ _ g))
  refine hq _ (fun i h=>h.IsTupleIter h0.objs.size p i/\h.IsTuple p its.toArray) (fun A' hA=>by have:=Walks.tuple (prog:=X.prog) (w:=X.w) hA h0.objs.size p hne its.toArray;rw[zr] at this;exact this) ⟨⟨_,zC _ rfl,rfl,rfl⟩,⟨o,zg _ (k0 _ _ g),c,n,d⟩⟩ fun b ob e=>zg _ e
theorem ab9 {pins:List (Addr×Obj)} {σ:L2.St} {H:Hp} {s:Shared} (I:Inv X pins σ H s) {a:Addr} {zs:List (List Key×Addr)} (h:H a=some (hoU X a zs)):Ts X.prog X.w s.heap a zs:=(I.hok _ _ h).1
def ajr (X:Cx):List V->Hp->VK->Prop:=fun xs H Q=>∃ a zs,xs=[.ref a]/\H a=some (hoU X a zs)/\zs.length < 4096/\Q (.int zs.length) H
theorem afb:gn X (.builtin "len") (ajr X):=by
 intro pins s σ H xs us Q I r h
 obtain⟨a,zs,rfl,ha,hl,q⟩:=h
 obtain⟨u,rfl,ru⟩:=vals1 r
 cases ru
 obtain⟨o,es,ep,t,ho,hex,hd,hl',ft,_⟩:=ab9 I ha
 have hz:es.size=zs.length:=by rw[<-ZE,hl',zh]
 exact call_len_set ho hex hd ft (by omega) ⟨.int zs.length,H,I.tok _,⟨s.toks+1,by rw[hz]⟩,q⟩
def ajs (X:Cx):List V->Hp->VK->Prop:=fun xs H Q=>∃ a zs,xs=[.ref a]/\H a=some (hoU X a zs)/\Od (zs.map (·.1))=true/\(∀ z∈zs,Rep X.K H (tupK z.1) (.ref z.2))/\∀ l H' us,Same H H'->H l=none->H' l=some (.lst us)->aR X.K H' ((qp (zs.map (·.1))).map tupK) us->Q (.ref l) H'
theorem afc (hc:X.calm=true):gn X (.builtin "sorted") (ajs X):=by
 intro pins s σ H xs us Q I r h
 obtain⟨a,zs,rfl,ha,hs,hrep,q⟩:=h
 obtain⟨u,rfl,ru⟩:=vals1 r
 cases ru
 simp only[Od,zv,zS,QU,Q3] at hs
 obtain⟨h64,hne,hsh⟩:=hs
 rw[zh] at h64
 obtain⟨o,es,ep,t,ho,hex,hd,hl',ft,Z0,ajt⟩:=ab9 I ha
 have hz:es.size=zs.length:=by rw[<-ZE,hl',zh]
 have wk:Wk X.w s.heap a es ep t:=⟨⟨o,ho,hex.1,hd⟩,ft,Z0,fun q=>ajt (by omega)⟩
 have rs0:aR X.K H ((zs.map (·.1)).map tupK) (zs.map fun z=>(V.ref z.2))/\Vals (zs.map fun z=>(V.ref z.2)) (zs.map fun z=>(.ref z.2:Value)):=by
  clear hl' ha q h64 hne hsh hz wk ajt
  induction zs with
  |nil=>exact⟨aR.nil,.nil⟩
  |cons z zs ih=>
   obtain⟨i1,i2⟩:=ih fun y hy=>hrep y (zl _ hy)
   exact⟨aR.cons (hrep z (zt ..)) i1,.cons rfl i2⟩
 have tv0:=uL I rs0.1 rs0.2
 have tz:∀ z∈zs,mX s.heap z.1 (.ref z.2):=fun z hz'=>by
  have:=uL I (cT:=[z.1]) (vs:=[V.ref z.2]) (its:=[.ref z.2]) (aR.cons (hrep z hz') aR.nil) (.cons rfl .nil)
  cases this with
  |cons q' _=>exact q'
 refine W8 (fun vs=>∃ ys:List (List Key×Addr),ys.Perm zs/\vs=ys.map fun z=>(.ref z.2:Value)) (tuples' true) (fun vs v=>rank (vs.map fun u=>keyOf (zs.map (·.1)) (zs.map fun z=>(.ref z.2:Value)) u) (keyOf (vs.map fun u=>keyOf (zs.map (·.1)) (zs.map fun z=>(.ref z.2:Value)) u) vs v))
  (fun E' Q' hq=>UL (by exact I.ok.hd hc) wk (by rw[hz,sizeLine_eq];omega) fun ord h1 d tk hp hle ext=>hq ord h1 d tk ?_ hle ext) ?_ ?_ ?_ ?_
 ·rw[hl',qh] at hp
  have:∀ {ord vs:List Value},ord.Perm vs->∀ zs:List (List Key×Addr),vs=zs.map (fun z=>(.ref z.2:Value))->∃ ys:List (List Key×Addr),ys.Perm zs/\ord=ys.map fun z=>(.ref z.2:Value):=by
   intro ord vs hp
   induction hp with
   |nil=>intro zs e;cases zs with|nil=>exact⟨[],.refl _,rfl⟩|cons _ _=>cases e
   |cons y _ ih=>
    intro zs e
    cases zs with
    |nil=>cases e
    |cons z zs=>
     rw[zz] at e
     injection e with e1 e2
     obtain⟨ys,p1,p2⟩:=ih zs e2
     exact⟨z::ys,p1.cons _,by rw[zz,e1,p2]⟩
   |swap y1 y2 l=>
    intro zs e
    match zs,e with
    |z1::z2::zs,e=>
     simp only[zz,j0] at e
     exact⟨z2::z1::zs,List.Perm.swap _ _ _,by simp only[zz];rw[e.1,e.2.1,e.2.2]⟩
    |[_],e=>simp at e
    |[],e=>cases e
   |trans _ _ ih1 ih2=>
    intro zs e
    obtain⟨ys,p1,p2⟩:=ih2 zs e
    obtain⟨us,q1,q2⟩:=ih1 ys p2
    exact⟨us,q1.trans p1,q2⟩
  exact this hp zs rfl
 all_goals
  intro vs hG
  obtain⟨ys,py,rfl⟩:=hG
  have hm:∀ v∈(ys.map fun z=>(.ref z.2:Value)),v∈(zs.map fun z=>(.ref z.2:Value)):=fun v hv=>((py.map _).mem_iff).mp hv
  have tvK:∀ v∈(ys.map fun z=>(.ref z.2:Value)),mX s.heap (keyOf (zs.map (·.1)) (zs.map fun z=>(.ref z.2:Value)) v) v:=fun v hv=>(qt tv0 v (hm v hv)).2
  have tv:=CT tvK
  have eks:(ys.map fun z=>(.ref z.2:Value)).map (fun u=>keyOf (zs.map (·.1)) (zs.map fun z=>(.ref z.2:Value)) u)=ys.map (·.1):=by
   rw[qh]
   refine ZO fun z hz=>?_
   have hz':=py.mem_iff.mp hz
   exact (tvK (.ref z.2) (List.mem_map.mpr ⟨z,hz,rfl⟩)).inj (tz z hz')
  have mk:∀ k∈(ys.map fun z=>(.ref z.2:Value)).map (fun u=>keyOf (zs.map (·.1)) (zs.map fun z=>(.ref z.2:Value)) u),k∈zs.map (·.1):=fun k hk=>by
   rw[eks] at hk;exact ((py.map _).mem_iff).mp hk
 ·intro h2 E' A' s' k Q' hq
  exact Qa (Paired.imp' (fun _ _ z=>mX.keep z k) tv) (fun k hk=>by have:=hne k (mk k hk);cases k with|nil=>cases this|cons _ _=>exact List.cons_ne_nil _ _) (fun k hk l hl=>GP (hsh k (mk k hk) l (mk l hl))) (by omega) hq
 ·intro A' s' k
  exact Uv (Paired.imp' (fun _ _ z=>mX.keep z k) tv) fun k hk l hl=>GP (hsh k (mk k hk) l (mk l hl))
 ·rw[zh,py.length_eq];exact h64
 ·intro l h' d tk n st hp up hl ext hL
  have out:=Uw tv hp up
  have mem:∀ u∈((arrOf st).map (·.2)).toList,u∈(ys.map fun z=>(.ref z.2:Value)):=fun u hu=>by
   rw[Array.toList_map] at hu
   obtain⟨pr,hpr,rfl⟩:=List.mem_map.mp hu
   have ahx:pr∈(ys.map fun z=>(.ref z.2:Value)).zip (ys.map fun z=>(.ref z.2:Value)):=by rw[<-pairsOf_toList];exact (Array.perm_iff_toList_perm.mp hp).mem_iff.mp hpr
   have:=mem_zip_self ahx
   rw[<-this.1];exact this.2
  have hH:H l=none:=I.hok.fresh hl
  have back:∀ {lss:List (List Key)} {out:List Value},Paired (mX s.heap) lss out->(∀ u∈out,u∈(ys.map fun z=>(.ref z.2:Value)))->∃ ws,Vals ws out/\aR X.K H (lss.map tupK) ws:=by
   intro lss out pr
   induction pr with
   |nil=>intro _;exact⟨[],.nil,aR.nil⟩
   |cons q0 _ ih=>
    intro hm'
    obtain⟨ws,w1,w2⟩:=ih fun u hu=>hm' u (zl _ hu)
    obtain⟨z,hz,ez⟩:=List.mem_map.mp (hm' _ (zt ..))
    subst ez
    have hz':=py.mem_iff.mp hz
    have ek:=q0.inj (tz z hz')
    refine⟨.ref z.2::ws,.cons rfl w1,?_⟩
    rw[zz,ek]
    exact aR.cons (hrep z hz') w2
  obtain⟨ws,w1,w2⟩:=back out mem
  rw[eks] at w2
  have es:qp (ys.map (·.1))=qp (zs.map (·.1)):=Bl ((qZ _).trans (py.map _)) (zU _)
  rw[es] at w2
  have hzl:ws.length=zs.length:=by rw[w2.length,zh,(qZ _).length_eq,zh]
  refine⟨.ref l,_,Z6 (d:=d) (I.laid (t':=tk) (a:=l) (o:=.lst ws) ext hl ⟨by rw[hzl,sizeLine_eq];omega,_,n,w1,?_⟩),rfl,q _ _ ws (bV hH) hH bU (w2.kp (.of (bV hH)))⟩
  rw[hL]
end
def Dy {α:Type} [DecidableEq α]:List α->List α
 |[]=>[]
 |y::ys=>if y∈ys then Dy ys else y::Dy ys
section
variable {α:Type} [DecidableEq α]
theorem rW:∀ {ys:List α} {z:α},z∈Dy ys↔z∈ys
 |[],z=>by simp[Dy]
 |y::ys,z=>by
  unfold Dy
  split
  ·rename_i h
   rw[rW,ZY]
   exact⟨.inr,fun q=>q.elim (fun e=>e▸h) id⟩
  ·rw[ZY,ZY,rW]
theorem GZ:∀ (ys:List α),(Dy ys).Nodup
 |[]=>kz
 |y::ys=>by
  unfold Dy
  split
  ·exact GZ ys
  ·rename_i h
   exact List.nodup_cons.mpr ⟨fun q=>h (rW.mp q),GZ ys⟩
theorem Bp:∀ (ys:List α),(Dy ys).length<=ys.length
 |[]=>zi _
 |y::ys=>by
  have:=Bp ys
  unfold Dy
  split<;>simp<;>omega
theorem Ka {β:Type} [DecidableEq β] {f:α->β} (hi:∀ a b,f a=f b->a=b):∀ (ys:List α),Dy (ys.map f)=(Dy ys).map f
 |[]=>rfl
 |y::ys=>by
  have hm:f y∈ys.map f↔y∈ys:=⟨fun q=>by obtain⟨z,hz,e⟩:=List.mem_map.mp q;rw[<-hi _ _ e];exact hz,fun q=>List.mem_map.mpr ⟨y,q,rfl⟩⟩
  rw[zz]
  unfold Dy
  by_cases q:y∈ys
  ·rw[zo q,zo (hm.mpr q),Ka hi ys]
  ·rw[zI q,zI fun h=>q (hm.mp h),zz,Ka hi ys]
end
section
variable {X:Cx}
def Va (ks:List Key):Bool:=ks.any fun k=>k.isRight
theorem ahE {ks:List Key} (h:Va ks=true):Txs ks:=by
 unfold Va at h
 rw[List.any_eq_true] at h
 obtain⟨k,hk,e⟩:=h
 cases k with
 |inl i=>cases e
 |inr x=>exact⟨x,hk⟩
def tU (X:Cx) (f:Ev->Option (List (List Key))):L2.TE:=fun σ H Q=>∃ H0 ρ cT,cF X.K H0 H σ ρ/\f ρ=some cT/\∀ a zs H',Same H H'->H' a=some (hoU X a zs)->(∀ k,k∈zs.map (·.1)↔k∈cT)->(zs.map (·.1)).Nodup->(∀ z∈zs,Rep X.K H' (tupK z.1) (.ref z.2))->Q (.ref a) H'
def PVU (X:Cx) (e:Expr) (f:Ev->Option (List (List Key))):Prop:=PE X e (tU X f)
structure QVU (X:Cx) (e:Expr) (f:Ev->Option (List (List Key))):Prop where
 run:PVU X e f
def af3 (b:Bx):Option (List (List Key)):=(vU b).bind fun ds=>(CV ds).bind fun cT=>if cT.length<=64/\cT.all Va=true then some cT else none
def RT (f:Ev->Option Bx):Ev->Option (List (List Key)):=fun ρ=>(f ρ).bind af3
def Vb (fs:Ev->Option (List (List Key))):Ev->Option Bx:=fun ρ=>(fs ρ).bind fun cT=>if cT.length<=64 then some (.z (.int (Dy cT).length)) else none
def La (fs:Ev->Option (List (List Key))):Ev->Option Bx:=fun ρ=>(fs ρ).bind fun cT=>if Od cT=true then some (.o ((qp (Dy cT)).map tupK)) else none
variable {e:Expr} {f:Ev->Option Bx} {fs:Ev->Option (List (List Key))} {p pos:Pos}
theorem RV (hc:X.calm=true) (hu:X.A.units+100 < cLine) (hg:Gl X "set") (hm:X.mg "set" = none) (ha:QV X e f) (he:starEach (e::[]) X.env=(false,eval e X.env)::starEach [] X.env:=by rfl):QVU X (.Call (.Name "set" p) [e] [] pos) (RT f):=by
 refine⟨Io (Gn (T := "set") (afa hc hu) hg hm rfl (jL ha.run tK he) (he:=he)) fun σ H Q h=>?_⟩
 obtain⟨H0,ρ,cT,E,ef,q⟩:=h
 obtain⟨b,eb,ef⟩:=bind_some ef
 obtain⟨ds,ed,ef⟩:=bind_some ef
 obtain⟨ks',ek,ef⟩:=bind_some ef
 split at ef
 ·rename_i hl
  cases ef
  rw[QU] at hl
  exact⟨H0,ρ,b,E,eb,fun v H1 s1 n1 r1=>⟨v,b,ds,cT,rfl,r1,ed,ek,hl.1,fun k hk=>ahE (hl.2 k hk),fun a zs H2 s2 e2 m nd hz=>q a zs H2 (s1.trans s2) e2 m nd hz⟩⟩
 ·cases ef
theorem afd (hg:Gl X "len") (hm:X.mg "len" = none) (ha:QVU X e fs) (he:starEach (e::[]) X.env=(false,eval e X.env)::starEach [] X.env:=by rfl):QV X (.Call (.Name "len" p) [e] [] pos) (Vb fs):=by
 refine⟨Io (qW (id := "len") afb hg hm rfl (jL ha.run tK he) (he:=he)) fun σ H Q h=>?_⟩
 obtain⟨H0,ρ,b,E,ef,q⟩:=h
 obtain⟨cT,ey,ef⟩:=bind_some ef
 split at ef
 ·rename_i hl
  cases ef
  refine⟨H0,ρ,cT,E,ey,fun a zs H1 s1 e1 m nd hy=>⟨a,zs,rfl,e1,?_,?_⟩⟩
  ·have:=(uM nd (GZ cT) fun z=>by rw[m z,rW]).length_eq
   have:=Bp cT
   rw[zh] at *
   omega
  ·have e2:=(uM nd (GZ cT) fun z=>by rw[m z,rW]).length_eq
   rw[zh] at e2
   rw[e2]
   exact q _ H1 s1 trivial (by simp only[bF,Rep])
 ·cases ef
theorem acd {cT lss:List (List Key)} (h:Od cT=true) (hl:lss.length<=cT.length) (hm:∀ k∈lss,k∈cT):Od lss=true:=by
 simp only[Od,zv,zS,QU,Q3] at h ⊢
 exact⟨by omega,fun k hk=>h.2.1 k (hm k hk),fun k hk l hl'=>h.2.2 k (hm k hk) l (hm l hl')⟩
theorem Ys (hc:X.calm=true) (hg:Gl X "sorted") (hm:X.mg "sorted" = none) (ha:QVU X e fs) (he:starEach (e::[]) X.env=(false,eval e X.env)::starEach [] X.env:=by rfl):QV X (.Call (.Name "sorted" p) [e] [] pos) (La fs):=by
 refine⟨Io (qW (id := "sorted") (afc hc) hg hm rfl (jL ha.run tK he) (he:=he)) fun σ H Q h=>?_⟩
 obtain⟨H0,ρ,b,E,ef,q⟩:=h
 obtain⟨cT,ey,ef⟩:=bind_some ef
 split at ef
 ·rename_i hl
  cases ef
  refine⟨H0,ρ,cT,E,ey,fun a zs H1 s1 e1 m nd hy=>⟨a,zs,rfl,e1,?_,hy,fun l H2 us s2 hfr e2 rp=>?_⟩⟩
  ·have e3:=(uM nd (GZ cT) fun z=>by rw[m z,rW]).length_eq
   have:=Bp cT
   exact acd hl (by omega) fun k hk=>(m k).mp hk
  ·have pm:=uM nd (GZ cT) fun z=>by rw[m z,rW]
   have es:qp (zs.map (·.1))=qp (Dy cT):=Bl ((qZ _).trans pm) (zU _)
   rw[es] at rp
   exact q _ H2 (s1.trans s2) (fun a ea=>by cases ea;exact s1.free hfr) ⟨l,us,rfl,e2,rp⟩
 ·cases ef
end
end P1
end
section
namespace P1
open PySem PySem.Spec PyProof.Rows L2
def alD (kvs:List (Key×Dt)):Dt->List (Key×Dt)
 |.tup [.str k,d]=>ahs kvs (.inr k) d
 |_=>kvs
def dictOf (out:List Dt):List (Key×Dt):=out.foldl alD []
section
variable {X:Cx} {pins:List (Addr×Obj)} {σ:L2.St} {H:Hp} {s:Shared} {a:Addr} {A:Around} {E:VP_}
end
section
variable {X:Cx} {kx vx tgt iter:Expr} {ifs:List Expr} {scope:Scope} {cl:List (Str×Addr)} {pos:Pos} {xs ts:LS_} {is:List Nat} {gt:Dt->Ev->Option Ev} {p:Ev->Option Bool} {fk fv:Ev->Option Bx} {fi:Ev->Option (List Dt)}
def AcD (K:FG_) (_:Addr) (H:Hp) (o1:List Dt) (o:HO):Prop:=∃ us,o=.dK us/\mV K H (dictOf o1) us/\us.length<=o1.length
theorem AcD.kp {K:FG_} {D:Addr} {H H':Hp} {o1:List Dt} {o:HO} (k:Kp H H'):AcD K D H o1 o->AcD K D H' o1 o:=fun ⟨us,e,r,z⟩=>⟨us,e,r.kp k,z⟩
end
section
variable {X:Cx} {pins:List (Addr×Obj)} {σ:L2.St} {H:Hp} {s:Shared} {a:Addr} {ks:List (Key×V)} {o:Obj}
end
section
variable {X:Cx} {e elt tgt iter:Expr} {ifs:List Expr} {fd:Ev->Option Bx} {scope:Scope} {cl:List (Str×Addr)} {pos:Pos} {xs ts:LS_} {is:List Nat} {gt:Dt->Ev->Option Ev} {p:Ev->Option Bool} {fe:Ev->Option Bx}
end
section
variable {prog:Program} {w:World} {A:Around} {E:VP_} {s:Shared}
def two (a b:Str) (i:Nat):Str:=if i=0 then a else b
end
section
variable {X:Cx}
end
section
variable {X:Cx} {e:Expr} {es:List Expr} {fs:Ev->Option (List Bx)} {p px pos spos:Pos} {x y:Str} {k n:Nat} {f:Addr} {fd:FuncData} {ps:LS_} {G:Addr->List (Key×Dt)->List Bx->Option (List (Key×Dt))}
end
section
variable {X:Cx} {pins:List (Addr×Obj)} {σ:L2.St} {H:Hp} {s:Shared}
end
section
variable {X:Cx} {g:Ev->Option Out} {st:List Stmt} {i:Nat}
end
open AutoSeq1 (wpAny_loadPart')
open SeqAt
section
variable {X:Cx} {pins:List (Addr×Obj)} {σ:L2.St} {H:Hp} {s:Shared}
theorem ajv (I:L2.Inv X pins σ H s) {a:Addr} {xs:List V} (h:BL X.K H a xs):∃ its:List Value,Vals xs its/\qe s.heap a its.toArray:=by
 rcases h with h|⟨o,its,n,hk,hc,hs,hz,r⟩
 ·obtain⟨z,its,r,p⟩:=h.ok I.hok
  exact⟨its,r,p⟩
 ·exact⟨its.toList,r,o,I.kIn a o hk,hc.1,⟨n,by simpa using hs⟩,hc.2⟩
end
section
variable {X:Cx} {o e:Expr} {fo fx:Ev->Option Bx}
end
section
variable {X:Cx} {c:Expr} {body:List Stmt} {t:Ev->Option Bool} {g:Ev->Option Out} {pos:Pos}
end
section
variable {X:Cx} {pins:List (Addr×Obj)} {σ:L2.St} {H:Hp} {s:Shared} {h':Heap}
end
section
variable {X:Cx} {elts:List Expr} {x1:Nat} {tpos p pos:Pos} {e:Expr} {fs:Ev->Option (List Bx)}
end
section
variable {X:Cx} {e:Expr} {f:Ev->Option Bx} {pos:Pos}
end
section
variable {X:Cx}
end
section
variable {X:Cx} {e:Expr} {f:Ev->Option Bx} {pos:Pos}
end
section
variable {X:Cx} {e ek ev:Expr} {f fk fv:Ev->Option Bx} {pos:Pos} {st:Stmt}
end
section
variable {X:Cx} {e st:Expr} {f fs:Ev->Option Bx} {pos p2:Pos}
end
section
variable {prog:Program} {w:World} {A:Around} {E:VP_} {s:Shared}
theorem ad {a b:Nat} (h:a≠b):@Ne Addr a b:=h
end
section
variable {prog:Program} {w:World} {A:Around} {E:VP_} {s:Shared} {K:Type} [DecidableEq K] {knd:KeyKind prog w K}
end
section
variable {X:Cx} {ea eb:Expr} {fa fb:Ev->Option Bx} {p1 p2 pos1 pos2:Pos}
end
section
variable {X:Cx}
end
theorem tW {X:Cx} {scope:Scope} {cl:List (Str×Addr)} (xs:LS_) (is:List Nat) (clos:closureFor scope X.env=pure cl:=by with_unfolding_all rfl) (kind:scope.kind=.function:=by rfl) (cell:scope.names.all (fun y=>decide (y.2≠.cell)||(cl.lookup y.1).isNone)=true:=by rfl)
  (names:scope.names.all (fun y=>decide (y.2=.local->scope.names.lookup y.1=some .local))=true:=by decide +kernel) (sub:SubL X.env.cells cl:=by repeat (first|exact trivial|refine⟨rfl,?_⟩))
  (has:(relabel scope X.env).names.all (fun y=>!(y.2==.cell||y.2==.free)||(cl.lookup y.1).isSome||scope.names.contains (y.1,.cell))=true:=by rfl) (cap:Ob X scope cl xs is:=by repeat (first|exact ahp|refine aeI rfl (by first|exact .inl rfl|exact .inr rfl) (by first|exact .inl rfl|exact .inr rfl) ⟨_,rfl⟩ ?_)):Cz X scope cl xs is:=ahq clos kind cell names sub has cap
theorem pZ {N ps:LS_} {sc:Scope} (h1:sc.kind=.function:=by rfl) (h2:sc.isCoroutine=false:=by rfl) (h3:sc.isGenerator=false:=by rfl) (h4:N.Nodup:=by decide +kernel) (h5:N.take ps.length=ps:=by rfl) (h6:∀ x∈ps,sc.names.lookup x=some .local\/sc.names.lookup x=some .cell:=by decide +kernel) (h7:∀ y∈sc.names,y.2≠.free:=by decide +kernel):bT N ps sc:=⟨h1,h2,h3,h4,h5,h6,h7⟩
instance:Inhabited Dt:=⟨.non⟩
theorem bnd {α β:Type} (a:α) (f:α->Option β):(some a).bind f=f a:=(Option.bind_some a f).trans (Eq.refl _)
def hold:Option Prop->Prop
 |none=>True
 |some p=>p
def bK:Option Prop->Option Prop->Option Prop
 |none,q=>q
 |some p,none=>some p
 |some p,some q=>some (p/\q)
def RW (c:Prop):Option Prop->Option Prop
 |none=>none
 |some p=>some (c->p)
theorem aG {p q:Option Prop} (h:hold (bK p q)):hold p/\hold q:=by
 cases p with
 |none=>exact⟨trivial,h⟩
 |some p=>cases q with
  |none=>exact⟨h,trivial⟩
  |some q=>exact h
theorem q8 {c:Prop} {p:Option Prop} (h:hold (RW c p)) (hc:c):hold p:=by
 cases p with
 |none=>trivial
 |some p=>exact h hc
structure R {α β:Type} (f:Ev->Option β) (ρ:Ev) (c:α->β) where
 v:α
 D:Option Prop
 ok:hold D->f ρ=some (c v)
abbrev zE {α:Type} (e:α->Dt):α->Bx:=fun a=>.z (e a)
abbrev oE {α:Type} (e:α->Dt):List α->Bx:=fun xs=>.o (xs.map e)
abbrev lE {α:Type} (e:α->Dt):List α->Bx:=fun xs=>.l (xs.map e)
abbrev tE:Bool->Bool:=fun b=>b
abbrev iE {α:Type} (e:α->Dt):List α->List Dt:=fun xs=>xs.map e
abbrev eI:Int->Dt:=Dt.int
abbrev eB:Bool->Dt:=Dt.bl
abbrev eS:Str->Dt:=Dt.str
abbrev eD:Dt->Dt:=fun d=>d
abbrev eL {α:Type} (e:α->Dt):List α->Dt:=fun xs=>.lst (xs.map e)
abbrev eT {α:Type} (e:α->Dt):List α->Dt:=fun xs=>.tup (xs.map e)
abbrev eO {α:Type} (e:α->Dt):Option α->Dt:=fun o=>match o with|none=>.non|some a=>e a
abbrev eP1 {α:Type} (a:α->Dt):α->Dt:=fun x=>.tup [a x]
abbrev eP2 {α β:Type} (a:α->Dt) (b:β->Dt):α×β->Dt:=fun x=>.tup [a x.1,b x.2]
abbrev eP3 {α β γ:Type} (a:α->Dt) (b:β->Dt) (c:γ->Dt):α×β×γ->Dt:=fun x=>.tup [a x.1,b x.2.1,c x.2.2]
abbrev eP4 {α β γ δ:Type} (a:α->Dt) (b:β->Dt) (c:γ->Dt) (d:δ->Dt):α×β×γ×δ->Dt:=fun x=>.tup [a x.1,b x.2.1,c x.2.2.1,d x.2.2.2]
structure RL {α:Type} (f:Ev->Option Bx) (ρ:Ev) (e:α->Dt) where
 v:List α
 D:Option Prop
 b:Bx
 lk:xP b=some (v.map e)
 ok:hold D->f ρ=some b
section
variable {α β γ δ:Type} {ρ:Ev} {f fa fb fc:Ev->Option Bx} {fs:Ev->Option (List Bx)} {e:α->Dt} {e':β->Dt}
def fM (a:R f ρ (oE e)):RL f ρ e:=⟨a.v,a.D,_,rfl,a.ok⟩
def iH (a:R f ρ (lE e)):RL f ρ e:=⟨a.v,a.D,_,rfl,a.ok⟩
def Z7 (a:R f ρ (zE (eL e))):RL f ρ e:=⟨a.v,a.D,_,rfl,a.ok⟩
def Lp (b:Bx) (ds:List Dt):Prop:=b=.z (.lst ds)\/b=.l ds
theorem Lp.Pk {b:Bx} {ds:List Dt} (h:Lp b ds):xP b=some ds:=by rcases h with rfl|rfl<;>rfl
theorem Lp.get {b:Bx} {ds:List Dt} {i:Nat} (h:Lp b ds) (hi:ρ[i]?=some (some b)):Js ρ i=some b:=by
 rcases h with rfl|rfl<;>(unfold Js;rw[hi])
theorem Lp.lend {b:Bx} {ds:List Dt} (h:Lp b ds):P1.lend b=b:=by rcases h with rfl|rfl<;>rfl
theorem zY {b:Bx} {ds:List Dt} (h:xP b=some ds):Lp (P1.lend b) ds:=by
 cases b with
 |z d=>cases d<;>cases h;exact .inl rfl
 |l d=>cases h;exact .inr rfl
 |o d=>cases h;exact .inr rfl
 |n d=>cases h
 |m d _=>cases h
def aB (i:Nat) (c:α->Bx) (a:α) (h:Js ρ i=some (c a)):R (gv i) ρ c:=⟨a,none,fun _=>h⟩
def fV (i:Nat) (e:α->Dt) (a:List α) {b:Bx} (h:Lp b (a.map e)) (hi:ρ[i]?=some (some b)):RL (gv i) ρ e:=⟨a,none,b,h.Pk,fun _=>h.get hi⟩
def ou (d:Dt) (e:α->Dt) (a:α) (h:d=e a):R (cB d) ρ (zE e):=⟨a,none,fun _=>by rw[h];rfl⟩
def kO (a:R f ρ (zE e)):R f ρ (zE eD):=⟨e a.v,a.D,a.ok⟩
def Lb (a:R f ρ (oE e)):R (b1 kj f) ρ (zE (eL e)):=⟨a.v,a.D,fun h=>by simp only[b1,a.ok h,bnd,kj]⟩
def dO (a:R f ρ (zE e)):R (b1 kj f) ρ (zE e):=⟨a.v,a.D,fun h=>by simp only[b1,a.ok h,bnd,kj]⟩
def ace (a:R f ρ (zE eI)):R (b1 zM f) ρ (zE eI):=⟨-a.v,a.D,fun h=>by simp only[b1,a.ok h,bnd,zM]⟩
def ju (a:R fa ρ (zE eI)) (b:R fb ρ (zE eI)):R (b2 bQ fa fb) ρ (zE eI):=⟨a.v+b.v,bK a.D b.D,fun h=>by
 obtain⟨h1,h2⟩:=aG h
 simp only[b2,a.ok h1,b.ok h2,bnd,bQ]⟩
def IK (a:R fa ρ (zE eI)) (b:R fb ρ (zE eI)):R (b2 subB fa fb) ρ (zE eI):=⟨a.v - b.v,bK a.D b.D,fun h=>by
 obtain⟨h1,h2⟩:=aG h
 simp only[b2,a.ok h1,b.ok h2,bnd,i2]⟩
def Mul (a b:Int):Prop:=(-18446744073709551616 < a/\a < 18446744073709551616)\/(-18446744073709551616 < b/\b < 18446744073709551616)
def acf (a:R fa ρ (zE eI)) (b:R fb ρ (zE eI)):R (b2 BR fa fb) ρ (zE eI):=⟨a.v * b.v,bK (bK a.D b.D) (some (Mul a.v b.v)),fun h=>by
 obtain⟨h,h3⟩:=aG h
 obtain⟨h1,h2⟩:=aG h
 simp only[b2,a.ok h1,b.ok h2,bnd]
 exact zo h3⟩
def W9 (n:Int) (hn : -18446744073709551616 < n/\n < 18446744073709551616) (b:R fb ρ (zE eI)):R (b2 BR (cB (.int n)) fb) ρ (zE eI):=⟨n * b.v,b.D,fun h=>by
 simp only[b2,b.ok h,bnd,cB]
 exact zo (.inl hn)⟩
def Yt (a:R fa ρ (zE eI)) (n:Int) (hn : -18446744073709551616 < n/\n < 18446744073709551616):R (b2 BR fa (cB (.int n))) ρ (zE eI):=⟨a.v * n,a.D,fun h=>by
 simp only[b2,a.ok h,bnd,cB]
 exact zo (.inr hn)⟩
def o8 (a:R fa ρ (zE eI)) (n:Int) (hn:0 < n/\n < 1073741824):R (b2 uJ fa (cB (.int n))) ρ (zE eI):=⟨a.v / n,a.D,fun h=>by
 simp only[b2,a.ok h,bnd,i2,cB,zo hn]⟩
def Ez (a:R fa ρ (zE eI)) (b:R fb ρ (zE eI)):R (b2 fH fa fb) ρ (zE eI):=⟨a.v % b.v,bK (bK a.D b.D) (some (0 < b.v)),fun h=>by
 obtain⟨h,h3⟩:=aG h
 obtain⟨h1,h2⟩:=aG h
 have h3:0 < b.v:=h3
 simp only[b2,a.ok h1,b.ok h2,bnd,i2,zo h3]⟩
def dF (a:R fa ρ (zE eI)) (n:Int) (hn:0 < n):R (b2 fH fa (cB (.int n))) ρ (zE eI):=⟨a.v % n,a.D,fun h=>by
 simp only[b2,a.ok h,bnd,i2,cB,zo hn]⟩
def Xa (a b:Int) (n:Nat) (h:0<=b/\b<=1000/\a.natAbs < 18446744073709551616) (hb:b.toNat=n):R (b2 Zu (cB (.int a)) (cB (.int b))) ρ (zE eI):=⟨a ^ n,none,fun _=>by
 simp only[b2,bnd,cB]
 show ((if 0<=b/\b<=1000/\a.natAbs < 2 ^ 64 then some (Dt.int (a ^ b.toNat)) else none).bind fun d=>some (Bx.z d))=_
 rw[zo h,hb]
 rfl⟩
def Z8 (a:R fa ρ (zE eI)) (b:R fb ρ (zE eI)):R (b2 leB fa fb) ρ (zE eB):=⟨decide (a.v<=b.v),bK a.D b.D,fun h=>by
 obtain⟨h1,h2⟩:=aG h
 simp only[b2,a.ok h1,b.ok h2,bnd,i2]⟩
def ahG (a:R fa ρ (zE eI)) (b:R fb ρ (zE eI)):R (b2 gtB fa fb) ρ (zE eB):=⟨decide (b.v < a.v),bK a.D b.D,fun h=>by
 obtain⟨h1,h2⟩:=aG h
 simp only[b2,a.ok h1,b.ok h2,bnd,i2]⟩
def x_ge (a:R fa ρ (zE eI)) (b:R fb ρ (zE eI)):R (b2 geB fa fb) ρ (zE eB):=⟨decide (b.v<=a.v),bK a.D b.D,fun h=>by
 obtain⟨h1,h2⟩:=aG h
 simp only[b2,a.ok h1,b.ok h2,bnd,i2]⟩
def Yu (a:R fa ρ (zE eI)) (b:R fb ρ (zE eI)):R (b2 TY fa fb) ρ (zE eB):=⟨decide (a.v < b.v),bK a.D b.D,fun h=>by
 obtain⟨h1,h2⟩:=aG h
 simp only[b2,a.ok h1,b.ok h2,bnd,TY]⟩
def Oi (x y:Str):Bool:=decide (x.cps.toList < y.cps.toList)
def af5 (a:R fa ρ (zE eS)) (b:R fb ρ (zE eS)):R (b2 TY fa fb) ρ (zE eB):=⟨Oi a.v b.v,bK a.D b.D,fun h=>by
 obtain⟨h1,h2⟩:=aG h
 simp only[b2,a.ok h1,b.ok h2,bnd,TY,Oi]⟩
end
class Eqs {α:Type} [DecidableEq α] (e:α->Dt) (n:outParam Nat):Prop where
 eq:∀ a b,Ju (e a) (e b)=some (decide (a=b))
 dp:∀ a,BZ (e a)<=n
class Non {α:Type} (e:α->Dt):Prop where
 l:∀ a,Ju .non (e a)=some false
 r:∀ a,Ju (e a) .non=some false
instance:Eqs eI 1:=⟨fun a b=>rfl,fun a=>by simp[BZ]⟩
instance:Eqs eB 1:=⟨fun a b=>rfl,fun a=>by simp[BZ]⟩
instance:Eqs eS 1:=⟨fun a b=>rfl,fun a=>by simp[BZ]⟩
instance:Non eI:=⟨fun a=>rfl,fun a=>rfl⟩
instance:Non eB:=⟨fun a=>rfl,fun a=>rfl⟩
instance:Non eS:=⟨fun a=>rfl,fun a=>rfl⟩
section
variable {α β γ δ:Type} [DecidableEq α] [DecidableEq β] [DecidableEq γ] [DecidableEq δ] {e:α->Dt} {e':β->Dt} {e'':γ->Dt} {e3:δ->Dt} {n m k l:Nat}
theorem Ld [Eqs e n]:∀ xs ys:List α,qg (xs.map e) (ys.map e)=some (decide (xs=ys))
 |[],[]=>by simp[qg]
 |[],y::ys=>by simp[qg]
 |x::xs,[]=>by simp[qg]
 |x::xs,y::ys=>by
  simp only[zz,qg,Eqs.eq,Ld xs ys]
  congr 1
  by_cases h:x=y<;>by_cases h':xs=ys<;>simp[h,h']
theorem Le [Eqs e n]:∀ xs:List α,zJ (xs.map e)<=n
 |[]=>by simp[zJ]
 |x::xs=>by
  have:=Eqs.dp (e:=e) x
  have:=Le xs
  simp only[zz,zJ]
  omega
instance [Eqs e n]:Eqs (eL e) (n+1):=⟨fun a b=>Ld a b,fun a=>by simp only[BZ];have:=Le (e:=e) a;omega⟩
instance [Eqs e n]:Eqs (eT e) (n+1):=⟨fun a b=>Ld a b,fun a=>by simp only[BZ];have:=Le (e:=e) a;omega⟩
instance:Non (eL e):=⟨fun a=>rfl,fun a=>rfl⟩
instance:Non (eT e):=⟨fun a=>rfl,fun a=>rfl⟩
instance:Non (eP1 e):=⟨fun a=>rfl,fun a=>rfl⟩
instance:Non (eP2 e e'):=⟨fun a=>rfl,fun a=>rfl⟩
instance:Non (eP3 e e' e''):=⟨fun a=>rfl,fun a=>rfl⟩
instance:Non (eP4 e e' e'' e3):=⟨fun a=>rfl,fun a=>rfl⟩
instance [Eqs e n]:Eqs (eP1 e) (n+1):=⟨fun a b=>by
 simp only[J3,qg,Eqs.eq,JS],fun a=>by
 have:=Eqs.dp (e:=e) a
 simp only[BZ,zJ];omega⟩
instance [Eqs e n] [Eqs e' m]:Eqs (eP2 e e') (max n m+1):=⟨fun a b=>by
 obtain⟨a,a'⟩:=a;obtain⟨b,b'⟩:=b
 simp only[J3,qg,Eqs.eq,Prod.mk.injEq,Bool.decide_and,JS],fun a=>by
 have:=Eqs.dp (e:=e) a.1;have:=Eqs.dp (e:=e') a.2
 simp only[BZ,zJ];omega⟩
instance [Eqs e n] [Eqs e' m] [Eqs e'' k]:Eqs (eP3 e e' e'') (max n (max m k)+1):=⟨fun a b=>by
 obtain⟨a,a',a2⟩:=a;obtain⟨b,b',b2⟩:=b
 simp only[J3,qg,Eqs.eq,Prod.mk.injEq,Bool.decide_and,JS],fun a=>by
 have:=Eqs.dp (e:=e) a.1;have:=Eqs.dp (e:=e') a.2.1;have:=Eqs.dp (e:=e'') a.2.2
 simp only[BZ,zJ];omega⟩
instance [Eqs e n] [Eqs e' m] [Eqs e'' k] [Eqs e3 l]:Eqs (eP4 e e' e'' e3) (max n (max m (max k l))+1):=⟨fun a b=>by
 obtain⟨a,a',a2,a3⟩:=a;obtain⟨b,b',b2,b3⟩:=b
 simp only[J3,qg,Eqs.eq,Prod.mk.injEq,Bool.decide_and,JS],fun a=>by
 have:=Eqs.dp (e:=e) a.1;have:=Eqs.dp (e:=e') a.2.1;have:=Eqs.dp (e:=e'') a.2.2.1;have:=Eqs.dp (e:=e3) a.2.2.2
 simp only[BZ,zJ];omega⟩
instance [Eqs e n] [Non e]:Eqs (eO e) (n+1):=⟨fun a b=>by
 cases a with
 |none=>cases b with
  |none=>exact rfl
  |some b=>exact (Non.l (e:=e) b).trans (by simp)
 |some a=>cases b with
  |none=>exact (Non.r (e:=e) a).trans (by simp)
  |some b=>exact (Eqs.eq (e:=e) a b).trans (by simp),fun a=>by
 cases a with
 |none=>show BZ .non<=n+1;simp[BZ]
 |some a=>exact Nat.le_succ_of_le (Eqs.dp (e:=e) a)⟩
end
section
variable {α β γ δ:Type} {ρ:Ev} {f fa fb fc:Ev->Option Bx} {p q:Ev->Option Bool} {fs:Ev->Option (List Bx)} {e:α->Dt} {e':β->Dt}
def x_eq [DecidableEq α] {n:Nat} [Eqs e n] (hn:n<=100) (a:R fa ρ (zE e)) (b:R fb ρ (zE e)):R (b2 eqB fa fb) ρ (zE eB):=⟨decide (a.v=b.v),bK a.D b.D,fun h=>by
 obtain⟨h1,h2⟩:=aG h
 have:=Eqs.dp (e:=e) a.v
 simp only[b2,a.ok h1,b.ok h2,bnd,eqB,qj,toD,zk,or_self,ZH,Eqs.eq]
 rw[zo (by omega)]⟩
def acg [DecidableEq α] {n:Nat} [Eqs e n] (hn:n<=100) (a:R fa ρ (zE e)) (b:R fb ρ (zE e)):R (b2 neB fa fb) ρ (zE eB):=⟨!decide (a.v=b.v),bK a.D b.D,fun h=>by
 obtain⟨h1,h2⟩:=aG h
 have:=Eqs.dp (e:=e) a.v
 simp only[b2,a.ok h1,b.ok h2,bnd,neB,qj,toD,zk,or_self,ZH,Eqs.eq]
 rw[zo (by omega)]⟩
theorem uO {b:Bx} {ds:List Dt} (h:xP b=some ds):toD b=.lst ds/\qj b=false:=by
 cases b with
 |z d=>cases d<;>cases h;exact⟨rfl,rfl⟩
 |l d=>cases h;exact⟨rfl,rfl⟩
 |o d=>cases h;exact⟨rfl,rfl⟩
 |n d=>cases h
 |m d _=>cases h
def ach [DecidableEq α] {n:Nat} [Eqs e n] (hn:n+1<=100) (a:RL fa ρ e) (b:RL fb ρ e):R (b2 eqB fa fb) ρ (zE eB):=⟨decide (a.v=b.v),bK a.D b.D,fun h=>by
 obtain⟨h1,h2⟩:=aG h
 have:=Eqs.dp (e:=eL e) a.v
 simp only[b2,a.ok h1,b.ok h2,bnd,eqB,(uO a.lk).1,(uO a.lk).2,(uO b.lk).1,(uO b.lk).2,zk,or_self,ZH]
 have e1:=Eqs.eq (e:=eL e) a.v b.v
 rw[zo (zw (Nat.min_le_left _ _) (zw (Eqs.dp (e:=eL e) a.v) hn)),e1,bnd]⟩
def ajx [DecidableEq α] {n:Nat} [Eqs e n] (hn:n+1<=100) (a:RL fa ρ e) (b:RL fb ρ e):R (b2 neB fa fb) ρ (zE eB):=⟨!decide (a.v=b.v),bK a.D b.D,fun h=>by
 obtain⟨h1,h2⟩:=aG h
 simp only[b2,a.ok h1,b.ok h2,bnd,neB,(uO a.lk).1,(uO a.lk).2,(uO b.lk).1,(uO b.lk).2,zk,or_self,ZH]
 have e1:=Eqs.eq (e:=eL e) a.v b.v
 rw[zo (zw (Nat.min_le_left _ _) (zw (Eqs.dp (e:=eL e) a.v) hn)),e1,bnd]⟩
def eqX (a b:Dt):Bool:=(Ju a b).getD false
def EqX (a b:Dt):Prop:=(Ju a b).isSome=true/\min (BZ a) (BZ b)<=100
def ajy (a:R fa ρ (zE eD)) (b:R fb ρ (zE eD)):R (b2 eqB fa fb) ρ (zE eB):=⟨eqX a.v b.v,bK (bK a.D b.D) (some (EqX a.v b.v)),fun h=>by
 obtain⟨h,h3⟩:=aG h
 obtain⟨h1,h2⟩:=aG h
 obtain⟨h3,h4⟩:EqX a.v b.v:=h3
 simp only[b2,a.ok h1,b.ok h2,bnd,eqB,qj,toD,zk,or_self,ZH,zo h4]
 cases hd:Ju a.v b.v with
 |none=>rw[hd] at h3;cases h3
 |some k=>simp only[eqX,hd,bnd,Option.getD_some];exact zo h4⟩
def jA (a:R fa ρ (zE eB)) (b:R fb ρ (zE eB)):R (oX fa fb) ρ (zE eB):=⟨a.v&&b.v,bK a.D (RW (a.v=true) b.D),fun h=>by
 obtain⟨h1,h2⟩:=aG h
 simp only[oX,a.ok h1,bnd,DY]
 cases hv:a.v with
 |true=>simp only[qB,ko];exact b.ok (q8 h2 hv)
 |false=>simp only[zk,ZH,kb]⟩
def af7 (a:R fa ρ (zE eB)):R (abg fa) ρ (zE eB):=⟨!a.v,a.D,fun h=>by simp only[abg,a.ok h,bnd,DY]⟩
def rY (a:R fa ρ (zE eB)):R (tV fa) ρ tE:=⟨a.v,a.D,fun h=>by simp only[tV,a.ok h,bnd,aei]⟩
def rR {g:Bx->Bx->Option Bx} (a:R (b2 g fa fb) ρ (zE eB)):R (Pz g fa fb) ρ tE:=⟨a.v,a.D,fun h=>by simp only[Pz,a.ok h,bnd,DY]⟩
def alE {g g':Bx->Bx->Option Bx} (a:R (ch3 g g' fa fb fc) ρ (zE eB)):R (tC3 g g' fa fb fc) ρ tE:=⟨a.v,a.D,fun h=>by simp only[tC3,a.ok h,bnd,DY]⟩
def aci (a:R p ρ tE) (b:R q ρ tE):R (Wv p q) ρ tE:=⟨a.v&&b.v,bK a.D (RW (a.v=true) b.D),fun h=>by
 obtain⟨h1,h2⟩:=aG h
 simp only[Wv,a.ok h1,bnd]
 cases hv:a.v with
 |true=>simp only[qB,ko];exact b.ok (q8 h2 hv)
 |false=>simp only[zk,ZH,kb]⟩
def EY (a:R p ρ tE) (b:R q ρ tE):R (N6 p q) ρ tE:=⟨a.v||b.v,bK a.D (RW (a.v=false) b.D),fun h=>by
 obtain⟨h1,h2⟩:=aG h
 simp only[N6,a.ok h1,bnd]
 cases hv:a.v with
 |true=>simp only[qB,Bool.true_or]
 |false=>simp only[zk,ZH,KL];exact b.ok (q8 h2 hv)⟩
def lq (a:R p ρ tE):R (mW p) ρ tE:=⟨!a.v,a.D,fun h=>by simp only[mW,a.ok h,bnd]⟩
def afe {g g':Bx->Bx->Option Bx} (ab:R (b2 g fa fb) ρ (zE eB)) (bc:R (b2 g' fb fc) ρ (zE eB)):R (ch3 g g' fa fb fc) ρ (zE eB):=⟨ab.v&&bc.v,bK ab.D (RW (ab.v=true) bc.D),fun h=>by
 obtain⟨h1,h3⟩:=aG h
 have e1:=ab.ok h1
 simp only[b2] at e1
 obtain⟨x,ex,e1⟩:=bind_some e1
 obtain⟨y,ey,e1⟩:=bind_some e1
 simp only[ch3,ex,ey,bnd,e1,DY]
 cases hv:ab.v with
 |true=>
  have e2:=bc.ok (q8 h3 hv)
  simp only[b2,ey,bnd] at e2
  simp only[qB,ko]
  exact e2
 |false=>simp only[zk,ZH,kb]⟩
end
section
variable {α β γ δ ε:Type} {ρ:Ev} {f fa fb fc fd:Ev->Option Bx} {p q:Ev->Option Bool} {fs:Ev->Option (List Bx)} {e:α->Dt} {e':β->Dt} {e'':γ->Dt} {e3:δ->Dt}
def acj (a:R fa ρ (zE e)) (b:R fb ρ (zE e')) (c:R fc ρ (zE e'')):R (aP aJ (ak fa (ak fb (ak fc aC)))) ρ (zE (eP3 e e' e'')):=⟨(a.v,b.v,c.v),bK a.D (bK b.D c.D),fun h=>by
 obtain⟨h1,h⟩:=aG h
 obtain⟨h2,h3⟩:=aG h
 simp only[aP,ak,aC,a.ok h1,b.ok h2,c.ok h3,bnd];rfl⟩
def Xb (a:R fa ρ (zE e)) (b:R fb ρ (zE e')) (c:R fc ρ (zE e'')) (d:R fd ρ (zE e3)):R (aP aJ (ak fa (ak fb (ak fc (ak fd aC))))) ρ (zE (eP4 e e' e'' e3)):=⟨(a.v,b.v,c.v,d.v),bK a.D (bK b.D (bK c.D d.D)),fun h=>by
 obtain⟨h1,h⟩:=aG h
 obtain⟨h2,h⟩:=aG h
 obtain⟨h3,h4⟩:=aG h
 simp only[aP,ak,aC,a.ok h1,b.ok h2,c.ok h3,d.ok h4,bnd];rfl⟩
def aF (e:α->Dt):R aC ρ (fun xs:List α=>xs.map (zE e)):=⟨[],none,fun _=>rfl⟩
def ao (a:R fa ρ (zE e)) (t:R fs ρ (fun xs:List α=>xs.map (zE e))):R (ak fa fs) ρ (fun xs:List α=>xs.map (zE e)):=⟨a.v::t.v,bK a.D t.D,fun h=>by
 obtain⟨h1,h2⟩:=aG h
 simp only[ak,a.ok h1,t.ok h2,bnd,zz]⟩
theorem Fb:∀ xs:List α,Rj (xs.map (zE e))=some (xs.map e)
 |[]=>rfl
 |x::xs=>by simp only[zz,Rj,Fb xs,bnd]
def iJ (t:R fs ρ (fun xs:List α=>xs.map (zE e))) (hl:t.v.length<=1000):R (aP fX fs) ρ (oE e):=⟨t.v,t.D,fun h=>by
 simp only[aP,t.ok h,bnd,fX,zh,zo hl,Fb]⟩
def acn (t:R fs ρ (fun xs:List α=>xs.map (zE e))) (hl:t.v.length<=1000):R (aP aJ fs) ρ (zE (eT e)):=⟨t.v,t.D,fun h=>by
 simp only[aP,t.ok h,bnd,aJ,zh,zo hl,Fb]⟩
def aM (t:R fs ρ (fun xs:List Dt=>xs.map (zE eD))) (hl:t.v.length<=1000):R (aP aJ fs) ρ (zE eD):=⟨.tup t.v,t.D,fun h=>by
 simp only[aP,t.ok h,bnd,aJ,zh,zo hl,Fb,List.map_id_fun',id]⟩
def at' [Inhabited α] (xs:List α) (i:Int):α:=(N5 xs i).getD default
def In (n:Nat) (i:Int):Prop:=-(n:Int)<=i/\i < n
theorem xT {xs:List α} {i:Int} (h:In xs.length i):∃ x,N5 xs i=some x:=by
 obtain⟨h1,h2⟩:=h
 unfold N5 ixN
 by_cases h0:0<=i
 ·rw[zo h0,zo h2]
  exact⟨xs[i.toNat]'(by omega),Zs (by omega)⟩
 ·rw[zI h0,zo h1]
  exact⟨xs[(i+xs.length).toNat]'(by omega),Zs (by omega)⟩
theorem ahH {xs:List α} {i:Int} {x:α} (h:N5 xs i=some x):N5 (xs.map e) i=some (e x):=by
 unfold N5 at h ⊢
 rw[zh]
 obtain⟨j,ej,h⟩:=bind_some h
 rw[ej,bnd,ZT,h]
 rfl
theorem aco [Inhabited α] {xs:List α} {i:Int} (h:In xs.length i):N5 (xs.map e) i=some (e (at' xs i)):=by
 obtain⟨x,hx⟩:=xT h
 rw[ahH hx]
 unfold at'
 rw[hx]
 rfl
theorem afg {b:Bx} {ds:List Dt} {i:Int} (h:xP b=some ds):eU b (.z (.int i))=(N5 ds i).bind fun d=>some (.z d):=by
 cases b with
 |z d=>cases d<;>cases h;rfl
 |l d=>cases h;rfl
 |o d=>cases h;rfl
 |n d=>cases h
 |m d _=>cases h
def jx [Inhabited α] (a:RL fa ρ e) (b:R fb ρ (zE eI)):R (b2 eU fa fb) ρ (zE e):=⟨at' a.v b.v,bK (bK a.D b.D) (some (In a.v.length b.v)),fun h=>by
 obtain⟨h,h3⟩:=aG h
 obtain⟨h1,h2⟩:=aG h
 simp only[b2,a.ok h1,b.ok h2,bnd,afg a.lk,aco (show In a.v.length b.v from h3)]⟩
def IV [Inhabited α] (a:R fa ρ (zE (eT e))) (b:R fb ρ (zE eI)):R (b2 eU fa fb) ρ (zE e):=⟨at' a.v b.v,bK (bK a.D b.D) (some (In a.v.length b.v)),fun h=>by
 obtain⟨h,h3⟩:=aG h
 obtain⟨h1,h2⟩:=aG h
 simp only[b2,a.ok h1,b.ok h2,bnd,eU,vU,aco (show In a.v.length b.v from h3)]⟩
def ch (x:Str) (i:Int):Str:=⟨#[(N5 x.cps.toList i).getD 0]⟩
def IW (a:R fa ρ (zE eS)) (b:R fb ρ (zE eI)):R (b2 eU fa fb) ρ (zE eS):=⟨ch a.v b.v,bK (bK a.D b.D) (some (In a.v.length b.v)),fun h=>by
 obtain⟨h,h3⟩:=aG h
 obtain⟨h1,h2⟩:=aG h
 obtain⟨x,hx⟩:=xT (xs:=a.v.cps.toList) (i:=b.v) (show In a.v.length b.v from h3)
 simp only[b2,a.ok h1,b.ok h2,bnd,eU,hx,ch,Option.getD_some]⟩
def iG (d:Dt) (i:Int):Dt:=match eU (.z d) (.z (.int i)) with|some (.z y)=>y|_=>.non
def RX (d:Dt) (i:Int):Prop:=match d with
 |.tup ds=>In ds.length i
 |.lst ds=>In ds.length i
 |.str x=>In x.length i
 |_=>False
def q9 (a:R fa ρ (zE eD)) (b:R fb ρ (zE eI)):R (b2 eU fa fb) ρ (zE eD):=⟨iG a.v b.v,bK (bK a.D b.D) (some (RX a.v b.v)),fun h=>by
 obtain⟨h,h3⟩:=aG h
 obtain⟨h1,h2⟩:=aG h
 have h3:RX a.v b.v:=h3
 simp only[b2,a.ok h1,b.ok h2,bnd]
 show eU (.z a.v) (.z (.int b.v))=some (.z (iG a.v b.v))
 unfold iG
 cases hv:a.v with
 |tup ds=>
  rw[hv] at h3
  obtain⟨x,hx⟩:=xT (show In ds.length b.v from h3)
  simp only[eU,vU,bnd,hx]
 |lst ds=>
  rw[hv] at h3
  obtain⟨x,hx⟩:=xT (show In ds.length b.v from h3)
  simp only[eU,vU,bnd,hx]
 |str x=>
  rw[hv] at h3
  obtain⟨c,hx⟩:=xT (xs:=x.cps.toList) (show In x.length b.v from h3)
  simp only[eU,bnd,hx]
 |non=>rw[hv] at h3;exact absurd h3 id
 |bl _=>rw[hv] at h3;exact absurd h3 id
 |int _=>rw[hv] at h3;exact absurd h3 id
 |emp=>rw[hv] at h3;exact absurd h3 id⟩
def af8 (a:R fa ρ (zE e)) (g:α->β) (e':β->Dt) (i:Int) (h:∀ x,eU (.z (e x)) (.z (.int i))=some (.z (e' (g x)))):R (b2 eU fa (cB (.int i))) ρ (zE e'):=⟨g a.v,a.D,fun hd=>by
 simp only[b2,a.ok hd,bnd,cB,h]⟩
def cut (xs:List α) (lo hi:Option Int):List α:=(xs.drop (HT.kY xs.length 0 lo)).take (HT.kY xs.length xs.length hi - HT.kY xs.length 0 lo)
theorem afh (xs:List α) (lo hi:Option Int):cutD (xs.map e) lo hi=(cut xs lo hi).map e:=by
 unfold cutD cut
 rw[zh,List.map_take,List.map_drop]
abbrev pE:Option Int->Option Int:=fun o=>o
def tX:R dR ρ pE:=⟨none,none,fun _=>rfl⟩
def qu (a:R fa ρ (zE eI)):R (dZ fa) ρ pE:=⟨some a.v,a.D,fun h=>by simp only[dZ,a.ok h,bnd,ahm]⟩
variable {fl fh:Ev->Option (Option Int)}
theorem afi {b:Bx} {ds:List Dt} {lo hi:Option Int} (h:xP b=some ds):slB b lo hi=some (.o (cutD ds lo hi)):=by
 cases b with
 |z d=>cases d<;>cases h;rfl
 |l d=>cases h;rfl
 |o d=>cases h;rfl
 |n d=>cases h
 |m d _=>cases h
def afj (a:RL fa ρ e) (l:R fl ρ pE) (u:R fh ρ pE):R (wG fa fl fh) ρ (oE e):=⟨cut a.v l.v u.v,bK a.D (bK l.D u.D),fun h=>by
 obtain⟨h1,h⟩:=aG h
 obtain⟨h2,h3⟩:=aG h
 simp only[wG,a.ok h1,l.ok h2,u.ok h3,bnd,afi a.lk,afh]⟩
def Cd (a:R fa ρ (zE eS)) (l:R fl ρ pE) (u:R fh ρ pE):R (wG fa fl fh) ρ (zE eS):=⟨Txt.slice a.v l.v u.v,bK a.D (bK l.D u.D),fun h=>by
 obtain⟨h1,h⟩:=aG h
 obtain⟨h2,h3⟩:=aG h
 simp only[wG,a.ok h1,l.ok h2,u.ok h3,bnd,slB]⟩
def dI:Dt->List Dt
 |.tup ds=>ds
 |.lst ds=>ds
 |_=>[]
def zZ (a:R fa ρ (zE eD)) (l:R fl ρ pE) (u:R fh ρ pE):R (wG fa fl fh) ρ (zE eD):=⟨.tup (cut (dI a.v) l.v u.v),bK (bK a.D (bK l.D u.D)) (some (is_tuple a.v=true)),fun h=>by
 obtain⟨h,h4⟩:=aG h
 obtain⟨h1,h⟩:=aG h
 obtain⟨h2,h3⟩:=aG h
 have h4:is_tuple a.v=true:=h4
 simp only[wG,a.ok h1,l.ok h2,u.ok h3,bnd]
 cases hv:a.v<;>rw[hv] at h4<;>first|(cases h4;done)|rfl⟩
def af9 (a:R fa ρ (zE (eT e))):R (b2 KN fa (b1 zM (cB (.int 1)))) ρ (zE (eT e)):=⟨a.v.reverse,a.D,fun h=>by
 simp only[b2,b1,a.ok h,bnd,cB,zM,KN,qB,zE,eT,List.map_reverse]⟩
def ahI (a:R fa ρ (zE eD)):R (b2 KN fa (b1 zM (cB (.int 1)))) ρ (zE eD):=⟨.tup (dI a.v).reverse,bK a.D (some (is_tuple a.v=true)),fun h=>by
 obtain⟨h,h4⟩:=aG h
 have h4:is_tuple a.v=true:=h4
 simp only[b2,b1,a.ok h,bnd,cB,zM]
 cases hv:a.v<;>rw[hv] at h4<;>first|(cases h4;done)|rfl⟩
def p7 (n:Nat):Prop:=n<=1000000
def vW (a:R fa ρ (zE eS)) (b:R fb ρ (zE eS)):R (b2 bQ fa fb) ρ (zE eS):=⟨a.v++b.v,bK (bK a.D b.D) (some (p7 (a.v.length+b.v.length))),fun h=>by
 obtain⟨h,h3⟩:=aG h
 obtain⟨h1,h2⟩:=aG h
 simp only[b2,a.ok h1,b.ok h2,bnd,bQ,zo (show a.v.length+b.v.length<=Zv from h3)]⟩
def CW (a:R fa ρ (zE eD)) (b:R fb ρ (zE eD)):R (b2 bQ fa fb) ρ (zE eD):=⟨.tup (dI a.v++dI b.v),bK (bK a.D b.D) (some (is_tuple a.v=true/\is_tuple b.v=true/\p7 ((dI a.v).length+(dI b.v).length))),fun h=>by
 obtain⟨h,h3⟩:=aG h
 obtain⟨h1,h2⟩:=aG h
 obtain⟨h3,h4,h5⟩:is_tuple a.v=true/\is_tuple b.v=true/\p7 ((dI a.v).length+(dI b.v).length):=h3
 simp only[b2,a.ok h1,b.ok h2,bnd]
 revert h3 h4 h5
 show is_tuple a.v=true->is_tuple b.v=true->p7 ((dI a.v).length+(dI b.v).length)->bQ (.z a.v) (.z b.v)=some (.z (.tup (dI a.v++dI b.v)))
 generalize a.v=x
 generalize b.v=y
 intro h3 h4 h5
 cases x<;>first|(cases h3;done)|skip
 cases y<;>first|(cases h4;done)|skip
 exact zo h5⟩
theorem acp {b b':Bx} {ds ds':List Dt} (h:xP b=some ds) (h':xP b'=some ds') (hl:ds.length+ds'.length<=Zv):bQ b b'=some (.o (ds++ds')):=by
 cases b with
 |z d=>
  cases d<;>cases h
  cases b' with
  |z d'=>cases d'<;>cases h';exact zo hl
  |l d'=>cases h';exact zo hl
  |o d'=>cases h';exact zo hl
  |n d'=>cases h'
  |m d'=>cases h'
 |l d=>
  cases h
  cases b' with
  |z d'=>cases d'<;>cases h';exact zo hl
  |l d'=>cases h';exact zo hl
  |o d'=>cases h';exact zo hl
  |n d'=>cases h'
  |m d'=>cases h'
 |o d=>
  cases h
  cases b' with
  |z d'=>cases d'<;>cases h';exact zo hl
  |l d'=>cases h';exact zo hl
  |o d'=>cases h';exact zo hl
  |n d'=>cases h'
  |m d'=>cases h'
 |n d=>cases h
 |m d _=>cases h
def mL (a:RL fa ρ e) (b:RL fb ρ e):R (b2 bQ fa fb) ρ (oE e):=⟨a.v++b.v,bK (bK a.D b.D) (some (p7 (a.v.length+b.v.length))),fun h=>by
 obtain⟨h,h3⟩:=aG h
 obtain⟨h1,h2⟩:=aG h
 simp only[b2,a.ok h1,b.ok h2,bnd]
 rw[acp a.lk b.lk (by rw[zh,zh];exact h3)]
 simp only[oE,qv]⟩
def ahJ (a:R fa ρ (zE eS)) (b:R fb ρ (zE eI)):R (b2 BR fa fb) ρ (zE eS):=⟨Txt.mul a.v b.v,bK (bK a.D b.D) (some (b.v<=1000 ∧ -1000<=b.v/\a.v.length<=1000)),fun h=>by
 obtain⟨h,h3⟩:=aG h
 obtain⟨h1,h2⟩:=aG h
 simp only[b2,a.ok h1,b.ok h2,bnd]
 exact zo h3⟩
theorem acq {b:Bx} {ds:List Dt} (h:xP b=some ds):tM [b]=some (.z (.int ds.length)):=by
 cases b with
 |z d=>cases d<;>cases h;rfl
 |l d=>cases h;rfl
 |o d=>cases h;rfl
 |n d=>cases h
 |m d _=>cases h
theorem acr {b:Bx} {ds:List Dt} (h:xP b=some ds):vU b=some ds:=by
 cases b with
 |z d=>cases d<;>cases h;rfl
 |l d=>cases h;rfl
 |o d=>cases h;rfl
 |n d=>cases h
 |m d _=>cases h
def x_len (a:RL fa ρ e):R (aP tM (ak fa aC)) ρ (zE eI):=⟨(a.v.length:Int),a.D,fun h=>by
 simp only[aP,ak,aC,a.ok h,bnd,acq a.lk,zh]⟩
def acs (a:R fa ρ (zE (eT e))):R (aP tM (ak fa aC)) ρ (zE eI):=⟨(a.v.length:Int),a.D,fun h=>by
 simp only[aP,ak,aC,a.ok h,bnd,tM,vU,zh]⟩
def acu (a:R fa ρ (zE eS)):R (aP tM (ak fa aC)) ρ (zE eI):=⟨(a.v.length:Int),a.D,fun h=>by
 simp only[aP,ak,aC,a.ok h,bnd,tM]⟩
def rz:Dt->Int
 |.tup ds=>ds.length
 |.lst ds=>ds.length
 |.str x=>x.length
 |_=>0
def mY:Dt->Bool
 |.tup _=>true
 |.lst _=>true
 |.str _=>true
 |_=>false
def xU (a:R fa ρ (zE eD)):R (aP tM (ak fa aC)) ρ (zE eI):=⟨rz a.v,bK a.D (some (mY a.v=true)),fun h=>by
 obtain⟨h,h4⟩:=aG h
 have h4:mY a.v=true:=h4
 simp only[aP,ak,aC,a.ok h,bnd]
 cases hv:a.v<;>rw[hv] at h4<;>first|(cases h4;done)|rfl⟩
def RZ (a:RL fa ρ e):R (aP vV (ak fa aC)) ρ (zE (eT e)):=⟨a.v,a.D,fun h=>by
 simp only[aP,ak,aC,a.ok h,bnd,vV,acr a.lk]⟩
def R0 (a:R fa ρ (zE (eT e))):R (aP qY (ak fa aC)) ρ (oE e):=⟨a.v,a.D,fun h=>by
 simp only[aP,ak,aC,a.ok h,bnd,qY,vU]⟩
def acv:Dt->Bool
 |.tup _=>true
 |.lst _=>true
 |_=>false
def R3 (a:R fa ρ (zE eD)):R (aP qY (ak fa aC)) ρ (oE eD):=⟨dI a.v,bK a.D (some (acv a.v=true)),fun h=>by
 obtain⟨h,h4⟩:=aG h
 have h4:acv a.v=true:=h4
 simp only[aP,ak,aC,a.ok h,bnd]
 cases hv:a.v<;>rw[hv] at h4<;>first|(cases h4;done)|(simp only[qY,vU,bnd,dI,oE,eD,List.map_id_fun',id])⟩
def ajz (a:R fa ρ (zE eI)):R (aP Zy (ak fa aC)) ρ (zE eI):=⟨if a.v < 0 then -a.v else a.v,a.D,fun h=>by
 simp only[aP,ak,aC,a.ok h,bnd,Zy]⟩
def acw (a:R fa ρ (zE eB)):R (aP Zz (ak fa aC)) ρ (zE eI):=⟨if a.v=true then 1 else 0,a.D,fun h=>by
 simp only[aP,ak,aC,a.ok h,bnd,Zz]⟩
theorem Qh:∀ l:List Bool,Py (l.map eB)=some l
 |[]=>rfl
 |a::l=>by simp only[zz,Py,Qh l,bnd]
def rT (a:RL fa ρ eB):R (aP allB (ak fa aC)) ρ (zE eB):=⟨a.v.all id,a.D,fun h=>by
 simp only[aP,ak,aC,a.ok h,bnd,allB,a.lk,Qh]⟩
def Qi (a:R fa ρ (zE eI)) (b:R fb ρ (zE eI)):R (aP Oc (ak fa (ak fb aC))) ρ (zE eI):=⟨if b.v > a.v then b.v else a.v,bK a.D b.D,fun h=>by
 obtain⟨h1,h2⟩:=aG h
 simp only[aP,ak,aC,a.ok h1,b.ok h2,bnd,Oc]⟩
def aga (a:R fa ρ (zE eI)) (b:R fb ρ (zE eI)):R (aP ZG (ak fa (ak fb aC))) ρ (zE eI):=⟨if b.v < a.v then b.v else a.v,bK a.D b.D,fun h=>by
 obtain⟨h1,h2⟩:=aG h
 simp only[aP,ak,aC,a.ok h1,b.ok h2,bnd,ZG]⟩
def qb (P:Dt->Bool) (a:R fa ρ (zE e)):R (n8 P fa) ρ (zE eB):=⟨P (e a.v),a.D,fun h=>by
 simp only[n8,b1,a.ok h,bnd,qj,toD,zk,ZH]⟩
theorem strs_map:∀ l:LS_,yM (l.map eS)=some l
 |[]=>rfl
 |a::l=>by simp only[zz,yM,strs_map l,bnd]
def ahK (s:Str) (a:RL fa ρ eS):R (b1 (PL s) fa) ρ (zE eS):=⟨Txt.join s a.v,bK a.D (some ((a.v.map (·.length)).sum+a.v.length * s.length<=100000)),fun h=>by
 obtain⟨h,h4⟩:=aG h
 simp only[b1,a.ok h,bnd,PL,a.lk,strs_map]
 exact zo h4⟩
def Yv (a:RL fa ρ eS):R (aP yN (ak fa aC)) ρ (oE eS):=⟨uK a.v,bK a.D (some (a.v.length < 64)),fun h=>by
 obtain⟨h,h4⟩:=aG h
 simp only[aP,ak,aC,a.ok h,bnd,yN,a.lk,strs_map]
 exact zo h4⟩
def ajA (a:R fa ρ (zE e)) (g:α->β) (e':β->Dt) (lo hi:Option Int) (hl:fl ρ=some lo) (hh:fh ρ=some hi) (h:∀ x,slB (.z (e x)) lo hi=some (.z (e' (g x)))):R (wG fa fl fh) ρ (zE e'):=⟨g a.v,a.D,fun hd=>by
 simp only[wG,a.ok hd,hl,hh,bnd,h]⟩
def alF (a:R f ρ (zE e)) (g:α->β) (e':β->Dt) (h:∀ x,e x=e' (g x)):R f ρ (zE e'):=⟨g a.v,a.D,fun hd=>by rw[a.ok hd];exact congrArg (fun d=>some (Bx.z d)) (h a.v)⟩
def acy (a:R f ρ (oE e)):R f ρ (oE eD):=⟨a.v.map e,a.D,fun hd=>by
 rw[a.ok hd]
 simp only[oE,eD,qh,Function.comp_def]⟩
def qI:Dt->Int
 |.int i=>i
 |_=>0
def jg:Dt->Str
 |.str x=>x
 |_=>⟨#[]⟩
def cI (a:R f ρ (zE eD)) (g:Dt->α) (e:α->Dt):R f ρ (zE e):=⟨g a.v,bK a.D (some (a.v=e (g a.v))),fun hd=>by
 obtain⟨h1,h2⟩:=aG hd
 have h2:a.v=e (g a.v):=h2
 rw[a.ok h1]
 show some (Bx.z a.v)=some (Bx.z (e (g a.v)))
 rw[<-h2]⟩
class Flat {α:Type} (e:α->Dt):Prop where
 f:∀ a,Ej (e a)=true
instance:Flat eI:=⟨fun _=>rfl⟩
instance:Flat eB:=⟨fun _=>rfl⟩
instance:Flat eS:=⟨fun _=>rfl⟩
theorem acz [DecidableEq α] {n:Nat} [Eqs e n] [Flat e] (x:α) (ys:List α):memD (e x) (ys.map e)=some (decide (x∈ys)):=by
 unfold memD
 rw[zo ⟨Flat.f x,by rw[List.all_map];exact List.all_eq_true.mpr fun y _=>Flat.f y⟩,List.any_map]
 congr 1
 rw[kQ,List.any_eq_true,decide_eq_true_iff]
 constructor
 ·rintro⟨y,hy,h⟩
  simp only[Function.comp,Eqs.eq] at h
  by_cases e1:y=x
  ·rw[<-e1];exact hy
  ·simp only[e1,kc] at h
   cases h
 ·intro h
  exact⟨x,h,by simp only[Function.comp,Eqs.eq,kK]⟩
theorem afk {d:Dt} {ds:List Dt}:inB (.z d) (.z (.tup ds))=memD d ds:=by cases d<;>rfl
def Qj [DecidableEq α] {n:Nat} [Eqs e n] [Flat e] (a:R fa ρ (zE e)) (b:R fb ρ (zE (eT e))):R (b2 inF fa fb) ρ (zE eB):=⟨decide (a.v∈b.v),bK a.D b.D,fun h=>by
 obtain⟨h1,h2⟩:=aG h
 simp only[b2,a.ok h1,b.ok h2,bnd,inF,afk,acz]⟩
def agb (a:R fa ρ (zE eS)) (b:R fb ρ (zE eS)):R (b2 inF fa fb) ρ (zE eB):=⟨Ul a.v b.v,bK a.D b.D,fun h=>by
 obtain⟨h1,h2⟩:=aG h
 simp only[b2,a.ok h1,b.ok h2,bnd,inF,inB]⟩
end
structure AR {γ:Type} (cA:γ->List Bx->Prop) (fs:Ev->Option (List Bx)) (ρ:Ev) where
 v:γ
 D:Option Prop
 bs:List Bx
 h:cA v bs
 ok:hold D->fs ρ=some bs
section
variable {α β γ δ ε σ:Type} {ρ:Ev} {f fa fb fc fd:Ev->Option Bx} {p q:Ev->Option Bool} {fs:Ev->Option (List Bx)} {e:α->Dt} {e':β->Dt} {e'':γ->Dt} {e3:δ->Dt}
def aN:Unit->List Bx->Prop:=fun _ bs=>bs=[]
def aZ (e:α->Dt) (t:γ->List Bx->Prop):α×γ->List Bx->Prop:=fun x bs=>∃ r,bs=.z (e x.1)::r/\t x.2 r
def aL (e:α->Dt) (t:γ->List Bx->Prop):List α×γ->List Bx->Prop:=fun x bs=>∃ b r,bs=b::r/\xP b=some (x.1.map e)/\t x.2 r
def bC:AR aN aC ρ:=⟨(),none,[],rfl,fun _=>rfl⟩
def cL {t:γ->List Bx->Prop} (a:R fa ρ (zE e)) (r:AR t fs ρ):AR (aZ e t) (ak fa fs) ρ:=⟨(a.v,r.v),bK a.D r.D,_,⟨_,rfl,r.h⟩,fun h=>by
 obtain⟨h1,h2⟩:=aG h
 simp only[ak,a.ok h1,r.ok h2,bnd]⟩
def Jx {t:γ->List Bx->Prop} (a:RL fa ρ e) (r:AR t fs ρ):AR (aL e t) (ak fa fs) ρ:=⟨(a.v,r.v),bK a.D r.D,_,⟨_,_,rfl,a.lk,r.h⟩,fun h=>by
 obtain⟨h1,h2⟩:=aG h
 simp only[ak,a.ok h1,r.ok h2,bnd]⟩
def x_call {cA:γ->List Bx->Prop} {F:List Bx->Option Bx} {n:Nat} {c:α->Bx} {T:γ->α} {Df:γ->Option Prop} (S:∀ v bs,cA v bs->bs.length=n/\(hold (Df v)->F (bs.map lend)=some (c (T v)))) (a:AR cA fs ρ):R (bH n F fs) ρ c:=⟨T a.v,bK a.D (Df a.v),fun h=>by
 obtain⟨h1,h2⟩:=aG h
 obtain⟨h3,h4⟩:=S a.v a.bs a.h
 simp only[bH,a.ok h1,bnd,zo h3,h4 h2]⟩
theorem acA {g:Ev->Option Out} {n:Nat} {bs:List Bx} {c:α->Bx} (x:R g (bs.map some++List.replicate (n - bs.length) none) (fun r=>Out.rt (c r))) (h:hold x.D):fu n g bs=some (c x.v):=by
 unfold fu
 rw[x.ok h]
 rfl
variable {fi:Ev->Option (List Dt)} {gt:Dt->Ev->Option Ev} {fe:Ev->Option Bx} {is:List Nat} {n:Nat}
def alG (xs:List α) (P:α->Option Prop):Option Prop:=some (∀ x∈xs,hold (P x))
theorem Vc {fs:Ev->Option (List Dt)} {ρ1:Ev} {g:α->List Dt} {π:α->Bool}:∀ xs:List α,(∀ x∈xs,∃ ρ2,gt (e x) ρ1=some ρ2/\p ρ2=some (π x)/\(π x=true->fs ρ2=some (g x)))->Jt gt p fs ρ1 (xs.map e)=some ((xs.filter π).flatMap g)
 |[],_=>rfl
 |x::xs,h=>by
  obtain⟨ρ2,h1,h2,h3⟩:=h x (zt ..)
  have ih:=Vc (g:=g) (π:=π) xs fun y hy=>h y (zl _ hy)
  cases hp:π x with
  |true=>simp only[zz,Jt,h1,bnd,h2,hp,qB,h3 hp,ih,KP,List.flatMap_cons]
  |false=>simp only[zz,Jt,h1,bnd,h2,hp,ih,KP,zk,ZH]
theorem Vd {g:α->β}:∀ xs:List α,xs.flatMap (fun x=>[e' (g x)])=(xs.map g).map e'
 |[]=>rfl
 |x::xs=>by rw[List.flatMap_cons,Vd xs];rfl
theorem acB {ρ1:Ev} {g:α->β} {π:α->Bool} (xs:List α) (h:∀ x∈xs,∃ ρ2,gt (e x) ρ1=some ρ2/\p ρ2=some (π x)/\(π x=true->fe ρ2=some (.z (e' (g x))))):Pq gt p fe ρ1 (xs.map e)=some (((xs.filter π).map g).map e'):=by
 rw[<-Vd]
 exact Vc xs fun x hx=>let ⟨ρ2,h1,h2,h3⟩:=h x hx;⟨ρ2,h1,h2,fun hp=>by rw[h3 hp];rfl⟩
theorem comp_map {ρ1:Ev} {g:α->β} (xs:List α) (h:∀ x∈xs,∃ ρ2,gt (e x) ρ1=some ρ2/\fe ρ2=some (.z (e' (g x)))):Pq gt jM fe ρ1 (xs.map e)=some ((xs.map g).map e'):=
 (acB (π:=fun _=>true) xs fun x hx=>let ⟨ρ2,h1,h2⟩:=h x hx;⟨ρ2,h1,rfl,fun _=>h2⟩).trans (by rw[List.filter_eq_self.mpr fun _ _=>rfl])
def ji (it:R fi ρ (iE e)) (ρ2:α->Ev) (hg:∀ x,gt (e x) (uD is ρ++List.replicate n none)=some (ρ2 x)) (b:∀ x,R fe (ρ2 x) (zE e')):R (dW fi gt jM fe is n) ρ (oE e'):=⟨it.v.map fun x=>(b x).v,bK (bK it.D (some (it.v.length<=100000))) (alG it.v fun x=>(b x).D),fun h=>by
 obtain⟨h,h3⟩:=aG h
 obtain⟨h1,h2⟩:=aG h
 have h3:∀ x∈it.v,hold (b x).D:=h3
 simp only[dW,it.ok h1,bnd,zh,zo (show it.v.length<=100000 from h2),comp_map it.v fun x hx=>⟨ρ2 x,hg x,(b x).ok (h3 x hx)⟩]⟩
def Kc (it:R fi ρ (iE e)) (ρ2:α->Ev) (hg:∀ x,gt (e x) (uD is ρ++List.replicate n none)=some (ρ2 x)) (b:∀ x,R fe (ρ2 x) (zE e')) (hb:∀ x,(b x).D=none):R (dW fi gt jM fe is n) ρ (oE e'):=⟨it.v.map fun x=>(b x).v,bK it.D (some (it.v.length<=100000)),fun h=>by
 obtain⟨h1,h2⟩:=aG h
 simp only[dW,it.ok h1,bnd,zh,zo (show it.v.length<=100000 from h2),comp_map it.v fun x hx=>⟨ρ2 x,hg x,(b x).ok (by rw[hb x];trivial)⟩]⟩
def ahL (a:RL fa ρ e):R (Bj fa) ρ (iE e):=⟨a.v,a.D,fun h=>by
 have:abt a.b=some (a.v.map e):=by
  have:=a.lk
  revert this
  generalize a.b=b
  generalize a.v.map e=ds
  intro this
  cases b with
  |z d=>cases d<;>cases this;rfl
  |l d=>cases this;rfl
  |o d=>cases this;rfl
  |n d=>cases this
  |m d _=>cases this
 simp only[Bj,a.ok h,bnd,this]⟩
def chars (x:Str):LS_:=x.cps.toList.map fun c=>⟨#[c]⟩
theorem Fd (x:Str):signs x=(chars x).map eS:=by
 unfold signs chars
 rw[qh]
 rfl
def alH (a:R fa ρ (zE eS)):R (Bj fa) ρ (iE eS):=⟨chars a.v,a.D,fun h=>by simp only[Bj,a.ok h,bnd,abt,Fd]⟩
def kE:Dt->List Dt
 |.tup ds=>ds
 |.lst ds=>ds
 |.str x=>signs x
 |_=>[]
def CZ (a:R fa ρ (zE eD)):R (Bj fa) ρ (iE eD):=⟨kE a.v,bK a.D (some (mY a.v=true)),fun h=>by
 obtain⟨h,h4⟩:=aG h
 have h4:mY a.v=true:=h4
 simp only[Bj,a.ok h,bnd]
 cases hv:a.v<;>rw[hv] at h4<;>first|(cases h4;done)|(simp only[abt,kE,iE,eD,List.map_id_fun',id])⟩
def ajB (a:R fa ρ (oE e)):R (itF fa) ρ (iE e):=⟨a.v,a.D,fun h=>by simp only[itF,a.ok h,bnd,aer]⟩
def rng (i:Int) (n:Nat):List Int:=(List.range n).map fun k:Nat=>i+(k:Int)
theorem Yw (i:Int) (n:Nat):Ro i n=(rng i n).map eI:=by
 unfold Ro rng
 rw[qh]
 rfl
def Rg (j:Int):Prop:=-4611686018427387904<=j/\j < 4611686018427387904
def Ja (a:R fa ρ (zE eI)):R (PJ (ak fa aC)) ρ (iE eI):=⟨rng 0 a.v.toNat,bK a.D (some (Rg a.v)),fun h=>by
 obtain⟨h,h4⟩:=aG h
 simp only[PJ,ak,aC,a.ok h,bnd]
 show (if -(2 ^ 62)<=a.v/\a.v < 2 ^ 62 then some (Ro 0 a.v.toNat) else none)=_
 exact (zo h4).trans (by rw[Yw])⟩
def ahM (n:Int) (m:Nat) (hm:n.toNat=m) (hn:Rg n):R (PJ (ak (cB (.int n)) aC)) ρ (iE eI):=⟨rng 0 m,none,fun _=>by
 simp only[PJ,ak,aC,bnd,cB]
 show (if -(2 ^ 62)<=n/\n < 2 ^ 62 then some (Ro 0 n.toNat) else none)=_
 exact (zo hn).trans (by rw[Yw,hm])⟩
end
section
variable {α β γ δ ε σ τ:Type} {ρ:Ev} {f fa fb fc fd:Ev->Option Bx} {p q:Ev->Option Bool} {fs:Ev->Option (List Bx)} {e:α->Dt} {e':β->Dt} {g g1 g2 k:Ev->Option Out} {cO:γ->Out} {gt:Dt->Ev->Option Ev}
theorem z7 {ρ':Ev} (h:g1 ρ=some (.nx ρ')):aK g1 k ρ=k ρ':=by
 unfold aK
 rw[h]
 rfl
def dD (x:R (aK g (aK g1 k)) ρ cO):R (aK (aK g g1) k) ρ cO:=⟨x.v,x.D,fun h=>by
 rw[<-x.ok h]
 unfold aK
 cases g ρ with
 |none=>rfl
 |some o=>cases o<;>rfl⟩
def fB (x:R k ρ cO):R (aK gq k) ρ cO:=⟨x.v,x.D,fun h=>x.ok h⟩
def jN {is:List Nat} (x:γ) (h:cO x=.nx (kill is ρ)):R (oh is) ρ cO:=⟨x,none,fun _=>by rw[h];rfl⟩
def cP {c:α->Bx} (inj:α->γ) (a:R f ρ c) (h:∀ x,cO (inj x)=.rt (c x)) (hc:∀ x,abl (c x)=some (.rt (c x))):R (aK (eX f) k) ρ cO:=⟨inj a.v,a.D,fun hd=>by
 have:eX f ρ=some (.rt (c a.v)):=by unfold eX;rw[a.ok hd,bnd,hc]
 unfold aK
 rw[this,h]
 rfl⟩
def Xc {c:α->Bx} (i:Nat) (inj:α->γ) (a:α) (hi:ρ[i]?=some (some (c a))) (h:∀ x,cO (inj x)=.rt (c x)) (hc:∀ x,abl (c x)=some (.rt (c x))):R (aK (Kr i) k) ρ cO:=⟨inj a,none,fun hd=>by
 have:Kr i ρ=some (.rt (c a)):=by unfold Kr;rw[hi];exact hc a
 unfold aK
 rw[this,h]
 rfl⟩
def cj {c:α->Bx} (i:Nat) (a:R f ρ c) (hc:∀ x,abm ρ i (c x)=some (ρ.set i (some (c x)))) (K:∀ x,R k (ρ.set i (some (c x))) cO):R (aK (setG i f) k) ρ cO:=⟨(K a.v).v,bK a.D (K a.v).D,fun hd=>by
 obtain⟨h1,h2⟩:=aG hd
 rw[z7 (ρ':=ρ.set i (some (c a.v))) (by unfold setG;rw[a.ok h1,bnd,hc,bnd])]
 exact (K a.v).ok h2⟩
def Yx (a:R f ρ (zE e)) (ρ2:α->Ev) (hg:∀ x,gt (e x) ρ=some (ρ2 x)) (K:∀ x,R k (ρ2 x) cO):R (aK (ZC gt f) k) ρ cO:=⟨(K a.v).v,bK a.D (K a.v).D,fun hd=>by
 obtain⟨h1,h2⟩:=aG hd
 rw[z7 (ρ':=ρ2 a.v) (by unfold ZC;rw[a.ok h1,bnd];simp only[hg,bnd])]
 exact (K a.v).ok h2⟩
def agc (i j:Nat) (a:R fa ρ (zE e)) (b:R fb ρ (zE e')) (K:∀ x y,R k ((ρ.set i (some (.z (e x)))).set j (some (.z (e' y)))) cO):R (aK (aeH i j (ak fa (ak fb aC))) k) ρ cO:=⟨(K a.v b.v).v,bK (bK a.D b.D) (K a.v b.v).D,fun hd=>by
 obtain⟨h1,h3⟩:=aG hd
 obtain⟨h1,h2⟩:=aG h1
 rw[z7 (ρ':=(ρ.set i (some (.z (e a.v)))).set j (some (.z (e' b.v)))) (by unfold aeH;simp only[ak,aC,a.ok h1,b.ok h2,bnd,aeo])]
 exact (K a.v b.v).ok h3⟩
def Fe (i:Nat) (xs:List α) (hi:ρ[i]?=some (some (.o (xs.map e)))) (a:R f ρ (zE e)) (K:∀ ys:List α,R k (ρ.set i (some (.o (ys.map e)))) cO):R (aK (CK i f) k) ρ cO:=⟨(K (xs++[a.v])).v,bK (bK a.D (some (p7 xs.length))) (K (xs++[a.v])).D,fun hd=>by
 obtain⟨h1,h3⟩:=aG hd
 obtain⟨h1,h2⟩:=aG h1
 have h2:xs.length<=1000000:=h2
 rw[z7 (ρ':=ρ.set i (some (.o ((xs++[a.v]).map e)))) (by
  unfold CK
  rw[a.ok h1,bnd]
  simp only[aep,hi,zh,qv,zz,JE]
  rw[zo (Kk h2 (by decide))])]
 exact (K _).ok h3⟩
def oA (t:R p ρ tE) (a:R (aK g1 k) ρ cO) (b:R (aK g2 k) ρ cO):R (aK (Bf p g1 g2) k) ρ cO:=⟨if t.v=true then a.v else b.v,bK t.D (bK (RW (t.v=true) a.D) (RW (t.v=false) b.D)),fun hd=>by
 obtain⟨h1,h2⟩:=aG hd
 obtain⟨h2,h3⟩:=aG h2
 have e1:∀ c,t.v=c->aK (Bf p g1 g2) k ρ=aK (if c=true then g1 else g2) k ρ:=fun c hc=>by
  unfold aK Bf
  rw[t.ok h1,bnd,hc]
  cases c<;>rfl
 cases hv:t.v with
 |true=>rw[e1 true hv];simp only[qB];exact a.ok (q8 h2 hv)
 |false=>rw[e1 false hv];simp only[zk,ZH];exact b.ok (q8 h3 hv)⟩
def Yy (E:σ->Ev) (t:R p ρ tE) (a:R g1 ρ (fun s=>Out.nx (E s))) (b:R g2 ρ (fun s=>Out.nx (E s))) (K:∀ s,R k (E s) cO):R (aK (Bf p g1 g2) k) ρ cO:=⟨(K (if t.v=true then a.v else b.v)).v,bK (bK t.D (bK (RW (t.v=true) a.D) (RW (t.v=false) b.D))) (K (if t.v=true then a.v else b.v)).D,fun hd=>by
 obtain⟨h,h4⟩:=aG hd
 obtain⟨h1,h2⟩:=aG h
 obtain⟨h2,h3⟩:=aG h2
 rw[z7 (ρ':=E (if t.v=true then a.v else b.v)) (by
  unfold Bf
  rw[t.ok h1,bnd]
  cases hv:t.v with
  |true=>simp only[qB];exact a.ok (q8 h2 hv)
  |false=>simp only[zk,ZH];exact b.ok (q8 h3 hv))]
 exact (K _).ok h4⟩
def Lf (step:σ->α->σ) (P:σ->α->Option Prop):List α->σ->Prop
 |[],_=>True
 |x::xs,s=>hold (P s x)/\Lf step P xs (step s x)
theorem Lg {gb:Ev->Option Out} (E:σ->Ev) (ρ2:σ->α->Ev) (hg:∀ s x,gt (e x) (E s)=some (ρ2 s x)) (body:∀ s x,R gb (ρ2 s x) (fun s=>Out.nx (E s))):∀ (xs:List α) (s:σ),Lf (fun s x=>(body s x).v) (fun s x=>(body s x).D) xs s->zH gt gb (xs.map e) (E s)=some (.nx (E (xs.foldl (fun s x=>(body s x).v) s)))
 |[],s,_=>rfl
 |x::xs,s,h=>by
  simp only[zz,zH,hg,bnd,(body s x).ok h.1,List.foldl_cons]
  exact Lg E ρ2 hg body xs _ h.2
variable {fi:Ev->Option (List Dt)} {gb:Ev->Option Out}
def Ve (E:σ->Ev) (s0:σ) (hE:ρ=E s0) (it:R fi ρ (iE e)) (ρ2:σ->α->Ev) (hg:∀ s x,gt (e x) (E s)=some (ρ2 s x)) (body:∀ s x,R gb (ρ2 s x) (fun s=>Out.nx (E s))) (K:∀ s,R k (E s) cO):R (aK (CN fi gt gb) k) ρ cO:=⟨(K (it.v.foldl (fun s x=>(body s x).v) s0)).v,bK (bK it.D (some (Lf (fun s x=>(body s x).v) (fun s x=>(body s x).D) it.v s0))) (K (it.v.foldl (fun s x=>(body s x).v) s0)).D,fun hd=>by
 obtain⟨h,h4⟩:=aG hd
 obtain⟨h1,h2⟩:=aG h
 rw[z7 (ρ':=E (it.v.foldl (fun s x=>(body s x).v) s0)) (by
  unfold CN
  rw[it.ok h1,bnd]
  subst hE
  exact Lg E ρ2 hg body it.v s0 h2)]
 exact (K _).ok h4⟩
def ahN (E:σ->Ev) (s0:σ) (hE:ρ=E s0) (it:R fi ρ (iE e)) (ρ2:σ->α->Ev) (hg:∀ s x,gt (e x) (E s)=some (ρ2 s x)) (body:∀ s x,R gb (ρ2 s x) (fun s=>Out.nx (E s))) (hb:∀ s x,(body s x).D=none) (K:∀ s,R k (E s) cO):R (aK (CN fi gt gb) k) ρ cO:=⟨(K (it.v.foldl (fun s x=>(body s x).v) s0)).v,bK it.D (K (it.v.foldl (fun s x=>(body s x).v) s0)).D,fun hd=>by
 obtain⟨h1,h4⟩:=aG hd
 have h2:∀ (xs:List α) (s:σ),Lf (fun s x=>(body s x).v) (fun s x=>(body s x).D) xs s:=fun xs=>by
  induction xs with
  |nil=>intro s;trivial
  |cons x xs ih=>intro s;exact⟨by show hold (body s x).D;rw[hb s x];trivial,ih _⟩
 rw[z7 (ρ':=E (it.v.foldl (fun s x=>(body s x).v) s0)) (by
  unfold CN
  rw[it.ok h1,bnd]
  subst hE
  exact Lg E ρ2 hg body it.v s0 (h2 _ _))]
 exact (K _).ok h4⟩
inductive Wi (σ τ:Type) where
 |nx (s:σ)|rt (r:τ)|bk (s:σ)|ct (s:σ)
def cC (E:σ->Ev) (c:τ->Bx):Wi σ τ->Out
 |.nx s=>.nx (E s)
 |.rt r=>.rt (c r)
 |.bk s=>.bk (E s)
 |.ct s=>.ct (E s)
def Dc (step:σ->α->Wi σ τ):List α->σ->Wi σ τ
 |[],s=>.nx s
 |x::xs,s=>match step s x with
  |.nx s'=>Dc step xs s'
  |.ct s'=>Dc step xs s'
  |.bk s'=>.nx s'
  |.rt r=>.rt r
def Qk (step:σ->α->Wi σ τ) (P:σ->α->Option Prop):List α->σ->Prop
 |[],_=>True
 |x::xs,s=>hold (P s x)/\match step s x with
  |.nx s'=>Qk step P xs s'
  |.ct s'=>Qk step P xs s'
  |.bk _=>True
  |.rt _=>True
theorem R5 {c:τ->Bx} (E:σ->Ev) (ρ2:σ->α->Ev) (hg:∀ s x,gt (e x) (E s)=some (ρ2 s x)) (body:∀ s x,R gb (ρ2 s x) (cC E c)):∀ (xs:List α) (s:σ),Qk (fun s x=>(body s x).v) (fun s x=>(body s x).D) xs s->zH gt gb (xs.map e) (E s)=some (cC E c (Dc (fun s x=>(body s x).v) xs s))
 |[],s,_=>rfl
 |x::xs,s,h=>by
  obtain⟨h1,h2⟩:=h
  dsimp only at h2
  simp only[zz,zH,hg,bnd,(body s x).ok h1,Dc]
  revert h2
  cases (body s x).v with
  |nx s'=>intro h2;exact R5 E ρ2 hg body xs s' h2
  |ct s'=>intro h2;exact R5 E ρ2 hg body xs s' h2
  |bk s'=>intro _;rfl
  |rt r=>intro _;rfl
theorem Lh (step:σ->α->Wi σ τ):∀ (xs:List α) (s:σ),(∃ s',Dc step xs s=.nx s')\/∃ r,Dc step xs s=.rt r
 |[],s=>.inl ⟨s,rfl⟩
 |x::xs,s=>by
  unfold Dc
  cases step s x with
  |nx s'=>exact Lh step xs s'
  |ct s'=>exact Lh step xs s'
  |bk s'=>exact .inl ⟨s',rfl⟩
  |rt r=>exact .inr ⟨r,rfl⟩
def behind (r:Wi σ τ) (inj:τ->γ) (K:σ->γ):γ:=match r with
 |.rt r=>inj r
 |.nx s=>K s
 |.bk s=>K s
 |.ct s=>K s
def Yz (r:Wi σ τ) (K:σ->Prop):Prop:=match r with
 |.rt _=>True
 |.nx s=>K s
 |.bk s=>K s
 |.ct s=>K s
def afl (r:Wi σ τ) (K:σ->Option Prop):Option Prop:=some (Yz r fun s=>hold (K s))
def R.to {α β:Type} {f:Ev->Option β} {ρ:Ev} {c:α->β} (x:R f ρ c) (v':α) (D':Option Prop) (hv:x.v=v':=by kernel_rfl) (hD:x.D=D':=by kernel_rfl):R f ρ c:=⟨v',D',fun h=>by
 subst hv hD
 exact x.ok h⟩
theorem ahO {i:Nat} {ds:List Dt} (h:ρ[i]?=some (some (.o ds))):Oa i gt gb ρ=zH gt gb ds (ρ.set i (some (.l ds))):=by unfold Oa;rw[h]
def afm {c:τ->Bx} (i:Nat) {ρ':Ev} (xs:List α) (hv:Oa i gt gb ρ=zH gt gb (xs.map e) ρ') (E:σ->Ev) (s0:σ) (hE:ρ'=E s0) (ρ2:σ->α->Ev) (hg:∀ s x,gt (e x) (E s)=some (ρ2 s x)) (body:∀ s x,R gb (ρ2 s x) (cC E c)) (inj:τ->γ) (hj:∀ r,cO (inj r)=.rt (c r)) (K:∀ s,R k (E s) cO):R (aK (Oa i gt gb) k) ρ cO:=⟨behind (Dc (fun s x=>(body s x).v) xs s0) inj fun s=>(K s).v,bK (some (Qk (fun s x=>(body s x).v) (fun s x=>(body s x).D) xs s0)) (afl (Dc (fun s x=>(body s x).v) xs s0) fun s=>(K s).D),fun hd=>by
 obtain⟨h2,h4⟩:=aG hd
 have e1:Oa i gt gb ρ=some (cC E c (Dc (fun s x=>(body s x).v) xs s0)):=by
  rw[hv,hE]
  exact R5 E ρ2 hg body xs s0 h2
 rcases Lh (fun s x=>(body s x).v) xs s0 with⟨s',es⟩|⟨r,es⟩
 ·rw[es] at e1 h4 ⊢
  rw[z7 e1]
  exact (K s').ok h4
 ·rw[es] at e1 ⊢
  show aK (Oa i gt gb) k ρ=some (cO (inj r))
  unfold aK
  rw[e1,hj]
  rfl⟩
class Ky {κ:Type} (c:κ->Key):Prop where
 inj:∀ a b,c a=c b->a=b
abbrev kS:Str->Key:=Sum.inr
abbrev kI:Int->Key:=Sum.inl
instance:Ky kS:=⟨fun _ _ h=>by cases h;rfl⟩
instance:Ky kI:=⟨fun _ _ h=>by cases h;rfl⟩
section
variable {κ:Type} [DecidableEq κ] {c:κ->Key}
def has (m:List (κ×α)) (x:κ):Bool:=m.any fun q=>decide (q.1=x)
def put (m:List (κ×α)) (x:κ) (a:α):List (κ×α):=if has m x=true then m.map (fun q=>if q.1=x then (q.1,a) else q) else m++[(x,a)]
end
end
section
variable {α β:Type} {ρ:Ev} {fa f:Ev->Option Bx} {fs:Ev->Option LS_} {fi:Ev->Option (List Dt)} {e:α->Dt}
abbrev sE:LS_->LS_:=fun ys=>ys
theorem Fg {b:Bx} {ds:List Dt} (h:xP b=some ds):vU b=some ds:=by
 cases b with
 |z d=>cases d<;>first|exact h|(cases h;done)
 |l _=>exact h
 |o _=>exact h
 |n _=>cases h
 |m _ _=>cases h
def ajC (a:RL fa ρ eS):R (RQ fa) ρ sE:=⟨a.v,a.D,fun h=>by
 simp only[RQ,a.ok h,bnd,U6,Fg a.lk,strs_map]⟩
def ahP (a:R fs ρ sE):R (Ew fs) ρ (zE eI):=⟨((wQ a.v).length:Int),bK a.D (some (a.v.length < 4000)),fun h=>by
 obtain⟨h,h4⟩:=aG h
 simp only[Ew,a.ok h,bnd]
 exact zo h4⟩
theorem agd (n:Nat):∃ m,m=n:=⟨n,rfl⟩
noncomputable def kN (n:Nat):Nat:=Classical.choose (agd n)
theorem acC (n:Nat):kN n=n:=Classical.choose_spec (agd n)
noncomputable def acD (n:Int) (m:Nat) (hm:n.toNat=m) (hn:Rg n):R (PJ (ak (cB (.int n)) aC)) ρ (iE eI):=⟨rng 0 (kN m),none,fun h=>by rw[acC];exact (ahM n m hm hn).ok h⟩
end
end P1
end
section
namespace P1
open PySem PySem.Spec PyProof.Rows L2 S1 S6
class uP {α:Type} (e:α->Dt) where
 k:α->Key
 ok:∀ a,ahw (e a)=some (k a)
 inj:∀ a b,k a=k b->a=b
 same:∀ a b,Uu (k a) (k b)=true
instance:uP eI:=⟨fun i=>.inl i,fun _=>rfl,fun a b h=>by cases h;rfl,fun _ _=>rfl⟩
instance:uP eS:=⟨fun i=>.inr i,fun _=>rfl,fun a b h=>by cases h;rfl,fun _ _=>rfl⟩
class mR {α:Type} (e:α->Dt) where
 k:α->List Key
 ok:∀ a,Iw (e a)=some (k a)
 inj:∀ a b,k a=k b->a=b
 shp:∀ a b,Uy (k a) (k b)=true
 ne:∀ a,(k a).isEmpty=false
class Z9 {α:Type} (e:α->Dt) [mR e]:Prop where
 tx:∀ a,Va (mR.k e a)=true
section
variable {α β γ δ:Type} {e:α->Dt} {e':β->Dt} {e'':γ->Dt} {e3:δ->Dt}
instance [uP e] [uP e']:mR (eP2 e e'):=⟨fun q=>[uP.k e q.1,uP.k e' q.2],fun q=>by simp only[Iw,Qc,uP.ok,bnd],fun a b h=>by
 simp only[j0,and_true] at h
 exact Prod.ext (uP.inj _ _ h.1) (uP.inj _ _ h.2),fun a b=>by simp[Uy,uP.same],fun _=>rfl⟩
instance [uP e] [uP e'] [uP e'']:mR (eP3 e e' e''):=⟨fun q=>[uP.k e q.1,uP.k e' q.2.1,uP.k e'' q.2.2],fun q=>by simp only[Iw,Qc,uP.ok,bnd],fun a b h=>by
 simp only[j0,and_true] at h
 exact Prod.ext (uP.inj _ _ h.1) (Prod.ext (uP.inj _ _ h.2.1) (uP.inj _ _ h.2.2)),fun a b=>by simp[Uy,uP.same],fun _=>rfl⟩
instance [uP e] [uP e'] [uP e''] [uP e3]:mR (eP4 e e' e'' e3):=⟨fun q=>[uP.k e q.1,uP.k e' q.2.1,uP.k e'' q.2.2.1,uP.k e3 q.2.2.2],fun q=>by simp only[Iw,Qc,uP.ok,bnd],fun a b h=>by
 simp only[j0,and_true] at h
 exact Prod.ext (uP.inj _ _ h.1) (Prod.ext (uP.inj _ _ h.2.1) (Prod.ext (uP.inj _ _ h.2.2.1) (uP.inj _ _ h.2.2.2))),fun a b=>by simp[Uy,uP.same],fun _=>rfl⟩
instance [uP e]:Z9 (eP2 e eS):=⟨fun a=>by simp[mR.k,Va,uP.k]⟩
instance [uP e] [uP e']:Z9 (eP3 e eS e'):=⟨fun a=>by simp[mR.k,Va,uP.k]⟩
instance [uP e] [uP e'] [uP e'']:Z9 (eP4 e eS e' e''):=⟨fun a=>by simp[mR.k,Va,uP.k]⟩
variable {ρ:Ev} {fa f:Ev->Option Bx} {fs:Ev->Option (List (List Key))}
theorem Dd [mR e]:∀ xs:List α,CV (xs.map e)=some (xs.map (mR.k e))
 |[]=>rfl
 |x::xs=>by simp only[zz,CV,mR.ok,bnd,Dd xs]
def leT (e:α->Dt) [mR e] (a b:α):Bool:=BW (mR.k e a) (mR.k e b)
def Xd (e:α->Dt) [mR e] (a b:α):Bool:=lU (mR.k e a) (mR.k e b)
def o9 (e:α->Dt) [mR e] (xs:List α):List α:=xs.mergeSort (leT e)
theorem qw [mR e] (xs:List α):(o9 e xs).Perm xs:=List.mergeSort_perm ..
theorem Dg [mR e] (xs:List α):(o9 e xs).Pairwise (fun a b=>leT e a b=true):=KU (le:=leT e) (fun a b c=>KR (mR.k e a) (mR.k e b) (mR.k e c)) (fun a b=>KY (mR.k e a) (mR.k e b)) xs
theorem acE [mR e] {a b:α} (h:leT e a b=true) (h':leT e b a=true):a=b:=mR.inj _ _ (PN h h')
theorem acF [mR e] {xs out:List α} (hp:out.Perm xs) (hs:out.Pairwise (fun a b=>leT e a b=true)):out=o9 e xs:=zT (fun _ _=>acE) (hp.trans (qw xs).symm) hs (Dg xs)
theorem Ql [mR e] (xs:List α):qp (xs.map (mR.k e))=(o9 e xs).map (mR.k e):=by
 refine (Bl ((qw xs).map _) (List.pairwise_map.mpr (Dg xs))).symm
theorem acG [mR e] (xs:List α):(xs.map (mR.k e)).map tupK=xs.map e:=by
 rw[qh]
 exact ZO fun a _=>(tR (mR.ok a)).symm
theorem Vf [mR e] (xs:List α) (h:xs.length < 64):Od (xs.map (mR.k e))=true:=by
 simp only[Od,zv,zS,QU,Q3,zh,List.mem_map,forall_exists_index,and_imp,forall_apply_eq_imp_iff₂]
 exact⟨h,fun a _=>mR.ne a,fun a _ b _=>mR.shp a b⟩
def ahQ [mR e] (a:RL fa ρ e):R (aP GQ (ak fa aC)) ρ (oE e):=⟨o9 e a.v,bK a.D (some (a.v.length < 64)),fun h=>by
 obtain⟨h,h4⟩:=aG h
 simp only[aP,ak,aC,a.ok h,bnd,GQ,Fg a.lk,Dd,Vf a.v h4,qB,Ql,acG]⟩
abbrev uE (e:α->Dt) [mR e]:List α->List (List Key):=fun xs=>xs.map (mR.k e)
def R6 [mR e] [Z9 e] (a:RL fa ρ e):R (RT fa) ρ (uE e):=⟨a.v,bK a.D (some (a.v.length<=64)),fun h=>by
 obtain⟨h,h4⟩:=aG h
 have h4:a.v.length<=64:=h4
 have ht:(a.v.map (mR.k e)).all Va=true:=by
  rw[List.all_map,QU];exact fun x _=>Z9.tx x
 simp only[RT,a.ok h,bnd,af3,Fg a.lk,Dd]
 rw[zo ⟨by rw[zh];exact h4,ht⟩]⟩
def acH [DecidableEq α] [mR e] (a:R fs ρ (uE e)):R (Vb fs) ρ (zE eI):=⟨((Dy a.v).length:Int),bK a.D (some (a.v.length<=64)),fun h=>by
 obtain⟨h,h4⟩:=aG h
 have h4:a.v.length<=64:=h4
 simp only[Vb,a.ok h,bnd]
 rw[zo (by rw[zh];exact h4),Ka mR.inj,zh]⟩
def acI [DecidableEq α] [mR e] (a:R fs ρ (uE e)):R (La fs) ρ (oE e):=⟨o9 e (Dy a.v),bK a.D (some (a.v.length < 64)),fun h=>by
 obtain⟨h,h4⟩:=aG h
 simp only[La,a.ok h,bnd,Vf a.v h4,qB,Ka mR.inj,Ql,acG]⟩
end
end P1
end
section
namespace P1
open PySem PySem.Spec PyProof.Rows L2
section
variable {α β γ:Type} {ρ:Ev} {fa fb fd f fk fv:Ev->Option Bx} {fs:Ev->Option (List Bx)} {fi:Ev->Option (List Dt)} {e:α->Dt} {e':β->Dt} {g k:Ev->Option Out} {cO:γ->Out} {gt:Dt->Ev->Option Ev} {p:Ev->Option Bool} {is:List Nat} {n:Nat}
end
section
variable {α:Type} {ρ:Ev} {fa fb:Ev->Option Bx} {e:α->Dt}
end
end P1
end
section
namespace P1
open PySem PySem.Spec PyProof.Rows L2 S1 S6
section
variable {ρ:Ev} {fa:Ev->Option Bx}
end
section
variable {α:Type} {ρ:Ev} {f:Ev->Option Bx} {e:α->Dt}
theorem map_some (e:α->Dt) (xs:List α):(xs.map some).map (eO e)=xs.map e:=by rw[qh];rfl
end
end P1
end
section
namespace P1
open PySem PySem.Spec PyProof.Rows L2
section
variable {α:Type} {k g:Ev->Option Out} {ρ:Ev} {cO:α->Out}
end
section
variable {α:Type} {e:α->Dt} {ρ:Ev} {fa fb:Ev->Option Bx}
end
section
variable {σ τ γ:Type} {p:Ev->Option Bool} {gb k:Ev->Option Out} {ρ:Ev} {cO:γ->Out}
end
section
variable {α:Type} {e:α->Dt} {ρ:Ev} {fa:Ev->Option Bx}
end
section
variable {α β σ τ:Type}
theorem R7 {step:σ->α->σ} {P:σ->α->Option Prop} (I:Nat->σ->Prop):∀ (xs:List α) (m:Nat) (s0:σ),I m s0->(∀ k x s,xs[k]?=some x->I (m+k) s->hold (P s x)/\I (m+k+1) (step s x))->Lf step P xs s0/\I (m+xs.length) (xs.foldl step s0)
 |[],m,s0,h0,_=>⟨trivial,h0⟩
 |x::xs,m,s0,h0,hs=>by
  obtain⟨h1,h2⟩:=hs 0 x s0 rfl h0
  have:=R7 I xs (m+1) (step s0 x) h2 fun k y s e h=>by
   have:=hs (k+1) y s (by simpa using e) (by rw[show m+(k+1)=m+1+k by omega];exact h)
   rw[show m+(k+1)+1=m+1+k+1 by omega] at this
   exact this
  refine⟨⟨h1,this.1⟩,?_⟩
  rw[qi,show m+(xs.length+1)=m+1+xs.length by omega]
  exact this.2
theorem afn {i:Int} {n k:Nat} {x:Int} (h:(rng i n)[k]?=some x):x=i+k/\k < n:=by
 unfold rng at h
 rw[ZT] at h
 cases hk:(List.range n)[k]? with
 |none=>rw[hk] at h;cases h
 |some j=>
  rw[hk] at h
  have hl:k < n:=by simpa using (List.getElem?_eq_some_iff.mp hk).1
  have:j=k:=by
   rw[List.getElem?_range hl] at hk
   cases hk;rfl
  subst this
  cases h
  exact⟨rfl,hl⟩
theorem uQ (i:Int) (n:Nat):(rng i n).length=n:=by unfold rng;simp
theorem Fi {step:σ->Int->σ} {P:σ->Int->Option Prop} (I:Nat->σ->Prop) (n:Nat) (s0:σ) (h0:I 0 s0) (hs:∀ (k:Nat) s,k < n->I k s->hold (P s k)/\I (k+1) (step s k)):Lf step P (rng 0 n) s0/\I n ((rng 0 n).foldl step s0):=by
 have:=R7 (P:=P) I (rng 0 n) 0 s0 h0 fun k x s e h=>by
  obtain⟨rfl,hk⟩:=afn e
  rw[kR] at h ⊢
  rw[Int.zero_add]
  exact hs k s hk h
 rw[uQ,kR] at this
 exact this
theorem Vg {step:Unit->α->Wi Unit Bool} {P:Unit->α->Option Prop}:∀ xs:List α,(∀ x∈xs,hold (P () x)/\(step () x=.nx ()\/step () x=.ct ()))->Dc step xs ()=.nx ()/\Qk step P xs ()
 |[],_=>⟨rfl,trivial⟩
 |x::xs,h=>by
  obtain⟨h1,h2⟩:=h x (zt ..)
  have ih:=Vg (P:=P) xs fun y hy=>h y (zl _ hy)
  rcases h2 with h2|h2
  ·exact⟨by unfold Dc;rw[h2];exact ih.1,h1,by rw[h2];exact ih.2⟩
  ·exact⟨by unfold Dc;rw[h2];exact ih.1,h1,by rw[h2];exact ih.2⟩
theorem pq [Inhabited α] {xs:List α} {i:Int} (h:In xs.length i):at' xs i∈xs:=by
 obtain⟨x,hx⟩:=xT h
 unfold at'
 rw[hx]
 unfold N5 at hx
 obtain⟨j,_,hx⟩:=bind_some hx
 exact QP hx
theorem ahR [Inhabited α] {xs:List α} {k:Nat} {x:α} (h:xs[k]?=some x):at' xs (k:Int)=x:=by
 have hl:k < xs.length:=(List.getElem?_eq_some_iff.mp h).1
 unfold at' N5 ixN
 rw[zo (by omega),zo (by omega),bnd,KI,h]
 rfl
theorem R8 [Inhabited α] (xs:List α) (k:Nat) (h:k < xs.length):at' xs (k:Int)=xs[k]:=ahR (Zs h)
theorem in_of {n:Nat} {i:Int} (h0:0<=i) (h1:i < n):In n i:=⟨by omega,h1⟩
theorem acJ {n k:Nat} (h:k < n):In n (k:Int):=⟨by omega,by omega⟩
theorem mO {n:Nat} {x m:Int} (hm:0 < m) (h:m<=n):In n (x % m):=in_of (Int.emod_nonneg _ (by omega)) (Int.lt_of_lt_of_le (Int.emod_lt_of_pos _ hm) h)
theorem tY (x:Int) {m:Int} (hm:0 < m):0<=x % m/\x % m < m:=⟨Int.emod_nonneg _ (by omega),Int.emod_lt_of_pos _ hm⟩
theorem Vh {j:Int} (h0:0<=j) (h1:j<=1000000):Rg j:=⟨by omega,by omega⟩
theorem acK {a b:Int} (h0:0<=a) (h1:a < 18446744073709551616):Mul a b:=.inl ⟨by omega,h1⟩
theorem afo {xs:List α} {lo hi:Option Int} {x:α} (h:x∈cut xs lo hi):x∈xs:=List.mem_of_mem_drop (List.mem_of_mem_take h)
theorem YB (xs:List α) (lo hi:Option Int):(cut xs lo hi).length<=xs.length:=by
 unfold cut
 rw[kf,kg]
 omega
theorem Vi {xs:List α} {k:Nat} (h:k<=xs.length):cut xs (some (k:Int)) none=xs.drop k:=by
 unfold cut
 rw[HT.ad2,HT.aa2,Nat.min_eq_left h,List.take_of_length_le (by simp)]
theorem iR (x y:Str):(x++y).length=x.length+y.length:=by
 show (x.cps++y.cps).size=_
 rw[kB]
 rfl
theorem nH (x:Str) (i:Int):(ch x i).length=1:=rfl
theorem slice_le (x:Str) (l u:Option Int):(Txt.slice x l u).length<=x.length:=PyProof.Txt.length_slice_le x l u
theorem wR (x:Str):(chars x).length=x.length:=by unfold chars;rw[zh,ZE];rfl
theorem aac (x:Str):(signs x).length=x.length:=by rw[Fd,zh,wR]
end
section
variable {α γ:Type} [Inhabited α] {e:α->Dt} {ρ:Ev} {f:Ev->Option Bx} {k:Ev->Option Out} {cO:γ->Out}
end
section
variable {ρ:Ev} {fa:Ev->Option Bx}
end
section
variable {α γ:Type} {e:α->Dt} {ρ:Ev} {f:Ev->Option Bx} {k:Ev->Option Out} {cO:γ->Out}
end
section
variable {α β γ:Type} {e:α->Dt} {f fa fb:Ev->Option Bx} {k g:Ev->Option Out} {ρ:Ev} {cO:γ->Out}
end
section
variable {α:Type} {e:α->Dt} {f fa fb:Ev->Option Bx} {ρ:Ev}
end
section
variable {α β γ:Type} {e:α->Dt} {e':β->Dt} {fa fb:Ev->Option Bx} {ρ:Ev}
end
def RP {α β:Type} (f:Ev->Option β) (ρ:Ev) (c:α->β) (v:α) (D:Option Prop):Prop:=hold D->f ρ=some (c v)
theorem R.tp {α β:Type} {f:Ev->Option β} {ρ:Ev} {c:α->β} {v':α} {D':Option Prop} (x:R f ρ c) (hv:x.v=v':=by kernel_rfl) (hD:x.D=D':=by kernel_rfl):RP f ρ c v' D':=fun h=>by
 subst hv hD
 exact x.ok h
def RP.r {α β:Type} {f:Ev->Option β} {ρ:Ev} {c:α->β} {v:α} {D:Option Prop} (h:RP f ρ c v D):R f ρ c:=⟨v,D,h⟩
theorem len1 {α:Type} {p:List α->Prop} (h:∀ a,p [a]):∀ us:List α,us.length=1->p us
 |[a],_=>h a
theorem len2 {α:Type} {p:List α->Prop} (h:∀ a b,p [a,b]):∀ us:List α,us.length=2->p us
 |[a,b],_=>h a b
theorem afp {α:Type} {p:List α->Prop} (h:∀ a b c,p [a,b,c]):∀ us:List α,us.length=3->p us
 |[a,b,c],_=>h a b c
theorem alI {α:Type} {p:List α->Prop} (h:∀ a b c d e,p [a,b,c,d,e]):∀ us:List α,us.length=5->p us
 |[a,b,c,d,e],_=>h a b c d e
end P1
end
section
namespace P1
open PySem PySem.Spec PyProof.Rows L2 S1
section
variable {prog:Program} {w:World} {A:Around} {E:VP_} {s:Shared}
end
section
variable {X:Cx}
end
section
variable {fa:Ev->Option Bx} {ρ:Ev}
end
end P1
end
section
namespace P1
open PySem PySem.Spec PyProof.Rows L2
section
variable {i n:Nat} {is:List Nat} {f:Ev->Option Bx} {fs:Ev->Option (List Bx)} {p:Ev->Option Bool} {gt:Dt->Ev->Option Ev} {g1 g2 gb:Ev->Option Out}
end
section
variable {X:Cx} {st:Stmt} {rest:List Stmt} {g1 g2:Ev->Option Out}
end
section
variable {P:Program} {w:World} {K:FG_} {mg:Str->Option Value} {base:Heap}
end
section
variable {X:Cx} {pins:List (Addr×Obj)} {σ:L2.St} {H:Hp} {s:Shared} {a:Addr} {ks:List V} {o:Obj}
end
def Fr3 (Hb Hc H:Hp) (σ:L2.St) (i:Nat):Prop:=∃ (t p0 p1 p2:Addr) (x0 x1 x2:List V) (o0 o1 o2:Obj),(x0.length < 1000/\x2.length < 1000)/\σ[i]?=some (some (.ref t))/\H t=some (.tup [.ref p0,.ref p1,.ref p2])/\(H p0=some (.Dw o0 (.lst x0))/\H p1=some (.Dw o1 (.lst x1))/\H p2=some (.Dw o2 (.lst x2)))/\(Hc p0=none/\Hc p1=none/\Hc p2=none)/\(p0≠p1/\p0≠p2/\p1≠p2)/\(∀ ob u,Hb p0≠some (.Dw ob u))/\(∀ ob u,Hb p1≠some (.Dw ob u))/\∀ ob u,Hb p2≠some (.Dw ob u)
theorem Fr3.grow {Hb Hc H H':Hp} {σ σ':L2.St} {i:Nat} (h:Fr3 Hb Hc H σ i) (s:Same H H') (hs:σ'[i]?=σ[i]?):Fr3 Hb Hc H' σ' i:=by
 obtain⟨t,p0,p1,p2,x0,x1,x2,o0,o1,o2,l,e,ht,⟨h0,h1,h2⟩,r⟩:=h
 exact⟨t,p0,p1,p2,x0,x1,x2,o0,o1,o2,l,by rw[hs];exact e,s _ _ ht,⟨s _ _ h0,s _ _ h1,s _ _ h2⟩,r⟩
section
variable {X:Cx} {i:Nat} {M0 M1 M2 er:Expr} {f0 f2 f:Ev->Option Bx} {d0 d2:Dt} {z0 z1 z2 z3:Pos}
end
theorem cF.sl {K:FG_} {H0 H:Hp} {σ:L2.St} {ρ:Ev} (E:cF K H0 H σ ρ) {i:Nat} (h:∀ c,ρ[i]?≠some (some c)) (v:Option V):cF K H0 H (σ.set i v) ρ:=by
 have ne:∀ {j:Nat} {c:Bx},ρ[j]?=some (some c)->(σ.set i v)[j]?=σ[j]?:=fun e=>List.getElem?_set_ne (fun z=>h _ (z▸e))
 exact⟨by rw[JO];exact E.len,fun j b e=>by rw[ne e];exact E.val j b e,fun j k c a b e1 e2 e3 e4 e5 e6=>E.own j k c a b e1 e2 (by rw[<-ne e1];exact e3) e4 e5 (by rw[<-ne e4];exact e6),E.base,fun j c a e1 e2 e3=>E.new j c a e1 e2 (by rw[<-ne e1];exact e3)⟩
section
variable {X:Cx} {st:List Stmt} {g:Ev->Option Out} {f fr fe:Ev->Option Bx} {p:Ev->Option Bool} {i i':Nat} {W:List Nat} {c e:Expr} {pos z:Pos}
end
section
variable {a b c g g1 g2 gb:Ev->Option Out} {f:Ev->Option Bx} {p:Ev->Option Bool} {i k:Nat} {gt:Dt->Ev->Option Ev}
end
end P1
end
section
namespace P1
open PySem PySem.Spec PyProof.Rows L2 S6
section
variable {X:Cx} {elt kx vx t1 i1 t2 i2:Expr} {f1 f2:List Expr} {scope:Scope} {cl:List (Str×Addr)} {pos:Pos} {xs:LS_} {is:List Nat} {g1 g2:Dt->Ev->Option Ev} {p1 p2:Ev->Option Bool} {fe fk fv:Ev->Option Bx} {fi1 fi2:Ev->Option (List Dt)} {fs:Ev->Option (List Dt)} {N m:Nat} {Ac:Addr->Hp->List Dt->HO->Prop} {el:Addr->Env->Sem Unit}
def cls2 (fi:Ev->Option (List Dt)) (gt:Dt->Ev->Option Ev) (p:Ev->Option Bool) (fs:Ev->Option (List Dt)) (is:List Nat) (n:Nat):Ev->Option (List Dt):=fun ρ=>(fi ρ).bind fun ds=>Jt gt p fs (uD is ρ++List.replicate n none) ds
theorem AcL.no {K:FG_} {D:Addr} {H:Hp} {o1:List Dt} {o:HO}:AcL K D H o1 o->(∀ ob u,o≠.Dw ob u)/\∀ vs,o≠.tup vs:=fun ⟨_,e,_⟩=>by subst e;exact⟨fun _ _ z=>(by cases z),fun _ z=>(by cases z)⟩
theorem AcS.no {D:Addr} {H:Hp} {o1:List Dt} {o:HO}:AcS X D H o1 o->(∀ ob u,o≠.Dw ob u)/\∀ vs,o≠.tup vs:=fun ⟨_,e,_⟩=>by subst e;exact⟨fun _ _ z=>(by cases z),fun _ z=>(by cases z)⟩
end
end P1
end
section
namespace P1
open PySem PySem.Spec PyProof.Rows L2
section
variable {α β:Type} {ρ:Ev} {e:α->Dt} {e':β->Dt} {p:Ev->Option Bool} {fi fs:Ev->Option (List Dt)} {gt:Dt->Ev->Option Ev} {fe:Ev->Option Bx} {is:List Nat} {n:Nat}
end
section
variable {X:Cx}
end
section
variable {ρ:Ev} {fa fb:Ev->Option Bx}
end
def hx (h:Heap) (a:Addr):HO:=.ext fun h'=>h'.get? a=h.get? a
def LD (o:Option HO):Prop:=(∃ xs,o=some (.lst xs))\/∃ ks,o=some (.dK ks)
section
variable {X:Cx} {pins:List (Addr×Obj)} {σ:L2.St} {H H2:Hp} {s:Shared} {as:List Addr}
theorem LD.at {P:Program} {w:World} {H H':Hp} {h h':Heap} {a:Addr} {o:HO} (k:LD (some o)) (e:h'.get? a=h.get? a) (x:nY P w H h a o):nY P w H' h' a o:=by
 rcases k with⟨xs,hk⟩|⟨ks,hk⟩
 ·cases hk
  obtain⟨z,its,n,v,g⟩:=x
  exact⟨z,its,n,v,e.trans g⟩
 ·cases hk
  obtain⟨z,hd,vs,kv,o,es,ep,ho,r⟩:=x
  exact⟨z,hd,vs,kv,o,es,ep,e.trans ho,r⟩
theorem LD.obj {P:Program} {w:World} {H:Hp} {h:Heap} {a:Addr} (k:LD (H a)) (x:Jo P w H h):∃ o,h.get? a=some o:=by
 rcases k with⟨xs,hk⟩|⟨ks,hk⟩
 ·obtain⟨_,its,n,_,g⟩:=x a _ hk
  exact⟨_,g⟩
 ·obtain⟨_,_,vs,_,o,es,ep,ho,_⟩:=x a _ hk
  exact⟨o,ho⟩
end
section
variable {X:Cx} {pins:List (Addr×Obj)} {σ:L2.St} {H:Hp} {s:Shared}
def afq {α:Type} (m:List (Int×List α)) (k:Int) (d:α):List (Int×List α):=if (m.any fun q=>decide (q.1=k))=true then m.map fun q=>if q.1=k then (q.1,q.2++[d]) else q else m++[(k,[d])]
structure Gp (K:FG_) (H:Hp) (D:Addr) (gs:List (Int×Addr×List Dt)):Prop where
 d:H D=some (.dK (gs.map fun g=>(Sum.inl g.1,V.ref g.2.1)))
 l:∀ g∈gs,∃ vs,H g.2.1=some (.lst vs)/\aR K H g.2.2 vs
 k:(gs.map (·.1)).Nodup
 a:(gs.map (·.2.1)).Nodup
def gpA (D:Addr) (gs:List (Int×Addr×List Dt)):List Addr:=D::gs.map (·.2.1)
def gpM (gs:List (Int×Addr×List Dt)):List (Int×List Dt):=gs.map fun g=>(g.1,g.2.2)
theorem Gp.kept {K:FG_} {H H':Hp} {D:Addr} {gs:List (Int×Addr×List Dt)} (G:Gp K H D gs) (h:∀ a∈gpA D gs,H' a=H a) (r:∀ ds vs,aR K H ds vs->aR K H' ds vs):Gp K H' D gs:=
 ⟨(h D (zt ..)).trans G.d,fun g hg=>let ⟨vs,e,q⟩:=G.l g hg;⟨vs,(h _ (zl _ (List.mem_map.mpr ⟨g,hg,rfl⟩))).trans e,r _ _ q⟩,G.k,G.a⟩
theorem Gp.same {K:FG_} {H H':Hp} {D:Addr} {gs:List (Int×Addr×List Dt)} (G:Gp K H D gs) (s:Same H H'):Gp K H' D gs:=
 ⟨s _ _ G.d,fun g hg=>let ⟨vs,e,q⟩:=G.l g hg;⟨vs,s _ _ e,q.kp (.of s)⟩,G.k,G.a⟩
theorem Gp.val {gs:List (Int×Addr×List Dt)} {k:Int}:∀ {w:V},DQ (gs.map fun g=>((Sum.inl g.1:Key),V.ref g.2.1)) (Sum.inl k)=some w->∃ g∈gs,g.1=k/\w=.ref g.2.1:=by
 induction gs with
 |nil=>intro w e;cases e
 |cons g gs ih=>
  intro w e
  rw[zz] at e
  by_cases hk:g.1=k
  ·rw[DR (by rw[hk])] at e
   cases e
   exact⟨g,zt ..,hk,rfl⟩
  ·rw[DW (by simpa using hk)] at e
   obtain⟨g',h1,h2,h3⟩:=ih e
   exact⟨g',zl _ h1,h2,h3⟩
end
section
variable {K:FG_} {H:Hp} {D l:Addr} {gs:List (Int×Addr×List Dt)} {k:Int} {x:Dt} {u:V}
theorem Li {α β:Type} {f:α->β}:∀ {xs:List α},(xs.map f).Nodup->∀ {a b:α},a∈xs->b∈xs->f a=f b->a=b
 |y::ys,h,a,b,ha,hb,e=>by
  obtain⟨h1,h2⟩:=List.nodup_cons.mp (show (f y::ys.map f).Nodup from h)
  rcases List.mem_cons.mp ha with q|q<;>rcases List.mem_cons.mp hb with t|t
  ·rw[q,t]
  ·exact absurd (List.mem_map.mpr ⟨b,t,by rw[<-e,q]⟩) h1
  ·exact absurd (List.mem_map.mpr ⟨a,q,by rw[e,t]⟩) h1
  ·exact Li h2 q t e
def Ce (gs:List (Int×Addr×List Dt)) (k:Int) (x:Dt):List (Int×Addr×List Dt):=gs.map fun g=>if g.1=k then (g.1,g.2.1,g.2.2++[x]) else g
theorem Gp.app (G:Gp K H D gs) {g:Int×Addr×List Dt} (hg:g∈gs) (hk:g.1=k) {vs:List V} (hv:H g.2.1=some (.lst vs)) (r:aR K H g.2.2 vs) (rx:Rep K H x u) :
  Gp K (upd H g.2.1 (.lst (vs++[u]))) D (Ce gs k x)/\gpA D (Ce gs k x)=gpA D gs/\gpM (Ce gs k x)=afq (gpM gs) k x:=by
 have kp:Kp H (upd H g.2.1 (.lst (vs++[u]))):=.lst hv
 have e1:(Ce gs k x).map (·.1)=gs.map (·.1):=by unfold Ce;rw[qh];exact ZO fun g _=>by simp only[Function.comp];split<;>rfl
 have e2:(Ce gs k x).map (·.2.1)=gs.map (·.2.1):=by unfold Ce;rw[qh];exact ZO fun g _=>by simp only[Function.comp];split<;>rfl
 have e3:((Ce gs k x).map fun g=>((Sum.inl g.1:Key),V.ref g.2.1))=gs.map fun g=>(Sum.inl g.1,V.ref g.2.1):=by unfold Ce;rw[qh];exact ZO fun g _=>by simp only[Function.comp];split<;>rfl
 refine⟨⟨?_,fun g' hg'=>?_,by rw[e1];exact G.k,by rw[e2];exact G.a⟩,by unfold gpA;rw[e2],?_⟩
 ·rw[e3,aY (tH G.d hv (by intro z;cases z))];exact G.d
 ·obtain⟨g0,h0,rfl⟩:=List.mem_map.mp hg'
  by_cases hk0:g0.1=k
  ·have:g0=g:=Li G.k h0 hg (by rw[hk0,hk])
   subst this
   rw[zo hk0]
   exact⟨_,bU,(r.append (aR.cons rx aR.nil)).kp kp⟩
  ·rw[zI hk0]
   obtain⟨ws,ew,rw'⟩:=G.l g0 h0
   refine⟨ws,?_,rw'.kp kp⟩
   rw[aY fun z=>hk0 (by rw[Li (f:=fun g:Int×Addr×List Dt=>g.2.1) G.a h0 hg z];exact hk)]
   exact ew
 ·unfold afq
  have:((gpM gs).any fun q=>decide (q.1=k))=true:=List.any_eq_true.mpr ⟨(g.1,g.2.2),List.mem_map.mpr ⟨g,hg,rfl⟩,by simpa using hk⟩
  rw[zo this]
  unfold gpM Ce
  rw[qh,qh]
  exact ZO fun g _=>by simp only[Function.comp];split<;>rfl
theorem Gp.new (G:Gp K H D gs) (hn:DQ (gs.map fun g=>((Sum.inl g.1:Key),V.ref g.2.1)) (Sum.inl k)=none) (hl:H l=some (.lst [])) (hla:l∉gpA D gs) :
  Gp K (upd H D (.dK (putK (gs.map fun g=>(Sum.inl g.1,V.ref g.2.1)) (Sum.inl k) (.ref l)))) D (gs++[(k,l,[])]):=by
 have kp:Kp H (upd H D (.dK (putK (gs.map fun g=>(Sum.inl g.1,V.ref g.2.1)) (Sum.inl k) (.ref l)))):=.dk G.d
 have hany:((gs.map fun g=>((Sum.inl g.1:Key),V.ref g.2.1)).any fun kv=>decide (kv.1=Sum.inl k))=false:=by rw[Kh,hn];rfl
 have hlD:l≠D:=fun z=>hla (by rw[z];exact zt ..)
 have hkn:k∉gs.map (·.1):=fun z=>by
  obtain⟨g,hg,e⟩:=List.mem_map.mp z
  have:=List.any_eq_false.mp hany _ (List.mem_map.mpr ⟨g,hg,rfl⟩)
  simp only[zS] at this
  exact this (by rw[e])
 refine⟨?_,fun g hg=>?_,?_,?_⟩
 ·rw[bU,putK,zI (by rw[hany];exact ZI),qv];rfl
 ·rcases List.mem_append.mp hg with hg|hg
  ·obtain⟨vs,e,r⟩:=G.l g hg
   exact⟨vs,by rw[aY fun z=>by rw[z,G.d] at e;cases e];exact e,r.kp kp⟩
  ·cases List.mem_singleton.mp hg
   exact⟨[],by rw[aY hlD];exact hl,aR.nil⟩
 ·rw[qv,KF]
  exact⟨G.k,by simp,fun a ha b hb=>by cases List.mem_singleton.mp hb;exact fun z=>hkn (by rw[z] at ha;exact ha)⟩
 ·rw[qv,KF]
  exact⟨G.a,by simp,fun a ha b hb=>by cases List.mem_singleton.mp hb;exact fun z=>hla (zl _ (by rw[z] at ha;exact ha))⟩
end
section
variable {X:Cx} {iter e1 e2 c ev:Expr} {fi:Ev->Option (List Dt)} {f1 f2 fv:Ev->Option Bx} {p:Ev->Option Bool} {x y w:Str} {pw py py2 py3 px p1 p2 p3 p4 pl a1 a2 c1 c2 pos:Pos}
end
end P1
end
section
namespace P1
open PySem PySem.Spec PyProof.Rows L2 S6
section
variable {X:Cx} {kx vx t1 i1 t2 i2:Expr} {f1 f2:List Expr} {scope:Scope} {cl:List (Str×Addr)} {pos:Pos} {xs:LS_} {is:List Nat} {g1 g2:Dt->Ev->Option Ev} {p1 p2:Ev->Option Bool} {fk fv:Ev->Option Bx} {fi1 fi2:Ev->Option (List Dt)} {m:Nat}
theorem AcD.no {K:FG_} {D:Addr} {H:Hp} {o1:List Dt} {o:HO}:AcD K D H o1 o->(∀ ob u,o≠.Dw ob u)/\∀ vs,o≠.tup vs:=fun ⟨_,e,_⟩=>by subst e;exact⟨fun _ _ z=>(by cases z),fun _ z=>(by cases z)⟩
end
end P1
end
section
namespace P1
open PySem PySem.Spec PyProof.Rows L2
section
variable {α β γ:Type} {ρ:Ev} {e:α->Dt} {e0:β->Dt} {fa fb fd f1 f2 fv:Ev->Option Bx} {p:Ev->Option Bool} {fi:Ev->Option (List Dt)} {kk:Ev->Option Out} {cO:γ->Out}
end
section
variable {X:Cx}
def Jb:List Bx->Option Bx
 |[.z (.str x)]=>some (.z (.tup (signs x)))
 |_=>none
theorem YC (hc:X.calm=true):wK X (.type "tuple") Jb:=by
 intro pins s σ H xs us Q I rx h
 obtain⟨bs,c,rb,e,q⟩:=h
 unfold Jb at e
 split at e
 ·rename_i x
  cases e
  obtain⟨v,rfl,r1⟩:=rep1 rb
  obtain⟨rfl,hx⟩:=inS r1
  obtain⟨u,rfl,t,rfl⟩:=vals1 rx
  have hs:x.cps.size<=sizeLine:=hx
  refine call_tuple_str (I.ok.hd hc) x t (fun h' tk acc kp it=>?_) hs
  have I1:Inv X pins σ H { s with heap:=h',toks:=tk }:=I.kept (t':=tk) kp
  have sa:StrsAre acc.toList (chars x):=Iu _ _ (by rw[ZE,it.1,wR];rfl) fun j v hv=>by
   obtain⟨c,u,ec,ev⟩:=it.2 j v (by simpa using hv)
   refine⟨⟨#[c]⟩,u,?_,ev⟩
   unfold chars
   rw[ZT,qo,ec];rfl
  have I2:Inv X pins σ (upd H h'.objs.size (.tup ((chars x).map V.str))) { s with heap:=h'.push { cls:=.type "tuple", data:=.seq acc },toks:=tk }:=
   I1.laid (t':=tk) (fun b o e=>zg _ e) (zi _) (show nY X.prog X.w _ _ _ (.tup _) from⟨by rw[zh,wR];exact hx,acc.toList,GD sa,by rw[Array.toArray_toList];exact qe.new _ _⟩)
  refine⟨.ref h'.objs.size,_,I2,rfl,q _ _ (bV (I1.hok.fresh (zi _))) trivial ?_⟩
  unfold bF Rep
  refine⟨_,_,rfl,.inl (.inl bU),?_⟩
  rw[Fd]
  exact KQ fun y hy=>by
   unfold chars at hy
   obtain⟨c,_,rfl⟩:=List.mem_map.mp hy
   exact zw (zi 1) (by decide)
 ·cases e
end
section
variable {α β:Type} {e:α->Dt} {ρ:Ev} {fa:Ev->Option Bx} {p:Ev->Option Bool} {fi fs:Ev->Option (List Dt)} {gt:Dt->Ev->Option Ev} {is:List Nat} {n:Nat}
def acL (a:R fa ρ (zE eS)):R (aP Jb (ak fa aC)) ρ (zE (eT eS)):=⟨chars a.v,a.D,fun h=>by
 simp only[aP,ak,aC,a.ok h,bnd,Jb,Fd]⟩
end
section
variable {X:Cx} {a:Expr} {fa:Ev->Option Bx} {pos:Pos}
end
theorem cJ {α:Type} {g:Ev->Option Out} {n:Nat} {bs:List Bx} {c:α->Bx} {v:α} {D:Option Prop} (x:RP g (bs.map some++List.replicate (n - bs.length) none) (fun r=>Out.rt (c r)) v D) (h:hold D):fu n g bs=some (c v):=acA x.r h
section
variable {α:Type} {e:α->Dt} {ρ:Ev} {fa:Ev->Option Bx}
end
open PySem.Builtin PySem.Builtin.Str
section
variable {X:Cx}
variable {o e:Expr} {fo fx:Ev->Option Bx}
end
section
variable {ρ:Ev} {fa fb:Ev->Option Bx} {g:Ev->Option Str}
end
section
variable {X:Cx}
end
section
variable {X:Cx} {iter e1 e2 e3 c:Expr} {fi:Ev->Option (List Dt)} {f1 fe:Ev->Option Bx} {p:Ev->Option Bool} {gr:Ev->Option Out} {x xr xj y1 y2:Str} {rest no:List Stmt} {kk:Nat} {p0 p00 p01 p02 q1 q2 pt pj pa px pb pif pf2 px3 a1 c1 pe1 pr a2 pj2 c2 pe2 pos:Pos}
end
section
variable {α β γ δ:Type} {ρ:Ev} {e:α->Dt} {ea:β->Dt} {eb:δ->Dt} {f1 fe:Ev->Option Bx} {p:Ev->Option Bool} {fi:Ev->Option (List Dt)} {kk:Ev->Option Out} {cO:γ->Out}
end
end P1
end
section
namespace P1
open PySem PySem.Spec PyProof.Rows L2 S1
section
variable {prog:Program} {w:World} {A:Around} {E:VP_} {s:Shared}
theorem afr {x y:Key} {p q:Value} {Q:VP_} (hs:Uu x y=true) (hp:oU x p=true) (hq:oU y q=true) (h:Q (.bool (Yi x y)) s):wpAny (model prog w) A (compareOp .Lt p q) Q E s:=by
 rcases bN hp with⟨i,t,rfl,rfl⟩|⟨z,t,rfl,rfl⟩
 ·rcases bN hq with⟨j,u,rfl,rfl⟩|⟨z,u,rfl,rfl⟩
  ·exact lt_int h
  ·cases hs
 ·rcases bN hq with⟨j,u,rfl,rfl⟩|⟨z',u,rfl,rfl⟩
  ·cases hs
  ·exact PySem.P.lt_str h
theorem acM {ks ls:List Key} {a b:Addr} {its jts:List Value} {Q:VP_} (ha:qe s.heap a its.toArray) (hb:qe s.heap b jts.toArray) (hk:Ks ks its) (hl:Ks ls jts) (hs:Shp ks ls) (hu:A.units < cLine) (h:Q (.bool (lU ks ls)) s):wpAny (model prog w) A (compareOp .Lt (.ref a) (.ref b)) Q E s:=by
 obtain⟨oa,ea,ca,⟨na,da⟩,_⟩:=ha
 obtain⟨ob,eb,cb,⟨nb,db⟩,_⟩:=hb
 show wpAny _ _ (richCompare .Lt (.ref a) (.ref b)) _ _ _
 refine wpAny_richCompare_same_room ⟨oa,ea,ca⟩ ⟨ob,eb,cb⟩ F.slot_tuple_lt (QR F.slot_tuple_lt ⟨oa,ea,ca⟩ F.entry_tuple_lt ?_ (F.args_tuple_lt_2 _ _)) hu
 show wpAny _ _ (isInstance (.ref b) (.type "tuple") >>= _) _ _ s
 refine zd (kF ⟨ob,eb,cb⟩ isSubtype_tuple_tuple ?_)
 simp only[js,zk,ZH]
 refine zd (wpAny_tupleItemsOf ea da ?_)
 refine zd (wpAny_tupleItemsOf eb db ?_)
 refine zd ?_
 refine KO _
  (fun rest r s'=>r.1=none/\s'=s/\∃ x' y' xs' ys',rest=List.zip xs' ys'/\Ks x' xs'/\Ks y' ys'/\Shp x' y'/\lU x' y'=lU ks ls/\(xs'.length < ys'.length↔its.length < jts.length))
  _ ?_ ?_ _ _ ⟨rfl,rfl,ks,ls,its,jts,by simp,hk,hl,hs,rfl,Iff.rfl⟩
 ·rintro⟨u,v⟩ rest r s' ⟨hr,rfl,x',y',xs',ys',hz,hx',hy',hsh,hdec,hlen⟩
  cases hx' with
  |nil=>simp at hz
  |@cons k1 u' x'' xs'' h1 hx''=>
   cases hy' with
   |nil=>simp at hz
   |@cons k2 v' y'' ys'' h2 hy''=>
    simp only[Kn,j0,Prod.mk.injEq] at hz
    obtain⟨⟨rfl,rfl⟩,rfl⟩:=hz
    refine zd (key_eq h1 h2 ?_)
    simp only[lU] at hdec
    by_cases e:k1=k2
    ·rw[zo e] at hdec
     rw[Q1 e]
     simp only[js,zk,ZH]
     exact ze ⟨rfl,rfl,x'',y'',xs'',ys'',rfl,hx'',hy'',hsh.2,hdec,by simpa using hlen⟩
    ·rw[zI e] at hdec
     rw[qq e]
     simp only[Kb,qB]
     refine zd (kq ?_)
     refine zd (show wpAny _ _ (compareOp .Lt u v) _ _ _ from afr hsh.1 h1 h2 ?_)
     rw[hdec]
     exact zd (ze (ze (ze ⟨_,rfl,by simp,h⟩)))
 ·rintro⟨r1,r2⟩ s' ⟨hr,rfl,x',y',xs',ys',hz,hx',hy',hsh,hdec,hlen⟩
  simp only at hr
  subst hr
  have hfin:decide (its.length < jts.length)=lU ks ls:=by
   rw[<-hdec,<-decide_eq_decide.mpr hlen]
   cases hx' with
   |nil=>cases hy' with
    |nil=>rfl
    |cons _ _=>rfl
   |cons _ _=>cases hy' with
    |nil=>rfl
    |cons _ _=>simp at hz
  refine ze ⟨_,rfl,?_⟩
  show Value.bool (decide (its.toArray.size < jts.toArray.size))≠_/\Q (Value.bool (decide (its.toArray.size < jts.toArray.size))) _
  rw[zr,zr,hfin]
  exact⟨by simp,h⟩
end
section
variable {X:Cx}
def Xe:Bx->Bx->Option Bx
 |.z a,.z b=>(Iw a).bind fun ks=>(Iw b).bind fun ls=>if Uy ks ls=true then some (.z (.bl (lU ks ls))) else none
 |_,_=>none
theorem ahS (hu:X.A.units+100 < cLine):Jr X (compareOp .Lt) Xe:=by
 intro pins s σ H x y v u Q I rx ry h
 obtain⟨a,b,c,ra,rb,e,q⟩:=h
 unfold Xe at e
 split at e
 ·rename_i d1 d2
  obtain⟨ks,ek,e⟩:=bind_some e
  obtain⟨ls,el,e⟩:=bind_some e
  split at e
  ·rename_i hs
   cases e
   rw[tR ek] at ra
   rw[tR el] at rb
   simp only[bF,tupK,Rep] at ra rb
   obtain⟨p,vs,rfl,sq,rs⟩:=ra
   obtain⟨p',vs',rfl,Uj,rs'⟩:=rb
   cases rx
   cases ry
   obtain⟨its,rv,t1⟩:=ajv I sq
   obtain⟨jts,rv',t2⟩:=ajv I Uj
   rw[Bm rs] at rv
   rw[Bm rs'] at rv'
   exact acM t1 t2 (abM X rv) (abM X rv') (GP hs) (by omega) ⟨.bl _,H,I,rfl,q _ H (Same.refl H) trivial (by simp only[bF,Rep])⟩
  ·cases e
 ·cases e
def orF {β:Type} (f g:Ev->Option β):Ev->Option β:=fun ρ=>(f ρ).or (g ρ)
theorem or_some {β:Type} {a b:Option β} {c:β} (h:a.or b=some c):a=some c\/b=some c:=by
 cases a with
 |none=>exact .inr h
 |some x=>exact .inl h
theorem acN {e:Expr} {f g:Ev->Option Bx} (h1:QV X e f) (h2:QV X e g):QV X e (orF f g):=⟨fun pins s σ H Q I q=>by
 obtain⟨H0,ρ,b,E,e,q⟩:=q
 rcases or_some e with e|e
 ·exact h1.run pins s σ H Q I ⟨H0,ρ,b,E,e,q⟩
 ·exact h2.run pins s σ H Q I ⟨H0,ρ,b,E,e,q⟩⟩
def orB (f g:Bx->Bx->Option Bx):Bx->Bx->Option Bx:=fun a b=>(f a b).or (g a b)
theorem ajF {fn:Value->Value->Sem Value} {f g:Bx->Bx->Option Bx} (h1:Jr X fn f) (h2:Jr X fn g):Jr X fn (orB f g):=fun pins s σ H x y v u Q I rx ry h=>by
 obtain⟨a,b,c,ra,rb,e,q⟩:=h
 rcases or_some e with e|e
 ·exact h1 pins s σ H x y v u Q I rx ry ⟨a,b,c,ra,rb,e,q⟩
 ·exact h2 pins s σ H x y v u Q I rx ry ⟨a,b,c,ra,rb,e,q⟩
end
section
variable {X:Cx} {k n:Nat} {f:Addr} {fd:FuncData} {ps:LS_} {F:List Bx->Option Bx} {x:Str} {p pos:Pos}
theorem acO (G:bM X.prog X.w X.K X.mg X.base jh k f fd ps (jD X.K 0 F)) (hr:pX k X.A) (hg:Gl X x) (hm:X.mg x=some (.ref f)) (hk:PySem.W.keepIn X.K (.ref f)=true) (hb:Binds X.K fd ps []) (hdb:(x==("__debug__" : Str))=false:=by decide) :
  QV X (.Call (.Name x p) [] [] pos) (bH 0 F aC):=⟨Io (aa1 G hr hg hm hk hb .nil afP hdb) fun σ H Q h=>by
 obtain⟨H0,ρ,r,E,e,q⟩:=h
 obtain⟨bs,eb,e⟩:=bind_some e
 cases eb
 exact⟨rfl,[],r,.nil,rfl,e,fun v H2 s2 n2 r2=>q v H2 s2 n2 r2⟩⟩
end
end P1
end
section
namespace P1
open PySem PySem.Spec PyProof.Rows L2 S1 S6
theorem len0 {α:Type} {p:List α->Prop} (h:p []):∀ us:List α,us.length=0->p us
 |[],_=>h
section
variable {α β:Type} {e:α->Dt} {ρ:Ev} {f g fa fb:Ev->Option Bx} {c:α->Bx}
def Vj (a:R f ρ (zE (eL eD))) (g:Dt->α) (e:α->Dt):R f ρ (zE (eL e)):=⟨a.v.map g,bK a.D (some (∀ d∈a.v,d=e (g d))),fun h=>by
 obtain⟨h,h4⟩:=aG h
 have h4:∀ d∈a.v,d=e (g d):=h4
 rw[a.ok h]
 show some (Bx.z (.lst (a.v.map eD)))=some (Bx.z (.lst ((a.v.map g).map e)))
 rw[qh]
 exact congrArg (fun l=>some (Bx.z (.lst l))) (ZO fun d hd=>h4 d hd)⟩
def agf {γ β:Type} {f g:Ev->Option β} {c:γ->β} (a:R f ρ c):R (orF f g) ρ c:=⟨a.v,a.D,fun h=>by
 unfold orF
 rw[a.ok h]
 rfl⟩
def ahT (a:R fa ρ (zE eS)) (b:R fb ρ (zE eS)):R (b2 (orB TY Xe) fa fb) ρ (zE eB):=⟨Oi a.v b.v,bK a.D b.D,fun h=>by
 obtain⟨h1,h2⟩:=aG h
 simp only[b2,a.ok h1,b.ok h2,bnd]
 rfl⟩
def acP [mR e] (a:R fa ρ (zE e)) (b:R fb ρ (zE e)):R (b2 (orB TY Xe) fa fb) ρ (zE eB):=⟨Xd e a.v b.v,bK a.D b.D,fun h=>by
 obtain⟨h1,h2⟩:=aG h
 simp only[b2,a.ok h1,b.ok h2,bnd,orB]
 have k1:=tR (mR.ok (e:=e) a.v)
 have k2:=tR (mR.ok (e:=e) b.v)
 have n:TY (zE e a.v) (zE e b.v)=none:=by
  show TY (.z (e a.v)) (.z (e b.v))=none
  rw[k1]
  rfl
 rw[n]
 show Xe (.z (e a.v)) (.z (e b.v))=_
 unfold Xe
 simp only[mR.ok,bnd,mR.shp,qB]
 rfl⟩
theorem Vk [mR e] {xs:List α}:yM (xs.map e)=none\/xs=[]:=by
 cases xs with
 |nil=>exact .inr rfl
 |cons x xs=>
  left
  rw[zz,tR (mR.ok (e:=e) x)]
  rfl
def YD [mR e] (a:RL fa ρ e):R (orF (aP yN (ak fa aC)) (aP GQ (ak fa aC))) ρ (oE e):=⟨o9 e a.v,bK a.D (some (a.v.length < 64)),fun h=>by
 have h2:=(ahQ a).ok h
 obtain⟨h,h4⟩:=aG h
 unfold orF
 rcases Vk (e:=e) (xs:=a.v) with hn|hn
 ·have:aP yN (ak fa aC) ρ=none:=by simp only[aP,ak,aC,a.ok h,bnd,yN,a.lk,hn,Option.bind_none]
  rw[this];exact h2
 ·have:aP yN (ak fa aC) ρ=some (.o []):=by simp only[aP,ak,aC,a.ok h,bnd,yN,a.lk,hn,JE,yM,show uK []=[] by simp[uK]];rfl
  rw[this,hn,show o9 e []=[] by simp[o9]]
  rfl⟩
def YF [DecidableEq α] [mR e] [Z9 e] (a:RL fa ρ e):R (orF (Ew (RQ fa)) (Vb (RT fa))) ρ (zE eI):=⟨((Dy a.v).length:Int),bK a.D (some (a.v.length<=64)),fun h=>by
 have h2:hold (acH (R6 a)).D:=by
  show hold (bK (bK a.D (some (a.v.length<=64))) (some (a.v.length<=64)))
  have:=(aG h).2
  revert h
  cases a.D with
  |none=>intro h;exact⟨h,h⟩
  |some p=>intro h;exact⟨h,h.2⟩
 have h2:=(acH (R6 a)).ok h2
 obtain⟨h,h4⟩:=aG h
 unfold orF
 rcases Vk (e:=e) (xs:=a.v) with hn|hn
 ·have:Ew (RQ fa) ρ=none:=by simp only[Ew,RQ,a.ok h,bnd,U6,Fg a.lk,hn,Option.bind_none]
  rw[this];exact h2
 ·have:Ew (RQ fa) ρ=some (.z (.int 0)):=by simp only[Ew,RQ,a.ok h,bnd,U6,Fg a.lk,hn,JE,yM];rfl
  rw[this,hn]
  rfl⟩
end
section
variable {ρ:Ev}
def x_k (d:Dt):R (cB d) ρ (zE eD):=ou d eD d rfl
def x_i (i:Int):R (cB (.int i)) ρ (zE eI):=ou (.int i) eI i rfl
def x_s (s:Str):R (cB (.str s)) ρ (zE eS):=ou (.str s) eS s rfl
end
abbrev Nn (K:FG_) (n:Str) (f:Addr):Prop:=PySem.W.nsIn K mainGlobals n=some (some (.ref f))
abbrev Lk (K:FG_) (f:Addr) (n:Str) (st:Stmt) (oc:Value) (od:Option Addr) (sl:Array (Option Value)) (kV dc pm:Value) (an:Option Addr) (cd ct:Value):Prop:=K.lookup f=some ⟨oc,od,.func (PySem.W.fnOf n n (Bd st) (qG st) (aW st) .none kV dc pm an cd ct),sl⟩
abbrev Zn (K:FG_) (n:Str):Prop:=PySem.W.nsIn K mainGlobals n=some none
end P1
end
section
namespace P1
open PySem PySem.Spec PyProof.Rows L2
theorem tu {d:Dt} (h:jz d=true):∃ x,d=.str x:=by
 cases d with
 |str x=>exact⟨x,rfl⟩
 |_=>cases h
theorem dX {d:Dt} (h:is_tuple d=true):∃ ds,d=.tup ds:=by
 cases d with
 |tup x=>exact⟨x,rfl⟩
 |_=>cases h
theorem Fj {d:Dt} (h:is_tuple d=true):mY d=true:=by
 obtain⟨ds,rfl⟩:=dX h;rfl
theorem YG {x:Str} {d:Dt} (h:d∈kE (.str x)):d=eS (jg d):=by
 unfold kE signs at h
 obtain⟨c,_,rfl⟩:=List.mem_map.mp h
 rfl
theorem YH (x:Str):(kE (.str x)).length=x.length:=aac x
theorem lt_iff (a b:Str):Oi a b=true↔Rw a b/\a≠b:=by
 unfold Oi Rw
 rw[ltCps_eq]
 simp only[zS,Q4]
 constructor
 ·intro h
  exact⟨List.lt_asymm h,fun e=>by subst e;exact List.lt_irrefl _ h⟩
 ·intro ⟨h,hn⟩
  by_cases q:a.cps.toList < b.cps.toList
  ·exact q
  ·exact absurd (Us (a:=a) (b:=b) (by unfold Rw;rw[ltCps_eq];simpa using h) (by unfold Rw;rw[ltCps_eq];simpa using q)) hn
theorem acQ (n:Nat):rng 0 (n+1)=0::(rng 0 n).map (·+1):=by
 unfold rng
 rw[List.range_succ_eq_map,zz,qh,qh]
 refine congr (congrArg _ ?_) ?_
 ·simp
 ·apply ZO
  intro k _
  simp only[Function.comp]
  omega
theorem Bq {n:Nat} {i:Int} (h:i∈rng 0 n):∃ k:Nat,k < n/\i=(k:Int):=by
 unfold rng at h
 obtain⟨k,hk,rfl⟩:=List.mem_map.mp h
 exact⟨k,List.mem_range.mp hk,by omega⟩
theorem YJ:∀ {xs:LS_},xs.Nodup->wQ xs=xs
 |[],_=>rfl
 |x::xs,h=>by
  have:=List.nodup_cons.mp h
  unfold wQ
  rw[zI this.1,YJ this.2]
end P1
end
section
namespace P1
open PySem PySem.Spec PyProof.Rows L2 S1 S6
def same (w:List LS_) (x y:Str):Prop:=∃ s∈w,x∈s/\y∈s
section
variable {α β:Type}
structure GOk (m:List (Int×List α)) (xs:List α):Prop where
 k:(m.map (·.1)).Nodup
 ne:∀ q∈m,q.2≠[]
 p:(m.map (·.2)).flatten.Perm xs
theorem GOk.put {m:List (Int×List α)} {xs:List α} (h:GOk m xs) (k:Int) (x:α):GOk (afq m k x) (xs++[x]):=by
 unfold afq
 split
 ·rename_i hk
  obtain⟨q0,hq,e⟩:=List.any_eq_true.mp hk
  have e:q0.1=k:=QE e
  obtain⟨pre,rest,rfl⟩:=List.append_of_mem hq
  have nk:=h.k
  rw[qv,zz,KF] at nk
  have fix:∀ l:List (Int×List α),k∉l.map (·.1)->l.map (fun q=>if q.1=k then (q.1,q.2++[x]) else q)=l:=fun l hl=>by
   conv=>rhs;rw[<-List.map_id l]
   exact ZO fun q hq=>by rw[zI fun z=>hl (List.mem_map.mpr ⟨q,hq,z⟩)];rfl
  have f1:=fix pre fun z=>nk.2.2 _ z _ (zt ..) e.symm
  have f2:=fix rest fun z=>(List.nodup_cons.mp nk.2.1).1 (by rw[e];exact z)
  have f3:(pre++q0::rest).map (fun q=>if q.1=k then (q.1,q.2++[x]) else q)=pre++(q0.1,q0.2++[x])::rest:=by rw[qv,zz,f1,f2,zo e]
  rw[f3]
  refine⟨by have:=h.k;simpa using this,fun q hq=>?_,?_⟩
  ·rcases List.mem_append.mp hq with hq|hq
   ·exact h.ne q (List.mem_append_left _ hq)
   ·rcases List.mem_cons.mp hq with z|hq
    ·rw[z];simp
    ·exact h.ne q (qa _ (zl _ hq))
  ·refine List.Perm.trans ?_ (h.p.append_right [x])
   simp only[qv,zz,List.flatten_append,List.flatten_cons,JY]
   refine List.Perm.append_left _ (List.Perm.append_left _ ?_)
   exact List.perm_append_comm
 ·rename_i hk
  refine⟨?_,fun q hq=>?_,?_⟩
  ·rw[qv,KF]
   refine⟨h.k,by simp,fun a ha b hb=>?_⟩
   have hb:b=k:=by simpa using hb
   subst hb
   intro z
   subst z
   obtain⟨q,hq,e⟩:=List.mem_map.mp ha
   exact hk (List.any_eq_true.mpr ⟨q,hq,Q1 e⟩)
  ·rcases List.mem_append.mp hq with hq|hq
   ·exact h.ne q hq
   ·cases List.mem_singleton.mp hq;simp
  ·rw[qv,List.flatten_append]
   simpa using h.p.append_right [x]
end
end P1
end
section
set_option maxHeartbeats 1000000
namespace P1
open PySem PySem.Spec PyProof.Rows L2
open PySem.Builtin PySem.Builtin.Str
abbrev cs (s:Str):List Nat:=s.cps.toList
theorem acR (x:Str):chars x=(cs x).map fun c=>⟨#[c]⟩:=rfl
end P1
end
section
set_option maxHeartbeats 1000000
namespace P1
open PySem PySem.Spec PyProof.Rows L2 S1 S6
section
variable {α:Type} [Inhabited α]
def z8 (lt:α->α->Bool) (xs:List α):Bool:=((rng 0 ((xs.length:Int) - 1).toNat).map fun i:Int=>lt (at' xs i) (at' xs (i+1))).all id
theorem Vl (a:α) (l:List α) {k:Nat} (h:k < l.length):at' (a::l) ((k:Int)+1)=at' l (k:Int):=by
 have e:=R8 (a::l) (k+1) (by simp;omega)
 rw[R8 l k h,show ((k:Int)+1)=((k+1:Nat):Int) by omega,e]
 rfl
theorem aad (lt:α->α->Bool) (a b:α) (l:List α):z8 lt (a::b::l)=(lt a b&&z8 lt (b::l)):=by
 unfold z8
 rw[show (((a::b::l).length:Int) - 1).toNat=l.length+1 by simp only[qi];omega,show (((b::l).length:Int) - 1).toNat=l.length by simp only[qi];omega,acQ,zz,Jn,qh]
 refine congr (congrArg _ ?_) (congrArg (fun l:List Bool=>l.all id) ?_)
 ·have e0:=R8 (a::b::l) 0 (by simp)
  have e1:=R8 (a::b::l) 1 (by simp)
  show lt (at' (a::b::l) ((0:Nat):Int)) (at' (a::b::l) ((1:Nat):Int))=lt a b
  rw[e0,e1]
  rfl
 ·apply ZO
  intro i hi
  obtain⟨k,hk,rfl⟩:=Bq hi
  have e1:=Vl a (b::l) (k:=k) (by simp;omega)
  have e2:=Vl a (b::l) (k:=k+1) (by simp;omega)
  have e3:((k+1:Nat):Int)=(k:Int)+1:=by omega
  rw[e3] at e2
  simp only[Function.comp]
  rw[e1,e2]
theorem G3 {lt:α->α->Bool} (tr:∀ a b c,lt a b=true->lt b c=true->lt a c=true):∀ (xs:List α),z8 lt xs=true↔xs.Pairwise fun a b=>lt a b=true
 |[]=>by simp[z8,rng]
 |[a]=>by simp[z8,rng]
 |a::b::l=>by
  rw[aad,zv,G3 tr (b::l),@List.pairwise_cons _ _ a (b::l)]
  constructor
  ·intro ⟨h1,h2⟩
   refine⟨fun y hy=>?_,h2⟩
   rcases List.mem_cons.mp hy with rfl|hy
   ·exact h1
   ·exact tr _ _ _ h1 (QQ h2 hy)
  ·intro ⟨h1,h2⟩
   exact⟨h1 b (zt ..),h2⟩
end
theorem Lj:∀ {xs:LS_},(wQ xs).length=xs.length->xs.Nodup
 |[],_=>kz
 |x::xs,h=>by
  unfold wQ at h
  split at h
  ·have:=K9 xs
   rw[qi] at h;omega
  ·rename_i hx
   exact List.nodup_cons.mpr ⟨hx,Lj (by simpa using h)⟩
theorem Qm {α:Type} [DecidableEq α]:∀ {xs:List α},(Dy xs).length=xs.length->xs.Nodup
 |[],_=>kz
 |x::xs,h=>by
  unfold Dy at h
  split at h
  ·have:=Bp xs
   rw[qi] at h;omega
  ·rename_i hx
   exact List.nodup_cons.mpr ⟨hx,Qm (by simpa using h)⟩
theorem acS {α:Type} [DecidableEq α]:∀ {xs:List α},xs.Nodup->Dy xs=xs
 |[],_=>rfl
 |x::xs,h=>by
  have:=List.nodup_cons.mp h
  unfold Dy
  rw[zI this.1,acS this.2]
theorem ahU (a b c:Str) (h1:Oi a b=true) (h2:Oi b c=true):Oi a c=true:=by
 unfold Oi at *
 simp only[zS] at *
 exact List.lt_trans h1 h2
theorem ajG (xs:LS_):(decide (xs=uK xs)&&decide (((wQ xs).length:Int)=(xs.length:Int)))=z8 Oi xs:=by
 rw[kQ,G3 ahU,zv,zS,zS]
 constructor
 ·rintro⟨h1,h2⟩
  have nd:=Lj (xs:=xs) (by omega)
  have p:xs.Pairwise Rw:=by rw[h1];exact CQ xs
  exact (p.and nd).imp fun h=>(lt_iff _ _).mpr h
 ·intro h
  have p:xs.Pairwise Rw:=h.imp fun q=>((lt_iff _ _).mp q).1
  have nd:xs.Nodup:=h.imp fun q=>((lt_iff _ _).mp q).2
  refine⟨Ry (tQ xs).symm p (CQ xs),by rw[YJ nd]⟩
section
variable {α:Type} {e:α->Dt} [mR e]
theorem ahV (a b c:α) (h1:Xd e a b=true) (h2:Xd e b c=true):Xd e a c=true:=nG h1 h2
theorem R9 (a b:α):Xd e a b=true↔leT e a b=true/\a≠b:=by
 unfold Xd leT BW
 constructor
 ·intro h
  refine⟨?_,fun z=>?_⟩
  ·cases q:lU (mR.k e b) (mR.k e a) with
   |false=>rfl
   |true=>have:=nG h q;rw[zQ] at this;cases this
  ·rw[z,zQ] at h;cases h
 ·rintro⟨h1,h2⟩
  cases q:lU (mR.k e a) (mR.k e b) with
  |true=>rfl
  |false=>
   have h1:lU (mR.k e b) (mR.k e a)=false:=by
    cases z:lU (mR.k e b) (mR.k e a) with
    |false=>rfl
    |true=>rw[z] at h1;cases h1
   exact absurd (mR.inj _ _ (zR q h1)) h2
theorem agh [DecidableEq α] [Inhabited α] (xs:List α):(decide (xs=o9 e xs)&&decide (((Dy xs).length:Int)=(xs.length:Int)))=z8 (Xd e) xs:=by
 rw[kQ,G3 (ahV (e:=e)),zv,zS,zS]
 constructor
 ·rintro⟨h1,h2⟩
  have nd:=Qm (xs:=xs) (by omega)
  have p:xs.Pairwise (fun a b=>leT e a b=true):=by rw[h1];exact Dg xs
  exact (p.and nd).imp fun h=>(R9 _ _).mpr h
 ·intro h
  have p:xs.Pairwise (fun a b=>leT e a b=true):=h.imp fun q=>((R9 _ _).mp q).1
  have nd:xs.Nodup:=h.imp fun q=>((R9 _ _).mp q).2
  refine⟨acF (kX _) p,by rw[acS nd]⟩
end
mutual
def Gj (m:Nat) (B:Int):Dt->Bool
 |.str s=>decide (s.length<=m)
 |.int i=>decide (i<=B)
 |.tup ds=>decide (ds.length<=m)&&Sd m B ds
 |.non=>true
 |.bl _=>true
 |.lst _=>true
 |.emp=>true
def Sd (m:Nat) (B:Int):List Dt->Bool
 |[]=>true
 |d::ds=>Gj m B d&&Sd m B ds
end
mutual
def vX:Dt->Bool
 |.str s=>decide (s.length<=20)
 |.int i=>decide (i<=1000000)
 |.tup ds=>decide (ds.length<=20)&&Xf ds
 |.non=>false
 |.bl _=>false
 |.lst _=>false
 |.emp=>false
def Xf:List Dt->Bool
 |[]=>true
 |d::ds=>vX d&&Xf ds
end
theorem Fo {m:Nat} {B:Int}:∀ {ds:List Dt},Sd m B ds=true↔∀ d∈ds,Gj m B d=true
 |[]=>by simp[Sd]
 |d::ds=>by simp[Sd,Fo (ds:=ds)]
theorem Vm:∀ {ds:List Dt},Xf ds=true↔∀ d∈ds,vX d=true
 |[]=>by simp[Xf]
 |d::ds=>by simp[Xf,Vm (ds:=ds)]
theorem mQ {m:Nat} {B:Int} {ds:List Dt}:Gj m B (.tup ds)=true↔ds.length<=m/\∀ d∈ds,Gj m B d=true:=by
 rw[Gj,zv,Fo,zS]
theorem Sg {ds:List Dt}:vX (.tup ds)=true↔ds.length<=20/\∀ d∈ds,vX d=true:=by
 rw[vX,zv,Vm,zS]
mutual
theorem acT {m:Nat} {B:Int} (hm:20<=m) (hB:1000000<=B):∀ {d:Dt},vX d=true->Gj m B d=true
 |.str s,h=>by simp only[vX,Gj,zS] at h ⊢;omega
 |.int i,h=>by simp only[vX,Gj,zS] at h ⊢;omega
 |.tup ds,h=>by
  simp only[vX,Gj,zv,zS] at h ⊢
  exact⟨by omega,YK hm hB h.2⟩
 |.non,h=>by cases h
 |.bl _,h=>by cases h
 |.lst _,h=>by cases h
 |.emp,h=>by cases h
theorem YK {m:Nat} {B:Int} (hm:20<=m) (hB:1000000<=B):∀ {ds:List Dt},Xf ds=true->Sd m B ds=true
 |[],_=>rfl
 |d::ds,h=>by
  simp only[Xf,Sd,zv] at h ⊢
  exact⟨acT hm hB h.1,YK hm hB h.2⟩
end
end P1
end
section
set_option synthInstance.maxSize 100000
namespace G09
open PySem PySem.Spec PyProof.Rows L2 P1
noncomputable section
abbrev LD_:=List P1.Dt
abbrev dM:Type:=Int×Str×Str×Int
abbrev dw:dM->Dt:=eP4 eI eS eS eI
abbrev kW:Type:=Str×Str×Int
abbrev iI:kW->Dt:=eP3 eS eS eI
abbrev cQ:Type:=LS_×(List dM)×(List kW)
abbrev fP:cQ->Dt:=eP3 (eT eS) (eT dw) (eT iI)
abbrev alL:Type:=LS_×(List dM)
abbrev aft:alL->Dt:=eP2 (eT eS) (eT dw)
abbrev ajH:Type:=Dt×Dt×Dt
abbrev aae:ajH->Dt:=eP3 eD eD eD
def Jy (d:Dt):ajH:=(iG d 0,iG d 1,iG d 2)
def p8 (d:Dt):LS_:=(dI d).map jg
def Fp (d:Dt):dM:=(qI (iG d 0),jg (iG d 1),jg (iG d 2),qI (iG d 3))
def Fq (d:Dt):kW:=(jg (iG d 0),jg (iG d 1),qI (iG d 2))
def acU (d:Dt):(List kW):=(dI d).map Fq
def ahW:List Dt:=[(Dt.tup [(Dt.tup [(Dt.str "a")]),(Dt.tup []),(Dt.tup [])]),(Dt.tup [(Dt.int 1),(Dt.str "a"),(Dt.str "b"),(Dt.int 0)]),(Dt.tup [(Dt.int 1),(Dt.str "b"),(Dt.str "a"),(Dt.int 0)]),(Dt.tup [(Dt.int 0),(Dt.str "a"),(Dt.str "b"),(Dt.int 0)]),(Dt.tup [(Dt.int 1001),(Dt.str "a"),(Dt.str "b"),(Dt.int 0)])]
def alM:List Dt:=[(Dt.str "a"),(Dt.str "b"),(Dt.int 0)]
def ahX:List Dt:=[(Dt.tup [(Dt.int 1000),(Dt.str "a"),(Dt.str "b"),(Dt.int 99)]),(Dt.tup [(Dt.int 1),(Dt.str "a"),(Dt.str "b"),(eI (-(1:Int)))]),(Dt.tup [(Dt.int 1),(Dt.str "a"),(Dt.str "a"),(Dt.int 0)]),(Dt.tup [(Dt.int 1),(Dt.str "a"),(Dt.str "b"),(Dt.bl true)]),((eL eD) alM)]
def ahY:List Dt:=[(Dt.tup [(Dt.bl true),(Dt.str "a"),(Dt.str "b"),(Dt.int 0)]),(Dt.tup [(Dt.str "a"),(Dt.str "b"),(Dt.int 0)]),(Dt.tup [(Dt.str "b"),(Dt.str "a"),(Dt.int 0)]),(Dt.tup [(Dt.str "a"),(Dt.str "b")]),(Dt.tup [(Dt.str "a"),(Dt.str "b"),Dt.non])]
def ahZ:List Dt:=[(Dt.tup [(Dt.str "a"),(Dt.str "b"),(Dt.int 0),(Dt.int 0)]),(Dt.tup [(Dt.tup [Dt.non]),(Dt.tup []),(Dt.tup [])]),(Dt.tup [(Dt.tup [(Dt.str "b"),(Dt.str "a")]),(Dt.tup []),(Dt.tup [])]),(Dt.tup [(Dt.tup [(Dt.str "a"),(Dt.str "a")]),(Dt.tup []),(Dt.tup [])])]
def ah0:List Dt:=[(Dt.tup [(Dt.tup [(Dt.str "a"),(Dt.str "b")]),(Dt.tup []),(Dt.tup [(Dt.tup [(Dt.str "a"),(Dt.str "c"),(Dt.int 0)])])]),(Dt.tup [(Dt.tup [(Dt.str "a"),(Dt.str "b")]),(Dt.tup [(Dt.tup [(Dt.int 1),(Dt.str "a"),(Dt.str "b"),(Dt.int 0)]),(Dt.tup [(Dt.int 2),(Dt.str "a"),(Dt.str "b"),(Dt.int 0)])]),(Dt.tup [])])]
def ah1:List Dt:=[(Dt.int 0),(Dt.int 1),(Dt.int 2),(Dt.int 1000),(Dt.int 1001),(eI (-(1:Int))),(Dt.bl true),Dt.non,(Dt.str "1"),(Dt.str ""),(Dt.str "A"),(Dt.str "a"),(Dt.str "b"),(Dt.str "zz"),(Dt.str "abcdefghi"),(Dt.tup []),((eL eI) []),Dt.emp]
def afu:List Dt:=[(Dt.tup [(Dt.int 1),(Dt.str "a"),(Dt.str "b"),(Dt.int 0)]),(Dt.tup [(Dt.str "a"),(Dt.str "b"),(Dt.int 0)]),(Dt.tup [(Dt.str "b"),(Dt.str "a"),(Dt.int 0)]),(Dt.tup [(Dt.int 1),(Dt.str "b"),(Dt.str "a"),(Dt.int 0)]),(Dt.bl false)]
def top (i:Nat):Stmt:=PySem.Challenge.pw_onefolk_k09_what_grounds_are.main.body.getD i (.Pass ⟨0,0,0,0⟩)
abbrev xV:Stmt:=top 21
abbrev qJ:Stmt:=top 22
abbrev uR:Stmt:=top 23
abbrev rZ:Stmt:=top 24
abbrev pA:Stmt:=top 34
abbrev su:Stmt:=top 32
abbrev qK:Stmt:=top 33
abbrev xW:Stmt:=top 2
abbrev xX:Stmt:=top 1
abbrev uT:Stmt:=top 11
abbrev sy:Stmt:=top 8
abbrev Br:Stmt:=top 7
abbrev Ft:Stmt:=top 14
abbrev uU:Stmt:=top 13
abbrev sI:Stmt:=top 3
abbrev uV:Stmt:=top 16
abbrev xY:Stmt:=top 19
abbrev qL:Stmt:=top 17
abbrev xZ:Stmt:=top 18
abbrev uW:Stmt:=top 15
abbrev qM:Stmt:=top 25
abbrev Bt:Stmt:=top 27
abbrev qN:Stmt:=top 26
abbrev nj:Stmt:=top 28
abbrev sJ:Stmt:=top 29
abbrev sO:Stmt:=top 30
abbrev nq:Stmt:=top 31
abbrev Ln:Stmt:=top 35
def fuel:Nat:=4
def Cg:Ev->Option Out:=(aK (aK (setG 2 (b2 fH (b2 bQ (b2 BR (gv 2) (cB (.int 69621))) (gv 3)) (cB (.int 2147483647)))) gq) (oh [3]))
def yc:Ev->Option Out:=(aK (Bf (Pz TY (gv 1) (aP tM (ak (gv 0) aC))) (aK (eX (b2 eU (gv 0) (gv 1))) gq) gq) (aK (setG 2 (b2 fH (b2 BR (cB (.int 48271)) (b2 bQ (b2 bQ (b2 BR (gv 1) (gv 1)) (b2 BR (cB (.int 7)) (gv 1))) (cB (.int 11)))) (cB (.int 2147483647)))) (aK (CN (itF (wG (gv 0) dR (dZ (cB (.int 3))))) (mK 3) Cg) (aK (eX (gv 2)) gq))))
def gY:List Bx->Option Bx:=fu 4 yc
def qx:Ev->Option Out:=(aK (aK (setG 3 (b2 fH (b2 bQ (b2 bQ (b2 BR (gv 3) (b2 bQ (b2 fH (gv 3) (cB (.int 65521))) (cB (.int 40487)))) (b2 BR (cB (.int 7)) (gv 5))) (cB (.int 5))) (cB (.int 1999999973)))) (aK (CK 2 (b2 eU (aP fX (ak (gv 3) (ak (b2 fH (gv 4) (cB (.int 1000000))) aC))) (aP Zz (ak (b2 gtB (gv 4) (cB (.int 0))) aC)))) (aK (setG 4 (b2 uJ (gv 4) (cB (.int 1000000)))) gq))) (oh [5]))
def qO:Ev->Option Out:=(aK (setG 2 (aP fX aC)) (aK (setG 3 (b2 fH (b2 BR (b2 bQ (b2 fH (gv 0) (cB (.int 1999999973))) (cB (.int 31))) (cB (.int 765432101))) (cB (.int 1999999973)))) (aK (setG 4 (cB (.int 0))) (aK (Bf (N6 (Pz TY (gv 0) (cB (.int 0))) (Pz geB (gv 0) (b2 Zu (cB (.int 10)) (cB (.int 18))))) (aK (aK (setG 4 (aP Zy (ak (gv 0) aC))) gq) (oh [])) (aK gq (oh []))) (aK (CN (PJ (ak (gv 1) aC)) (mK 5) qx) (aK (Kr 2) gq))))))
def cV:List Bx->Option Bx:=fu 6 qO
def tZ:Ev->Option Out:=(aK (aK (setG 7 (b2 eU (gv 2) (b2 fH (b2 bQ (gv 6) (b2 eU (gv 0) (cB (.int 2)))) (cB (.int 15))))) (aK (setG 8 (b2 bQ (b2 bQ (wG (gv 3) dR (dZ (gv 4))) (gv 7)) (wG (gv 3) (dZ (gv 4)) dR))) (aK (Bf (Pz eqB (b2 fH (b2 eU (gv 0) (cB (.int 3))) (cB (.int 3))) (cB (.int 1))) (aK (aK (setG 8 (b2 BR (b2 eU (gv 2) (b2 uJ (gv 6) (cB (.int 8)))) (b2 bQ (cB (.int 1)) (b2 fH (gv 6) (cB (.int 8)))))) gq) (oh [])) (aK gq (oh []))) (aK (CK 5 (gv 8)) gq)))) (oh [6,7,8]))
def uX:Ev->Option Out:=(aK (setG 2 (cB (.str "abcdefghijklmnopqrstuvwxyz"))) (aK (setG 3 (b1 (PL "") (dW (PJ (ak (b2 fH (b2 eU (gv 0) (cB (.int 0))) (cB (.int 6))) aC)) (mK 2) jM (b2 eU (gv 0) (b2 fH (b2 uJ (b2 eU (gv 1) (gv 2)) (cB (.int 40))) (cB (.int 26)))) [2,0] 1))) (aK (setG 4 (b2 fH (b2 eU (gv 0) (cB (.int 1))) (b2 bQ (aP tM (ak (gv 3) aC)) (cB (.int 1))))) (aK (setG 5 (aP fX aC)) (aK (CN (PJ (ak (gv 1) aC)) (mK 6) tZ) (aK (Kr 5) gq))))))
def jG:List Bx->Option Bx:=fu 9 uX
def rE:Ev->Option Out:=(aK (aK (setG 9 (bH 2 cV (ak (b1 kj (bH 2 gY (ak (gv 0) (ak (b1 kj (b2 bQ (b2 bQ (gv 1) (cB (.int 1))) (gv 8))) aC)))) (ak (cB (.int 4)) aC)))) (aK (aeH 10 11 (ak (b2 fH (b2 eU (gv 9) (cB (.int 0))) (aP Oc (ak (cB (.int 1)) (ak (gv 2) aC)))) (ak (b2 fH (b2 eU (gv 9) (cB (.int 1))) (aP Oc (ak (cB (.int 1)) (ak (gv 2) aC)))) aC))) (aK (setG 12 (b2 eU (aP fX (ak (b1 kj (b2 bQ (cB (.int 1)) (b2 fH (b2 eU (gv 9) (cB (.int 2))) (cB (.int 3))))) (ak (b1 kj (b2 bQ (cB (.int 1)) (b2 fH (b2 eU (gv 9) (cB (.int 2))) (cB (.int 9))))) (ak (b1 kj (b2 bQ (cB (.int 1)) (b2 fH (b2 eU (gv 9) (cB (.int 2))) (cB (.int 1000))))) aC)))) (b2 fH (b2 eU (gv 5) (cB (.int 4))) (cB (.int 3))))) (aK (Bf (Pz neB (gv 10) (gv 11)) (aK (aK (CK 7 (aP aJ (ak (b2 subB (cB (.int 0)) (gv 12)) (ak (b2 eU (gv 6) (aP ZG (ak (gv 10) (ak (gv 11) aC)))) (ak (b2 eU (gv 6) (aP Oc (ak (gv 10) (ak (gv 11) aC)))) (ak (b2 eU (aP fX (ak (cB (.int 0)) (ak (cB (.int 2)) (ak (cB (.int 10)) aC)))) (b2 fH (b2 eU (gv 9) (cB (.int 3))) (cB (.int 3)))) aC)))))) gq) (oh [])) (aK gq (oh []))) gq)))) (oh [8,9,10,11,12]))
def rG:Ev->Option Out:=(aK (aK (setG 9 (bH 2 cV (ak (b1 kj (bH 2 gY (ak (gv 0) (ak (b1 kj (b2 bQ (b2 bQ (gv 1) (cB (.int 1))) (gv 8))) aC)))) (ak (cB (.int 8)) aC)))) (aK (aeH 10 11 (ak (b2 fH (b2 eU (gv 9) (cB (.int 5))) (aP Oc (ak (cB (.int 1)) (ak (gv 2) aC)))) (ak (b2 fH (b2 eU (gv 9) (cB (.int 6))) (aP Oc (ak (cB (.int 1)) (ak (gv 2) aC)))) aC))) (aK (Bf (Pz neB (gv 10) (gv 11)) (aK (aK (CK 14 (aP aJ (ak (b2 eU (gv 6) (aP ZG (ak (gv 10) (ak (gv 11) aC)))) (ak (b2 eU (gv 6) (aP Oc (ak (gv 10) (ak (gv 11) aC)))) (ak (b2 eU (aP fX (ak (cB (.int 2)) (ak (cB (.int 10)) aC))) (b2 fH (b2 eU (gv 9) (cB (.int 7))) (cB (.int 2)))) aC))))) gq) (oh [])) (aK gq (oh []))) gq))) (oh [8,9,10,11]))
def sS:Ev->Option Out:=(aK (setG 5 (bH 2 cV (ak (b1 kj (bH 2 gY (ak (gv 0) (ak (gv 1) aC)))) (ak (cB (.int 6)) aC)))) (aK (setG 6 (aP yN (ak (bH 2 jG (ak (gv 5) (ak (gv 2) aC))) aC))) (aK (setG 7 (aP fX aC)) (aK (CN (PJ (ak (gv 3) aC)) (mK 8) rE) (aK (setG 13 (dW (Bj (La (RT (gv 7)))) (BX 4 (fL (mK 0) (fL (mK 1) (fL (mK 2) (fL (mK 3) Ip))))) jM (aP aJ (ak (b2 subB (cB (.int 0)) (gv 0)) (ak (gv 1) (ak (gv 2) (ak (gv 3) aC))))) [] 4)) (aK (setG 14 (aP fX aC)) (aK (CN (PJ (ak (gv 4) aC)) (mK 8) rG) (aK (eX (aP aJ (ak (aP vV (ak (gv 6) aC)) (ak (aP vV (ak (gv 13) aC)) (ak (aP vV (ak (La (RT (gv 14))) aC)) aC))))) gq))))))))
def iT:List Bx->Option Bx:=fu 15 sS
def pB:Ev->Option Out:=(aK (setG 0 (cB (.str "abcdefghijklmnopqrstuvwxyz"))) (aK (setG 1 (dW (Bj (gv 0)) (mK 0) jM (aP aJ (ak (aP aJ (ak (gv 0) aC)) (ak (aP aJ aC) (ak (aP aJ aC) aC)))) [] 1)) (aK (setG 1 (b2 bQ (gv 1) (dW (PJ (ak (cB (.int 25)) aC)) (mK 1) jM (aP aJ (ak (cB (.int 1)) (ak (b2 eU (gv 0) (gv 1)) (ak (b2 eU (gv 0) (b2 bQ (gv 1) (cB (.int 1)))) (ak (cB (.int 0)) aC))))) [0] 1))) (aK (setG 1 (b2 bQ (gv 1) (dW (PJ (ak (cB (.int 25)) aC)) (mK 1) jM (aP aJ (ak (b1 kj (b2 bQ (b2 eU (gv 0) (gv 1)) (cB (.str "a")))) (ak (b1 kj (b2 bQ (b2 eU (gv 0) (b2 bQ (gv 1) (cB (.int 1)))) (cB (.str "z")))) (ak (cB (.int 3)) aC)))) [0] 1))) (aK (setG 1 (b2 bQ (gv 1) (aP fX (ak (aP aJ (ak (aP Jb (ak (wG (gv 0) dR (dZ (cB (.int 13)))) aC)) (ak (aP aJ aC) (ak (aP aJ aC) aC)))) (ak (aP aJ (ak (aP Jb (ak (wG (gv 0) (dZ (cB (.int 13))) dR) aC)) (ak (aP aJ aC) (ak (aP aJ aC) aC)))) aC))))) (aK (Kr 1) gq))))))
def fD:List Bx->Option Bx:=fu 2 pB
def sU:Ev->Option Out:=(aK (setG 3 (cB (.str "abcdefghijklmnopqrstuvwxyz0123456789 ABCDEFGHIJKLMNOPQRSTUVWXYZ"))) (aK (setG 3 (b2 bQ (gv 3) (cB (.str "!#$&'()*+,-./:;<=>?\x40[]^_`{|}~\"\\")))) (aK (setG 4 (b2 eU (gv 3) (b2 fH (b2 uJ (gv 2) (cB (.int 6))) (b2 eU (aP fX (ak (cB (.int 36)) (ak (cB (.int 94)) aC))) (b2 fH (b2 uJ (gv 2) (cB (.int 3))) (cB (.int 2))))))) (aK (setG 5 (b2 fH (gv 1) (b2 bQ (aP tM (ak (gv 0) aC)) (cB (.int 1))))) (aK (eX (b2 eU (aP fX (ak (b1 kj (b2 bQ (b2 bQ (wG (gv 0) dR (dZ (gv 5))) (gv 4)) (wG (gv 0) (dZ (gv 5)) dR))) (ak (b1 kj (b2 bQ (b2 bQ (wG (gv 0) dR (dZ (gv 5))) (gv 4)) (wG (gv 0) (dZ (b2 bQ (gv 5) (cB (.int 1)))) dR))) (ak (b1 kj (b2 bQ (wG (gv 0) dR (dZ (gv 5))) (wG (gv 0) (dZ (b2 bQ (gv 5) (cB (.int 1)))) dR))) aC)))) (b2 fH (gv 2) (cB (.int 3))))) gq)))))
def iU:List Bx->Option Bx:=fu 6 sU
def qP (gA:List Bx->Option Bx):Ev->Option Out:=(aK (setG 3 (b2 eU (gv 1) (cB (.int 0)))) (aK (Bf (Wv (tV (n8 jz (gv 0))) (Pz eqB (b2 fH (gv 3) (cB (.int 3))) (cB (.int 1)))) (aK (eX (bH 3 iU (ak (gv 0) (ak (b2 eU (gv 1) (cB (.int 1))) (ak (b2 eU (gv 1) (cB (.int 2))) aC))))) gq) gq) (aK (Bf (Wv (tV (n8 nF (gv 0))) (Pz eqB (b2 fH (gv 3) (cB (.int 3))) (cB (.int 1)))) (aK (eX (b2 bQ (gv 0) (b2 eU (aP fX (ak (cB (.int 1)) (ak (b2 subB (cB (.int 0)) (cB (.int 1))) aC))) (b2 fH (b2 uJ (gv 3) (cB (.int 3))) (cB (.int 2)))))) gq) gq) (aK (setG 4 (aP fX (ak (cB (.int 0)) (ak (cB (.int 1)) (ak (cB (.int 2)) (ak (cB (.int 1000)) (ak (cB (.int 1001)) (ak (b1 zM (cB (.int 1))) (ak (cB (.bl true)) (ak (cB .non) (ak (cB (.str "1")) (ak (cB (.str "")) (ak (cB (.str "A")) (ak (cB (.str "a")) (ak (cB (.str "b")) (ak (cB (.str "zz")) (ak (cB (.str "abcdefghi")) (ak (aP aJ aC) (ak (b1 kj (aP fX aC)) (ak (cB .emp) aC)))))))))))))))))))) (aK (setG 4 (b2 bQ (gv 4) (aP fX (ak (aP aJ (ak (cB (.int 1)) (ak (cB (.str "a")) (ak (cB (.str "b")) (ak (cB (.int 0)) aC))))) (ak (aP aJ (ak (cB (.str "a")) (ak (cB (.str "b")) (ak (cB (.int 0)) aC)))) (ak (aP aJ (ak (cB (.str "b")) (ak (cB (.str "a")) (ak (cB (.int 0)) aC)))) (ak (aP aJ (ak (cB (.int 1)) (ak (cB (.str "b")) (ak (cB (.str "a")) (ak (cB (.int 0)) aC))))) (ak (cB (.bl false)) aC)))))))) (aK (Bf (N6 (mW (tV (n8 is_tuple (gv 0)))) (Pz eqB (gv 0) (aP aJ aC))) (aK (eX (b2 eU (gv 4) (b2 fH (b2 uJ (gv 3) (cB (.int 3))) (cB (.int 23))))) gq) gq) (aK (setG 5 (b2 fH (b2 uJ (gv 3) (cB (.int 8))) (aP tM (ak (gv 0) aC)))) (aK (Bf (Wv (Pz gtB (gv 2) (cB (.int 0))) (Pz gtB (b2 fH (gv 3) (cB (.int 8))) (cB (.int 0)))) (aK (eX (b2 bQ (b2 bQ (wG (gv 0) dR (dZ (gv 5))) (aP aJ (ak (b1 kj (bH 3 gA (ak (b2 eU (gv 0) (gv 5)) (ak (b1 kj (wG (gv 1) (dZ (cB (.int 1))) dR)) (ak (b2 subB (gv 2) (cB (.int 1))) aC))))) aC))) (wG (gv 0) (dZ (b2 bQ (gv 5) (cB (.int 1)))) dR))) gq) gq) (aK (setG 6 (b2 fH (b2 uJ (gv 3) (cB (.int 64))) (cB (.int 6)))) (aK (Bf (Pz eqB (gv 6) (cB (.int 5))) (aK (eX (b2 bQ (gv 0) (aP aJ (ak (b2 eU (gv 4) (b2 fH (b2 uJ (gv 3) (cB (.int 512))) (cB (.int 23)))) aC)))) gq) gq) (aK (setG 4 (aP fX (ak (b1 kj (b2 bQ (wG (gv 0) dR (dZ (gv 5))) (wG (gv 0) (dZ (b2 bQ (gv 5) (cB (.int 1)))) dR))) (ak (b1 kj (b2 bQ (b2 bQ (wG (gv 0) dR (dZ (gv 5))) (aP aJ (ak (b2 eU (gv 0) (gv 5)) aC))) (wG (gv 0) (dZ (gv 5)) dR))) (ak (b1 kj (b2 KN (gv 0) (b1 zM (cB (.int 1))))) (ak (b1 kj (aP qY (ak (gv 0) aC))) aC)))))) (aK (eX (b2 eU (b2 bQ (gv 4) (aP fX (ak (b1 kj (wG (gv 0) (dZ (cB (.int 1))) dR)) aC))) (gv 6))) gq))))))))))))
def d7:Nat->List Bx->Option Bx
 |0=>fu 7 fun _=>none
 |n+1=>fu 7 (qP (d7 n))
def gA:List Bx->Option Bx:=d7 fuel
def yd:Ev->Option Out:=(aK (eX (oX (n8 is_tuple (gv 0)) (b2 eqB (aP tM (ak (gv 0) aC)) (gv 1)))) gq)
def gZ:List Bx->Option Bx:=fu 2 yd
def yg:Ev->Option Out:=(aK (eX (oX (n8 nF (gv 0)) (abg (n8 is_bool (gv 0))))) gq)
def jO:List Bx->Option Bx:=fu 1 yg
def uY:Ev->Option Out:=(aK (eX (oX (bH 1 jO (ak (gv 0) aC)) (ch3 leB leB (cB (.int 1)) (gv 0) (cB (.int 1000))))) gq)
def lu:List Bx->Option Bx:=fu 1 uY
def sV:Ev->Option Out:=(aK (eX (oX (n8 jz (gv 0)) (oX (ch3 leB leB (cB (.int 1)) (aP tM (ak (gv 0) aC)) (gv 2)) (aP allB (ak (dW (Bj (gv 0)) (mK 1) jM (b2 inF (gv 1) (gv 0)) [1] 1) aC))))) gq)
def jP:List Bx->Option Bx:=fu 3 sV
def Bu:Ev->Option Out:=(aK (eX (bH 3 jP (ak (gv 0) (ak (cB (.str "abcdefghijklmnopqrstuvwxyz")) (ak (cB (.int 8)) aC))))) gq)
def j4:List Bx->Option Bx:=fu 1 Bu
def Fv:Ev->Option Out:=(aK (Bf (mW (tV (bH 2 gZ (ak (gv 0) (ak (cB (.int 3)) aC))))) (aK (eX (cB (.bl false))) gq) gq) (aK (ZC (BX 3 (fL (mK 1) (fL (mK 2) (fL (mK 3) Ip)))) (gv 0)) (aK (eX (oX (bH 1 j4 (ak (gv 1) aC)) (oX (bH 1 j4 (ak (gv 2) aC)) (oX (b2 TY (gv 1) (gv 2)) (oX (bH 1 jO (ak (gv 3) aC)) (b2 geB (gv 3) (cB (.int 0)))))))) gq)))
def lA:List Bx->Option Bx:=fu 4 Fv
def uZ:Ev->Option Out:=(aK (eX (oX (bH 2 gZ (ak (gv 0) (ak (cB (.int 4)) aC))) (oX (bH 1 lu (ak (b2 eU (gv 0) (cB (.int 0))) aC)) (bH 1 lA (ak (b1 kj (wG (gv 0) (dZ (cB (.int 1))) dR)) aC))))) gq)
def iV:List Bx->Option Bx:=fu 1 uZ
def iW:Ev->Option Out:=(aK (eX (aP allB (ak (dW (PJ (ak (b2 subB (aP tM (ak (gv 0) aC)) (cB (.int 1))) aC)) (mK 1) jM (b2 (orB TY Xe) (b2 eU (gv 0) (gv 1)) (b2 eU (gv 0) (b2 bQ (gv 1) (cB (.int 1))))) [0] 1) aC))) gq)
def cZ:List Bx->Option Bx:=fu 1 iW
def u0:Ev->Option Out:=(aK (eX (oX (n8 is_tuple (gv 0)) (oX (aP allB (ak (dW (Bj (gv 0)) (mK 0) jM (b1 kj (bH 1 j4 (ak (gv 0) aC))) [] 1) aC)) (bH 1 cZ (ak (gv 0) aC))))) gq)
def lB:List Bx->Option Bx:=fu 1 u0
def yh:Ev->Option Out:=(aK (ZC (BX 4 (fL (mK 1) (fL (mK 2) (fL (mK 3) (fL (mK 4) Ip))))) (gv 0)) (aK (eX (aP aJ (ak (b1 zM (gv 1)) (ak (gv 2) (ak (gv 3) (ak (gv 4) aC)))))) gq))
def nJ:List Bx->Option Bx:=fu 5 yh
def qQ:Ev->Option Out:=(aK (Bf (N6 (mW (tV (n8 is_tuple (gv 0)))) (mW (tV (aP allB (ak (dW (Bj (gv 0)) (mK 0) jM (b1 kj (bH 1 iV (ak (gv 0) aC))) [] 1) aC))))) (aK (eX (cB (.bl false))) gq) gq) (aK (Bf (mW (tV (aP allB (ak (dW (Bj (gv 0)) (mK 1) jM (oX (b2 inF (b2 eU (gv 1) (cB (.int 1))) (gv 0)) (b2 inF (b2 eU (gv 1) (cB (.int 2))) (gv 0))) [1] 1) aC)))) (aK (eX (cB (.bl false))) gq) gq) (aK (eX (bH 1 cZ (ak (b1 kj (dW (Bj (gv 0)) (mK 0) jM (b1 kj (bH 1 nJ (ak (gv 0) aC))) [] 1)) aC))) gq)))
def jk:List Bx->Option Bx:=fu 2 qQ
def yj:Ev->Option Out:=(aK (Bf (N6 (mW (tV (n8 is_tuple (gv 0)))) (mW (tV (aP allB (ak (dW (Bj (gv 0)) (mK 0) jM (b1 kj (bH 1 lA (ak (gv 0) aC))) [] 1) aC))))) (aK (eX (cB (.bl false))) gq) gq) (aK (eX (oX (aP allB (ak (dW (Bj (gv 0)) (mK 1) jM (oX (b2 inF (b2 eU (gv 1) (cB (.int 0))) (gv 0)) (b2 inF (b2 eU (gv 1) (cB (.int 1))) (gv 0))) [1] 1) aC)) (bH 1 cZ (ak (gv 0) aC)))) gq))
def nM:List Bx->Option Bx:=fu 2 yj
def u5:Ev->Option Out:=(aK (Bf (mW (tV (bH 2 gZ (ak (gv 0) (ak (cB (.int 3)) aC))))) (aK (eX (cB (.bl false))) gq) gq) (aK (ZC (BX 3 (fL (mK 1) (fL (mK 2) (fL (mK 3) Ip)))) (gv 0)) (aK (eX (oX (bH 1 lB (ak (gv 1) aC)) (oX (bH 2 jk (ak (gv 2) (ak (gv 1) aC))) (bH 2 nM (ak (gv 3) (ak (gv 1) aC)))))) gq)))
def lC:List Bx->Option Bx:=fu 4 u5
def qR:Ev->Option Out:=(aK (Bf (N6 (mW (tV (n8 jz (gv 0)))) (mW (tC3 TY TY (cB (.int 0)) (aP tM (ak (gv 0) aC)) (cB (.int 9))))) (aK (eX (cB (.bl false))) gq) gq) (aK (eX (aP allB (ak (dW (Bj (gv 0)) (mK 0) jM (b2 inF (gv 0) (cB (.str "abcdefghijklmnopqrstuvwxyz"))) [] 1) aC))) gq))
def dG:List Bx->Option Bx:=fu 1 qR
def Bv:Ev->Option Out:=(aK (eX (oX (bH 1 dG (ak (gv 0) aC)) (oX (bH 1 dG (ak (gv 1) aC)) (b2 TY (gv 0) (gv 1))))) gq)
def lW:List Bx->Option Bx:=fu 2 Bv
def qT:Ev->Option Out:=(aK (eX (oX (n8 nF (gv 0)) (oX (abg (n8 is_bool (gv 0))) (ch3 leB leB (gv 1) (gv 0) (gv 2))))) gq)
def d8:List Bx->Option Bx:=fu 3 qT
def nu:Ev->Option Out:=(aK (Bf (N6 (mW (tV (n8 is_tuple (gv 0)))) (N6 (Pz neB (aP tM (ak (gv 0) aC)) (cB (.int 4))) (mW (tV (bH 2 lW (ak (b2 eU (gv 0) (cB (.int 1))) (ak (b2 eU (gv 0) (cB (.int 2))) aC))))))) (aK (eX (cB (.bl false))) gq) gq) (aK (eX (oX (bH 3 d8 (ak (b2 eU (gv 0) (cB (.int 0))) (ak (cB (.int 1)) (ak (cB (.int 1000)) aC)))) (bH 3 d8 (ak (b2 eU (gv 0) (cB (.int 3))) (ak (cB (.int 0)) (ak (b2 Zu (cB (.int 10)) (cB (.int 12))) aC)))))) gq))
def cW:List Bx->Option Bx:=fu 1 nu
def sW:Ev->Option Out:=(aK (Bf (N6 (mW (tV (n8 is_tuple (gv 0)))) (N6 (Pz neB (aP tM (ak (gv 0) aC)) (cB (.int 3))) (mW (tV (bH 2 lW (ak (b2 eU (gv 0) (cB (.int 0))) (ak (b2 eU (gv 0) (cB (.int 1))) aC))))))) (aK (eX (cB (.bl false))) gq) gq) (aK (eX (bH 3 d8 (ak (b2 eU (gv 0) (cB (.int 2))) (ak (cB (.int 0)) (ak (b2 Zu (cB (.int 10)) (cB (.int 12))) aC))))) gq))
def eY:List Bx->Option Bx:=fu 1 sW
def iY:Ev->Option Out:=(aK (eX (oX (b2 eqB (gv 0) (orF (aP yN (ak (gv 0) aC)) (aP GQ (ak (gv 0) aC)))) (b2 eqB (orF (Ew (RQ (gv 0))) (Vb (RT (gv 0)))) (aP tM (ak (gv 0) aC))))) gq)
def cR:List Bx->Option Bx:=fu 1 iY
def nA:Ev->Option Out:=(aK (Bf (N6 (mW (tV (n8 is_tuple (gv 0)))) (N6 (Pz neB (aP tM (ak (gv 0) aC)) (cB (.int 3))) (mW (tV (aP allB (ak (dW (Bj (gv 0)) (mK 0) jM (b1 kj (n8 is_tuple (gv 0))) [] 1) aC)))))) (aK (eX (cB (.bl false))) gq) gq) (aK (ZC (BX 3 (fL (mK 1) (fL (mK 2) (fL (mK 3) Ip)))) (gv 0)) (aK (Bf (N6 (mW (tV (aP allB (ak (dW (Bj (gv 1)) (mK 0) jM (b1 kj (bH 1 dG (ak (gv 0) aC))) [] 1) aC)))) (mW (tV (bH 1 cR (ak (b1 kj (aP qY (ak (gv 1) aC))) aC))))) (aK (eX (cB (.bl false))) gq) gq) (aK (Bf (N6 (mW (tV (aP allB (ak (dW (Bj (gv 2)) (mK 0) jM (b1 kj (bH 1 cW (ak (gv 0) aC))) [] 1) aC)))) (mW (tV (aP allB (ak (dW (Bj (gv 3)) (mK 0) jM (b1 kj (bH 1 eY (ak (gv 0) aC))) [] 1) aC))))) (aK (eX (cB (.bl false))) gq) gq) (aK (Bf (N6 (mW (tV (bH 1 cR (ak (b1 kj (dW (Bj (gv 2)) (mK 0) jM (b1 kj (b2 bQ (aP aJ (ak (b2 subB (cB (.int 0)) (b2 eU (gv 0) (cB (.int 0)))) aC)) (wG (gv 0) (dZ (cB (.int 1))) dR))) [] 1)) aC)))) (mW (tV (bH 1 cR (ak (b1 kj (aP qY (ak (gv 3) aC))) aC))))) (aK (eX (cB (.bl false))) gq) gq) (aK (setG 4 (b2 bQ (dW (Bj (gv 2)) (mK 0) jM (b1 kj (wG (gv 0) (dZ (cB (.int 1))) (dZ (cB (.int 3))))) [] 1) (dW (Bj (gv 3)) (mK 0) jM (b1 kj (wG (gv 0) dR (dZ (cB (.int 2))))) [] 1))) (aK (eX (aP allB (ak (dW (Bj (gv 4)) (mK 1) jM (oX (b2 inF (b2 eU (gv 1) (cB (.int 0))) (gv 0)) (b2 inF (b2 eU (gv 1) (cB (.int 1))) (gv 0))) [1] 1) aC))) gq)))))))
def fQ:List Bx->Option Bx:=fu 5 nA
def Lq:Ev->Option Out:=(aK (aK (setG 7 (bH 2 cV (ak (gv 6) (ak (cB (.int 10)) aC)))) (aK (CK 3 (b1 kj (bH 3 gA (ak (b2 eU (gv 5) (b2 BR (b2 fH (b2 eU (gv 7) (cB (.int 0))) (aP tM (ak (gv 5) aC))) (aP Zz (ak (b2 eqB (b2 fH (b2 eU (gv 7) (cB (.int 1))) (cB (.int 2))) (cB (.int 1))) aC)))) (ak (b1 kj (wG (gv 7) (dZ (cB (.int 2))) dR)) (ak (b2 fH (b2 uJ (b2 eU (gv 7) (cB (.int 1))) (cB (.int 2))) (cB (.int 4))) aC)))))) gq)) (oh [6,7]))
def Lr:Ev->Option Out:=(aK (aK (setG 9 (aP fX (ak (b1 kj (bH 1 iV (ak (gv 8) aC))) (ak (b1 kj (bH 1 lA (ak (gv 8) aC))) (ak (b1 kj (bH 1 lC (ak (gv 8) aC))) aC))))) (aK (Bf (Pz neB (gv 9) (aP fX (ak (b1 kj (bH 1 cW (ak (gv 8) aC))) (ak (b1 kj (bH 1 eY (ak (gv 8) aC))) (ak (b1 kj (bH 1 fQ (ak (gv 8) aC))) aC))))) (aK (eX (cB (.bl false))) gq) gq) (aK (Bf (mW (tV (aP allB (ak (dW (Bj (gv 9)) (mK 0) jM (b1 kj (n8 is_bool (gv 0))) [] 1) aC)))) (aK (eX (cB (.bl false))) gq) gq) gq))) (oh [8,9]))
def YL:Ev->Option Out:=(aK (setG 1 (bH 2 cV (ak (b1 kj (bH 2 gY (ak (gv 0) (ak (cB (.int 0)) aC)))) (ak (cB (.int 9)) aC)))) (aK (setG 2 (bH 5 iT (ak (gv 0) (ak (cB (.int 0)) (ak (b2 fH (b2 eU (gv 1) (cB (.int 6))) (cB (.int 7))) (ak (b2 fH (b2 eU (gv 1) (cB (.int 7))) (cB (.int 9))) (ak (b2 fH (b2 eU (gv 1) (cB (.int 8))) (cB (.int 5))) aC))))))) (aK (setG 3 (aP fX (ak (gv 2) (ak (b1 kj (aP qY (ak (gv 2) aC))) (ak (b1 kj (wG (gv 2) dR (dZ (cB (.int 2))))) (ak (aP aJ (ak (aP aJ aC) (ak (aP aJ aC) (ak (aP aJ aC) aC)))) (ak (aP aJ (ak (aP aJ aC) (ak (aP aJ aC) aC))) (ak (aP aJ aC) (ak (cB .non) (ak (cB (.int 0)) (ak (cB (.str "a")) (ak (b1 kj (aP fX aC)) (ak (cB .emp) (ak (cB (.bl true)) aC)))))))))))))) (aK (setG 3 (b2 bQ (gv 3) (aP fX (ak (aP aJ (ak (aP aJ (ak (cB (.str "a")) aC)) (ak (aP aJ aC) (ak (aP aJ aC) aC)))) (ak (aP aJ (ak (cB (.int 1)) (ak (cB (.str "a")) (ak (cB (.str "b")) (ak (cB (.int 0)) aC))))) (ak (aP aJ (ak (cB (.int 1)) (ak (cB (.str "b")) (ak (cB (.str "a")) (ak (cB (.int 0)) aC))))) (ak (aP aJ (ak (cB (.int 0)) (ak (cB (.str "a")) (ak (cB (.str "b")) (ak (cB (.int 0)) aC))))) (ak (aP aJ (ak (cB (.int 1001)) (ak (cB (.str "a")) (ak (cB (.str "b")) (ak (cB (.int 0)) aC))))) aC)))))))) (aK (setG 3 (b2 bQ (gv 3) (aP fX (ak (aP aJ (ak (cB (.int 1000)) (ak (cB (.str "a")) (ak (cB (.str "b")) (ak (cB (.int 99)) aC))))) (ak (aP aJ (ak (cB (.int 1)) (ak (cB (.str "a")) (ak (cB (.str "b")) (ak (b1 zM (cB (.int 1))) aC))))) (ak (aP aJ (ak (cB (.int 1)) (ak (cB (.str "a")) (ak (cB (.str "a")) (ak (cB (.int 0)) aC))))) (ak (aP aJ (ak (cB (.int 1)) (ak (cB (.str "a")) (ak (cB (.str "b")) (ak (cB (.bl true)) aC))))) (ak (b1 kj (aP fX (ak (cB (.str "a")) (ak (cB (.str "b")) (ak (cB (.int 0)) aC))))) aC)))))))) (aK (setG 3 (b2 bQ (gv 3) (aP fX (ak (aP aJ (ak (cB (.bl true)) (ak (cB (.str "a")) (ak (cB (.str "b")) (ak (cB (.int 0)) aC))))) (ak (aP aJ (ak (cB (.str "a")) (ak (cB (.str "b")) (ak (cB (.int 0)) aC)))) (ak (aP aJ (ak (cB (.str "b")) (ak (cB (.str "a")) (ak (cB (.int 0)) aC)))) (ak (aP aJ (ak (cB (.str "a")) (ak (cB (.str "b")) aC))) (ak (aP aJ (ak (cB (.str "a")) (ak (cB (.str "b")) (ak (cB .non) aC)))) aC)))))))) (aK (setG 3 (b2 bQ (gv 3) (aP fX (ak (aP aJ (ak (cB (.str "a")) (ak (cB (.str "b")) (ak (cB (.int 0)) (ak (cB (.int 0)) aC))))) (ak (aP aJ (ak (aP aJ (ak (cB .non) aC)) (ak (aP aJ aC) (ak (aP aJ aC) aC)))) (ak (aP aJ (ak (aP aJ (ak (cB (.str "b")) (ak (cB (.str "a")) aC))) (ak (aP aJ aC) (ak (aP aJ aC) aC)))) (ak (aP aJ (ak (aP aJ (ak (cB (.str "a")) (ak (cB (.str "a")) aC))) (ak (aP aJ aC) (ak (aP aJ aC) aC)))) aC))))))) (aK (CK 3 (aP aJ (ak (aP aJ (ak (cB (.str "a")) (ak (cB (.str "b")) aC))) (ak (aP aJ (ak (aP aJ (ak (cB (.int 1)) (ak (cB (.str "a")) (ak (cB (.str "c")) (ak (cB (.int 0)) aC))))) aC)) (ak (aP aJ aC) aC))))) (aK (setG 3 (b2 bQ (gv 3) (aP fX (ak (aP aJ (ak (aP aJ (ak (cB (.str "a")) (ak (cB (.str "b")) aC))) (ak (aP aJ aC) (ak (aP aJ (ak (aP aJ (ak (cB (.str "a")) (ak (cB (.str "c")) (ak (cB (.int 0)) aC)))) aC)) aC)))) (ak (aP aJ (ak (aP aJ (ak (cB (.str "a")) (ak (cB (.str "b")) aC))) (ak (aP aJ (ak (aP aJ (ak (cB (.int 1)) (ak (cB (.str "a")) (ak (cB (.str "b")) (ak (cB (.int 0)) aC))))) (ak (aP aJ (ak (cB (.int 2)) (ak (cB (.str "a")) (ak (cB (.str "b")) (ak (cB (.int 0)) aC))))) aC))) (ak (aP aJ aC) aC)))) aC))))) (aK (CK 3 (aP aJ (ak (aP aJ (ak (cB (.str "a")) (ak (cB (.str "b")) aC))) (ak (aP aJ (ak (aP aJ (ak (cB (.int 1)) (ak (cB (.str "a")) (ak (cB (.str "b")) (ak (cB (.int 0)) aC))))) (ak (aP aJ (ak (cB (.int 1)) (ak (cB (.str "a")) (ak (cB (.str "b")) (ak (cB (.int 0)) aC))))) aC))) (ak (aP aJ aC) aC))))) (aK (CK 3 (aP aJ (ak (aP aJ (ak (cB (.str "a")) (ak (cB (.str "b")) aC))) (ak (aP aJ aC) (ak (aP aJ (ak (aP aJ (ak (cB (.str "a")) (ak (cB (.str "b")) (ak (cB (.int 1)) aC)))) (ak (aP aJ (ak (cB (.str "a")) (ak (cB (.str "b")) (ak (cB (.int 0)) aC)))) aC))) aC))))) (aK (setG 4 (aP aJ (ak (aP aJ (ak (cB (.int 1)) (ak (cB (.str "a")) (ak (cB (.str "b")) (ak (cB (.int 2)) aC))))) (ak (aP aJ (ak (cB (.int 1)) (ak (cB (.str "a")) (ak (cB (.str "b")) (ak (cB (.int 10)) aC))))) (ak (aP aJ (ak (cB (.int 1)) (ak (cB (.str "a")) (ak (cB (.str "b")) (ak (cB (.int 100)) aC))))) aC))))) (aK (setG 3 (b2 bQ (gv 3) (aP fX (ak (aP aJ (ak (aP aJ (ak (cB (.str "a")) (ak (cB (.str "b")) aC))) (ak (gv 4) (ak (aP aJ aC) aC)))) (ak (aP aJ (ak (aP aJ (ak (cB (.str "a")) (ak (cB (.str "b")) aC))) (ak (b1 kj (b2 KN (gv 4) (b1 zM (cB (.int 1))))) (ak (aP aJ aC) aC)))) (ak (aP aJ (ak (aP aJ (ak (cB (.str "a")) (ak (cB (.str "b")) aC))) (ak (aP aJ (ak (b2 eU (gv 4) (cB (.int 1))) (ak (b2 eU (gv 4) (cB (.int 0))) aC))) (ak (aP aJ aC) aC)))) aC)))))) (aK (setG 4 (aP aJ (ak (aP aJ (ak (cB (.str "a")) (ak (cB (.str "b")) (ak (cB (.int 2)) aC)))) (ak (aP aJ (ak (cB (.str "a")) (ak (cB (.str "b")) (ak (cB (.int 10)) aC)))) (ak (aP aJ (ak (cB (.str "a")) (ak (cB (.str "b")) (ak (cB (.int 100)) aC)))) aC))))) (aK (setG 3 (b2 bQ (gv 3) (aP fX (ak (aP aJ (ak (aP aJ (ak (cB (.str "a")) (ak (cB (.str "b")) aC))) (ak (aP aJ aC) (ak (gv 4) aC)))) (ak (aP aJ (ak (aP aJ (ak (cB (.str "a")) (ak (cB (.str "b")) aC))) (ak (aP aJ aC) (ak (b1 kj (b2 KN (gv 4) (b1 zM (cB (.int 1))))) aC)))) (ak (aP aJ (ak (aP aJ (ak (cB (.str "a")) (ak (cB (.str "b")) aC))) (ak (aP aJ aC) (ak (aP aJ (ak (b2 eU (gv 4) (cB (.int 2))) (ak (b2 eU (gv 4) (cB (.int 0))) aC))) aC)))) aC)))))) (aK (CK 3 (aP aJ (ak (aP aJ (ak (cB (.str "abcdefgh")) (ak (cB (.str "b")) aC))) (ak (aP aJ (ak (aP aJ (ak (cB (.int 1)) (ak (cB (.str "abcdefgh")) (ak (cB (.str "b")) (ak (cB (.int 0)) aC))))) aC)) (ak (aP aJ (ak (aP aJ (ak (cB (.str "abcdefgh")) (ak (cB (.str "b")) (ak (cB (.int 0)) aC)))) aC)) aC))))) (aK (setG 3 (b2 bQ (gv 3) (bH 0 fD aC))) (aK (setG 5 (b2 bQ (b2 bQ (aP fX (ak (gv 2) aC)) (aP qY (ak (b2 eU (gv 2) (cB (.int 1))) aC))) (aP qY (ak (b2 eU (gv 2) (cB (.int 2))) aC)))) (aK (CN (itF (wG (gv 0) (dZ (cB (.int 1))) (dZ (cB (.int 30))))) (mK 6) Lq) (aK (Oa 3 (mK 8) Lr) (aK (eX (cB (.bl true))) gq)))))))))))))))))))))
def u6:List Bx->Option Bx:=fu 10 YL
end
end G09
end
section
set_option synthInstance.maxSize 100000
namespace G09
open PySem PySem.Spec PyProof.Rows L2 P1
structure T (K:FG_) (mg:Str->Option Value) (lD:Addr) (lF:FuncData) (gB:Addr) (g8:FuncData) (lG:Addr) (lX:FuncData) (jQ:Addr) (j5:FuncData) (ig:Addr) (iK:FuncData) (iZ:Addr) (jl:FuncData) (gC:Addr) (iu:FuncData) (jR:Addr) (jH:FuncData) (lH:Addr) (lJ:FuncData) (lK:Addr) (lY:FuncData) (jT:Addr) (j6:FuncData) (oF:Addr) (nO:FuncData) (pC:Addr) (oG:FuncData) (jJ:Addr) (jU:FuncData) (gj:Addr) (gF:FuncData) (lM:Addr) (lZ:FuncData) (nP:Addr) (oH:FuncData) (jm:Addr) (jB:FuncData) (nQ:Addr) (oJ:FuncData) (lN:Addr) (mj:FuncData) (gJ:Addr) (iw:FuncData) (oK:Addr) (nR:FuncData) (gK:Addr) (iy:FuncData) (eE:Addr) (eN:FuncData) (jc:Addr) (jo:FuncData) (jV:Addr) (j7:FuncData) (fU:Addr) (gR:FuncData) (Qn:Addr) (Ls:FuncData):Prop where
 gY:zF K "_law_cell" "_law_cell" xV lD lF
 yp:Binds K lF ["_law_script", "_law_k"] []
 yq:mg "_law_cell" = some (.ref lD)
 yr:PySem.W.keepIn K (.ref lD)=true
 cV:zF K "_law_numbers" "_law_numbers" qJ gB g8
 mZ:Binds K g8 ["_law_cell_here", "_law_many"] []
 m5:mg "_law_numbers" = some (.ref gB)
 m7:PySem.W.keepIn K (.ref gB)=true
 jG:zF K "_law_names" "_law_names" uR lG lX
 Vn:Binds K lX ["_law_xs", "_law_many"] []
 Vo:mg "_law_names" = some (.ref lG)
 Vp:PySem.W.keepIn K (.ref lG)=true
 iT:zF K "_law_ground" "_law_ground" rZ jQ j5
 Sh:Binds K j5 ["_law_script", "_law_at", "_law_many", "_law_reasons", "_law_bars"] []
 Sq:mg "_law_ground" = some (.ref jQ)
 Ss:PySem.W.keepIn K (.ref jQ)=true
 fD:zF K "_law_lettered" "_law_lettered" pA ig iK
 Lw:Binds K iK [] []
 Lx:mg "_law_lettered" = some (.ref ig)
 Ly:PySem.W.keepIn K (.ref ig)=true
 iU:zF K "_law_signed" "_law_signed" su iZ jl
 Sv:Binds K jl ["_law_text", "_law_place", "_law_x"] []
 Sw:mg "_law_signed" = some (.ref iZ)
 Sx:PySem.W.keepIn K (.ref iZ)=true
 gA:zF K "_law_changed" "_law_changed" qK gC iu
 Ci:Binds K iu ["_law_thing", "_law_xs", "_law_deep"] []
 Cj:mg "_law_changed" = some (.ref gC)
 Ck:PySem.W.keepIn K (.ref gC)=true
 gZ:zF K "is_tuple" "is_tuple" xW jR jH
 Dh:Binds K jH ["thing", "many"] []
 Di:mg "is_tuple" = some (.ref jR)
 Dj:PySem.W.keepIn K (.ref jR)=true
 jO:zF K "is_whole" "is_whole" xX lH lJ
 Lz:Binds K lJ ["thing"] []
 LC:mg "is_whole" = some (.ref lH)
 LK:PySem.W.keepIn K (.ref lH)=true
 lu:zF K "is_weight" "is_weight" uT lK lY
 Vq:Binds K lY ["thing"] []
 Vr:mg "is_weight" = some (.ref lK)
 Vs:PySem.W.keepIn K (.ref lK)=true
 jP:zF K "is_text_of" "is_text_of" sy jT j6
 Sy:Binds K j6 ["thing", "signs", "longest"] []
 SJ:mg "is_text_of" = some (.ref jT)
 SM:PySem.W.keepIn K (.ref jT)=true
 j4:zF K "is_name" "is_name" Br oF nO
 G4:Binds K nO ["thing"] []
 G5:mg "is_name" = some (.ref oF)
 G6:PySem.W.keepIn K (.ref oF)=true
 lA:zF K "is_bar" "is_bar" Ft pC oG
 LQ:Binds K oG ["thing"] []
 LR:mg "is_bar" = some (.ref pC)
 Ma:PySem.W.keepIn K (.ref pC)=true
 iV:zF K "is_reason" "is_reason" uU jJ jU
 Jc:Binds K jU ["thing"] []
 Jd:mg "is_reason" = some (.ref jJ)
 Je:PySem.W.keepIn K (.ref jJ)=true
 cZ:zF K "are_rising" "are_rising" sI gj gF
 yt:Binds K gF ["things"] []
 yu:mg "are_rising" = some (.ref gj)
 yw:PySem.W.keepIn K (.ref gj)=true
 lB:zF K "are_names" "are_names" uV lM lZ
 Vt:Binds K lZ ["thing"] []
 Vu:mg "are_names" = some (.ref lM)
 Vv:PySem.W.keepIn K (.ref lM)=true
 nJ:zF K "place_of" "place_of" xY nP oH
 Xg:Binds K oH ["reason"] []
 Xh:mg "place_of" = some (.ref nP)
 Xi:PySem.W.keepIn K (.ref nP)=true
 jk:zF K "are_reasons" "are_reasons" qL jm jB
 Oj:Binds K jB ["thing", "names"] []
 Ol:mg "are_reasons" = some (.ref jm)
 Om:PySem.W.keepIn K (.ref jm)=true
 nM:zF K "are_bars" "are_bars" xZ nQ oJ
 Xj:Binds K oJ ["thing", "names"] []
 Xk:mg "are_bars" = some (.ref nQ)
 Xl:PySem.W.keepIn K (.ref nQ)=true
 lC:zF K "is_ground" "is_ground" uW lN mj
 Vw:Binds K mj ["thing"] []
 Vx:mg "is_ground" = some (.ref lN)
 Vy:PySem.W.keepIn K (.ref lN)=true
 dG:zF K "_law_is_name" "_law_is_name" qM gJ iw
 vY:Binds K iw ["_law_thing"] []
 vZ:mg "_law_is_name" = some (.ref gJ)
 wg:PySem.W.keepIn K (.ref gJ)=true
 lW:zF K "_law_two" "_law_two" Bt oK nR
 Qo:Binds K nR ["_law_one", "_law_other"] []
 Qp:mg "_law_two" = some (.ref oK)
 Qq:PySem.W.keepIn K (.ref oK)=true
 d8:zF K "_law_between" "_law_between" qN gK iy
 wj:Binds K iy ["_law_thing", "_law_least", "_law_most"] []
 wz:mg "_law_between" = some (.ref gK)
 wA:PySem.W.keepIn K (.ref gK)=true
 cW:zF K "_law_is_reason" "_law_is_reason" nj eE eN
 yO:Binds K eN ["_law_thing"] []
 yP:mg "_law_is_reason" = some (.ref eE)
 yQ:PySem.W.keepIn K (.ref eE)=true
 eY:zF K "_law_is_bar" "_law_is_bar" sJ jc jo
 Fw:Binds K jo ["_law_thing"] []
 Fy:mg "_law_is_bar" = some (.ref jc)
 Fz:PySem.W.keepIn K (.ref jc)=true
 cR:zF K "_law_rising" "_law_rising" sO jV j7
 yx:Binds K j7 ["_law_some"] []
 yC:mg "_law_rising" = some (.ref jV)
 yD:PySem.W.keepIn K (.ref jV)=true
 fQ:zF K "_law_is_ground" "_law_is_ground" nq fU gR
 Jz:Binds K gR ["_law_thing"] []
 JB:mg "_law_is_ground" = some (.ref fU)
 JC:PySem.W.keepIn K (.ref fU)=true
 u6:zF K "law" "law" Ln Qn Ls
 apB:Binds K Ls ["_law_script"] []
 apC:mg "law" = some (.ref Qn)
 apD:PySem.W.keepIn K (.ref Qn)=true
 YM:mg "abs" = none
 rA:mg "all" = none
 G7:mg "bool" = none
 Jf:mg "int" = none
 bD:mg "isinstance" = none
 qd:mg "len" = none
 yE:mg "list" = none
 FJ:mg "max" = none
 Vz:mg "min" = none
 pD:mg "range" = none
 Mf:mg "set" = none
 rB:mg "sorted" = none
 Qs:mg "str" = none
 jd:mg "tuple" = none
 aaf:∃ tk,mg "LETTERS" = some (.str "abcdefghijklmnopqrstuvwxyz" tk)
 Mg:∃ tk,mg "LONGEST_NAME" = some (.int 8 tk)
 Oo:∃ tk,mg "MOST_WEIGHT" = some (.int 1000 tk)
section
variable {P:Program} {w:World} {K:FG_} {mg:Str->Option Value} {base:Heap} {lD:Addr} {lF:FuncData} {gB:Addr} {g8:FuncData} {lG:Addr} {lX:FuncData} {jQ:Addr} {j5:FuncData} {ig:Addr} {iK:FuncData} {iZ:Addr} {jl:FuncData} {gC:Addr} {iu:FuncData} {jR:Addr} {jH:FuncData} {lH:Addr} {lJ:FuncData} {lK:Addr} {lY:FuncData} {jT:Addr} {j6:FuncData} {oF:Addr} {nO:FuncData} {pC:Addr} {oG:FuncData} {jJ:Addr} {jU:FuncData} {gj:Addr} {gF:FuncData} {lM:Addr} {lZ:FuncData} {nP:Addr} {oH:FuncData} {jm:Addr} {jB:FuncData} {nQ:Addr} {oJ:FuncData} {lN:Addr} {mj:FuncData} {gJ:Addr} {iw:FuncData} {oK:Addr} {nR:FuncData} {gK:Addr} {iy:FuncData} {eE:Addr} {eN:FuncData} {jc:Addr} {jo:FuncData} {jV:Addr} {j7:FuncData} {fU:Addr} {gR:FuncData} {Qn:Addr} {Ls:FuncData} (t:T K mg lD lF gB g8 lG lX jQ j5 ig iK iZ jl gC iu jR jH lH lJ lK lY jT j6 oF nO pC oG jJ jU gj gF lM lZ nP oH jm jB nQ oJ lN mj gJ iw oK nR gK iy eE eN jc jo jV j7 fU gR Qn Ls)
theorem Jg:bT ["_law_script", "_law_k", "_law_state", "_law_cell_here"] ["_law_script", "_law_k"] (aW xV):=pZ
include t in
theorem VB:bM P w K mg base jh 1 lD lF ["_law_script", "_law_k"] (jD K 2 gY):=by
 unfold gY
 refine pY (k:=0) (g:=yc) t.gY Jg rfl rfl fun cdv A outer s H E hr=>?_
 have hu:=cU hr
 have nd:=Jg.nd
 exact (aD (kJ (mH CP (aq 1) (bf qm rfl t.qd ql (aj (aq 0) au)) (fJ _)) (aD (bO (bB (aq 0) (aq 1))) aU) aU) (aD (bG 2 nd (aQ cg (aQ xR aA (aQ bh (aQ bh (aQ xR (aq 1) (aq 1)) (aQ xR aA (aq 1))) aA)) aA)) (aD (Gq PassesOwn.never rfl (Yc (jE (aq 0) cM (bW aA))) (bw 3 nd) (gW [3] (aD (bG 2 nd (aQ cg (aQ bh (aQ xR (aq 2) aA) (aq 3)) aA)) aU))) (aD (bO (aq 2)) aU))))
theorem z9:bT ["_law_cell_here", "_law_many", "_law_found", "_law_state", "_law_digits", "_law_k"] ["_law_cell_here", "_law_many"] (aW qJ):=pZ
include t in
theorem Mh:bM P w K mg base jh 1 gB g8 ["_law_cell_here", "_law_many"] (jD K 2 cV):=by
 unfold cV
 refine pY (k:=0) (g:=qO) t.cV z9 rfl rfl fun cdv A outer s H E hr=>?_
 have hu:=cU hr
 have nd:=z9.nd
 exact (aD (bG 2 nd (dY au)) (aD (bG 3 nd (aQ cg (aQ xR (aQ bh (aQ cg (aq 0) aA) aA) aA) aA)) (aD (bG 4 nd aA) (aD (kJ (Eb (oW (mH CP (aq 0) aA (fJ _)) (oV (mH afY (aq 0) (aQ WM aA aA) (fJ _))))) (gW [] (aD (bG 4 nd (bf aho rfl t.YM ahl (aj (aq 0) au))) aU)) (gW [] aU)) (aD (Gq PassesOwn.never rfl (qX rfl t.pD (aj (aq 1) au)) (bw 5 nd) (gW [5] (aD (bG 3 nd (aQ cg (aQ bh (aQ bh (aQ xR (aq 3) (aQ bh (aQ cg (aq 3) aA) aA)) (aQ xR aA (aq 5))) aA) aA)) (aD (xQ 2 (bB (dY (aj (aq 3) (aj (aQ cg (aq 4) aA) au))) (gQ abz rfl t.Jf WQ (aj (kZ abu (aq 4) aA (fJ _)) au)))) (aD (bG 4 nd (aQ oY (aq 4) aA)) aU))))) (aD (Rm 2) aU))))))
theorem FN:bT ["_law_xs", "_law_many", "_law_letters", "_law_stem", "_law_at", "_law_found", "_law_k", "_law_mark", "_law_name"] ["_law_xs", "_law_many"] (aW uR):=pZ
include t in
theorem SN:bM P w K mg base jh 1 lG lX ["_law_xs", "_law_many"] (jD K 2 jG):=by
 unfold jG
 refine pY (k:=0) (g:=uX) t.jG FN rfl rfl fun cdv A outer s H E hr=>?_
 have hu:=cU hr
 have nd:=FN.nd
 exact (aD (bG 2 nd aO) (aD (bG 3 nd (aeK (eV ["_law_k"] (tW ["_law_letters", "_law_xs"] [2,0]) rfl (Rq (qX rfl t.pD (aj (aQ cg (bB (aq 0) aA) aA) au))) (fun _ _ _ _=>(bw 2 (by show List.Nodup (_++_);decide +kernel))) (fun _ _ _ _=>bL) (fun _ _ _ _=>(bB (aq 0) (aQ cg (aQ oY (bB (aq 1) (aq 2)) aA) aA))) (dB)))) (aD (bG 4 nd (aQ cg (bB (aq 0) aA) (aQ bh (bf qm rfl t.qd ql (aj (aq 3) au)) aA))) (aD (bG 5 nd (dY au)) (aD (Gq PassesOwn.never rfl (qX rfl t.pD (aj (aq 1) au)) (bw 6 nd) (gW [6,7,8] (aD (bG 7 nd (bB (aq 2) (aQ cg (aQ bh (aq 6) (bB (aq 0) aA)) aA))) (aD (bG 8 nd (aQ bh (aQ bh (jE (aq 3) cM (bW (aq 4))) (aq 7)) (jE (aq 3) (bW (aq 4)) cM))) (aD (kJ (mH (of_eq hu) (aQ cg (bB (aq 0) aA) aA) aA (fJ _)) (gW [] (aD (bG 8 nd (aQ xR (bB (aq 2) (aQ oY (aq 6) aA)) (aQ bh aA (aQ cg (aq 6) aA)))) aU)) (gW [] aU)) (aD (xQ 5 (aq 8)) aU)))))) (aD (Rm 5) aU))))))
theorem Cm:bT ["_law_script", "_law_at", "_law_many", "_law_reasons", "_law_bars", "_law_head", "_law_names_here", "_law_told", "_law_k", "_law_xs", "_law_a", "_law_b", "_law_weight", "_law_found", "_law_shut"] ["_law_script", "_law_at", "_law_many", "_law_reasons", "_law_bars"] (aW rZ):=pZ
include t in
theorem Oq (lO:bM P w K mg base jh 1 lD lF ["_law_script", "_law_k"] (jD K 2 gY)) (Aa:bM P w K mg base jh 1 lG lX ["_law_xs", "_law_many"] (jD K 2 jG)) (eZ:bM P w K mg base jh 1 gB g8 ["_law_cell_here", "_law_many"] (jD K 2 cV)):bM P w K mg base jh 2 jQ j5 ["_law_script", "_law_at", "_law_many", "_law_reasons", "_law_bars"] (jD K 5 iT):=by
 unfold iT
 refine pY (k:=1) (g:=sS) t.iT Cm rfl rfl fun cdv A outer s H E hr=>?_
 have hu:=cU hr
 have nd:=Cm.nd
 exact (aD (bG 5 nd (aX eZ (hr.mono (by decide)) rfl t.m5 t.m7 t.mZ (aj (cG (aX lO (hr.mono (by decide)) rfl t.yq t.yr t.yp (aj (aq 0) (aj (aq 1) au)))) (aj aA au)))) (aD (bG 6 nd (bf PK rfl t.rB Gz (aj (aX Aa (hr.mono (by decide)) rfl t.Vo t.Vp t.Vn (aj (aq 5) (aj (aq 2) au))) au))) (aD (bG 7 nd (dY au)) (aD (Gq PassesOwn.never rfl (qX rfl t.pD (aj (aq 3) au)) (bw 8 nd) (gW [8,9,10,11,12] (aD (bG 9 nd (aX eZ (hr.mono (by decide)) rfl t.m5 t.m7 t.mZ (aj (cG (aX lO (hr.mono (by decide)) rfl t.yq t.yr t.yp (aj (aq 0) (aj (cG (aQ bh (aQ bh (aq 1) aA) (aq 8))) au)))) (aj aA au)))) (aD (abn 10 11 rfl nd (aj (aQ cg (bB (aq 9) aA) (bf (GF rfl) rfl t.FJ Gy (aj aA (aj (aq 2) au)))) (aj (aQ cg (bB (aq 9) aA) (bf (GF rfl) rfl t.FJ Gy (aj aA (aj (aq 2) au)))) au))) (aD (bG 12 nd (bB (dY (aj (cG (aQ bh aA (aQ cg (bB (aq 9) aA) aA))) (aj (cG (aQ bh aA (aQ cg (bB (aq 9) aA) aA))) (aj (cG (aQ bh aA (aQ cg (bB (aq 9) aA) aA))) au)))) (aQ cg (bB (aq 5) aA) aA))) (aD (kJ (mH (Pu hu) (aq 10) (aq 11) (fJ _)) (gW [] (aD (xQ 7 (aH (aj (aQ Gw aA (aq 12)) (aj (bB (aq 6) (bf (abE rfl) rfl t.Vz abw (aj (aq 10) (aj (aq 11) au)))) (aj (bB (aq 6) (bf (GF rfl) rfl t.FJ Gy (aj (aq 10) (aj (aq 11) au)))) (aj (bB (dY (aj aA (aj aA (aj aA au)))) (aQ cg (bB (aq 9) aA) aA)) au)))))) aU)) (gW [] aU)) aU)))))) (aD (Yd 13 ["_law_weight", "_law_a", "_law_b", "_law_k"] (tW [] []) rfl nd (fY (Ys rfl rfl t.rB (RV rfl hu rfl t.Mf (aq 7)))) (fun _ _ _ _=>(Kw rfl (fj (bw 0 (by show List.Nodup (_++_);decide +kernel)) (fj (bw 1 (by show List.Nodup (_++_);decide +kernel)) (fj (bw 2 (by show List.Nodup (_++_);decide +kernel)) (fj (bw 3 (by show List.Nodup (_++_);decide +kernel)) Ed)))))) (fun _ _ _ _=>bL) (fun _ _ _ _=>(aH (aj (aQ Gw aA (aq 0)) (aj (aq 1) (aj (aq 2) (aj (aq 3) au)))))) (ahf (Ei (dB) (Ei (dB) (Ei (dB) (Ei (dB) aev)))))) (aD (bG 14 nd (dY au)) (aD (Gq PassesOwn.never rfl (qX rfl t.pD (aj (aq 4) au)) (bw 8 nd) (gW [8,9,10,11] (aD (bG 9 nd (aX eZ (hr.mono (by decide)) rfl t.m5 t.m7 t.mZ (aj (cG (aX lO (hr.mono (by decide)) rfl t.yq t.yr t.yp (aj (aq 0) (aj (cG (aQ bh (aQ bh (aq 1) aA) (aq 8))) au)))) (aj aA au)))) (aD (abn 10 11 rfl nd (aj (aQ cg (bB (aq 9) aA) (bf (GF rfl) rfl t.FJ Gy (aj aA (aj (aq 2) au)))) (aj (aQ cg (bB (aq 9) aA) (bf (GF rfl) rfl t.FJ Gy (aj aA (aj (aq 2) au)))) au))) (aD (kJ (mH (Pu hu) (aq 10) (aq 11) (fJ _)) (gW [] (aD (xQ 14 (aH (aj (bB (aq 6) (bf (abE rfl) rfl t.Vz abw (aj (aq 10) (aj (aq 11) au)))) (aj (bB (aq 6) (bf (GF rfl) rfl t.FJ Gy (aj (aq 10) (aj (aq 11) au)))) (aj (bB (dY (aj aA (aj aA au))) (aQ cg (bB (aq 9) aA) aA)) au))))) aU)) (gW [] aU)) aU))))) (aD (bO (aH (aj (gQ KD rfl t.jd wM (aj (aq 6) au)) (aj (gQ KD rfl t.jd wM (aj (aq 13) au)) (aj (gQ KD rfl t.jd wM (aj (Ys rfl rfl t.rB (RV rfl hu rfl t.Mf (aq 14))) au)) au))))) aU))))))))
theorem yR:bT ["_law_letters", "_law_found"] [] (aW pA):=pZ
include t in
theorem JD:bM P w K mg base jh 1 ig iK [] (jD K 0 fD):=by
 unfold fD
 refine pY (k:=0) (g:=pB) t.fD yR rfl rfl fun cdv A outer s H E hr=>?_
 have hu:=cU hr
 have nd:=yR.nd
 exact (aD (bG 0 nd aO) (aD (Yd 1 ["_law_letter"] (tW [] []) rfl nd (fY (aq 0)) (fun _ _ _ _=>(bw 0 (by show List.Nodup (_++_);decide +kernel))) (fun _ _ _ _=>bL) (fun _ _ _ _=>(aH (aj (aH (aj (aq 0) au)) (aj (aH au) (aj (aH au) au))))) (dB)) (aD (bG 1 nd (aQ bh (aq 1) (eV ["_law_k"] (tW ["_law_letters"] [0]) rfl (Rq (qX rfl t.pD (aj aA au))) (fun _ _ _ _=>(bw 1 (by show List.Nodup (_++_);decide +kernel))) (fun _ _ _ _=>bL) (fun _ _ _ _=>(aH (aj aA (aj (bB (aq 0) (aq 1)) (aj (bB (aq 0) (aQ bh (aq 1) aA)) (aj aA au)))))) (dB)))) (aD (bG 1 nd (aQ bh (aq 1) (eV ["_law_k"] (tW ["_law_letters"] [0]) rfl (Rq (qX rfl t.pD (aj aA au))) (fun _ _ _ _=>(bw 1 (by show List.Nodup (_++_);decide +kernel))) (fun _ _ _ _=>bL) (fun _ _ _ _=>(aH (aj (cG (aQ bh (bB (aq 0) (aq 1)) aO)) (aj (cG (aQ bh (bB (aq 0) (aQ bh (aq 1) aA)) aO)) (aj aA au))))) (dB)))) (aD (bG 1 nd (aQ bh (aq 1) (dY (aj (aH (aj (gQ (YC rfl) rfl t.jd wM (aj (jE (aq 0) cM (bW aA)) au)) (aj (aH au) (aj (aH au) au)))) (aj (aH (aj (gQ (YC rfl) rfl t.jd wM (aj (jE (aq 0) (bW aA) cM) au)) (aj (aH au) (aj (aH au) au)))) au))))) (aD (Rm 1) aU))))))
theorem Cp:bT ["_law_text", "_law_place", "_law_x", "_law_signs", "_law_sign", "_law_at"] ["_law_text", "_law_place", "_law_x"] (aW su):=pZ
include t in
theorem Ot:bM P w K mg base jh 1 iZ jl ["_law_text", "_law_place", "_law_x"] (jD K 3 iU):=by
 unfold iU
 refine pY (k:=0) (g:=sU) t.iU Cp rfl rfl fun cdv A outer s H E hr=>?_
 have hu:=cU hr
 have nd:=Cp.nd
 exact (aD (bG 3 nd aO) (aD (bG 3 nd (aQ bh (aq 3) aO)) (aD (bG 4 nd (bB (aq 3) (aQ cg (aQ oY (aq 2) aA) (bB (dY (aj aA (aj aA au))) (aQ cg (aQ oY (aq 2) aA) aA))))) (aD (bG 5 nd (aQ cg (aq 1) (aQ bh (bf qm rfl t.qd ql (aj (aq 0) au)) aA))) (aD (bO (bB (dY (aj (cG (aQ bh (aQ bh (jE (aq 0) cM (bW (aq 5))) (aq 4)) (jE (aq 0) (bW (aq 5)) cM))) (aj (cG (aQ bh (aQ bh (jE (aq 0) cM (bW (aq 5))) (aq 4)) (jE (aq 0) (bW (aQ bh (aq 5) aA)) cM))) (aj (cG (aQ bh (jE (aq 0) cM (bW (aq 5))) (jE (aq 0) (bW (aQ bh (aq 5) aA)) cM))) au)))) (aQ cg (aq 2) aA))) aU)))))
theorem uc:bT ["_law_thing", "_law_xs", "_law_deep", "_law_x", "_law_some", "_law_at", "_law_way"] ["_law_thing", "_law_xs", "_law_deep"] (aW qK):=pZ
include t in
theorem yS (mq:bM P w K mg base jh 1 iZ jl ["_law_text", "_law_place", "_law_x"] (jD K 3 iU)):∀ n:Nat,bM P w K mg base jh (n+2) gC iu ["_law_thing", "_law_xs", "_law_deep"] (jD K 3 (d7 n))
 |0=>ajh (k:=0+1) (g:=fun _=>none) t.gA uc rfl rfl fun cdv A outer s H E hr=>abC
 |n+1=>by
  have m9:=yS mq n
  rw[show n+1+2=(n+2)+1 by omega]
  refine pY (k:=n+2) (g:=qP (d7 n)) t.gA uc rfl rfl fun cdv A outer s H E hr=>?_
  have hu:=cU hr
  have nd:=uc.nd
  exact (aD (bG 3 nd (bB (aq 1) aA)) (aD (kJ (Eb (Ri (fW (CJ (aq 0) rfl t.bD rfl t.Qs)) (Km (mH (of_eq hu) (aQ cg (aq 3) aA) aA (fJ _))))) (aD (bO (aX mq (hr.mono (by omega)) rfl t.Sw t.Sx t.Sv (aj (aq 0) (aj (bB (aq 1) aA) (aj (bB (aq 1) aA) au))))) aU) aU) (aD (kJ (Eb (Ri (fW (CG (aq 0) rfl t.bD rfl t.Jf)) (Km (mH (of_eq hu) (aQ cg (aq 3) aA) aA (fJ _))))) (aD (bO (aQ bh (aq 0) (bB (dY (aj aA (aj (aQ Gw aA aA) au))) (aQ cg (aQ oY (aq 3) aA) aA)))) aU) aU) (aD (bG 4 nd (dY (aj aA (aj aA (aj aA (aj aA (aj aA (aj (Pn Gx aA) (aj nZ (aj Rh (aj aO (aj aO (aj aO (aj aO (aj aO (aj aO (aj aO (aj (aH au) (aj (cG (dY au)) (aj abA au)))))))))))))))))))) (aD (bG 4 nd (aQ bh (aq 4) (dY (aj (aH (aj aA (aj aO (aj aO (aj aA au))))) (aj (aH (aj aO (aj aO (aj aA au)))) (aj (aH (aj aO (aj aO (aj aA au)))) (aj (aH (aj aA (aj aO (aj aO (aj aA au))))) (aj nZ au)))))))) (aD (kJ (Eb (oW (gU (fW (fZ (aq 0) rfl t.bD rfl t.jd))) (oV (mH (of_eq hu) (aq 0) (aH au) (fJ _))))) (aD (bO (bB (aq 4) (aQ cg (aQ oY (aq 3) aA) aA))) aU) aU) (aD (bG 5 nd (aQ cg (aQ oY (aq 3) aA) (bf qm rfl t.qd ql (aj (aq 0) au)))) (aD (kJ (Eb (Ri (mH abu (aq 2) aA (fJ _)) (Km (mH abu (aQ cg (aq 3) aA) aA (fJ _))))) (aD (bO (aQ bh (aQ bh (jE (aq 0) cM (bW (aq 5))) (aH (aj (cG (aX m9 (hr.mono (by omega)) rfl t.Cj t.Ck t.Ci (aj (bB (aq 0) (aq 5)) (aj (cG (jE (aq 1) (bW aA) cM)) (aj (aQ Gw (aq 2) aA) au))))) au))) (jE (aq 0) (bW (aQ bh (aq 5) aA)) cM))) aU) aU) (aD (bG 6 nd (aQ cg (aQ oY (aq 3) aA) aA)) (aD (kJ (mH (of_eq hu) (aq 6) aA (fJ _)) (aD (bO (aQ bh (aq 0) (aH (aj (bB (aq 4) (aQ cg (aQ oY (aq 3) aA) aA)) au)))) aU) aU) (aD (bG 4 nd (dY (aj (cG (aQ bh (jE (aq 0) cM (bW (aq 5))) (jE (aq 0) (bW (aQ bh (aq 5) aA)) cM))) (aj (cG (aQ bh (aQ bh (jE (aq 0) cM (bW (aq 5))) (aH (aj (bB (aq 0) (aq 5)) au))) (jE (aq 0) (bW (aq 5)) cM))) (aj (cG (WT (aq 0) (Pn Gx aA))) (aj (cG (gQ Bh rfl t.yE Bg (aj (aq 0) au))) au)))))) (aD (bO (bB (aQ bh (aq 4) (dY (aj (cG (jE (aq 0) (bW aA) cM)) au))) (aq 6))) aU))))))))))))
include t in
theorem Mi (mq:bM P w K mg base jh 1 iZ jl ["_law_text", "_law_place", "_law_x"] (jD K 3 iU)):bM P w K mg base jh 6 gC iu ["_law_thing", "_law_xs", "_law_deep"] (jD K 3 gA):=yS t mq fuel
theorem Jh:bT ["thing", "many"] ["thing", "many"] (aW xW):=pZ
include t in
theorem VD:bM P w K mg base jh 1 jR jH ["thing", "many"] (jD K 2 gZ):=by
 unfold gZ
 refine pY (k:=0) (g:=yd) t.gZ Jh rfl rfl fun cdv A outer s H E hr=>?_
 have hu:=cU hr
 have nd:=Jh.nd
 exact (aD (bO (fK (fZ (aq 0) rfl t.bD rfl t.jd) (mJ (kZ (of_eq hu) (bf qm rfl t.qd ql (aj (aq 0) au)) (aq 1) (fJ _))))) aU)
theorem Ji:bT ["thing"] ["thing"] (aW xX):=pZ
include t in
theorem VF:bM P w K mg base jh 1 lH lJ ["thing"] (jD K 1 jO):=by
 unfold jO
 refine pY (k:=0) (g:=yg) t.jO Ji rfl rfl fun cdv A outer s H E hr=>?_
 have hu:=cU hr
 have nd:=Ji.nd
 exact (aD (bO (fK (CG (aq 0) rfl t.bD rfl t.Jf) (mJ (abh (zO (aq 0) rfl t.bD rfl t.G7))))) aU)
theorem FP:bT ["thing"] ["thing"] (aW uT):=pZ
include t in
theorem SQ (qy:bM P w K mg base jh 1 lH lJ ["thing"] (jD K 1 jO)):bM P w K mg base jh 2 lK lY ["thing"] (jD K 1 lu):=by
 unfold lu
 refine pY (k:=1) (g:=uY) t.lu FP rfl rfl fun cdv A outer s H E hr=>?_
 have hu:=cU hr
 have nd:=FP.nd
 obtain⟨Ab,Ou⟩:=t.Oo
 exact (aD (bO (fK (aX qy (hr.mono (by decide)) rfl t.LC t.LK t.Lz (aj (aq 0) au)) (mJ (Kl of_le of_le aA (aq 0) (Uc rfl Ou))))) aU)
theorem Cq:bT ["thing", "signs", "longest"] ["thing", "signs", "longest"] (aW sy):=pZ
include t in
theorem Ov:bM P w K mg base jh 1 jT j6 ["thing", "signs", "longest"] (jD K 3 jP):=by
 unfold jP
 refine pY (k:=0) (g:=sV) t.jP Cq rfl rfl fun cdv A outer s H E hr=>?_
 have hu:=cU hr
 have nd:=Cq.nd
 exact (aD (bO (fK (CJ (aq 0) rfl t.bD rfl t.Qs) (fK (Kl of_le of_le aA (bf qm rfl t.qd ql (aj (aq 0) au)) (aq 2)) (mJ (bf (o7 rfl) rfl t.rA oZ (aj (eV ["sign"] (tW ["signs"] [1]) rfl (fY (aq 0)) (fun _ _ _ _=>(bw 1 (by show List.Nodup (_++_);decide +kernel))) (fun _ _ _ _=>bL) (fun _ _ _ _=>(kZ Ir (aq 1) (aq 0) (by with_unfolding_all rfl))) (dB)) au)))))) aU)
theorem Mj:bT ["thing"] ["thing"] (aW Br):=pZ
include t in
theorem Xm (yF:bM P w K mg base jh 1 jT j6 ["thing", "signs", "longest"] (jD K 3 jP)):bM P w K mg base jh 2 oF nO ["thing"] (jD K 1 j4):=by
 unfold j4
 refine pY (k:=1) (g:=Bu) t.j4 Mj rfl rfl fun cdv A outer s H E hr=>?_
 have hu:=cU hr
 have nd:=Mj.nd
 obtain⟨Ml,aag⟩:=t.aaf
 obtain⟨yU,Mp⟩:=t.Mg
 exact (aD (bO (aX yF (hr.mono (by decide)) rfl t.SJ t.SM t.Sy (aj (aq 0) (aj (abf rfl aag) (aj (Uc rfl Mp) au))))) aU)
theorem Qt:bT ["thing", "one", "other", "number"] ["thing"] (aW Ft):=pZ
include t in
theorem aah (qz:bM P w K mg base jh 2 oF nO ["thing"] (jD K 1 j4)) (jW:bM P w K mg base jh 1 jR jH ["thing", "many"] (jD K 2 gZ)) (qy:bM P w K mg base jh 1 lH lJ ["thing"] (jD K 1 jO)):bM P w K mg base jh 3 pC oG ["thing"] (jD K 1 lA):=by
 unfold lA
 refine pY (k:=2) (g:=Fv) t.lA Qt rfl rfl fun cdv A outer s H E hr=>?_
 have hu:=cU hr
 have nd:=Qt.nd
 exact (aD (kJ (gU (fW (aX jW (hr.mono (by decide)) rfl t.Di t.Dj t.Dh (aj (aq 0) (aj aA au))))) (aD (bO nZ) aU) aU) (aD (Rn (aq 0) (Kw rfl (fj (bw 1 nd) (fj (bw 2 nd) (fj (bw 3 nd) Ed))))) (aD (bO (fK (aX qz (hr.mono (by decide)) rfl t.G5 t.G6 t.G4 (aj (aq 1) au)) (fK (aX qz (hr.mono (by decide)) rfl t.G5 t.G6 t.G4 (aj (aq 2) au)) (fK (kZ CP (aq 1) (aq 2) (fJ _)) (fK (aX qy (hr.mono (by decide)) rfl t.LC t.LK t.Lz (aj (aq 3) au)) (mJ (kZ afY (aq 3) aA (fJ _)))))))) aU)))
theorem FQ:bT ["thing"] ["thing"] (aW uU):=pZ
include t in
theorem SX (pF:bM P w K mg base jh 3 pC oG ["thing"] (jD K 1 lA)) (jW:bM P w K mg base jh 1 jR jH ["thing", "many"] (jD K 2 gZ)) (Ad:bM P w K mg base jh 2 lK lY ["thing"] (jD K 1 lu)):bM P w K mg base jh 4 jJ jU ["thing"] (jD K 1 iV):=by
 unfold iV
 refine pY (k:=3) (g:=uZ) t.iV FQ rfl rfl fun cdv A outer s H E hr=>?_
 have hu:=cU hr
 have nd:=FQ.nd
 exact (aD (bO (fK (aX jW (hr.mono (by decide)) rfl t.Di t.Dj t.Dh (aj (aq 0) (aj aA au))) (fK (aX Ad (hr.mono (by decide)) rfl t.Vr t.Vs t.Vq (aj (bB (aq 0) aA) au)) (mJ (aX pF (hr.mono (by decide)) rfl t.LR t.Ma t.LQ (aj (cG (jE (aq 0) (bW aA) cM)) au)))))) aU)
theorem Cr:bT ["things"] ["things"] (aW sI):=pZ
include t in
theorem Ox:bM P w K mg base jh 1 gj gF ["things"] (jD K 1 cZ):=by
 unfold cZ
 refine pY (k:=0) (g:=iW) t.cZ Cr rfl rfl fun cdv A outer s H E hr=>?_
 have hu:=cU hr
 have nd:=Cr.nd
 exact (aD (bO (bf (o7 rfl) rfl t.rA oZ (aj (eV ["at"] (tW ["things"] [0]) rfl (Rq (qX rfl t.pD (aj (aQ Gw (bf qm rfl t.qd ql (aj (aq 0) au)) aA) au))) (fun _ _ _ _=>(bw 1 (by show List.Nodup (_++_);decide +kernel))) (fun _ _ _ _=>bL) (fun _ _ _ _=>(kZ (ajF CP (ahS hu)) (bB (aq 0) (aq 1)) (bB (aq 0) (aQ bh (aq 1) aA)) (fJ _))) (dB)) au))) aU)
theorem FT:bT ["thing"] ["thing"] (aW uV):=pZ
include t in
theorem S5 (gk:bM P w K mg base jh 1 gj gF ["things"] (jD K 1 cZ)) (qz:bM P w K mg base jh 2 oF nO ["thing"] (jD K 1 j4)):bM P w K mg base jh 3 lM lZ ["thing"] (jD K 1 lB):=by
 unfold lB
 refine pY (k:=2) (g:=u0) t.lB FT rfl rfl fun cdv A outer s H E hr=>?_
 have hu:=cU hr
 have nd:=FT.nd
 exact (aD (bO (fK (fZ (aq 0) rfl t.bD rfl t.jd) (fK (bf (o7 rfl) rfl t.rA oZ (aj (eV ["name"] (tW [] []) rfl (fY (aq 0)) (fun _ _ _ _=>(bw 0 (by show List.Nodup (_++_);decide +kernel))) (fun _ _ _ _=>bL) (fun _ _ _ _=>(cG (aX qz (hr.mono (by decide)) rfl t.G5 t.G6 t.G4 (aj (aq 0) au)))) (dB)) au)) (mJ (aX gk (hr.mono (by decide)) rfl t.yu t.yw t.yt (aj (aq 0) au)))))) aU)
theorem Jj:bT ["reason", "weight", "one", "other", "number"] ["reason"] (aW xY):=pZ
include t in
theorem VG:bM P w K mg base jh 1 nP oH ["reason"] (jD K 1 nJ):=by
 unfold nJ
 refine pY (k:=0) (g:=yh) t.nJ Jj rfl rfl fun cdv A outer s H E hr=>?_
 have hu:=cU hr
 have nd:=Jj.nd
 exact (aD (Rn (aq 0) (Kw rfl (fj (bw 1 nd) (fj (bw 2 nd) (fj (bw 3 nd) (fj (bw 4 nd) Ed)))))) (aD (bO (aH (aj (Pn Gx (aq 1)) (aj (aq 2) (aj (aq 3) (aj (aq 4) au)))))) aU))
theorem Ae:bT ["thing", "names"] ["thing", "names"] (aW qL):=pZ
include t in
theorem Mq (gk:bM P w K mg base jh 1 gj gF ["things"] (jD K 1 cZ)) (oM:bM P w K mg base jh 4 jJ jU ["thing"] (jD K 1 iV)) (Dk:bM P w K mg base jh 1 nP oH ["reason"] (jD K 1 nJ)):bM P w K mg base jh 5 jm jB ["thing", "names"] (jD K 2 jk):=by
 unfold jk
 refine pY (k:=4) (g:=qQ) t.jk Ae rfl rfl fun cdv A outer s H E hr=>?_
 have hu:=cU hr
 have nd:=Ae.nd
 exact (aD (kJ (Eb (oW (gU (fW (fZ (aq 0) rfl t.bD rfl t.jd))) (oV (gU (fW (bf (o7 rfl) rfl t.rA oZ (aj (eV ["reason"] (tW [] []) rfl (fY (aq 0)) (fun _ _ _ _=>(bw 0 (by show List.Nodup (_++_);decide +kernel))) (fun _ _ _ _=>bL) (fun _ _ _ _=>(cG (aX oM (hr.mono (by decide)) rfl t.Jd t.Je t.Jc (aj (aq 0) au)))) (dB)) au))))))) (aD (bO nZ) aU) aU) (aD (kJ (gU (fW (bf (o7 rfl) rfl t.rA oZ (aj (eV ["reason"] (tW ["names"] [1]) rfl (fY (aq 0)) (fun _ _ _ _=>(bw 1 (by show List.Nodup (_++_);decide +kernel))) (fun _ _ _ _=>bL) (fun _ _ _ _=>(fK (kZ Ir (bB (aq 1) aA) (aq 0) (by with_unfolding_all rfl)) (mJ (kZ Ir (bB (aq 1) aA) (aq 0) (by with_unfolding_all rfl))))) (dB)) au)))) (aD (bO nZ) aU) aU) (aD (bO (aX gk (hr.mono (by decide)) rfl t.yu t.yw t.yt (aj (cG (eV ["reason"] (tW [] []) rfl (fY (aq 0)) (fun _ _ _ _=>(bw 0 (by show List.Nodup (_++_);decide +kernel))) (fun _ _ _ _=>bL) (fun _ _ _ _=>(cG (aX Dk (hr.mono (by decide)) rfl t.Xh t.Xi t.Xg (aj (aq 0) au)))) (dB))) au))) aU)))
theorem Jk:bT ["thing", "names"] ["thing", "names"] (aW xZ):=pZ
include t in
theorem VH (gk:bM P w K mg base jh 1 gj gF ["things"] (jD K 1 cZ)) (pF:bM P w K mg base jh 3 pC oG ["thing"] (jD K 1 lA)):bM P w K mg base jh 4 nQ oJ ["thing", "names"] (jD K 2 nM):=by
 unfold nM
 refine pY (k:=3) (g:=yj) t.nM Jk rfl rfl fun cdv A outer s H E hr=>?_
 have hu:=cU hr
 have nd:=Jk.nd
 exact (aD (kJ (Eb (oW (gU (fW (fZ (aq 0) rfl t.bD rfl t.jd))) (oV (gU (fW (bf (o7 rfl) rfl t.rA oZ (aj (eV ["bar"] (tW [] []) rfl (fY (aq 0)) (fun _ _ _ _=>(bw 0 (by show List.Nodup (_++_);decide +kernel))) (fun _ _ _ _=>bL) (fun _ _ _ _=>(cG (aX pF (hr.mono (by decide)) rfl t.LR t.Ma t.LQ (aj (aq 0) au)))) (dB)) au))))))) (aD (bO nZ) aU) aU) (aD (bO (fK (bf (o7 rfl) rfl t.rA oZ (aj (eV ["bar"] (tW ["names"] [1]) rfl (fY (aq 0)) (fun _ _ _ _=>(bw 1 (by show List.Nodup (_++_);decide +kernel))) (fun _ _ _ _=>bL) (fun _ _ _ _=>(fK (kZ Ir (bB (aq 1) aA) (aq 0) (by with_unfolding_all rfl)) (mJ (kZ Ir (bB (aq 1) aA) (aq 0) (by with_unfolding_all rfl))))) (dB)) au)) (mJ (aX gk (hr.mono (by decide)) rfl t.yu t.yw t.yt (aj (aq 0) au))))) aU))
theorem FW:bT ["thing", "names", "reasons", "bars"] ["thing"] (aW uW):=pZ
include t in
theorem S7 (Dl:bM P w K mg base jh 4 nQ oJ ["thing", "names"] (jD K 2 nM)) (Af:bM P w K mg base jh 3 lM lZ ["thing"] (jD K 1 lB)) (wB:bM P w K mg base jh 5 jm jB ["thing", "names"] (jD K 2 jk)) (jW:bM P w K mg base jh 1 jR jH ["thing", "many"] (jD K 2 gZ)):bM P w K mg base jh 6 lN mj ["thing"] (jD K 1 lC):=by
 unfold lC
 refine pY (k:=5) (g:=u5) t.lC FW rfl rfl fun cdv A outer s H E hr=>?_
 have hu:=cU hr
 have nd:=FW.nd
 exact (aD (kJ (gU (fW (aX jW (hr.mono (by decide)) rfl t.Di t.Dj t.Dh (aj (aq 0) (aj aA au))))) (aD (bO nZ) aU) aU) (aD (Rn (aq 0) (Kw rfl (fj (bw 1 nd) (fj (bw 2 nd) (fj (bw 3 nd) Ed))))) (aD (bO (fK (aX Af (hr.mono (by decide)) rfl t.Vu t.Vv t.Vt (aj (aq 1) au)) (fK (aX wB (hr.mono (by decide)) rfl t.Ol t.Om t.Oj (aj (aq 2) (aj (aq 1) au))) (mJ (aX Dl (hr.mono (by decide)) rfl t.Xk t.Xl t.Xj (aj (aq 3) (aj (aq 1) au))))))) aU)))
theorem Ag:bT ["_law_thing"] ["_law_thing"] (aW qM):=pZ
include t in
theorem Mr:bM P w K mg base jh 1 gJ iw ["_law_thing"] (jD K 1 dG):=by
 unfold dG
 refine pY (k:=0) (g:=qR) t.dG Ag rfl rfl fun cdv A outer s H E hr=>?_
 have hu:=cU hr
 have nd:=Ag.nd
 exact (aD (kJ (Eb (oW (gU (fW (CJ (aq 0) rfl t.bD rfl t.Qs))) (oV (gU (abd CP CP aA (bf qm rfl t.qd ql (aj (aq 0) au)) aA))))) (aD (bO nZ) aU) aU) (aD (bO (bf (o7 rfl) rfl t.rA oZ (aj (eV ["_law_sign"] (tW [] []) rfl (fY (aq 0)) (fun _ _ _ _=>(bw 0 (by show List.Nodup (_++_);decide +kernel))) (fun _ _ _ _=>bL) (fun _ _ _ _=>(kZ Ir (aq 0) aO (by with_unfolding_all rfl))) (dB)) au))) aU))
theorem Ms:bT ["_law_one", "_law_other"] ["_law_one", "_law_other"] (aW Bt):=pZ
include t in
theorem Xn (jq:bM P w K mg base jh 1 gJ iw ["_law_thing"] (jD K 1 dG)):bM P w K mg base jh 2 oK nR ["_law_one", "_law_other"] (jD K 2 lW):=by
 unfold lW
 refine pY (k:=1) (g:=Bv) t.lW Ms rfl rfl fun cdv A outer s H E hr=>?_
 have hu:=cU hr
 have nd:=Ms.nd
 exact (aD (bO (fK (aX jq (hr.mono (by decide)) rfl t.vZ t.wg t.vY (aj (aq 0) au)) (fK (aX jq (hr.mono (by decide)) rfl t.vZ t.wg t.vY (aj (aq 1) au)) (mJ (kZ CP (aq 0) (aq 1) (fJ _)))))) aU)
theorem Ah:bT ["_law_thing", "_law_least", "_law_most"] ["_law_thing", "_law_least", "_law_most"] (aW qN):=pZ
include t in
theorem Mt:bM P w K mg base jh 1 gK iy ["_law_thing", "_law_least", "_law_most"] (jD K 3 d8):=by
 unfold d8
 refine pY (k:=0) (g:=qT) t.d8 Ah rfl rfl fun cdv A outer s H E hr=>?_
 have hu:=cU hr
 have nd:=Ah.nd
 exact (aD (bO (fK (CG (aq 0) rfl t.bD rfl t.Jf) (fK (abh (zO (aq 0) rfl t.bD rfl t.G7)) (mJ (Kl of_le of_le (aq 1) (aq 0) (aq 2)))))) aU)
theorem wU:bT ["_law_thing"] ["_law_thing"] (aW nj):=pZ
include t in
theorem G8 (jr:bM P w K mg base jh 1 gK iy ["_law_thing", "_law_least", "_law_most"] (jD K 3 d8)) (tB:bM P w K mg base jh 2 oK nR ["_law_one", "_law_other"] (jD K 2 lW)):bM P w K mg base jh 3 eE eN ["_law_thing"] (jD K 1 cW):=by
 unfold cW
 refine pY (k:=2) (g:=nu) t.cW wU rfl rfl fun cdv A outer s H E hr=>?_
 have hu:=cU hr
 have nd:=wU.nd
 exact (aD (kJ (Eb (oW (gU (fW (fZ (aq 0) rfl t.bD rfl t.jd))) (oW (mH (Pu hu) (bf qm rfl t.qd ql (aj (aq 0) au)) aA (fJ _)) (oV (gU (fW (aX tB (hr.mono (by decide)) rfl t.Qp t.Qq t.Qo (aj (bB (aq 0) aA) (aj (bB (aq 0) aA) au))))))))) (aD (bO nZ) aU) aU) (aD (bO (fK (aX jr (hr.mono (by decide)) rfl t.wz t.wA t.wj (aj (bB (aq 0) aA) (aj aA (aj aA au)))) (mJ (aX jr (hr.mono (by decide)) rfl t.wz t.wA t.wj (aj (bB (aq 0) aA) (aj aA (aj (aQ WM aA aA) au))))))) aU))
theorem Cu:bT ["_law_thing"] ["_law_thing"] (aW sJ):=pZ
include t in
theorem Oz (jr:bM P w K mg base jh 1 gK iy ["_law_thing", "_law_least", "_law_most"] (jD K 3 d8)) (tB:bM P w K mg base jh 2 oK nR ["_law_one", "_law_other"] (jD K 2 lW)):bM P w K mg base jh 3 jc jo ["_law_thing"] (jD K 1 eY):=by
 unfold eY
 refine pY (k:=2) (g:=sW) t.eY Cu rfl rfl fun cdv A outer s H E hr=>?_
 have hu:=cU hr
 have nd:=Cu.nd
 exact (aD (kJ (Eb (oW (gU (fW (fZ (aq 0) rfl t.bD rfl t.jd))) (oW (mH (Pu hu) (bf qm rfl t.qd ql (aj (aq 0) au)) aA (fJ _)) (oV (gU (fW (aX tB (hr.mono (by decide)) rfl t.Qp t.Qq t.Qo (aj (bB (aq 0) aA) (aj (bB (aq 0) aA) au))))))))) (aD (bO nZ) aU) aU) (aD (bO (aX jr (hr.mono (by decide)) rfl t.wz t.wA t.wj (aj (bB (aq 0) aA) (aj aA (aj (aQ WM aA aA) au))))) aU))
theorem Cv:bT ["_law_some"] ["_law_some"] (aW sO):=pZ
include t in
theorem OD:bM P w K mg base jh 1 jV j7 ["_law_some"] (jD K 1 cR):=by
 unfold cR
 refine pY (k:=0) (g:=iY) t.cR Cv rfl rfl fun cdv A outer s H E hr=>?_
 have hu:=cU hr
 have nd:=Cv.nd
 exact (aD (bO (fK (kZ (of_eq hu) (aq 0) (acN (bf PK rfl t.rB Gz (aj (aq 0) au)) (bf abN rfl t.rB Gz (aj (aq 0) au))) (fJ _)) (mJ (kZ (of_eq hu) (acN (ae9 rfl t.qd (ae8 rfl hu rfl t.Mf (aq 0))) (afd rfl t.qd (RV rfl hu rfl t.Mf (aq 0)))) (bf qm rfl t.qd ql (aj (aq 0) au)) (fJ _))))) aU)
theorem wV:bT ["_law_thing", "_law_names_here", "_law_reasons", "_law_bars", "_law_ends"] ["_law_thing"] (aW nq):=pZ
include t in
theorem G9 (mz:bM P w K mg base jh 3 jc jo ["_law_thing"] (jD K 1 eY)) (jq:bM P w K mg base jh 1 gJ iw ["_law_thing"] (jD K 1 dG)) (iM:bM P w K mg base jh 3 eE eN ["_law_thing"] (jD K 1 cW)) (pG:bM P w K mg base jh 1 jV j7 ["_law_some"] (jD K 1 cR)):bM P w K mg base jh 4 fU gR ["_law_thing"] (jD K 1 fQ):=by
 unfold fQ
 refine pY (k:=3) (g:=nA) t.fQ wV rfl rfl fun cdv A outer s H E hr=>?_
 have hu:=cU hr
 have nd:=wV.nd
 exact (aD (kJ (Eb (oW (gU (fW (fZ (aq 0) rfl t.bD rfl t.jd))) (oW (mH (Pu hu) (bf qm rfl t.qd ql (aj (aq 0) au)) aA (fJ _)) (oV (gU (fW (bf (o7 rfl) rfl t.rA oZ (aj (eV ["_law_part"] (tW [] []) rfl (fY (aq 0)) (fun _ _ _ _=>(bw 0 (by show List.Nodup (_++_);decide +kernel))) (fun _ _ _ _=>bL) (fun _ _ _ _=>(cG (fZ (aq 0) rfl t.bD rfl t.jd))) (dB)) au)))))))) (aD (bO nZ) aU) aU) (aD (Rn (aq 0) (Kw rfl (fj (bw 1 nd) (fj (bw 2 nd) (fj (bw 3 nd) Ed))))) (aD (kJ (Eb (oW (gU (fW (bf (o7 rfl) rfl t.rA oZ (aj (eV ["_law_name"] (tW [] []) rfl (fY (aq 1)) (fun _ _ _ _=>(bw 0 (by show List.Nodup (_++_);decide +kernel))) (fun _ _ _ _=>bL) (fun _ _ _ _=>(cG (aX jq (hr.mono (by decide)) rfl t.vZ t.wg t.vY (aj (aq 0) au)))) (dB)) au)))) (oV (gU (fW (aX pG (hr.mono (by decide)) rfl t.yC t.yD t.yx (aj (cG (gQ Bh rfl t.yE Bg (aj (aq 1) au))) au))))))) (aD (bO nZ) aU) aU) (aD (kJ (Eb (oW (gU (fW (bf (o7 rfl) rfl t.rA oZ (aj (eV ["_law_one"] (tW [] []) rfl (fY (aq 2)) (fun _ _ _ _=>(bw 0 (by show List.Nodup (_++_);decide +kernel))) (fun _ _ _ _=>bL) (fun _ _ _ _=>(cG (aX iM (hr.mono (by decide)) rfl t.yP t.yQ t.yO (aj (aq 0) au)))) (dB)) au)))) (oV (gU (fW (bf (o7 rfl) rfl t.rA oZ (aj (eV ["_law_one"] (tW [] []) rfl (fY (aq 3)) (fun _ _ _ _=>(bw 0 (by show List.Nodup (_++_);decide +kernel))) (fun _ _ _ _=>bL) (fun _ _ _ _=>(cG (aX mz (hr.mono (by decide)) rfl t.Fy t.Fz t.Fw (aj (aq 0) au)))) (dB)) au))))))) (aD (bO nZ) aU) aU) (aD (kJ (Eb (oW (gU (fW (aX pG (hr.mono (by decide)) rfl t.yC t.yD t.yx (aj (cG (eV ["_law_one"] (tW [] []) rfl (fY (aq 2)) (fun _ _ _ _=>(bw 0 (by show List.Nodup (_++_);decide +kernel))) (fun _ _ _ _=>bL) (fun _ _ _ _=>(cG (aQ bh (aH (aj (aQ Gw aA (bB (aq 0) aA)) au)) (jE (aq 0) (bW aA) cM)))) (dB))) au)))) (oV (gU (fW (aX pG (hr.mono (by decide)) rfl t.yC t.yD t.yx (aj (cG (gQ Bh rfl t.yE Bg (aj (aq 3) au))) au))))))) (aD (bO nZ) aU) aU) (aD (bG 4 nd (aQ bh (eV ["_law_one"] (tW [] []) rfl (fY (aq 2)) (fun _ _ _ _=>(bw 0 (by show List.Nodup (_++_);decide +kernel))) (fun _ _ _ _=>bL) (fun _ _ _ _=>(cG (jE (aq 0) (bW aA) (bW aA)))) (dB)) (eV ["_law_one"] (tW [] []) rfl (fY (aq 3)) (fun _ _ _ _=>(bw 0 (by show List.Nodup (_++_);decide +kernel))) (fun _ _ _ _=>bL) (fun _ _ _ _=>(cG (jE (aq 0) cM (bW aA)))) (dB)))) (aD (bO (bf (o7 rfl) rfl t.rA oZ (aj (eV ["_law_end"] (tW ["_law_names_here"] [1]) rfl (fY (aq 4)) (fun _ _ _ _=>(bw 1 (by show List.Nodup (_++_);decide +kernel))) (fun _ _ _ _=>bL) (fun _ _ _ _=>(fK (kZ Ir (bB (aq 1) aA) (aq 0) (by with_unfolding_all rfl)) (mJ (kZ Ir (bB (aq 1) aA) (aq 0) (by with_unfolding_all rfl))))) (dB)) au))) aU)))))))
theorem acV:bT ["_law_script", "_law_head", "_law_ground_here", "_law_things", "_law_rows", "_law_some", "_law_cell_here", "_law_xs", "_law_thing", "_law_found"] ["_law_script"] (aW Ln):=pZ
include t in
theorem ah2 (lO:bM P w K mg base jh 1 lD lF ["_law_script", "_law_k"] (jD K 2 gY)) (m9:bM P w K mg base jh 6 gC iu ["_law_thing", "_law_xs", "_law_deep"] (jD K 3 gA)) (yG:bM P w K mg base jh 2 jQ j5 ["_law_script", "_law_at", "_law_many", "_law_reasons", "_law_bars"] (jD K 5 iT)) (mz:bM P w K mg base jh 3 jc jo ["_law_thing"] (jD K 1 eY)) (rH:bM P w K mg base jh 4 fU gR ["_law_thing"] (jD K 1 fQ)) (iM:bM P w K mg base jh 3 eE eN ["_law_thing"] (jD K 1 cW)) (ud:bM P w K mg base jh 1 ig iK [] (jD K 0 fD)) (eZ:bM P w K mg base jh 1 gB g8 ["_law_cell_here", "_law_many"] (jD K 2 cV)) (pF:bM P w K mg base jh 3 pC oG ["thing"] (jD K 1 lA)) (Ai:bM P w K mg base jh 6 lN mj ["thing"] (jD K 1 lC)) (oM:bM P w K mg base jh 4 jJ jU ["thing"] (jD K 1 iV)):bM P w K mg base jh 7 Qn Ls ["_law_script"] (jD K 1 u6):=by
 unfold u6
 refine pY (k:=6) (g:=YL) t.u6 acV rfl rfl fun cdv A outer s H E hr=>?_
 have hu:=cU hr
 have nd:=acV.nd
 exact (aD (bG 1 nd (aX eZ (hr.mono (by decide)) rfl t.m5 t.m7 t.mZ (aj (cG (aX lO (hr.mono (by decide)) rfl t.yq t.yr t.yp (aj (aq 0) (aj aA au)))) (aj aA au)))) (aD (bG 2 nd (aX yG (hr.mono (by decide)) rfl t.Sq t.Ss t.Sh (aj (aq 0) (aj aA (aj (aQ cg (bB (aq 1) aA) aA) (aj (aQ cg (bB (aq 1) aA) aA) (aj (aQ cg (bB (aq 1) aA) aA) au))))))) (aD (bG 3 nd (dY (aj (aq 2) (aj (cG (gQ Bh rfl t.yE Bg (aj (aq 2) au))) (aj (cG (jE (aq 2) cM (bW aA))) (aj (aH (aj (aH au) (aj (aH au) (aj (aH au) au)))) (aj (aH (aj (aH au) (aj (aH au) au))) (aj (aH au) (aj Rh (aj aA (aj aO (aj (cG (dY au)) (aj abA (aj nZ au)))))))))))))) (aD (bG 3 nd (aQ bh (aq 3) (dY (aj (aH (aj (aH (aj aO au)) (aj (aH au) (aj (aH au) au)))) (aj (aH (aj aA (aj aO (aj aO (aj aA au))))) (aj (aH (aj aA (aj aO (aj aO (aj aA au))))) (aj (aH (aj aA (aj aO (aj aO (aj aA au))))) (aj (aH (aj aA (aj aO (aj aO (aj aA au))))) au)))))))) (aD (bG 3 nd (aQ bh (aq 3) (dY (aj (aH (aj aA (aj aO (aj aO (aj aA au))))) (aj (aH (aj aA (aj aO (aj aO (aj (Pn Gx aA) au))))) (aj (aH (aj aA (aj aO (aj aO (aj aA au))))) (aj (aH (aj aA (aj aO (aj aO (aj nZ au))))) (aj (cG (dY (aj aO (aj aO (aj aA au))))) au)))))))) (aD (bG 3 nd (aQ bh (aq 3) (dY (aj (aH (aj nZ (aj aO (aj aO (aj aA au))))) (aj (aH (aj aO (aj aO (aj aA au)))) (aj (aH (aj aO (aj aO (aj aA au)))) (aj (aH (aj aO (aj aO au))) (aj (aH (aj aO (aj aO (aj Rh au)))) au)))))))) (aD (bG 3 nd (aQ bh (aq 3) (dY (aj (aH (aj aO (aj aO (aj aA (aj aA au))))) (aj (aH (aj (aH (aj Rh au)) (aj (aH au) (aj (aH au) au)))) (aj (aH (aj (aH (aj aO (aj aO au))) (aj (aH au) (aj (aH au) au)))) (aj (aH (aj (aH (aj aO (aj aO au))) (aj (aH au) (aj (aH au) au)))) au))))))) (aD (xQ 3 (aH (aj (aH (aj aO (aj aO au))) (aj (aH (aj (aH (aj aA (aj aO (aj aO (aj aA au))))) au)) (aj (aH au) au))))) (aD (bG 3 nd (aQ bh (aq 3) (dY (aj (aH (aj (aH (aj aO (aj aO au))) (aj (aH au) (aj (aH (aj (aH (aj aO (aj aO (aj aA au)))) au)) au)))) (aj (aH (aj (aH (aj aO (aj aO au))) (aj (aH (aj (aH (aj aA (aj aO (aj aO (aj aA au))))) (aj (aH (aj aA (aj aO (aj aO (aj aA au))))) au))) (aj (aH au) au)))) au))))) (aD (xQ 3 (aH (aj (aH (aj aO (aj aO au))) (aj (aH (aj (aH (aj aA (aj aO (aj aO (aj aA au))))) (aj (aH (aj aA (aj aO (aj aO (aj aA au))))) au))) (aj (aH au) au))))) (aD (xQ 3 (aH (aj (aH (aj aO (aj aO au))) (aj (aH au) (aj (aH (aj (aH (aj aO (aj aO (aj aA au)))) (aj (aH (aj aO (aj aO (aj aA au)))) au))) au))))) (aD (bG 4 nd (aH (aj (aH (aj aA (aj aO (aj aO (aj aA au))))) (aj (aH (aj aA (aj aO (aj aO (aj aA au))))) (aj (aH (aj aA (aj aO (aj aO (aj aA au))))) au))))) (aD (bG 3 nd (aQ bh (aq 3) (dY (aj (aH (aj (aH (aj aO (aj aO au))) (aj (aq 4) (aj (aH au) au)))) (aj (aH (aj (aH (aj aO (aj aO au))) (aj (cG (WT (aq 4) (Pn Gx aA))) (aj (aH au) au)))) (aj (aH (aj (aH (aj aO (aj aO au))) (aj (aH (aj (bB (aq 4) aA) (aj (bB (aq 4) aA) au))) (aj (aH au) au)))) au)))))) (aD (bG 4 nd (aH (aj (aH (aj aO (aj aO (aj aA au)))) (aj (aH (aj aO (aj aO (aj aA au)))) (aj (aH (aj aO (aj aO (aj aA au)))) au))))) (aD (bG 3 nd (aQ bh (aq 3) (dY (aj (aH (aj (aH (aj aO (aj aO au))) (aj (aH au) (aj (aq 4) au)))) (aj (aH (aj (aH (aj aO (aj aO au))) (aj (aH au) (aj (cG (WT (aq 4) (Pn Gx aA))) au)))) (aj (aH (aj (aH (aj aO (aj aO au))) (aj (aH au) (aj (aH (aj (bB (aq 4) aA) (aj (bB (aq 4) aA) au))) au)))) au)))))) (aD (xQ 3 (aH (aj (aH (aj aO (aj aO au))) (aj (aH (aj (aH (aj aA (aj aO (aj aO (aj aA au))))) au)) (aj (aH (aj (aH (aj aO (aj aO (aj aA au)))) au)) au))))) (aD (bG 3 nd (aQ bh (aq 3) (acO ud (hr.mono (by decide)) rfl t.Lx t.Ly t.Lw))) (aD (bG 5 nd (aQ bh (aQ bh (dY (aj (aq 2) au)) (gQ Bh rfl t.yE Bg (aj (bB (aq 2) aA) au))) (gQ Bh rfl t.yE Bg (aj (bB (aq 2) aA) au)))) (aD (Gq PassesOwn.never rfl (Yc (jE (aq 0) (bW aA) (bW aA))) (bw 6 nd) (gW [6,7] (aD (bG 7 nd (aX eZ (hr.mono (by decide)) rfl t.m5 t.m7 t.mZ (aj (aq 6) (aj aA au)))) (aD (xQ 3 (cG (aX m9 (hr.mono (by decide)) rfl t.Cj t.Ck t.Ci (aj (bB (aq 5) (aQ xR (aQ cg (bB (aq 7) aA) (bf qm rfl t.qd ql (aj (aq 5) au))) (gQ abz rfl t.Jf WQ (aj (kZ (of_eq hu) (aQ cg (bB (aq 7) aA) aA) aA (fJ _)) au)))) (aj (cG (jE (aq 7) (bW aA) cM)) (aj (aQ cg (aQ oY (bB (aq 7) aA) aA) aA) au)))))) aU)))) (aD (aes 3 PassesOwn.never rfl (bw 8 nd) (gW [8,9] (aD (bG 9 nd (dY (aj (cG (aX oM (hr.mono (by decide)) rfl t.Jd t.Je t.Jc (aj (aq 8) au))) (aj (cG (aX pF (hr.mono (by decide)) rfl t.LR t.Ma t.LQ (aj (aq 8) au))) (aj (cG (aX Ai (hr.mono (by decide)) rfl t.Vx t.Vy t.Vw (aj (aq 8) au))) au))))) (aD (kJ (mH (Pu hu) (aq 9) (dY (aj (cG (aX iM (hr.mono (by decide)) rfl t.yP t.yQ t.yO (aj (aq 8) au))) (aj (cG (aX mz (hr.mono (by decide)) rfl t.Fy t.Fz t.Fw (aj (aq 8) au))) (aj (cG (aX rH (hr.mono (by decide)) rfl t.JB t.JC t.Jz (aj (aq 8) au))) au)))) (fJ _)) (aD (bO nZ) aU) aU) (aD (kJ (gU (fW (bf (o7 rfl) rfl t.rA oZ (aj (eV ["_law_one"] (tW [] []) rfl (fY (aq 9)) (fun _ _ _ _=>(bw 0 (by show List.Nodup (_++_);decide +kernel))) (fun _ _ _ _=>bL) (fun _ _ _ _=>(cG (zO (aq 0) rfl t.bD rfl t.G7))) (dB)) au)))) (aD (bO nZ) aU) aU) aU))))) (aD (bO nZ) aU)))))))))))))))))))))
end
theorem all_mk {l:PySem.W.OpenLaw} {w:World} {K:FG_} {h:Heap} {mg:Str->Option Value} {fa:Addr} {f0:Addr} {od0 an0:Option Addr} {sl0:Array (Option Value)} {oc0 kV0 dc0 pm0 cd0 ct0:Value} {f1:Addr} {od1 an1:Option Addr} {sl1:Array (Option Value)} {oc1 kV1 dc1 pm1 cd1 ct1:Value} {f2:Addr} {od2 an2:Option Addr} {sl2:Array (Option Value)} {oc2 kV2 dc2 pm2 cd2 ct2:Value} {f3:Addr} {od3 an3:Option Addr} {sl3:Array (Option Value)} {oc3 kV3 dc3 pm3 cd3 ct3:Value} {f4:Addr} {od4 an4:Option Addr} {sl4:Array (Option Value)} {oc4 kV4 dc4 pm4 cd4 ct4:Value} {f5:Addr} {od5 an5:Option Addr} {sl5:Array (Option Value)} {oc5 kV5 dc5 pm5 cd5 ct5:Value} {f6:Addr} {od6 an6:Option Addr} {sl6:Array (Option Value)} {oc6 kV6 dc6 pm6 cd6 ct6:Value} {f7:Addr} {od7 an7:Option Addr} {sl7:Array (Option Value)} {oc7 kV7 dc7 pm7 cd7 ct7:Value} {f8:Addr} {od8 an8:Option Addr} {sl8:Array (Option Value)} {oc8 kV8 dc8 pm8 cd8 ct8:Value} {f9:Addr} {od9 an9:Option Addr} {sl9:Array (Option Value)} {oc9 kV9 dc9 pm9 cd9 ct9:Value} {f10:Addr} {alO alP:Option Addr} {alQ:Array (Option Value)} {alR alS alT alU ajI alV:Value} {f11:Addr} {alW alX:Option Addr} {alY:Array (Option Value)} {alZ al0 al1 al2 ajJ al3:Value} {f12:Addr} {al5 al6:Option Addr} {al7:Array (Option Value)} {al8 al9 ama amb ajK amc:Value} {f13:Addr} {ame amf:Option Addr} {amg:Array (Option Value)} {amh ami amj amk ajL aml:Value} {f14:Addr} {amn amo:Option Addr} {amq:Array (Option Value)} {amr ams amt amu ajM amv:Value} {f15:Addr} {amx amy:Option Addr} {amA:Array (Option Value)} {amB amC amD amE ajN amF:Value} {f16:Addr} {amH amI:Option Addr} {amJ:Array (Option Value)} {amK amL amM amN ajO amO:Value} {f17:Addr} {amQ amR:Option Addr} {amS:Array (Option Value)} {amT amU amV amW ajP amX:Value} {f18:Addr} {amZ am0:Option Addr} {am1:Array (Option Value)} {am2 am3 am4 am5 ajQ am6:Value} {f19:Addr} {am8 am9:Option Addr} {ana:Array (Option Value)} {anb anc ane anf ajR ang:Value} {f20:Addr} {ani anj:Option Addr} {ank:Array (Option Value)} {anl anm ano anp ajS anq:Value} {f21:Addr} {ant anu:Option Addr} {anv:Array (Option Value)} {anw anx anz anA ajT anB:Value} {f22:Addr} {anD anE:Option Addr} {anF:Array (Option Value)} {anG anH anI anJ ajU anK:Value} {f23:Addr} {anM anN:Option Addr} {anO:Array (Option Value)} {anP anQ anR anS ajV anT:Value} {f24:Addr} {anV anW:Option Addr} {anY:Array (Option Value)} {anZ aoa aob aoc ajW aod:Value} {f25:Addr} {aof aog:Option Addr} {aoh:Array (Option Value)} {aoi aoj aok aol ajX aom:Value} {f26:Addr} {aoo aop:Option Addr} {aoq:Array (Option Value)} {aor aos aot aou ajY aov:Value} {f27:Addr} {aox ajZ:Option Addr} {aoy:Array (Option Value)} {aoz aj0 aj1 aj2 ah3 aj3:Value} (X:K.In h) (G:h.Ns mainGlobals mg) (hfa:mg "law" = some (.ref fa))
  (a0:Nn K "_law_cell" f0) (l0:Lk K f0 "_law_cell" xV oc0 od0 sl0 kV0 dc0 pm0 an0 cd0 ct0) (c0:PySem.W.codeIn K cd0 "_law_cell" = true) (k0:PySem.W.keepIn K (.ref f0)=true)
  (a1:Nn K "_law_numbers" f1) (l1:Lk K f1 "_law_numbers" qJ oc1 od1 sl1 kV1 dc1 pm1 an1 cd1 ct1) (c1:PySem.W.codeIn K cd1 "_law_numbers" = true) (k1:PySem.W.keepIn K (.ref f1)=true)
  (a2:Nn K "_law_names" f2) (l2:Lk K f2 "_law_names" uR oc2 od2 sl2 kV2 dc2 pm2 an2 cd2 ct2) (c2:PySem.W.codeIn K cd2 "_law_names" = true) (k2:PySem.W.keepIn K (.ref f2)=true)
  (a3:Nn K "_law_ground" f3) (l3:Lk K f3 "_law_ground" rZ oc3 od3 sl3 kV3 dc3 pm3 an3 cd3 ct3) (c3:PySem.W.codeIn K cd3 "_law_ground" = true) (k3:PySem.W.keepIn K (.ref f3)=true)
  (a4:Nn K "_law_lettered" f4) (l4:Lk K f4 "_law_lettered" pA oc4 od4 sl4 kV4 dc4 pm4 an4 cd4 ct4) (c4:PySem.W.codeIn K cd4 "_law_lettered" = true) (k4:PySem.W.keepIn K (.ref f4)=true)
  (a5:Nn K "_law_signed" f5) (l5:Lk K f5 "_law_signed" su oc5 od5 sl5 kV5 dc5 pm5 an5 cd5 ct5) (c5:PySem.W.codeIn K cd5 "_law_signed" = true) (k5:PySem.W.keepIn K (.ref f5)=true)
  (a6:Nn K "_law_changed" f6) (l6:Lk K f6 "_law_changed" qK oc6 od6 sl6 kV6 dc6 pm6 an6 cd6 ct6) (c6:PySem.W.codeIn K cd6 "_law_changed" = true) (k6:PySem.W.keepIn K (.ref f6)=true)
  (a7:Nn K "is_tuple" f7) (l7:Lk K f7 "is_tuple" xW oc7 od7 sl7 kV7 dc7 pm7 an7 cd7 ct7) (c7:PySem.W.codeIn K cd7 "is_tuple" = true) (k7:PySem.W.keepIn K (.ref f7)=true)
  (a8:Nn K "is_whole" f8) (l8:Lk K f8 "is_whole" xX oc8 od8 sl8 kV8 dc8 pm8 an8 cd8 ct8) (c8:PySem.W.codeIn K cd8 "is_whole" = true) (k8:PySem.W.keepIn K (.ref f8)=true)
  (a9:Nn K "is_weight" f9) (l9:Lk K f9 "is_weight" uT oc9 od9 sl9 kV9 dc9 pm9 an9 cd9 ct9) (c9:PySem.W.codeIn K cd9 "is_weight" = true) (k9:PySem.W.keepIn K (.ref f9)=true)
  (a10:Nn K "is_text_of" f10) (l10:Lk K f10 "is_text_of" sy alR alO alQ alS alT alU alP ajI alV) (c10:PySem.W.codeIn K ajI "is_text_of" = true) (k10:PySem.W.keepIn K (.ref f10)=true)
  (a11:Nn K "is_name" f11) (l11:Lk K f11 "is_name" Br alZ alW alY al0 al1 al2 alX ajJ al3) (c11:PySem.W.codeIn K ajJ "is_name" = true) (k11:PySem.W.keepIn K (.ref f11)=true)
  (a12:Nn K "is_bar" f12) (l12:Lk K f12 "is_bar" Ft al8 al5 al7 al9 ama amb al6 ajK amc) (c12:PySem.W.codeIn K ajK "is_bar" = true) (k12:PySem.W.keepIn K (.ref f12)=true)
  (a13:Nn K "is_reason" f13) (l13:Lk K f13 "is_reason" uU amh ame amg ami amj amk amf ajL aml) (c13:PySem.W.codeIn K ajL "is_reason" = true) (k13:PySem.W.keepIn K (.ref f13)=true)
  (a14:Nn K "are_rising" f14) (l14:Lk K f14 "are_rising" sI amr amn amq ams amt amu amo ajM amv) (c14:PySem.W.codeIn K ajM "are_rising" = true) (k14:PySem.W.keepIn K (.ref f14)=true)
  (a15:Nn K "are_names" f15) (l15:Lk K f15 "are_names" uV amB amx amA amC amD amE amy ajN amF) (c15:PySem.W.codeIn K ajN "are_names" = true) (k15:PySem.W.keepIn K (.ref f15)=true)
  (a16:Nn K "place_of" f16) (l16:Lk K f16 "place_of" xY amK amH amJ amL amM amN amI ajO amO) (c16:PySem.W.codeIn K ajO "place_of" = true) (k16:PySem.W.keepIn K (.ref f16)=true)
  (a17:Nn K "are_reasons" f17) (l17:Lk K f17 "are_reasons" qL amT amQ amS amU amV amW amR ajP amX) (c17:PySem.W.codeIn K ajP "are_reasons" = true) (k17:PySem.W.keepIn K (.ref f17)=true)
  (a18:Nn K "are_bars" f18) (l18:Lk K f18 "are_bars" xZ am2 amZ am1 am3 am4 am5 am0 ajQ am6) (c18:PySem.W.codeIn K ajQ "are_bars" = true) (k18:PySem.W.keepIn K (.ref f18)=true)
  (a19:Nn K "is_ground" f19) (l19:Lk K f19 "is_ground" uW anb am8 ana anc ane anf am9 ajR ang) (c19:PySem.W.codeIn K ajR "is_ground" = true) (k19:PySem.W.keepIn K (.ref f19)=true)
  (a20:Nn K "_law_is_name" f20) (l20:Lk K f20 "_law_is_name" qM anl ani ank anm ano anp anj ajS anq) (c20:PySem.W.codeIn K ajS "_law_is_name" = true) (k20:PySem.W.keepIn K (.ref f20)=true)
  (a21:Nn K "_law_two" f21) (l21:Lk K f21 "_law_two" Bt anw ant anv anx anz anA anu ajT anB) (c21:PySem.W.codeIn K ajT "_law_two" = true) (k21:PySem.W.keepIn K (.ref f21)=true)
  (a22:Nn K "_law_between" f22) (l22:Lk K f22 "_law_between" qN anG anD anF anH anI anJ anE ajU anK) (c22:PySem.W.codeIn K ajU "_law_between" = true) (k22:PySem.W.keepIn K (.ref f22)=true)
  (a23:Nn K "_law_is_reason" f23) (l23:Lk K f23 "_law_is_reason" nj anP anM anO anQ anR anS anN ajV anT) (c23:PySem.W.codeIn K ajV "_law_is_reason" = true) (k23:PySem.W.keepIn K (.ref f23)=true)
  (a24:Nn K "_law_is_bar" f24) (l24:Lk K f24 "_law_is_bar" sJ anZ anV anY aoa aob aoc anW ajW aod) (c24:PySem.W.codeIn K ajW "_law_is_bar" = true) (k24:PySem.W.keepIn K (.ref f24)=true)
  (a25:Nn K "_law_rising" f25) (l25:Lk K f25 "_law_rising" sO aoi aof aoh aoj aok aol aog ajX aom) (c25:PySem.W.codeIn K ajX "_law_rising" = true) (k25:PySem.W.keepIn K (.ref f25)=true)
  (a26:Nn K "_law_is_ground" f26) (l26:Lk K f26 "_law_is_ground" nq aor aoo aoq aos aot aou aop ajY aov) (c26:PySem.W.codeIn K ajY "_law_is_ground" = true) (k26:PySem.W.keepIn K (.ref f26)=true)
  (a27:Nn K "law" f27) (l27:Lk K f27 "law" Ln aoz aox aoy aj0 aj1 aj2 ajZ ah3 aj3) (c27:PySem.W.codeIn K ah3 "law" = true) (k27:PySem.W.keepIn K (.ref f27)=true)
  (YM:Zn K "abs")
  (rA:Zn K "all")
  (G7:Zn K "bool")
  (Jf:Zn K "int")
  (bD:Zn K "isinstance")
  (qd:Zn K "len")
  (yE:Zn K "list")
  (FJ:Zn K "max")
  (Vz:Zn K "min")
  (pD:Zn K "range")
  (Mf:Zn K "set")
  (rB:Zn K "sorted")
  (Qs:Zn K "str")
  (jd:Zn K "tuple")
  {Ml:Tok} (Mu:PySem.W.nsIn K mainGlobals "LETTERS" = some (some (.str "abcdefghijklmnopqrstuvwxyz" Ml)))
  {yU:Tok} (yV:PySem.W.nsIn K mainGlobals "LONGEST_NAME" = some (some (.int 8 yU)))
  {Ab:Tok} (Aj:PySem.W.nsIn K mainGlobals "MOST_WEIGHT" = some (some (.int 1000 Ab))) :
  ∃ fd:FuncData,(∀ (s:Shared) (v:Value),BindsTo s fd ⟨[v],[]⟩ [("_law_script", v)])/\∀ base:Heap,K.In base->base.Ns mainGlobals mg->bM l.prog w K mg base jh 7 fa fd ["_law_script"] (jD K 1 u6):=by
 have e:=hfa.symm.trans (ZA X G a27)
 cases e
 have F0:=eH (st:=xV) l0 c0 k0
 have b0:=F0.binds (ps:=["_law_script", "_law_k"]) fun _ _ _ _ _ _=>len2 fun _ _=>rfl
 have F1:=eH (st:=qJ) l1 c1 k1
 have b1:=F1.binds (ps:=["_law_cell_here", "_law_many"]) fun _ _ _ _ _ _=>len2 fun _ _=>rfl
 have F2:=eH (st:=uR) l2 c2 k2
 have b2:=F2.binds (ps:=["_law_xs", "_law_many"]) fun _ _ _ _ _ _=>len2 fun _ _=>rfl
 have F3:=eH (st:=rZ) l3 c3 k3
 have b3:=F3.binds (ps:=["_law_script", "_law_at", "_law_many", "_law_reasons", "_law_bars"]) fun _ _ _ _ _ _=>alI fun _ _ _ _ _=>rfl
 have F4:=eH (st:=pA) l4 c4 k4
 have b4:=F4.binds (ps:=[]) fun _ _ _ _ _ _=>len0 rfl
 have F5:=eH (st:=su) l5 c5 k5
 have b5:=F5.binds (ps:=["_law_text", "_law_place", "_law_x"]) fun _ _ _ _ _ _=>afp fun _ _ _=>rfl
 have F6:=eH (st:=qK) l6 c6 k6
 have b6:=F6.binds (ps:=["_law_thing", "_law_xs", "_law_deep"]) fun _ _ _ _ _ _=>afp fun _ _ _=>rfl
 have F7:=eH (st:=xW) l7 c7 k7
 have b7:=F7.binds (ps:=["thing", "many"]) fun _ _ _ _ _ _=>len2 fun _ _=>rfl
 have F8:=eH (st:=xX) l8 c8 k8
 have b8:=F8.binds (ps:=["thing"]) fun _ _ _ _ _ _=>len1 fun _=>rfl
 have F9:=eH (st:=uT) l9 c9 k9
 have b9:=F9.binds (ps:=["thing"]) fun _ _ _ _ _ _=>len1 fun _=>rfl
 have F10:=eH (st:=sy) l10 c10 k10
 have b10:=F10.binds (ps:=["thing", "signs", "longest"]) fun _ _ _ _ _ _=>afp fun _ _ _=>rfl
 have F11:=eH (st:=Br) l11 c11 k11
 have b11:=F11.binds (ps:=["thing"]) fun _ _ _ _ _ _=>len1 fun _=>rfl
 have F12:=eH (st:=Ft) l12 c12 k12
 have b12:=F12.binds (ps:=["thing"]) fun _ _ _ _ _ _=>len1 fun _=>rfl
 have F13:=eH (st:=uU) l13 c13 k13
 have b13:=F13.binds (ps:=["thing"]) fun _ _ _ _ _ _=>len1 fun _=>rfl
 have F14:=eH (st:=sI) l14 c14 k14
 have b14:=F14.binds (ps:=["things"]) fun _ _ _ _ _ _=>len1 fun _=>rfl
 have F15:=eH (st:=uV) l15 c15 k15
 have b15:=F15.binds (ps:=["thing"]) fun _ _ _ _ _ _=>len1 fun _=>rfl
 have F16:=eH (st:=xY) l16 c16 k16
 have b16:=F16.binds (ps:=["reason"]) fun _ _ _ _ _ _=>len1 fun _=>rfl
 have F17:=eH (st:=qL) l17 c17 k17
 have b17:=F17.binds (ps:=["thing", "names"]) fun _ _ _ _ _ _=>len2 fun _ _=>rfl
 have F18:=eH (st:=xZ) l18 c18 k18
 have b18:=F18.binds (ps:=["thing", "names"]) fun _ _ _ _ _ _=>len2 fun _ _=>rfl
 have F19:=eH (st:=uW) l19 c19 k19
 have b19:=F19.binds (ps:=["thing"]) fun _ _ _ _ _ _=>len1 fun _=>rfl
 have F20:=eH (st:=qM) l20 c20 k20
 have b20:=F20.binds (ps:=["_law_thing"]) fun _ _ _ _ _ _=>len1 fun _=>rfl
 have F21:=eH (st:=Bt) l21 c21 k21
 have b21:=F21.binds (ps:=["_law_one", "_law_other"]) fun _ _ _ _ _ _=>len2 fun _ _=>rfl
 have F22:=eH (st:=qN) l22 c22 k22
 have b22:=F22.binds (ps:=["_law_thing", "_law_least", "_law_most"]) fun _ _ _ _ _ _=>afp fun _ _ _=>rfl
 have F23:=eH (st:=nj) l23 c23 k23
 have b23:=F23.binds (ps:=["_law_thing"]) fun _ _ _ _ _ _=>len1 fun _=>rfl
 have F24:=eH (st:=sJ) l24 c24 k24
 have b24:=F24.binds (ps:=["_law_thing"]) fun _ _ _ _ _ _=>len1 fun _=>rfl
 have F25:=eH (st:=sO) l25 c25 k25
 have b25:=F25.binds (ps:=["_law_some"]) fun _ _ _ _ _ _=>len1 fun _=>rfl
 have F26:=eH (st:=nq) l26 c26 k26
 have b26:=F26.binds (ps:=["_law_thing"]) fun _ _ _ _ _ _=>len1 fun _=>rfl
 have F27:=eH (st:=Ln) l27 c27 k27
 have b27:=F27.binds (ps:=["_law_script"]) fun _ _ _ _ _ _=>len1 fun _=>rfl
 have t:T K mg _ _ _ _ _ _ _ _ _ _ _ _ _ _ _ _ _ _ _ _ _ _ _ _ _ _ _ _ _ _ _ _ _ _ _ _ _ _ _ _ _ _ _ _ _ _ _ _ _ _ _ _ _ _ _ _:=⟨F0,b0,ZA X G a0,k0,F1,b1,ZA X G a1,k1,F2,b2,ZA X G a2,k2,F3,b3,ZA X G a3,k3,F4,b4,ZA X G a4,k4,F5,b5,ZA X G a5,k5,F6,b6,ZA X G a6,k6,F7,b7,ZA X G a7,k7,F8,b8,ZA X G a8,k8,F9,b9,ZA X G a9,k9,F10,b10,ZA X G a10,k10,F11,b11,ZA X G a11,k11,F12,b12,ZA X G a12,k12,F13,b13,ZA X G a13,k13,F14,b14,ZA X G a14,k14,F15,b15,ZA X G a15,k15,F16,b16,ZA X G a16,k16,F17,b17,ZA X G a17,k17,F18,b18,ZA X G a18,k18,F19,b19,ZA X G a19,k19,F20,b20,ZA X G a20,k20,F21,b21,ZA X G a21,k21,F22,b22,ZA X G a22,k22,F23,b23,ZA X G a23,k23,F24,b24,ZA X G a24,k24,F25,b25,ZA X G a25,k25,F26,b26,ZA X G a26,k26,F27,b27,ZA X G a27,k27,qc X G YM,qc X G rA,qc X G G7,qc X G Jf,qc X G bD,qc X G qd,qc X G yE,qc X G FJ,qc X G Vz,qc X G pD,qc X G Mf,qc X G rB,qc X G Qs,qc X G jd,⟨_,ZA X G Mu⟩,⟨_,ZA X G yV⟩,⟨_,ZA X G Aj⟩⟩
 refine⟨PySem.W.fnOf "law" "law" (Bd Ln) (qG Ln) (aW Ln) .none aj0 aj1 aj2 ajZ ah3 aj3,fun s v=>.of_eq rfl,fun base _ _=>?_⟩
 have lO:=VB (P:=l.prog) (w:=w) (base:=base) t
 have eZ:=Mh (P:=l.prog) (w:=w) (base:=base) t
 have Aa:=SN (P:=l.prog) (w:=w) (base:=base) t
 have yG:=Oq (P:=l.prog) (w:=w) (base:=base) t lO Aa eZ
 have ud:=JD (P:=l.prog) (w:=w) (base:=base) t
 have mq:=Ot (P:=l.prog) (w:=w) (base:=base) t
 have m9:=Mi (P:=l.prog) (w:=w) (base:=base) t mq
 have jW:=VD (P:=l.prog) (w:=w) (base:=base) t
 have qy:=VF (P:=l.prog) (w:=w) (base:=base) t
 have Ad:=SQ (P:=l.prog) (w:=w) (base:=base) t qy
 have yF:=Ov (P:=l.prog) (w:=w) (base:=base) t
 have qz:=Xm (P:=l.prog) (w:=w) (base:=base) t yF
 have pF:=aah (P:=l.prog) (w:=w) (base:=base) t qz jW qy
 have oM:=SX (P:=l.prog) (w:=w) (base:=base) t pF jW Ad
 have gk:=Ox (P:=l.prog) (w:=w) (base:=base) t
 have Af:=S5 (P:=l.prog) (w:=w) (base:=base) t gk qz
 have Dk:=VG (P:=l.prog) (w:=w) (base:=base) t
 have wB:=Mq (P:=l.prog) (w:=w) (base:=base) t gk oM Dk
 have Dl:=VH (P:=l.prog) (w:=w) (base:=base) t gk pF
 have Ai:=S7 (P:=l.prog) (w:=w) (base:=base) t Dl Af wB jW
 have jq:=Mr (P:=l.prog) (w:=w) (base:=base) t
 have tB:=Xn (P:=l.prog) (w:=w) (base:=base) t jq
 have jr:=Mt (P:=l.prog) (w:=w) (base:=base) t
 have iM:=G8 (P:=l.prog) (w:=w) (base:=base) t jr tB
 have mz:=Oz (P:=l.prog) (w:=w) (base:=base) t jr tB
 have pG:=OD (P:=l.prog) (w:=w) (base:=base) t
 have rH:=G9 (P:=l.prog) (w:=w) (base:=base) t mz jq iM pG
 have aj4:=ah2 (P:=l.prog) (w:=w) (base:=base) t lO m9 yG mz rH iM ud eZ pF Ai oM
 exact aj4
theorem walk {l:PySem.W.OpenLaw} {q:Program} {loose:LS_} {XP:(Str->Option Value)->Heap->Prop} {YP:World->Heap->Prop} {d:DefRec} {K:Params->FG_} (hn:l.most=some 63) (hdf:d.params.defaults=[])
  (h1:∀ ns:List Int,ns.length<=63->u6 [.z (.lst (ns.map .int))]=some (.z (.bl true))) (h2:∀ ns:List Int,ns.length<=63->u6 [.l (ns.map .int)]=some (.z (.bl true)))
  (hY:∀ (w:World) (h:Heap),YP w h->(K w.params).In h)
  (F:∀ (w:World) (mg:Str->Option Value) (fa:Addr) (h:Heap),(K w.params).In h->h.Ns mainGlobals mg->mg d.name=some (.ref fa) →
   ∃ fd:FuncData,(∀ (s:Shared) (u:Value),BindsTo s fd ⟨[u],[]⟩ [("_law_script", u)])/\∀ base:Heap,(K w.params).In base->base.Ns mainGlobals mg->bM l.prog w (K w.params) mg base jh 7 fa fd ["_law_script"] (jD (K w.params) 1 u6)) :
  PySem.W.WalkO q loose XP YP l.row.toRowW d [] (fun f vs=>PySem.call f vs):=
 L2.aa9 (n:=63) (k:=7) (x := "_law_script") (CX:=jh) (sp:=fun K=>jD K 1 u6) hn (by decide) hdf ⟨rfl,by decide,by decide⟩ hY F (fun K H a ns hl hO hS=>ahr h1 h2 K H a ns hl hO hS) fun _ _ _ _ z=>z
end G09
end
section
set_option synthInstance.maxSize 100000
namespace G09
open PySem PySem.Spec PyProof.Rows L2 P1
noncomputable section
def Cw  (v3:Int) (v4:Int):Int:=(let v3:=(((v3 * (69621:Int))+v4) % (2147483647:Int));v3)
theorem OJ (v0:LI_) {bZ:Bx} (dH:Lp bZ (v0.map eI)) (v2:Int) (v3:Int) (v4:Int):RP Cg [some bZ,some ((zE eI) v2),some ((zE eI) v3),some ((zE eI) v4)] (fun s=>Out.nx ((fun v3:Int=>[some bZ,some ((zE eI) v2),some ((zE eI) v3),none]) s)) (Cw  v3 v4) (none):=R.tp (dD (cj 2 (dF (ju (Yt (aB 2 (zE eI) v3 rfl) 69621 (by decide)) (aB 3 (zE eI) v4 rfl)) 2147483647 (by decide)) (fun _=>rfl) fun v3=>(fB (jN v3 rfl))))
def bx (v0:LI_) (v2:Int):Int:=(if (decide (v2 < (v0.length:Int)))=true then (at' v0 v2) else (let v3:=(((48271:Int) * (((v2 * v2)+((7:Int) * v2))+(11:Int))) % (2147483647:Int));(let v3:Int:=((cut v0 none (some (3:Int))).foldl (fun (v3:Int) (v4:Int)=>(Cw  v3 v4)) v3);v3)))
def lQ (v0:LI_) (v2:Int):Prop:=(((decide (v2 < (v0.length:Int)))=true->In v0.length v2)/\((decide (v2 < (v0.length:Int)))=false->Mul v2 v2))
theorem Xo (v0:LI_) {bZ:Bx} (dH:Lp bZ (v0.map eI)) (v2:Int):RP yc [some bZ,some ((zE eI) v2),none,none] (fun r=>Out.rt ((zE eI) r)) (bx v0 v2) (some (lQ v0 v2)):=R.tp (oA (rR (Yu (aB 1 (zE eI) v2 rfl) (x_len (fV 0 eI v0 dH rfl)))) (dD (cP (fun r=>r) (jx (fV 0 eI v0 dH rfl) (aB 1 (zE eI) v2 rfl)) (fun _=>rfl) fun _=>rfl)) (fB (cj 2 (dF (W9 48271 (by decide) (ju (ju (acf (aB 1 (zE eI) v2 rfl) (aB 1 (zE eI) v2 rfl)) (W9 7 (by decide) (aB 1 (zE eI) v2 rfl))) (x_i 11))) 2147483647 (by decide)) (fun _=>rfl) fun v3=>(ahN (fun v3:Int=>[some bZ,some ((zE eI) v2),some ((zE eI) v3),none]) v3 rfl (ajB (afj (fV 0 eI v0 dH rfl) tX (qu (x_i 3)))) _ (fun _ _=>rfl) (fun (v3:Int) (v4:Int)=>(OJ v0 dH v2 v3 v4).r) (fun _ _=>rfl) fun v3=>(cP (fun r=>r) (aB 2 (zE eI) v3 rfl) (fun _=>rfl) fun _=>rfl)))))
theorem yH:∀ v bs,(aL eI (aZ eI aN)) v bs->bs.length=2/\(hold (some (lQ v.1 v.2.1))->gY (bs.map lend)=some ((zE eI) (bx v.1 v.2.1))):=by
 rintro⟨v0,v2,_⟩ _ ⟨bZ,_,rfl,dH,⟨_,rfl,rfl⟩⟩
 exact⟨rfl,fun h=>cJ (g:=yc) (n:=4) (bs:=[lend bZ,.z (eI v2)]) (Xo v0 (zY dH) v2) h⟩
def dh  (s1:Int×LI_×Int) (v2:Int):Int×LI_×Int:=(let v3:=((((s1.1 * ((s1.1 % (65521:Int))+(40487:Int)))+((7:Int) * v2))+(5:Int)) % (1999999973:Int));(let v6:=s1.2.1++[(at' [v3,(s1.2.2 % (1000000:Int))] (if (decide ((0:Int) < s1.2.2))=true then (1:Int) else 0))];(let v7:=(s1.2.2 / (1000000:Int));(v3,v6,v7))))
def mC  (s1:Int×LI_×Int) (v2:Int):Prop:=(Mul s1.1 ((s1.1 % (65521:Int))+(40487:Int))/\(let v3:=((((s1.1 * ((s1.1 % (65521:Int))+(40487:Int)))+((7:Int) * v2))+(5:Int)) % (1999999973:Int));(In [v3,(s1.2.2 % (1000000:Int))].length (if (decide ((0:Int) < s1.2.2))=true then (1:Int) else 0)/\p7 s1.2.1.length)))
theorem Hf (v4:Int) (v5:Int) (s1:Int×LI_×Int) (v2:Int):RP qx [some ((zE eI) v4),some ((zE eI) v5),some ((oE eI) s1.2.1),some ((zE eI) s1.1),some ((zE eI) s1.2.2),some ((zE eI) v2)] (fun s=>Out.nx ((fun s1:Int×LI_×Int=>[some ((zE eI) v4),some ((zE eI) v5),some ((oE eI) s1.2.1),some ((zE eI) s1.1),some ((zE eI) s1.2.2),none]) s)) (dh  s1 v2) (some (mC  s1 v2)):=R.tp (dD (cj 3 (dF (ju (ju (acf (aB 3 (zE eI) s1.1 rfl) (ju (dF (aB 3 (zE eI) s1.1 rfl) 65521 (by decide)) (x_i 40487))) (W9 7 (by decide) (aB 5 (zE eI) v2 rfl))) (x_i 5)) 1999999973 (by decide)) (fun _=>rfl) fun v3=>(dD (Fe 2 s1.2.1 rfl (jx (fM (iJ (ao (aB 3 (zE eI) v3 rfl) (ao (dF (aB 4 (zE eI) s1.2.2 rfl) 1000000 (by decide)) (aF eI))) (zb rfl))) (acw (ahG (aB 4 (zE eI) s1.2.2 rfl) (x_i 0)))) fun v6=>(dD (cj 4 (o8 (aB 4 (zE eI) s1.2.2 rfl) 1000000 (by decide)) (fun _=>rfl) fun v7=>(fB (jN (v3,v6,v7) rfl))))))))
def wW (v4:Int) (v5:Int) (v6:LI_) (v3:Int) (v7:Int):LI_:=v6
def wX:Ev->Option Out:=(aK (Kr 2) gq)
theorem Hg (v4:Int) (v5:Int) (v6:LI_) (v3:Int) (v7:Int):RP wX [some ((zE eI) v4),some ((zE eI) v5),some ((oE eI) v6),some ((zE eI) v3),some ((zE eI) v7),none] (fun r=>Out.rt ((oE eI) r)) (wW v4 v5 v6 v3 v7) (none):=R.tp (Xc 2 (fun r=>r) v6 rfl (fun _=>rfl) fun _=>rfl)
def mD (v4:Int) (v5:Int) (v6:LI_) (v3:Int) (v7:Int):LI_:=(let s1:Int×LI_×Int:=((rng 0 v5.toNat).foldl (fun (s1:Int×LI_×Int) (v2:Int)=>(dh  s1 v2)) (v3,v6,v7));(wW v4 v5 s1.2.1 s1.1 s1.2.2))
def qC (v4:Int) (v5:Int) (v6:LI_) (v3:Int) (v7:Int):Prop:=(Rg v5/\Lf (fun (s1:Int×LI_×Int) (v2:Int)=>(dh  s1 v2)) (fun (s1:Int×LI_×Int) (v2:Int)=>some (mC  s1 v2)) (rng 0 v5.toNat) (v3,v6,v7))
def wY:Ev->Option Out:=(aK (CN (PJ (ak (gv 1) aC)) (mK 5) qx) wX)
theorem Hh (v4:Int) (v5:Int) (v6:LI_) (v3:Int) (v7:Int):RP wY [some ((zE eI) v4),some ((zE eI) v5),some ((oE eI) v6),some ((zE eI) v3),some ((zE eI) v7),none] (fun r=>Out.rt ((oE eI) r)) (mD v4 v5 v6 v3 v7) (some (qC v4 v5 v6 v3 v7)):=R.tp (Ve (fun s1:Int×LI_×Int=>[some ((zE eI) v4),some ((zE eI) v5),some ((oE eI) s1.2.1),some ((zE eI) s1.1),some ((zE eI) s1.2.2),none]) (v3,v6,v7) rfl (Ja (aB 1 (zE eI) v5 rfl)) _ (fun _ _=>rfl) (fun (s1:Int×LI_×Int) (v2:Int)=>(Hf v4 v5 s1 v2).r) fun s1=>(Hg v4 v5 s1.2.1 s1.1 s1.2.2).r)
def wZ (v4:Int) (v5:Int) (v6:LI_) (v3:Int) (v7:Int):LI_:=(let v7:Int:=(if ((decide (v4 < (0:Int)))||(decide (((10:Int) ^ 18)<=v4)))=true then (let v7:=(if v4 < 0 then -v4 else v4);v7) else v7);(mD v4 v5 v6 v3 v7))
def w5 (v4:Int) (v5:Int) (v6:LI_) (v3:Int) (v7:Int):Prop:=(let v7:Int:=(if ((decide (v4 < (0:Int)))||(decide (((10:Int) ^ 18)<=v4)))=true then (let v7:=(if v4 < 0 then -v4 else v4);v7) else v7);(qC v4 v5 v6 v3 v7))
def w6:Ev->Option Out:=(aK (Bf (N6 (Pz TY (gv 0) (cB (.int 0))) (Pz geB (gv 0) (b2 Zu (cB (.int 10)) (cB (.int 18))))) (aK (aK (setG 4 (aP Zy (ak (gv 0) aC))) gq) (oh [])) (aK gq (oh []))) wY)
theorem Hi (v4:Int) (v5:Int) (v6:LI_) (v3:Int) (v7:Int):RP w6 [some ((zE eI) v4),some ((zE eI) v5),some ((oE eI) v6),some ((zE eI) v3),some ((zE eI) v7),none] (fun r=>Out.rt ((oE eI) r)) (wZ v4 v5 v6 v3 v7) (some (w5 v4 v5 v6 v3 v7)):=R.tp (Yy (fun v7:Int=>[some ((zE eI) v4),some ((zE eI) v5),some ((oE eI) v6),some ((zE eI) v3),some ((zE eI) v7),none]) (EY (rR (Yu (aB 0 (zE eI) v4 rfl) (x_i 0))) (rR (x_ge (aB 0 (zE eI) v4 rfl) (Xa 10 18 18 (by decide) rfl)))) (dD (cj 4 (ajz (aB 0 (zE eI) v4 rfl)) (fun _=>rfl) fun v7=>(fB (jN v7 rfl)))) (fB (jN v7 rfl)) fun v7=>(Hh v4 v5 v6 v3 v7).r)
def xg (v4:Int) (v5:Int) (v6:LI_) (v3:Int):LI_:=(let v7:=(0:Int);(wZ v4 v5 v6 v3 v7))
def xq (v4:Int) (v5:Int) (v6:LI_) (v3:Int):Prop:=(let v7:=(0:Int);(w5 v4 v5 v6 v3 v7))
def xu:Ev->Option Out:=(aK (setG 4 (cB (.int 0))) w6)
theorem Hj (v4:Int) (v5:Int) (v6:LI_) (v3:Int):RP xu [some ((zE eI) v4),some ((zE eI) v5),some ((oE eI) v6),some ((zE eI) v3),none,none] (fun r=>Out.rt ((oE eI) r)) (xg v4 v5 v6 v3) (some (xq v4 v5 v6 v3)):=R.tp (cj 4 (x_i 0) (fun _=>rfl) fun v7=>(Hi v4 v5 v6 v3 v7).r)
def xG (v4:Int) (v5:Int) (v6:LI_):LI_:=(let v3:=((((v4 % (1999999973:Int))+(31:Int)) * (765432101:Int)) % (1999999973:Int));(xg v4 v5 v6 v3))
def xH (v4:Int) (v5:Int) (v6:LI_):Prop:=(let v3:=((((v4 % (1999999973:Int))+(31:Int)) * (765432101:Int)) % (1999999973:Int));(xq v4 v5 v6 v3))
def Hl:Ev->Option Out:=(aK (setG 3 (b2 fH (b2 BR (b2 bQ (b2 fH (gv 0) (cB (.int 1999999973))) (cB (.int 31))) (cB (.int 765432101))) (cB (.int 1999999973)))) xu)
theorem Ho (v4:Int) (v5:Int) (v6:LI_):RP Hl [some ((zE eI) v4),some ((zE eI) v5),some ((oE eI) v6),none,none,none] (fun r=>Out.rt ((oE eI) r)) (xG v4 v5 v6) (some (xH v4 v5 v6)):=R.tp (cj 3 (dF (Yt (ju (dF (aB 0 (zE eI) v4 rfl) 1999999973 (by decide)) (x_i 31)) 765432101 (by decide)) 1999999973 (by decide)) (fun _=>rfl) fun v3=>(Hj v4 v5 v6 v3).r)
def aV (v4:Int) (v5:Int):LI_:=(let v6:=([]:List Int);(xG v4 v5 v6))
def gM (v4:Int) (v5:Int):Prop:=(let v6:=([]:List Int);(xH v4 v5 v6))
theorem O1 (v4:Int) (v5:Int):RP qO [some ((zE eI) v4),some ((zE eI) v5),none,none,none,none] (fun r=>Out.rt ((oE eI) r)) (aV v4 v5) (some (gM v4 v5)):=R.tp (cj 2 (iJ (aF eI) (zb rfl)) (fun _=>rfl) fun v6=>(Ho v4 v5 v6).r)
theorem ni:∀ v bs,(aZ eI (aZ eI aN)) v bs->bs.length=2/\(hold (some (gM v.1 v.2.1))->cV (bs.map lend)=some ((oE eI) (aV v.1 v.2.1))):=by
 rintro⟨v4,v5,_⟩ _ ⟨_,rfl,⟨_,rfl,rfl⟩⟩
 exact⟨rfl,fun h=>cJ (g:=qO) (n:=6) (bs:=[.z (eI v4),.z (eI v5)]) (O1 v4 v5) h⟩
def iz (vd:LI_) (ve:Str) (vf:Str) (v9:Int) (v6:LS_) (v2:Int):LS_:=(let vg:=(ch ve ((v2+(at' vd (2:Int))) % (15:Int)));(let vh:=(((Txt.slice vf none (some v9))++vg)++(Txt.slice vf (some v9) none));(let vh:Str:=(if (decide (((at' vd (3:Int)) % (3:Int))=(1:Int)))=true then (let vh:=(Txt.mul (ch ve (v2 / (8:Int))) ((1:Int)+(v2 % (8:Int))));vh) else vh);(let v6:=v6++[vh];v6))))
def pH (vd:LI_) (ve:Str) (vf:Str) (v9:Int) (v6:LS_) (v2:Int):Prop:=((In vd.length (2:Int)/\In ve.length ((v2+(at' vd (2:Int))) % (15:Int)))/\(let vg:=(ch ve ((v2+(at' vd (2:Int))) % (15:Int)));((p7 ((Txt.slice vf none (some v9)).length+vg.length)/\p7 (((Txt.slice vf none (some v9))++vg).length+(Txt.slice vf (some v9) none).length))/\(let vh:=(((Txt.slice vf none (some v9))++vg)++(Txt.slice vf (some v9) none));((In vd.length (3:Int)/\((decide (((at' vd (3:Int)) % (3:Int))=(1:Int)))=true->(In ve.length (v2 / (8:Int))/\(((1:Int)+(v2 % (8:Int)))<=1000 ∧ -1000<=((1:Int)+(v2 % (8:Int)))/\(ch ve (v2 / (8:Int))).length<=1000))))/\(let vh:Str:=(if (decide (((at' vd (3:Int)) % (3:Int))=(1:Int)))=true then (let vh:=(Txt.mul (ch ve (v2 / (8:Int))) ((1:Int)+(v2 % (8:Int))));vh) else vh);p7 v6.length))))))
theorem Mv (vd:LI_) {bZ:Bx} (dH:Lp bZ (vd.map eI)) (v5:Int) (ve:Str) (vf:Str) (v9:Int) (v6:LS_) (v2:Int):RP tZ [some bZ,some ((zE eI) v5),some ((zE eS) ve),some ((zE eS) vf),some ((zE eI) v9),some ((oE eS) v6),some ((zE eI) v2),none,none] (fun s=>Out.nx ((fun v6:LS_=>[some bZ,some ((zE eI) v5),some ((zE eS) ve),some ((zE eS) vf),some ((zE eI) v9),some ((oE eS) v6),none,none,none]) s)) (iz vd ve vf v9 v6 v2) (some (pH vd ve vf v9 v6 v2)):=R.tp (dD (cj 7 (IW (aB 2 (zE eS) ve rfl) (dF (ju (aB 6 (zE eI) v2 rfl) (jx (fV 0 eI vd dH rfl) (x_i 2))) 15 (by decide))) (fun _=>rfl) fun vg=>(dD (cj 8 (vW (vW (Cd (aB 3 (zE eS) vf rfl) tX (qu (aB 4 (zE eI) v9 rfl))) (aB 7 (zE eS) vg rfl)) (Cd (aB 3 (zE eS) vf rfl) (qu (aB 4 (zE eI) v9 rfl)) tX)) (fun _=>rfl) fun vh=>(dD (Yy (fun vh:Str=>[some bZ,some ((zE eI) v5),some ((zE eS) ve),some ((zE eS) vf),some ((zE eI) v9),some ((oE eS) v6),some ((zE eI) v2),some ((zE eS) vg),some ((zE eS) vh)]) (rR (x_eq (by decide) (dF (jx (fV 0 eI vd dH rfl) (x_i 3)) 3 (by decide)) (x_i 1))) (dD (cj 8 (ahJ (IW (aB 2 (zE eS) ve rfl) (o8 (aB 6 (zE eI) v2 rfl) 8 (by decide))) (ju (x_i 1) (dF (aB 6 (zE eI) v2 rfl) 8 (by decide)))) (fun _=>rfl) fun vh=>(fB (jN vh rfl)))) (fB (jN vh rfl)) fun vh=>(dD (Fe 5 v6 rfl (aB 8 (zE eS) vh rfl) fun v6=>(fB (jN v6 rfl))))))))))
def Ak (vd:LI_) (v5:Int) (ve:Str) (vf:Str) (v9:Int) (v6:LS_):LS_:=v6
def Al:Ev->Option Out:=(aK (Kr 5) gq)
theorem Mw (vd:LI_) {bZ:Bx} (dH:Lp bZ (vd.map eI)) (v5:Int) (ve:Str) (vf:Str) (v9:Int) (v6:LS_):RP Al [some bZ,some ((zE eI) v5),some ((zE eS) ve),some ((zE eS) vf),some ((zE eI) v9),some ((oE eS) v6),none,none,none] (fun r=>Out.rt ((oE eS) r)) (Ak vd v5 ve vf v9 v6) (none):=R.tp (Xc 5 (fun r=>r) v6 rfl (fun _=>rfl) fun _=>rfl)
def Am (vd:LI_) (v5:Int) (ve:Str) (vf:Str) (v9:Int) (v6:LS_):LS_:=(let v6:LS_:=((rng 0 v5.toNat).foldl (fun (v6:LS_) (v2:Int)=>(iz vd ve vf v9 v6 v2)) v6);(Ak vd v5 ve vf v9 v6))
def Ao (vd:LI_) (v5:Int) (ve:Str) (vf:Str) (v9:Int) (v6:LS_):Prop:=(Rg v5/\Lf (fun (v6:LS_) (v2:Int)=>(iz vd ve vf v9 v6 v2)) (fun (v6:LS_) (v2:Int)=>some (pH vd ve vf v9 v6 v2)) (rng 0 v5.toNat) v6)
def Aq:Ev->Option Out:=(aK (CN (PJ (ak (gv 1) aC)) (mK 6) tZ) Al)
theorem Mx (vd:LI_) {bZ:Bx} (dH:Lp bZ (vd.map eI)) (v5:Int) (ve:Str) (vf:Str) (v9:Int) (v6:LS_):RP Aq [some bZ,some ((zE eI) v5),some ((zE eS) ve),some ((zE eS) vf),some ((zE eI) v9),some ((oE eS) v6),none,none,none] (fun r=>Out.rt ((oE eS) r)) (Am vd v5 ve vf v9 v6) (some (Ao vd v5 ve vf v9 v6)):=R.tp (Ve (fun v6:LS_=>[some bZ,some ((zE eI) v5),some ((zE eS) ve),some ((zE eS) vf),some ((zE eI) v9),some ((oE eS) v6),none,none,none]) v6 rfl (Ja (aB 1 (zE eI) v5 rfl)) _ (fun _ _=>rfl) (fun (v6:LS_) (v2:Int)=>(Mv vd dH v5 ve vf v9 v6 v2).r) fun v6=>(Mw vd dH v5 ve vf v9 v6).r)
def Ar (vd:LI_) (v5:Int) (ve:Str) (vf:Str) (v9:Int):LS_:=(let v6:=([]:LS_);(Am vd v5 ve vf v9 v6))
def Av (vd:LI_) (v5:Int) (ve:Str) (vf:Str) (v9:Int):Prop:=(let v6:=([]:LS_);(Ao vd v5 ve vf v9 v6))
def Aw:Ev->Option Out:=(aK (setG 5 (aP fX aC)) Aq)
theorem Mz (vd:LI_) {bZ:Bx} (dH:Lp bZ (vd.map eI)) (v5:Int) (ve:Str) (vf:Str) (v9:Int):RP Aw [some bZ,some ((zE eI) v5),some ((zE eS) ve),some ((zE eS) vf),some ((zE eI) v9),none,none,none,none] (fun r=>Out.rt ((oE eS) r)) (Ar vd v5 ve vf v9) (some (Av vd v5 ve vf v9)):=R.tp (cj 5 (iJ (aF eS) (zb rfl)) (fun _=>rfl) fun v6=>(Mx vd dH v5 ve vf v9 v6).r)
def pI (vd:LI_) (v5:Int) (ve:Str) (vf:Str):LS_:=(let v9:=((at' vd (1:Int)) % ((vf.length:Int)+(1:Int)));(Ar vd v5 ve vf v9))
def uf (vd:LI_) (v5:Int) (ve:Str) (vf:Str):Prop:=((In vd.length (1:Int)/\0 < ((vf.length:Int)+(1:Int)))/\(let v9:=((at' vd (1:Int)) % ((vf.length:Int)+(1:Int)));(Av vd v5 ve vf v9)))
def Ax:Ev->Option Out:=(aK (setG 4 (b2 fH (b2 eU (gv 0) (cB (.int 1))) (b2 bQ (aP tM (ak (gv 3) aC)) (cB (.int 1))))) Aw)
theorem MF (vd:LI_) {bZ:Bx} (dH:Lp bZ (vd.map eI)) (v5:Int) (ve:Str) (vf:Str):RP Ax [some bZ,some ((zE eI) v5),some ((zE eS) ve),some ((zE eS) vf),none,none,none,none,none] (fun r=>Out.rt ((oE eS) r)) (pI vd v5 ve vf) (some (uf vd v5 ve vf)):=R.tp (cj 4 (Ez (jx (fV 0 eI vd dH rfl) (x_i 1)) (ju (acu (aB 3 (zE eS) vf rfl)) (x_i 1))) (fun _=>rfl) fun v9=>(Mz vd dH v5 ve vf v9).r)
def Ay (vd:LI_) (v5:Int) (ve:Str):LS_:=(let vf:=(Txt.join "" ((rng 0 ((at' vd (0:Int)) % (6:Int)).toNat).map fun v2:Int=>(ch ve (((at' vd v2) / (40:Int)) % (26:Int)))));(pI vd v5 ve vf))
def Az (vd:LI_) (v5:Int) (ve:Str):Prop:=(((((In vd.length (0:Int)/\Rg ((at' vd (0:Int)) % (6:Int)))/\(rng 0 ((at' vd (0:Int)) % (6:Int)).toNat).length<=100000)/\(∀ v2∈(rng 0 ((at' vd (0:Int)) % (6:Int)).toNat),(In vd.length v2/\In ve.length (((at' vd v2) / (40:Int)) % (26:Int)))))/\(((rng 0 ((at' vd (0:Int)) % (6:Int)).toNat).map fun v2:Int=>(ch ve (((at' vd v2) / (40:Int)) % (26:Int)))).map (·.length)).sum+((rng 0 ((at' vd (0:Int)) % (6:Int)).toNat).map fun v2:Int=>(ch ve (((at' vd v2) / (40:Int)) % (26:Int)))).length * ("" : Str).length<=100000)/\(let vf:=(Txt.join "" ((rng 0 ((at' vd (0:Int)) % (6:Int)).toNat).map fun v2:Int=>(ch ve (((at' vd v2) / (40:Int)) % (26:Int)))));(uf vd v5 ve vf)))
def MJ:Ev->Option Out:=(aK (setG 3 (b1 (PL "") (dW (PJ (ak (b2 fH (b2 eU (gv 0) (cB (.int 0))) (cB (.int 6))) aC)) (mK 2) jM (b2 eU (gv 0) (b2 fH (b2 uJ (b2 eU (gv 1) (gv 2)) (cB (.int 40))) (cB (.int 26)))) [2,0] 1))) Ax)
theorem MK (vd:LI_) {bZ:Bx} (dH:Lp bZ (vd.map eI)) (v5:Int) (ve:Str):RP MJ [some bZ,some ((zE eI) v5),some ((zE eS) ve),none,none,none,none,none,none] (fun r=>Out.rt ((oE eS) r)) (Ay vd v5 ve) (some (Az vd v5 ve)):=R.tp (cj 3 (ahK "" (fM (ji (Ja (dF (jx (fV 0 eI vd dH rfl) (x_i 0)) 6 (by decide))) _ (fun _=>rfl) (fun v2:Int=>(IW (aB 0 (zE eS) ve rfl) (dF (o8 (jx (fV 1 eI vd dH (congrArg some (dH.get rfl))) (aB 2 (zE eI) v2 rfl)) 40 (by decide)) 26 (by decide))))))) (fun _=>rfl) fun vf=>(MF vd dH v5 ve vf).r)
def je (vd:LI_) (v5:Int):LS_:=(let ve:=("abcdefghijklmnopqrstuvwxyz" : Str);(Ay vd v5 ve))
def u9 (vd:LI_) (v5:Int):Prop:=(let ve:=("abcdefghijklmnopqrstuvwxyz" : Str);(Az vd v5 ve))
theorem VJ (vd:LI_) {bZ:Bx} (dH:Lp bZ (vd.map eI)) (v5:Int):RP uX [some bZ,some ((zE eI) v5),none,none,none,none,none,none,none] (fun r=>Out.rt ((oE eS) r)) (je vd v5) (some (u9 vd v5)):=R.tp (cj 2 (x_s "abcdefghijklmnopqrstuvwxyz") (fun _=>rfl) fun ve=>(MK vd dH v5 ve).r)
theorem VL:∀ v bs,(aL eI (aZ eI aN)) v bs->bs.length=2/\(hold (some (u9 v.1 v.2.1))->jG (bs.map lend)=some ((oE eS) (je v.1 v.2.1))):=by
 rintro⟨vd,v5,_⟩ _ ⟨bZ,_,rfl,dH,⟨_,rfl,rfl⟩⟩
 exact⟨rfl,fun h=>cJ (g:=uX) (n:=9) (bs:=[lend bZ,.z (eI v5)]) (VJ vd (zY dH) v5) h⟩
def eF (v0:LI_) (v9:Int) (v5:Int) (v1:LI_) (vc:LS_) (vi:List dM) (v2:Int):(List dM):=(let vd:=(aV (bx v0 ((v9+(1:Int))+v2)) (4:Int));(let y1:=((at' vd (0:Int)) % (if v5 > (1:Int) then v5 else (1:Int)));let y2:=((at' vd (1:Int)) % (if v5 > (1:Int) then v5 else (1:Int)));let vj:=y1;let vk:=y2;(let vl:=(at' [((1:Int)+((at' vd (2:Int)) % (3:Int))),((1:Int)+((at' vd (2:Int)) % (9:Int))),((1:Int)+((at' vd (2:Int)) % (1000:Int)))] ((at' v1 (4:Int)) % (3:Int)));(let vi:(List dM):=(if (!decide (vj=vk))=true then (let vi:=vi++[(((0:Int) - vl),(at' vc (if vk < vj then vk else vj)),(at' vc (if vk > vj then vk else vj)),(at' [(0:Int),(2:Int),(10:Int)] ((at' vd (3:Int)) % (3:Int))))];vi) else vi);vi))))
def jX (v0:LI_) (v9:Int) (v5:Int) (v1:LI_) (vc:LS_) (vi:List dM) (v2:Int):Prop:=(((lQ v0 ((v9+(1:Int))+v2))/\(gM (bx v0 ((v9+(1:Int))+v2)) (4:Int)))/\(let vd:=(aV (bx v0 ((v9+(1:Int))+v2)) (4:Int));(((In vd.length (0:Int)/\0 < (if v5 > (1:Int) then v5 else (1:Int)))/\(In vd.length (1:Int)/\0 < (if v5 > (1:Int) then v5 else (1:Int))))/\(let y1:=((at' vd (0:Int)) % (if v5 > (1:Int) then v5 else (1:Int)));let y2:=((at' vd (1:Int)) % (if v5 > (1:Int) then v5 else (1:Int)));let vj:=y1;let vk:=y2;((((In vd.length (2:Int)/\(In vd.length (2:Int)/\In vd.length (2:Int)))/\In v1.length (4:Int))/\In [((1:Int)+((at' vd (2:Int)) % (3:Int))),((1:Int)+((at' vd (2:Int)) % (9:Int))),((1:Int)+((at' vd (2:Int)) % (1000:Int)))].length ((at' v1 (4:Int)) % (3:Int)))/\(let vl:=(at' [((1:Int)+((at' vd (2:Int)) % (3:Int))),((1:Int)+((at' vd (2:Int)) % (9:Int))),((1:Int)+((at' vd (2:Int)) % (1000:Int)))] ((at' v1 (4:Int)) % (3:Int)));((!decide (vj=vk))=true->((In vc.length (if vk < vj then vk else vj)/\(In vc.length (if vk > vj then vk else vj)/\(In vd.length (3:Int)/\In [(0:Int),(2:Int),(10:Int)].length ((at' vd (3:Int)) % (3:Int)))))/\p7 vi.length))))))))
theorem JF (v0:LI_) {bZ:Bx} (dH:Lp bZ (v0.map eI)) (v9:Int) (v5:Int) (va:Int) (vb:Int) (v1:LI_) (vc:LS_) (vi:List dM) (v2:Int):RP rE [some bZ,some ((zE eI) v9),some ((zE eI) v5),some ((zE eI) va),some ((zE eI) vb),some ((oE eI) v1),some ((oE eS) vc),some ((oE dw) vi),some ((zE eI) v2),none,none,none,none,none,none] (fun s=>Out.nx ((fun vi:(List dM)=>[some bZ,some ((zE eI) v9),some ((zE eI) v5),some ((zE eI) va),some ((zE eI) vb),some ((oE eI) v1),some ((oE eS) vc),some ((oE dw) vi),none,none,none,none,none,none,none]) s)) (eF v0 v9 v5 v1 vc vi v2) (some (jX v0 v9 v5 v1 vc vi v2)):=R.tp (dD (cj 9 (x_call ni (cL (dO (x_call yH (Jx (fV 0 eI v0 dH rfl) (cL (dO (ju (ju (aB 1 (zE eI) v9 rfl) (x_i 1)) (aB 8 (zE eI) v2 rfl))) bC)))) (cL (x_i 4) bC))) (fun _=>rfl) fun vd=>(dD (agc 10 11 (Ez (jx (iH (aB 9 (lE eI) vd rfl)) (x_i 0)) (Qi (x_i 1) (aB 2 (zE eI) v5 rfl))) (Ez (jx (iH (aB 9 (lE eI) vd rfl)) (x_i 1)) (Qi (x_i 1) (aB 2 (zE eI) v5 rfl))) fun vj vk=>(dD (cj 12 (jx (fM (iJ (ao (dO (ju (x_i 1) (dF (jx (iH (aB 9 (lE eI) vd rfl)) (x_i 2)) 3 (by decide)))) (ao (dO (ju (x_i 1) (dF (jx (iH (aB 9 (lE eI) vd rfl)) (x_i 2)) 9 (by decide)))) (ao (dO (ju (x_i 1) (dF (jx (iH (aB 9 (lE eI) vd rfl)) (x_i 2)) 1000 (by decide)))) (aF eI)))) (zb rfl))) (dF (jx (iH (aB 5 (lE eI) v1 rfl)) (x_i 4)) 3 (by decide))) (fun _=>rfl) fun vl=>(dD (Yy (fun vi:(List dM)=>[some bZ,some ((zE eI) v9),some ((zE eI) v5),some ((zE eI) va),some ((zE eI) vb),some ((oE eI) v1),some ((oE eS) vc),some ((oE dw) vi),some ((zE eI) v2),some ((oE eI) vd),some ((zE eI) vj),some ((zE eI) vk),some ((zE eI) vl),none,none]) (rR (acg (by decide) (aB 10 (zE eI) vj rfl) (aB 11 (zE eI) vk rfl))) (dD (Fe 7 vi rfl (Xb (IK (x_i 0) (aB 12 (zE eI) vl rfl)) (jx (iH (aB 6 (lE eS) vc rfl)) (aga (aB 10 (zE eI) vj rfl) (aB 11 (zE eI) vk rfl))) (jx (iH (aB 6 (lE eS) vc rfl)) (Qi (aB 10 (zE eI) vj rfl) (aB 11 (zE eI) vk rfl))) (jx (fM (iJ (ao (x_i 0) (ao (x_i 2) (ao (x_i 10) (aF eI)))) (zb rfl))) (dF (jx (iH (aB 9 (lE eI) vd rfl)) (x_i 3)) 3 (by decide)))) fun vi=>(fB (jN vi rfl)))) (fB (jN vi rfl)) fun vi=>(fB (jN vi rfl))))))))))
def eG (v0:LI_) (v9:Int) (v5:Int) (vc:LS_) (vm:List kW) (v2:Int):(List kW):=(let vd:=(aV (bx v0 ((v9+(1:Int))+v2)) (8:Int));(let y4:=((at' vd (5:Int)) % (if v5 > (1:Int) then v5 else (1:Int)));let y5:=((at' vd (6:Int)) % (if v5 > (1:Int) then v5 else (1:Int)));let vj:=y4;let vk:=y5;(let vm:(List kW):=(if (!decide (vj=vk))=true then (let vm:=vm++[((at' vc (if vk < vj then vk else vj)),(at' vc (if vk > vj then vk else vj)),(at' [(2:Int),(10:Int)] ((at' vd (7:Int)) % (2:Int))))];vm) else vm);vm)))
def jY (v0:LI_) (v9:Int) (v5:Int) (vc:LS_) (vm:List kW) (v2:Int):Prop:=(((lQ v0 ((v9+(1:Int))+v2))/\(gM (bx v0 ((v9+(1:Int))+v2)) (8:Int)))/\(let vd:=(aV (bx v0 ((v9+(1:Int))+v2)) (8:Int));(((In vd.length (5:Int)/\0 < (if v5 > (1:Int) then v5 else (1:Int)))/\(In vd.length (6:Int)/\0 < (if v5 > (1:Int) then v5 else (1:Int))))/\(let y4:=((at' vd (5:Int)) % (if v5 > (1:Int) then v5 else (1:Int)));let y5:=((at' vd (6:Int)) % (if v5 > (1:Int) then v5 else (1:Int)));let vj:=y4;let vk:=y5;((!decide (vj=vk))=true->((In vc.length (if vk < vj then vk else vj)/\(In vc.length (if vk > vj then vk else vj)/\(In vd.length (7:Int)/\In [(2:Int),(10:Int)].length ((at' vd (7:Int)) % (2:Int)))))/\p7 vm.length))))))
theorem JG (v0:LI_) {bZ:Bx} (dH:Lp bZ (v0.map eI)) (v9:Int) (v5:Int) (va:Int) (vb:Int) (v1:LI_) (vc:LS_) (vi:List dM) (v6:List dM) (vm:List kW) (v2:Int):RP rG [some bZ,some ((zE eI) v9),some ((zE eI) v5),some ((zE eI) va),some ((zE eI) vb),some ((oE eI) v1),some ((oE eS) vc),some ((oE dw) vi),some ((zE eI) v2),none,none,none,none,some ((oE dw) v6),some ((oE iI) vm)] (fun s=>Out.nx ((fun vm:(List kW)=>[some bZ,some ((zE eI) v9),some ((zE eI) v5),some ((zE eI) va),some ((zE eI) vb),some ((oE eI) v1),some ((oE eS) vc),some ((oE dw) vi),none,none,none,none,none,some ((oE dw) v6),some ((oE iI) vm)]) s)) (eG v0 v9 v5 vc vm v2) (some (jY v0 v9 v5 vc vm v2)):=R.tp (dD (cj 9 (x_call ni (cL (dO (x_call yH (Jx (fV 0 eI v0 dH rfl) (cL (dO (ju (ju (aB 1 (zE eI) v9 rfl) (x_i 1)) (aB 8 (zE eI) v2 rfl))) bC)))) (cL (x_i 8) bC))) (fun _=>rfl) fun vd=>(dD (agc 10 11 (Ez (jx (iH (aB 9 (lE eI) vd rfl)) (x_i 5)) (Qi (x_i 1) (aB 2 (zE eI) v5 rfl))) (Ez (jx (iH (aB 9 (lE eI) vd rfl)) (x_i 6)) (Qi (x_i 1) (aB 2 (zE eI) v5 rfl))) fun vj vk=>(dD (Yy (fun vm:(List kW)=>[some bZ,some ((zE eI) v9),some ((zE eI) v5),some ((zE eI) va),some ((zE eI) vb),some ((oE eI) v1),some ((oE eS) vc),some ((oE dw) vi),some ((zE eI) v2),some ((oE eI) vd),some ((zE eI) vj),some ((zE eI) vk),none,some ((oE dw) v6),some ((oE iI) vm)]) (rR (acg (by decide) (aB 10 (zE eI) vj rfl) (aB 11 (zE eI) vk rfl))) (dD (Fe 14 vm rfl (acj (jx (iH (aB 6 (lE eS) vc rfl)) (aga (aB 10 (zE eI) vj rfl) (aB 11 (zE eI) vk rfl))) (jx (iH (aB 6 (lE eS) vc rfl)) (Qi (aB 10 (zE eI) vj rfl) (aB 11 (zE eI) vk rfl))) (jx (fM (iJ (ao (x_i 2) (ao (x_i 10) (aF eI))) (zb rfl))) (dF (jx (iH (aB 9 (lE eI) vd rfl)) (x_i 7)) 2 (by decide)))) fun vm=>(fB (jN vm rfl)))) (fB (jN vm rfl)) fun vm=>(fB (jN vm rfl))))))))
def yW (v0:LI_) (v9:Int) (v5:Int) (va:Int) (vb:Int) (v1:LI_) (vc:LS_) (vi:List dM) (v6:List dM) (vm:List kW):cQ:=(vc,v6,(o9 iI (Dy vm)))
def yX (v0:LI_) (v9:Int) (v5:Int) (va:Int) (vb:Int) (v1:LI_) (vc:LS_) (vi:List dM) (v6:List dM) (vm:List kW):Prop:=(vm.length<=64/\vm.length < 64)
def yZ:Ev->Option Out:=(aK (eX (aP aJ (ak (aP vV (ak (gv 6) aC)) (ak (aP vV (ak (gv 13) aC)) (ak (aP vV (ak (La (RT (gv 14))) aC)) aC))))) gq)
theorem JH (v0:LI_) {bZ:Bx} (dH:Lp bZ (v0.map eI)) (v9:Int) (v5:Int) (va:Int) (vb:Int) (v1:LI_) (vc:LS_) (vi:List dM) (v6:List dM) (vm:List kW):RP yZ [some bZ,some ((zE eI) v9),some ((zE eI) v5),some ((zE eI) va),some ((zE eI) vb),some ((oE eI) v1),some ((oE eS) vc),some ((oE dw) vi),none,none,none,none,none,some ((oE dw) v6),some ((oE iI) vm)] (fun r=>Out.rt ((zE fP) r)) (yW v0 v9 v5 va vb v1 vc vi v6 vm) (some (yX v0 v9 v5 va vb v1 vc vi v6 vm)):=R.tp (cP (fun r=>r) (acj (RZ (iH (aB 6 (lE eS) vc rfl))) (RZ (iH (aB 13 (lE dw) v6 rfl))) (RZ (fM (acI (R6 (iH (aB 14 (lE iI) vm rfl))))))) (fun _=>rfl) fun _=>rfl)
def za (v0:LI_) (v9:Int) (v5:Int) (va:Int) (vb:Int) (v1:LI_) (vc:LS_) (vi:List dM) (v6:List dM) (vm:List kW):cQ:=(let vm:(List kW):=((rng 0 vb.toNat).foldl (fun (vm:List kW) (v2:Int)=>(eG v0 v9 v5 vc vm v2)) vm);(yW v0 v9 v5 va vb v1 vc vi v6 vm))
def zc (v0:LI_) (v9:Int) (v5:Int) (va:Int) (vb:Int) (v1:LI_) (vc:LS_) (vi:List dM) (v6:List dM) (vm:List kW):Prop:=((Rg vb/\Lf (fun (vm:List kW) (v2:Int)=>(eG v0 v9 v5 vc vm v2)) (fun (vm:List kW) (v2:Int)=>some (jY v0 v9 v5 vc vm v2)) (rng 0 vb.toNat) vm)/\(let vm:(List kW):=((rng 0 vb.toNat).foldl (fun (vm:List kW) (v2:Int)=>(eG v0 v9 v5 vc vm v2)) vm);(yX v0 v9 v5 va vb v1 vc vi v6 vm)))
def zf:Ev->Option Out:=(aK (CN (PJ (ak (gv 4) aC)) (mK 8) rG) yZ)
theorem JK (v0:LI_) {bZ:Bx} (dH:Lp bZ (v0.map eI)) (v9:Int) (v5:Int) (va:Int) (vb:Int) (v1:LI_) (vc:LS_) (vi:List dM) (v6:List dM) (vm:List kW):RP zf [some bZ,some ((zE eI) v9),some ((zE eI) v5),some ((zE eI) va),some ((zE eI) vb),some ((oE eI) v1),some ((oE eS) vc),some ((oE dw) vi),none,none,none,none,none,some ((oE dw) v6),some ((oE iI) vm)] (fun r=>Out.rt ((zE fP) r)) (za v0 v9 v5 va vb v1 vc vi v6 vm) (some (zc v0 v9 v5 va vb v1 vc vi v6 vm)):=R.tp (Ve (fun vm:(List kW)=>[some bZ,some ((zE eI) v9),some ((zE eI) v5),some ((zE eI) va),some ((zE eI) vb),some ((oE eI) v1),some ((oE eS) vc),some ((oE dw) vi),none,none,none,none,none,some ((oE dw) v6),some ((oE iI) vm)]) vm rfl (Ja (aB 4 (zE eI) vb rfl)) _ (fun _ _=>rfl) (fun (vm:List kW) (v2:Int)=>(JG v0 dH v9 v5 va vb v1 vc vi v6 vm v2).r) fun vm=>(JH v0 dH v9 v5 va vb v1 vc vi v6 vm).r)
def zj (v0:LI_) (v9:Int) (v5:Int) (va:Int) (vb:Int) (v1:LI_) (vc:LS_) (vi:List dM) (v6:List dM):cQ:=(let vm:=([]:List kW);(za v0 v9 v5 va vb v1 vc vi v6 vm))
def zm (v0:LI_) (v9:Int) (v5:Int) (va:Int) (vb:Int) (v1:LI_) (vc:LS_) (vi:List dM) (v6:List dM):Prop:=(let vm:=([]:List kW);(zc v0 v9 v5 va vb v1 vc vi v6 vm))
def zp:Ev->Option Out:=(aK (setG 14 (aP fX aC)) zf)
theorem JL (v0:LI_) {bZ:Bx} (dH:Lp bZ (v0.map eI)) (v9:Int) (v5:Int) (va:Int) (vb:Int) (v1:LI_) (vc:LS_) (vi:List dM) (v6:List dM):RP zp [some bZ,some ((zE eI) v9),some ((zE eI) v5),some ((zE eI) va),some ((zE eI) vb),some ((oE eI) v1),some ((oE eS) vc),some ((oE dw) vi),none,none,none,none,none,some ((oE dw) v6),none] (fun r=>Out.rt ((zE fP) r)) (zj v0 v9 v5 va vb v1 vc vi v6) (some (zm v0 v9 v5 va vb v1 vc vi v6)):=R.tp (cj 14 (iJ (aF iI) (zb rfl)) (fun _=>rfl) fun vm=>(JK v0 dH v9 v5 va vb v1 vc vi v6 vm).r)
def rJ (v0:LI_) (v9:Int) (v5:Int) (va:Int) (vb:Int) (v1:LI_) (vc:LS_) (vi:List dM):cQ:=(let v6:=((o9 dw (Dy vi)).map fun q3:dM=>(((0:Int) - q3.1),q3.2.1,q3.2.2.1,q3.2.2.2));(zj v0 v9 v5 va vb v1 vc vi v6))
def rK (v0:LI_) (v9:Int) (v5:Int) (va:Int) (vb:Int) (v1:LI_) (vc:LS_) (vi:List dM):Prop:=(((vi.length<=64/\vi.length < 64)/\(o9 dw (Dy vi)).length<=100000)/\(let v6:=((o9 dw (Dy vi)).map fun q3:dM=>(((0:Int) - q3.1),q3.2.1,q3.2.2.1,q3.2.2.2));(zm v0 v9 v5 va vb v1 vc vi v6)))
def zq:Ev->Option Out:=(aK (setG 13 (dW (Bj (La (RT (gv 7)))) (BX 4 (fL (mK 0) (fL (mK 1) (fL (mK 2) (fL (mK 3) Ip))))) jM (aP aJ (ak (b2 subB (cB (.int 0)) (gv 0)) (ak (gv 1) (ak (gv 2) (ak (gv 3) aC))))) [] 4)) zp)
theorem JM (v0:LI_) {bZ:Bx} (dH:Lp bZ (v0.map eI)) (v9:Int) (v5:Int) (va:Int) (vb:Int) (v1:LI_) (vc:LS_) (vi:List dM):RP zq [some bZ,some ((zE eI) v9),some ((zE eI) v5),some ((zE eI) va),some ((zE eI) vb),some ((oE eI) v1),some ((oE eS) vc),some ((oE dw) vi),none,none,none,none,none,none,none] (fun r=>Out.rt ((zE fP) r)) (rJ v0 v9 v5 va vb v1 vc vi) (some (rK v0 v9 v5 va vb v1 vc vi)):=R.tp (cj 13 (Kc (ahL (fM (acI (R6 (iH (aB 7 (lE dw) vi rfl)))))) _ (fun _=>rfl) (fun q3:dM=>(Xb (IK (x_i 0) (aB 0 (zE eI) q3.1 rfl)) (aB 1 (zE eS) q3.2.1 rfl) (aB 2 (zE eS) q3.2.2.1 rfl) (aB 3 (zE eI) q3.2.2.2 rfl))) fun _=>rfl) (fun _=>rfl) fun v6=>(JL v0 dH v9 v5 va vb v1 vc vi v6).r)
def zu (v0:LI_) (v9:Int) (v5:Int) (va:Int) (vb:Int) (v1:LI_) (vc:LS_) (vi:List dM):cQ:=(let vi:(List dM):=((rng 0 va.toNat).foldl (fun (vi:List dM) (v2:Int)=>(eF v0 v9 v5 v1 vc vi v2)) vi);(rJ v0 v9 v5 va vb v1 vc vi))
def zx (v0:LI_) (v9:Int) (v5:Int) (va:Int) (vb:Int) (v1:LI_) (vc:LS_) (vi:List dM):Prop:=((Rg va/\Lf (fun (vi:List dM) (v2:Int)=>(eF v0 v9 v5 v1 vc vi v2)) (fun (vi:List dM) (v2:Int)=>some (jX v0 v9 v5 v1 vc vi v2)) (rng 0 va.toNat) vi)/\(let vi:(List dM):=((rng 0 va.toNat).foldl (fun (vi:List dM) (v2:Int)=>(eF v0 v9 v5 v1 vc vi v2)) vi);(rK v0 v9 v5 va vb v1 vc vi)))
def zy:Ev->Option Out:=(aK (CN (PJ (ak (gv 3) aC)) (mK 8) rE) zq)
theorem JN (v0:LI_) {bZ:Bx} (dH:Lp bZ (v0.map eI)) (v9:Int) (v5:Int) (va:Int) (vb:Int) (v1:LI_) (vc:LS_) (vi:List dM):RP zy [some bZ,some ((zE eI) v9),some ((zE eI) v5),some ((zE eI) va),some ((zE eI) vb),some ((oE eI) v1),some ((oE eS) vc),some ((oE dw) vi),none,none,none,none,none,none,none] (fun r=>Out.rt ((zE fP) r)) (zu v0 v9 v5 va vb v1 vc vi) (some (zx v0 v9 v5 va vb v1 vc vi)):=R.tp (Ve (fun vi:(List dM)=>[some bZ,some ((zE eI) v9),some ((zE eI) v5),some ((zE eI) va),some ((zE eI) vb),some ((oE eI) v1),some ((oE eS) vc),some ((oE dw) vi),none,none,none,none,none,none,none]) vi rfl (Ja (aB 3 (zE eI) va rfl)) _ (fun _ _=>rfl) (fun (vi:List dM) (v2:Int)=>(JF v0 dH v9 v5 va vb v1 vc vi v2).r) fun vi=>(JM v0 dH v9 v5 va vb v1 vc vi).r)
def rM (v0:LI_) (v9:Int) (v5:Int) (va:Int) (vb:Int) (v1:LI_) (vc:LS_):cQ:=(let vi:=([]:List dM);(zu v0 v9 v5 va vb v1 vc vi))
def rN (v0:LI_) (v9:Int) (v5:Int) (va:Int) (vb:Int) (v1:LI_) (vc:LS_):Prop:=(let vi:=([]:List dM);(zx v0 v9 v5 va vb v1 vc vi))
def zA:Ev->Option Out:=(aK (setG 7 (aP fX aC)) zy)
theorem JQ (v0:LI_) {bZ:Bx} (dH:Lp bZ (v0.map eI)) (v9:Int) (v5:Int) (va:Int) (vb:Int) (v1:LI_) (vc:LS_):RP zA [some bZ,some ((zE eI) v9),some ((zE eI) v5),some ((zE eI) va),some ((zE eI) vb),some ((oE eI) v1),some ((oE eS) vc),none,none,none,none,none,none,none,none] (fun r=>Out.rt ((zE fP) r)) (rM v0 v9 v5 va vb v1 vc) (some (rN v0 v9 v5 va vb v1 vc)):=R.tp (cj 7 (iJ (aF dw) (zb rfl)) (fun _=>rfl) fun vi=>(JN v0 dH v9 v5 va vb v1 vc vi).r)
def rO (v0:LI_) (v9:Int) (v5:Int) (va:Int) (vb:Int) (v1:LI_):cQ:=(let vc:=(uK (je v1 v5));(rM v0 v9 v5 va vb v1 vc))
def rP (v0:LI_) (v9:Int) (v5:Int) (va:Int) (vb:Int) (v1:LI_):Prop:=(((u9 v1 v5)/\(je v1 v5).length < 64)/\(let vc:=(uK (je v1 v5));(rN v0 v9 v5 va vb v1 vc)))
def JR:Ev->Option Out:=(aK (setG 6 (aP yN (ak (bH 2 jG (ak (gv 5) (ak (gv 2) aC))) aC))) zA)
theorem JT (v0:LI_) {bZ:Bx} (dH:Lp bZ (v0.map eI)) (v9:Int) (v5:Int) (va:Int) (vb:Int) (v1:LI_):RP JR [some bZ,some ((zE eI) v9),some ((zE eI) v5),some ((zE eI) va),some ((zE eI) vb),some ((oE eI) v1),none,none,none,none,none,none,none,none,none] (fun r=>Out.rt ((zE fP) r)) (rO v0 v9 v5 va vb v1) (some (rP v0 v9 v5 va vb v1)):=R.tp (cj 6 (Yv (fM (x_call VL (Jx (iH (aB 5 (lE eI) v1 rfl)) (cL (aB 2 (zE eI) v5 rfl) bC))))) (fun _=>rfl) fun vc=>(JQ v0 dH v9 v5 va vb v1 vc).r)
def pJ (v0:LI_) (v9:Int) (v5:Int) (va:Int) (vb:Int):cQ:=(let v1:=(aV (bx v0 v9) (6:Int));(rO v0 v9 v5 va vb v1))
def sX (v0:LI_) (v9:Int) (v5:Int) (va:Int) (vb:Int):Prop:=(((lQ v0 v9)/\(gM (bx v0 v9) (6:Int)))/\(let v1:=(aV (bx v0 v9) (6:Int));(rP v0 v9 v5 va vb v1)))
theorem S8 (v0:LI_) {bZ:Bx} (dH:Lp bZ (v0.map eI)) (v9:Int) (v5:Int) (va:Int) (vb:Int):RP sS [some bZ,some ((zE eI) v9),some ((zE eI) v5),some ((zE eI) va),some ((zE eI) vb),none,none,none,none,none,none,none,none,none,none] (fun r=>Out.rt ((zE fP) r)) (pJ v0 v9 v5 va vb) (some (sX v0 v9 v5 va vb)):=R.tp (cj 5 (x_call ni (cL (dO (x_call yH (Jx (fV 0 eI v0 dH rfl) (cL (aB 1 (zE eI) v9 rfl) bC)))) (cL (x_i 6) bC))) (fun _=>rfl) fun v1=>(JT v0 dH v9 v5 va vb v1).r)
theorem S9:∀ v bs,(aL eI (aZ eI (aZ eI (aZ eI (aZ eI aN))))) v bs->bs.length=5/\(hold (some (sX v.1 v.2.1 v.2.2.1 v.2.2.2.1 v.2.2.2.2.1))->iT (bs.map lend)=some ((zE fP) (pJ v.1 v.2.1 v.2.2.1 v.2.2.2.1 v.2.2.2.2.1))):=by
 rintro⟨v0,v9,v5,va,vb,_⟩ _ ⟨bZ,_,rfl,dH,⟨_,rfl,⟨_,rfl,⟨_,rfl,⟨_,rfl,rfl⟩⟩⟩⟩⟩
 exact⟨rfl,fun h=>cJ (g:=sS) (n:=15) (bs:=[lend bZ,.z (eI v9),.z (eI v5),.z (eI va),.z (eI vb)]) (S8 v0 (zY dH) v9 v5 va vb) h⟩
def vA (ve:Str) (v6:LD_):LD_:=v6
def vB:Ev->Option Out:=(aK (Kr 1) gq)
theorem FZ (ve:Str) (v6:LD_):RP vB [some ((zE eS) ve),some ((oE eD) v6)] (fun r=>Out.rt ((oE eD) r)) (vA ve v6) (none):=R.tp (Xc 1 (fun r=>r) v6 rfl (fun _=>rfl) fun _=>rfl)
def vC (ve:Str) (v6:LD_):LD_:=(let v6:=(v6++[(Dt.tup [((eT eS) (chars (Txt.slice ve none (some (13:Int))))),(Dt.tup []),(Dt.tup [])]),(Dt.tup [((eT eS) (chars (Txt.slice ve (some (13:Int)) none))),(Dt.tup []),(Dt.tup [])])]);(vA ve v6))
def vD (ve:Str) (v6:LD_):Prop:=p7 (v6.length+[(Dt.tup [((eT eS) (chars (Txt.slice ve none (some (13:Int))))),(Dt.tup []),(Dt.tup [])]),(Dt.tup [((eT eS) (chars (Txt.slice ve (some (13:Int)) none))),(Dt.tup []),(Dt.tup [])])].length)
def vG:Ev->Option Out:=(aK (setG 1 (b2 bQ (gv 1) (aP fX (ak (aP aJ (ak (aP Jb (ak (wG (gv 0) dR (dZ (cB (.int 13)))) aC)) (ak (aP aJ aC) (ak (aP aJ aC) aC)))) (ak (aP aJ (ak (aP Jb (ak (wG (gv 0) (dZ (cB (.int 13))) dR) aC)) (ak (aP aJ aC) (ak (aP aJ aC) aC)))) aC))))) vB)
theorem Ga (ve:Str) (v6:LD_):RP vG [some ((zE eS) ve),some ((oE eD) v6)] (fun r=>Out.rt ((oE eD) r)) (vC ve v6) (some (vD ve v6)):=R.tp (cj 1 (mL (iH (aB 1 (lE eD) v6 rfl)) (fM (iJ (ao (aM (ao (kO (acL (Cd (aB 0 (zE eS) ve rfl) tX (qu (x_i 13))))) (ao (aM (aF eD) (zb rfl)) (ao (aM (aF eD) (zb rfl)) (aF eD)))) (zb rfl)) (ao (aM (ao (kO (acL (Cd (aB 0 (zE eS) ve rfl) (qu (x_i 13)) tX))) (ao (aM (aF eD) (zb rfl)) (ao (aM (aF eD) (zb rfl)) (aF eD)))) (zb rfl)) (aF eD))) (zb rfl)))) (fun _=>rfl) fun v6=>(FZ ve v6).r)
def vH (ve:Str) (v6:LD_):LD_:=(let v6:=(v6++((rng 0 (kN 25)).map fun v2:Int=>(Dt.tup [(eS ((ch ve v2)++("a" : Str))),(eS ((ch ve (v2+(1:Int)))++("z" : Str))),(Dt.int 3)])));(vC ve v6))
def vI (ve:Str) (v6:LD_):Prop:=((((rng 0 (kN 25)).length<=100000/\(∀ v2∈(rng 0 (kN 25)),((In ve.length v2/\p7 ((ch ve v2).length+("a" : Str).length))/\(In ve.length (v2+(1:Int))/\p7 ((ch ve (v2+(1:Int))).length+("z" : Str).length)))))/\p7 (v6.length+((rng 0 (kN 25)).map fun v2:Int=>(Dt.tup [(eS ((ch ve v2)++("a" : Str))),(eS ((ch ve (v2+(1:Int)))++("z" : Str))),(Dt.int 3)])).length))/\(let v6:=(v6++((rng 0 (kN 25)).map fun v2:Int=>(Dt.tup [(eS ((ch ve v2)++("a" : Str))),(eS ((ch ve (v2+(1:Int)))++("z" : Str))),(Dt.int 3)])));(vD ve v6)))
def vJ:Ev->Option Out:=(aK (setG 1 (b2 bQ (gv 1) (dW (PJ (ak (cB (.int 25)) aC)) (mK 1) jM (aP aJ (ak (b1 kj (b2 bQ (b2 eU (gv 0) (gv 1)) (cB (.str "a")))) (ak (b1 kj (b2 bQ (b2 eU (gv 0) (b2 bQ (gv 1) (cB (.int 1)))) (cB (.str "z")))) (ak (cB (.int 3)) aC)))) [0] 1))) vG)
theorem Gb (ve:Str) (v6:LD_):RP vJ [some ((zE eS) ve),some ((oE eD) v6)] (fun r=>Out.rt ((oE eD) r)) (vH ve v6) (some (vI ve v6)):=R.tp (cj 1 (mL (iH (aB 1 (lE eD) v6 rfl)) (fM (ji (acD 25 25 rfl (by unfold Rg;decide)) _ (fun _=>rfl) (fun v2:Int=>(aM (ao (kO (dO (vW (IW (aB 0 (zE eS) ve rfl) (aB 1 (zE eI) v2 rfl)) (x_s "a")))) (ao (kO (dO (vW (IW (aB 0 (zE eS) ve rfl) (ju (aB 1 (zE eI) v2 rfl) (x_i 1))) (x_s "z")))) (ao (x_k (.int 3)) (aF eD)))) (zb rfl)))))) (fun _=>rfl) fun v6=>(Ga ve v6).r)
def vK (ve:Str) (v6:LD_):LD_:=(let v6:=(v6++((rng 0 (kN 25)).map fun v2:Int=>(Dt.tup [(Dt.int 1),(eS (ch ve v2)),(eS (ch ve (v2+(1:Int)))),(Dt.int 0)])));(vH ve v6))
def vL (ve:Str) (v6:LD_):Prop:=((((rng 0 (kN 25)).length<=100000/\(∀ v2∈(rng 0 (kN 25)),(In ve.length v2/\In ve.length (v2+(1:Int)))))/\p7 (v6.length+((rng 0 (kN 25)).map fun v2:Int=>(Dt.tup [(Dt.int 1),(eS (ch ve v2)),(eS (ch ve (v2+(1:Int)))),(Dt.int 0)])).length))/\(let v6:=(v6++((rng 0 (kN 25)).map fun v2:Int=>(Dt.tup [(Dt.int 1),(eS (ch ve v2)),(eS (ch ve (v2+(1:Int)))),(Dt.int 0)])));(vI ve v6)))
def vM:Ev->Option Out:=(aK (setG 1 (b2 bQ (gv 1) (dW (PJ (ak (cB (.int 25)) aC)) (mK 1) jM (aP aJ (ak (cB (.int 1)) (ak (b2 eU (gv 0) (gv 1)) (ak (b2 eU (gv 0) (b2 bQ (gv 1) (cB (.int 1)))) (ak (cB (.int 0)) aC))))) [0] 1))) vJ)
theorem Gd (ve:Str) (v6:LD_):RP vM [some ((zE eS) ve),some ((oE eD) v6)] (fun r=>Out.rt ((oE eD) r)) (vK ve v6) (some (vL ve v6)):=R.tp (cj 1 (mL (iH (aB 1 (lE eD) v6 rfl)) (fM (ji (acD 25 25 rfl (by unfold Rg;decide)) _ (fun _=>rfl) (fun v2:Int=>(aM (ao (x_k (.int 1)) (ao (kO (IW (aB 0 (zE eS) ve rfl) (aB 1 (zE eI) v2 rfl))) (ao (kO (IW (aB 0 (zE eS) ve rfl) (ju (aB 1 (zE eI) v2 rfl) (x_i 1)))) (ao (x_k (.int 0)) (aF eD))))) (zb rfl)))))) (fun _=>rfl) fun v6=>(Gb ve v6).r)
def vN (ve:Str):LD_:=(let v6:=((chars ve).map fun vp:Str=>(Dt.tup [(Dt.tup [(eS vp)]),(Dt.tup []),(Dt.tup [])]));(vK ve v6))
def vO (ve:Str):Prop:=((chars ve).length<=100000/\(let v6:=((chars ve).map fun vp:Str=>(Dt.tup [(Dt.tup [(eS vp)]),(Dt.tup []),(Dt.tup [])]));(vL ve v6)))
def Ge:Ev->Option Out:=(aK (setG 1 (dW (Bj (gv 0)) (mK 0) jM (aP aJ (ak (aP aJ (ak (gv 0) aC)) (ak (aP aJ aC) (ak (aP aJ aC) aC)))) [] 1)) vM)
theorem Gf (ve:Str):RP Ge [some ((zE eS) ve),none] (fun r=>Out.rt ((oE eD) r)) (vN ve) (some (vO ve)):=R.tp (cj 1 (Kc (alH (aB 0 (zE eS) ve rfl)) _ (fun _=>rfl) (fun vp:Str=>(aM (ao (aM (ao (kO (aB 0 (zE eS) vp rfl)) (aF eD)) (zb rfl)) (ao (aM (aF eD) (zb rfl)) (ao (aM (aF eD) (zb rfl)) (aF eD)))) (zb rfl))) fun _=>rfl) (fun _=>rfl) fun v6=>(Gd ve v6).r)
def fG  : LD_:=(let ve:=("abcdefghijklmnopqrstuvwxyz" : Str);(vN ve))
def pK  : Prop:=(let ve:=("abcdefghijklmnopqrstuvwxyz" : Str);(vO ve))
theorem MN:RP pB [none,none] (fun r=>Out.rt ((oE eD) r)) (fG ) (some (pK )):=R.tp (cj 0 (x_s "abcdefghijklmnopqrstuvwxyz") (fun _=>rfl) fun ve=>(Gf ve).r)
theorem MP:∀ v bs,aN v bs->bs.length=0/\(hold (some (pK ))->fD (bs.map lend)=some ((oE eD) (fG ))):=by
 rintro⟨_⟩ _ rfl
 exact⟨rfl,fun h=>cJ (g:=pB) (n:=2) (bs:=[]) (MN ) h⟩
def pN (vu:Str) (vv:Int) (vt:Int):Str:=(let vw:=("abcdefghijklmnopqrstuvwxyz0123456789 ABCDEFGHIJKLMNOPQRSTUVWXYZ" : Str);(let vw:=(vw++("!#$&'()*+,-./:;<=>?\x40[]^_`{|}~\"\\" : Str));(let vx:=(ch vw ((vt / (6:Int)) % (at' [(36:Int),(94:Int)] ((vt / (3:Int)) % (2:Int)))));(let v9:=(vv % ((vu.length:Int)+(1:Int)));(at' [(((Txt.slice vu none (some v9))++vx)++(Txt.slice vu (some v9) none)),(((Txt.slice vu none (some v9))++vx)++(Txt.slice vu (some (v9+(1:Int))) none)),((Txt.slice vu none (some v9))++(Txt.slice vu (some (v9+(1:Int))) none))] (vt % (3:Int)))))))
def sY (vu:Str) (vv:Int) (vt:Int):Prop:=(let vw:=("abcdefghijklmnopqrstuvwxyz0123456789 ABCDEFGHIJKLMNOPQRSTUVWXYZ" : Str);(p7 (vw.length+("!#$&'()*+,-./:;<=>?\x40[]^_`{|}~\"\\" : Str).length)/\(let vw:=(vw++("!#$&'()*+,-./:;<=>?\x40[]^_`{|}~\"\\" : Str));(((In [(36:Int),(94:Int)].length ((vt / (3:Int)) % (2:Int))/\0 < (at' [(36:Int),(94:Int)] ((vt / (3:Int)) % (2:Int))))/\In vw.length ((vt / (6:Int)) % (at' [(36:Int),(94:Int)] ((vt / (3:Int)) % (2:Int)))))/\(let vx:=(ch vw ((vt / (6:Int)) % (at' [(36:Int),(94:Int)] ((vt / (3:Int)) % (2:Int)))));(0 < ((vu.length:Int)+(1:Int))/\(let v9:=(vv % ((vu.length:Int)+(1:Int)));(((p7 ((Txt.slice vu none (some v9)).length+vx.length)/\p7 (((Txt.slice vu none (some v9))++vx).length+(Txt.slice vu (some v9) none).length))/\((p7 ((Txt.slice vu none (some v9)).length+vx.length)/\p7 (((Txt.slice vu none (some v9))++vx).length+(Txt.slice vu (some (v9+(1:Int))) none).length))/\p7 ((Txt.slice vu none (some v9)).length+(Txt.slice vu (some (v9+(1:Int))) none).length)))/\In [(((Txt.slice vu none (some v9))++vx)++(Txt.slice vu (some v9) none)),(((Txt.slice vu none (some v9))++vx)++(Txt.slice vu (some (v9+(1:Int))) none)),((Txt.slice vu none (some v9))++(Txt.slice vu (some (v9+(1:Int))) none))].length (vt % (3:Int))))))))))
theorem Tc (vu:Str) (vv:Int) (vt:Int):RP sU [some ((zE eS) vu),some ((zE eI) vv),some ((zE eI) vt),none,none,none] (fun r=>Out.rt ((zE eS) r)) (pN vu vv vt) (some (sY vu vv vt)):=R.tp (cj 3 (x_s "abcdefghijklmnopqrstuvwxyz0123456789 ABCDEFGHIJKLMNOPQRSTUVWXYZ") (fun _=>rfl) fun vw=>(cj 3 (vW (aB 3 (zE eS) vw rfl) (x_s "!#$&'()*+,-./:;<=>?\x40[]^_`{|}~\"\\")) (fun _=>rfl) fun vw=>(cj 4 (IW (aB 3 (zE eS) vw rfl) (Ez (o8 (aB 2 (zE eI) vt rfl) 6 (by decide)) (jx (fM (iJ (ao (x_i 36) (ao (x_i 94) (aF eI))) (zb rfl))) (dF (o8 (aB 2 (zE eI) vt rfl) 3 (by decide)) 2 (by decide))))) (fun _=>rfl) fun vx=>(cj 5 (Ez (aB 1 (zE eI) vv rfl) (ju (acu (aB 0 (zE eS) vu rfl)) (x_i 1))) (fun _=>rfl) fun v9=>(cP (fun r=>r) (jx (fM (iJ (ao (dO (vW (vW (Cd (aB 0 (zE eS) vu rfl) tX (qu (aB 5 (zE eI) v9 rfl))) (aB 4 (zE eS) vx rfl)) (Cd (aB 0 (zE eS) vu rfl) (qu (aB 5 (zE eI) v9 rfl)) tX))) (ao (dO (vW (vW (Cd (aB 0 (zE eS) vu rfl) tX (qu (aB 5 (zE eI) v9 rfl))) (aB 4 (zE eS) vx rfl)) (Cd (aB 0 (zE eS) vu rfl) (qu (ju (aB 5 (zE eI) v9 rfl) (x_i 1))) tX))) (ao (dO (vW (Cd (aB 0 (zE eS) vu rfl) tX (qu (aB 5 (zE eI) v9 rfl))) (Cd (aB 0 (zE eS) vu rfl) (qu (ju (aB 5 (zE eI) v9 rfl) (x_i 1))) tX))) (aF eS)))) (zb rfl))) (dF (aB 2 (zE eI) vt rfl) 3 (by decide))) (fun _=>rfl) fun _=>rfl)))))
theorem Td:∀ v bs,(aZ eS (aZ eI (aZ eI aN))) v bs->bs.length=3/\(hold (some (sY v.1 v.2.1 v.2.2.1))->iU (bs.map lend)=some ((zE eS) (pN v.1 v.2.1 v.2.2.1))):=by
 rintro⟨vu,vv,vt,_⟩ _ ⟨_,rfl,⟨_,rfl,⟨_,rfl,rfl⟩⟩⟩
 exact⟨rfl,fun h=>cJ (g:=sU) (n:=6) (bs:=[.z (eS vu),.z (eI vv),.z (eI vt)]) (Tc vu vv vt) h⟩
def bA:Nat->Dt->LI_->Int->Dt
 |0,_,_,_=>default
 |n+1,vr,vd,vs=>(let vt:=(at' vd (0:Int));(if ((jz vr)&&(decide ((vt % (3:Int))=(1:Int))))=true then (eS (pN (jg vr) (at' vd (1:Int)) (at' vd (2:Int)))) else (if ((nF vr)&&(decide ((vt % (3:Int))=(1:Int))))=true then (eI ((qI vr)+(at' [(1:Int),((0:Int) - (1:Int))] ((vt / (3:Int)) % (2:Int))))) else (let vq:=ah1;(let vq:=(vq++afu);(if ((!(is_tuple vr))||(eqX vr (Dt.tup [])))=true then (at' vq ((vt / (3:Int)) % (23:Int))) else (let v9:=((vt / (8:Int)) % (rz vr));(if ((decide ((0:Int) < vs))&&(decide ((0:Int) < (vt % (8:Int)))))=true then (Dt.tup (dI (Dt.tup (dI (Dt.tup (cut (dI vr) none (some v9)))++dI (Dt.tup [(bA n (iG vr v9) (cut vd (some (1:Int)) none) (vs - (1:Int)))])))++dI (Dt.tup (cut (dI vr) (some (v9+(1:Int))) none)))) else (let vy:=((vt / (64:Int)) % (6:Int));(if (decide (vy=(5:Int)))=true then (Dt.tup (dI vr++dI (Dt.tup [(at' vq ((vt / (512:Int)) % (23:Int)))]))) else (let vq:=[(Dt.tup (dI (Dt.tup (cut (dI vr) none (some v9)))++dI (Dt.tup (cut (dI vr) (some (v9+(1:Int))) none)))),(Dt.tup (dI (Dt.tup (dI (Dt.tup (cut (dI vr) none (some v9)))++dI (Dt.tup [(iG vr v9)])))++dI (Dt.tup (cut (dI vr) (some v9) none)))),(Dt.tup (dI vr).reverse),((eL eD) (dI vr))];(at' (vq++[(Dt.tup (cut (dI vr) (some (1:Int)) none))]) vy))))))))))))
def cX:Nat->Dt->LI_->Int->Prop
 |0,_,_,_=>False
 |n+1,vr,vd,vs=>(In vd.length (0:Int)/\(let vt:=(at' vd (0:Int));((((jz vr)&&(decide ((vt % (3:Int))=(1:Int))))=true->((vr=eS (jg vr)/\(In vd.length (1:Int)/\In vd.length (2:Int)))/\(sY (jg vr) (at' vd (1:Int)) (at' vd (2:Int)))))/\(((jz vr)&&(decide ((vt % (3:Int))=(1:Int))))=false->((((nF vr)&&(decide ((vt % (3:Int))=(1:Int))))=true->(vr=eI (qI vr)/\In [(1:Int),((0:Int) - (1:Int))].length ((vt / (3:Int)) % (2:Int))))/\(((nF vr)&&(decide ((vt % (3:Int))=(1:Int))))=false->(let vq:=ah1;(p7 (vq.length+afu.length)/\(let vq:=(vq++afu);(((!(is_tuple vr))=false->EqX vr (Dt.tup []))/\((((!(is_tuple vr))||(eqX vr (Dt.tup [])))=true->In vq.length ((vt / (3:Int)) % (23:Int)))/\(((!(is_tuple vr))||(eqX vr (Dt.tup [])))=false->((mY vr=true/\0 < (rz vr))/\(let v9:=((vt / (8:Int)) % (rz vr));((((decide ((0:Int) < vs))&&(decide ((0:Int) < (vt % (8:Int)))))=true->((((is_tuple vr=true/\(RX vr v9/\(cX n (iG vr v9) (cut vd (some (1:Int)) none) (vs - (1:Int)))))/\(is_tuple (Dt.tup (cut (dI vr) none (some v9)))=true/\is_tuple (Dt.tup [(bA n (iG vr v9) (cut vd (some (1:Int)) none) (vs - (1:Int)))])=true/\p7 ((dI (Dt.tup (cut (dI vr) none (some v9)))).length+(dI (Dt.tup [(bA n (iG vr v9) (cut vd (some (1:Int)) none) (vs - (1:Int)))])).length)))/\is_tuple vr=true)/\(is_tuple (Dt.tup (dI (Dt.tup (cut (dI vr) none (some v9)))++dI (Dt.tup [(bA n (iG vr v9) (cut vd (some (1:Int)) none) (vs - (1:Int)))])))=true/\is_tuple (Dt.tup (cut (dI vr) (some (v9+(1:Int))) none))=true/\p7 ((dI (Dt.tup (dI (Dt.tup (cut (dI vr) none (some v9)))++dI (Dt.tup [(bA n (iG vr v9) (cut vd (some (1:Int)) none) (vs - (1:Int)))])))).length+(dI (Dt.tup (cut (dI vr) (some (v9+(1:Int))) none))).length))))/\(((decide ((0:Int) < vs))&&(decide ((0:Int) < (vt % (8:Int)))))=false->(let vy:=((vt / (64:Int)) % (6:Int));(((decide (vy=(5:Int)))=true->(In vq.length ((vt / (512:Int)) % (23:Int))/\(is_tuple vr=true/\is_tuple (Dt.tup [(at' vq ((vt / (512:Int)) % (23:Int)))])=true/\p7 ((dI vr).length+(dI (Dt.tup [(at' vq ((vt / (512:Int)) % (23:Int)))])).length))))/\((decide (vy=(5:Int)))=false->((((is_tuple vr=true/\is_tuple vr=true)/\(is_tuple (Dt.tup (cut (dI vr) none (some v9)))=true/\is_tuple (Dt.tup (cut (dI vr) (some (v9+(1:Int))) none))=true/\p7 ((dI (Dt.tup (cut (dI vr) none (some v9)))).length+(dI (Dt.tup (cut (dI vr) (some (v9+(1:Int))) none))).length)))/\(((((is_tuple vr=true/\RX vr v9)/\(is_tuple (Dt.tup (cut (dI vr) none (some v9)))=true/\is_tuple (Dt.tup [(iG vr v9)])=true/\p7 ((dI (Dt.tup (cut (dI vr) none (some v9)))).length+(dI (Dt.tup [(iG vr v9)])).length)))/\is_tuple vr=true)/\(is_tuple (Dt.tup (dI (Dt.tup (cut (dI vr) none (some v9)))++dI (Dt.tup [(iG vr v9)])))=true/\is_tuple (Dt.tup (cut (dI vr) (some v9) none))=true/\p7 ((dI (Dt.tup (dI (Dt.tup (cut (dI vr) none (some v9)))++dI (Dt.tup [(iG vr v9)])))).length+(dI (Dt.tup (cut (dI vr) (some v9) none))).length)))/\(is_tuple vr=true/\acv vr=true)))/\(let vq:=[(Dt.tup (dI (Dt.tup (cut (dI vr) none (some v9)))++dI (Dt.tup (cut (dI vr) (some (v9+(1:Int))) none)))),(Dt.tup (dI (Dt.tup (dI (Dt.tup (cut (dI vr) none (some v9)))++dI (Dt.tup [(iG vr v9)])))++dI (Dt.tup (cut (dI vr) (some v9) none)))),(Dt.tup (dI vr).reverse),((eL eD) (dI vr))];((is_tuple vr=true/\p7 (vq.length+[(Dt.tup (cut (dI vr) (some (1:Int)) none))].length))/\In (vq++[(Dt.tup (cut (dI vr) (some (1:Int)) none))]).length vy))))))))))))))))))))))
def wC (n:Nat) (ih:∀ v bs,(aZ eD (aL eI (aZ eI aN))) v bs->bs.length=3/\(hold (some (cX n v.1 v.2.1 v.2.2.1))->d7 n (bs.map lend)=some ((zE eD) (bA n v.1 v.2.1 v.2.2.1)))) (vr:Dt) (vd:LI_) {b_1:Bx} (h_1:Lp b_1 (vd.map eI)) (vs:Int):R (qP (d7 n)) [some ((zE eD) vr),some b_1,some ((zE eI) vs),none,none,none,none] (fun r=>Out.rt ((zE eD) r)):=(cj 3 (jx (fV 1 eI vd h_1 rfl) (x_i 0)) (fun _=>rfl) fun vt=>(oA (aci (rY (qb jz (aB 0 (zE eD) vr rfl))) (rR (x_eq (by decide) (dF (aB 3 (zE eI) vt rfl) 3 (by decide)) (x_i 1)))) (dD (cP (fun r=>r) (kO (x_call Td (cL (cI (aB 0 (zE eD) vr rfl) jg eS) (cL (jx (fV 1 eI vd h_1 rfl) (x_i 1)) (cL (jx (fV 1 eI vd h_1 rfl) (x_i 2)) bC))))) (fun _=>rfl) fun _=>rfl)) (fB (oA (aci (rY (qb nF (aB 0 (zE eD) vr rfl))) (rR (x_eq (by decide) (dF (aB 3 (zE eI) vt rfl) 3 (by decide)) (x_i 1)))) (dD (cP (fun r=>r) (kO (ju (cI (aB 0 (zE eD) vr rfl) qI eI) (jx (fM (iJ (ao (x_i 1) (ao (IK (x_i 0) (x_i 1)) (aF eI))) (zb rfl))) (dF (o8 (aB 3 (zE eI) vt rfl) 3 (by decide)) 2 (by decide))))) (fun _=>rfl) fun _=>rfl)) (fB (cj 4 (iJ (ao (x_k (.int 0)) (ao (x_k (.int 1)) (ao (x_k (.int 2)) (ao (x_k (.int 1000)) (ao (x_k (.int 1001)) (ao (kO (ace (x_i 1))) (ao (x_k (.bl true)) (ao (x_k .non) (ao (x_k (.str "1")) (ao (x_k (.str "")) (ao (x_k (.str "A")) (ao (x_k (.str "a")) (ao (x_k (.str "b")) (ao (x_k (.str "zz")) (ao (x_k (.str "abcdefghi")) (ao (aM (aF eD) (zb rfl)) (ao (kO (Lb (iJ (aF eI) (zb rfl)))) (ao (ou .emp eD .emp rfl) (aF eD))))))))))))))))))) (zb rfl)) (fun _=>rfl) fun vq=>(cj 4 (mL (iH (aB 4 (lE eD) vq rfl)) (fM (iJ (ao (aM (ao (x_k (.int 1)) (ao (x_k (.str "a")) (ao (x_k (.str "b")) (ao (x_k (.int 0)) (aF eD))))) (zb rfl)) (ao (aM (ao (x_k (.str "a")) (ao (x_k (.str "b")) (ao (x_k (.int 0)) (aF eD)))) (zb rfl)) (ao (aM (ao (x_k (.str "b")) (ao (x_k (.str "a")) (ao (x_k (.int 0)) (aF eD)))) (zb rfl)) (ao (aM (ao (x_k (.int 1)) (ao (x_k (.str "b")) (ao (x_k (.str "a")) (ao (x_k (.int 0)) (aF eD))))) (zb rfl)) (ao (x_k (.bl false)) (aF eD)))))) (zb rfl)))) (fun _=>rfl) fun vq=>(oA (EY (lq (rY (qb is_tuple (aB 0 (zE eD) vr rfl)))) (rR (ajy (aB 0 (zE eD) vr rfl) (aM (aF eD) (zb rfl))))) (dD (cP (fun r=>r) (jx (iH (aB 4 (lE eD) vq rfl)) (dF (o8 (aB 3 (zE eI) vt rfl) 3 (by decide)) 23 (by decide))) (fun _=>rfl) fun _=>rfl)) (fB (cj 5 (Ez (o8 (aB 3 (zE eI) vt rfl) 8 (by decide)) (xU (aB 0 (zE eD) vr rfl))) (fun _=>rfl) fun v9=>(oA (aci (rR (ahG (aB 2 (zE eI) vs rfl) (x_i 0))) (rR (ahG (dF (aB 3 (zE eI) vt rfl) 8 (by decide)) (x_i 0)))) (dD (cP (fun r=>r) (CW (CW (zZ (aB 0 (zE eD) vr rfl) tX (qu (aB 5 (zE eI) v9 rfl))) (aM (ao (dO (x_call ih (cL (q9 (aB 0 (zE eD) vr rfl) (aB 5 (zE eI) v9 rfl)) (Jx (Z7 (Lb (afj (fV 1 eI vd h_1 rfl) (qu (x_i 1)) tX))) (cL (IK (aB 2 (zE eI) vs rfl) (x_i 1)) bC))))) (aF eD)) (zb rfl))) (zZ (aB 0 (zE eD) vr rfl) (qu (ju (aB 5 (zE eI) v9 rfl) (x_i 1))) tX)) (fun _=>rfl) fun _=>rfl)) (fB (cj 6 (dF (o8 (aB 3 (zE eI) vt rfl) 64 (by decide)) 6 (by decide)) (fun _=>rfl) fun vy=>(oA (rR (x_eq (by decide) (aB 6 (zE eI) vy rfl) (x_i 5))) (dD (cP (fun r=>r) (CW (aB 0 (zE eD) vr rfl) (aM (ao (jx (iH (aB 4 (lE eD) vq rfl)) (dF (o8 (aB 3 (zE eI) vt rfl) 512 (by decide)) 23 (by decide))) (aF eD)) (zb rfl))) (fun _=>rfl) fun _=>rfl)) (fB (cj 4 (iJ (ao (dO (CW (zZ (aB 0 (zE eD) vr rfl) tX (qu (aB 5 (zE eI) v9 rfl))) (zZ (aB 0 (zE eD) vr rfl) (qu (ju (aB 5 (zE eI) v9 rfl) (x_i 1))) tX))) (ao (dO (CW (CW (zZ (aB 0 (zE eD) vr rfl) tX (qu (aB 5 (zE eI) v9 rfl))) (aM (ao (q9 (aB 0 (zE eD) vr rfl) (aB 5 (zE eI) v9 rfl)) (aF eD)) (zb rfl))) (zZ (aB 0 (zE eD) vr rfl) (qu (aB 5 (zE eI) v9 rfl)) tX))) (ao (dO (ahI (aB 0 (zE eD) vr rfl))) (ao (kO (Lb (R3 (aB 0 (zE eD) vr rfl)))) (aF eD))))) (zb rfl)) (fun _=>rfl) fun vq=>(cP (fun r=>r) (jx (fM (mL (iH (aB 4 (lE eD) vq rfl)) (fM (iJ (ao (dO (zZ (aB 0 (zE eD) vr rfl) (qu (x_i 1)) tX)) (aF eD)) (zb rfl))))) (aB 6 (zE eI) vy rfl)) (fun _=>rfl) fun _=>rfl)))))))))))))))))
theorem M4 (n:Nat) (ih:∀ v bs,(aZ eD (aL eI (aZ eI aN))) v bs->bs.length=3/\(hold (some (cX n v.1 v.2.1 v.2.2.1))->d7 n (bs.map lend)=some ((zE eD) (bA n v.1 v.2.1 v.2.2.1)))) (vr:Dt) (vd:LI_) {b_1:Bx} (h_1:Lp b_1 (vd.map eI)) (vs:Int):(wC n ih vr vd h_1 vs).v=bA (n+1) vr vd vs:=by kernel_rfl
theorem M5 (n:Nat) (ih:∀ v bs,(aZ eD (aL eI (aZ eI aN))) v bs->bs.length=3/\(hold (some (cX n v.1 v.2.1 v.2.2.1))->d7 n (bs.map lend)=some ((zE eD) (bA n v.1 v.2.1 v.2.2.1)))) (vr:Dt) (vd:LI_) {b_1:Bx} (h_1:Lp b_1 (vd.map eI)) (vs:Int):(wC n ih vr vd h_1 vs).D=some (cX (n+1) vr vd vs):=by kernel_rfl
theorem qU:∀ (n:Nat),∀ v bs,(aZ eD (aL eI (aZ eI aN))) v bs->bs.length=3/\(hold (some (cX n v.1 v.2.1 v.2.2.1))->d7 n (bs.map lend)=some ((zE eD) (bA n v.1 v.2.1 v.2.2.1)))
 |0=>by
  rintro⟨vr,vd,vs,_⟩ _ ⟨_,rfl,⟨b_1,_,rfl,h_1,⟨_,rfl,rfl⟩⟩⟩
  exact⟨rfl,fun h=>absurd h id⟩
 |n+1=>by
  rintro⟨vr,vd,vs,_⟩ _ ⟨_,rfl,⟨b_1,_,rfl,h_1,⟨_,rfl,rfl⟩⟩⟩
  exact⟨rfl,fun h=>(acA (g:=qP (d7 n)) (n:=7) (bs:=[.z (eD vr),lend b_1,.z (eI vs)]) (wC n (qU n) vr vd (zY h_1) vs) ((congrArg hold (M5 n (qU n) vr vd (zY h_1) vs)).mpr h)).trans (congrArg (fun r=>some ((zE eD) r)) (M4 n (qU n) vr vd (zY h_1) vs))⟩
def bJ (vz:Dt) (va0:Int):Bool:=((is_tuple vz)&&(decide ((rz vz)=va0)))
def qD (vz:Dt) (va0:Int):Prop:=((is_tuple vz)=true->mY vz=true)
theorem Xp (vz:Dt) (va0:Int):RP yd [some ((zE eD) vz),some ((zE eI) va0)] (fun r=>Out.rt ((zE eB) r)) (bJ vz va0) (some (qD vz va0)):=R.tp (cP (fun r=>r) (jA (qb is_tuple (aB 0 (zE eD) vz rfl)) (x_eq (by decide) (xU (aB 0 (zE eD) vz rfl)) (aB 1 (zE eI) va0 rfl))) (fun _=>rfl) fun _=>rfl)
theorem Dm:∀ v bs,(aZ eD (aZ eI aN)) v bs->bs.length=2/\(hold (some (qD v.1 v.2.1))->gZ (bs.map lend)=some ((zE eB) (bJ v.1 v.2.1))):=by
 rintro⟨vz,va0,_⟩ _ ⟨_,rfl,⟨_,rfl,rfl⟩⟩
 exact⟨rfl,fun h=>cJ (g:=yd) (n:=2) (bs:=[.z (eD vz),.z (eI va0)]) (Xp vz va0) h⟩
def dU (vz:Dt):Bool:=((nF vz)&&(!(is_bool vz)))
theorem Xq (vz:Dt):RP yg [some ((zE eD) vz)] (fun r=>Out.rt ((zE eB) r)) (dU vz) none:=R.tp (cP (fun r=>r) (jA (qb nF (aB 0 (zE eD) vz rfl)) (af7 (qb is_bool (aB 0 (zE eD) vz rfl)))) (fun _=>rfl) fun _=>rfl)
theorem M6:∀ v bs,(aZ eD aN) v bs->bs.length=1/\(hold (none)->jO (bs.map lend)=some ((zE eB) (dU v.1))):=by
 rintro⟨vz,_⟩ _ ⟨_,rfl,rfl⟩
 exact⟨rfl,fun h=>cJ (g:=yg) (n:=1) (bs:=[.z (eD vz)]) (Xq vz) h⟩
def jK (vz:Dt):Bool:=((dU vz)&&((decide ((1:Int)<=(qI vz)))&&(decide ((qI vz)<=(1000:Int)))))
def vP (vz:Dt):Prop:=((dU vz)=true->(vz=eI (qI vz)/\((decide ((1:Int)<=(qI vz)))=true->vz=eI (qI vz))))
theorem VN (vz:Dt):RP uY [some ((zE eD) vz)] (fun r=>Out.rt ((zE eB) r)) (jK vz) (some (vP vz)):=R.tp (cP (fun r=>r) (jA (x_call M6 (cL (aB 0 (zE eD) vz rfl) bC)) (afe (Z8 (x_i 1) (cI (aB 0 (zE eD) vz rfl) qI eI)) (Z8 (cI (aB 0 (zE eD) vz rfl) qI eI) (x_i 1000)))) (fun _=>rfl) fun _=>rfl)
theorem VP:∀ v bs,(aZ eD aN) v bs->bs.length=1/\(hold (some (vP v.1))->lu (bs.map lend)=some ((zE eB) (jK v.1))):=by
 rintro⟨vz,_⟩ _ ⟨_,rfl,rfl⟩
 exact⟨rfl,fun h=>cJ (g:=uY) (n:=1) (bs:=[.z (eD vz)]) (VN vz) h⟩
def mF (vz:Dt) (va1:Str) (va2:Int):Bool:=((jz vz)&&(((decide ((1:Int)<=(rz vz)))&&(decide ((rz vz)<=va2)))&&(((kE vz).map fun va3:Dt=>(Ul (jg va3) va1)).all id)))
def pP (vz:Dt) (va1:Str) (va2:Int):Prop:=((jz vz)=true->((mY vz=true/\((decide ((1:Int)<=(rz vz)))=true->mY vz=true))/\(((decide ((1:Int)<=(rz vz)))&&(decide ((rz vz)<=va2)))=true->((mY vz=true/\(kE vz).length<=100000)/\(∀ va3∈(kE vz),va3=eS (jg va3))))))
theorem Te (vz:Dt) (va1:Str) (va2:Int):RP sV [some ((zE eD) vz),some ((zE eS) va1),some ((zE eI) va2)] (fun r=>Out.rt ((zE eB) r)) (mF vz va1 va2) (some (pP vz va1 va2)):=R.tp (cP (fun r=>r) (jA (qb jz (aB 0 (zE eD) vz rfl)) (jA (afe (Z8 (x_i 1) (xU (aB 0 (zE eD) vz rfl))) (Z8 (xU (aB 0 (zE eD) vz rfl)) (aB 2 (zE eI) va2 rfl))) (rT (fM (ji (CZ (aB 0 (zE eD) vz rfl)) _ (fun _=>rfl) (fun va3:Dt=>(agb (cI (aB 1 (zE eD) va3 rfl) jg eS) (aB 0 (zE eS) va1 rfl)))))))) (fun _=>rfl) fun _=>rfl)
theorem Tf:∀ v bs,(aZ eD (aZ eS (aZ eI aN))) v bs->bs.length=3/\(hold (some (pP v.1 v.2.1 v.2.2.1))->jP (bs.map lend)=some ((zE eB) (mF v.1 v.2.1 v.2.2.1))):=by
 rintro⟨vz,va1,va2,_⟩ _ ⟨_,rfl,⟨_,rfl,⟨_,rfl,rfl⟩⟩⟩
 exact⟨rfl,fun h=>cJ (g:=sV) (n:=3) (bs:=[.z (eD vz),.z (eS va1),.z (eI va2)]) (Te vz va1 va2) h⟩
def bI (vz:Dt):Bool:=(mF vz ("abcdefghijklmnopqrstuvwxyz" : Str) (8:Int))
def tD (vz:Dt):Prop:=(pP vz ("abcdefghijklmnopqrstuvwxyz" : Str) (8:Int))
theorem aai (vz:Dt):RP Bu [some ((zE eD) vz)] (fun r=>Out.rt ((zE eB) r)) (bI vz) (some (tD vz)):=R.tp (cP (fun r=>r) (x_call Tf (cL (aB 0 (zE eD) vz rfl) (cL (x_s "abcdefghijklmnopqrstuvwxyz") (cL (x_i 8) bC)))) (fun _=>rfl) fun _=>rfl)
theorem Hq:∀ v bs,(aZ eD aN) v bs->bs.length=1/\(hold (some (tD v.1))->j4 (bs.map lend)=some ((zE eB) (bI v.1))):=by
 rintro⟨vz,_⟩ _ ⟨_,rfl,rfl⟩
 exact⟨rfl,fun h=>cJ (g:=Bu) (n:=1) (bs:=[.z (eD vz)]) (aai vz) h⟩
def d9 (vz:Dt):Bool:=(if (!(bJ vz (3:Int)))=true then false else (let q1:=(Jy vz);((bI q1.1)&&((bI q1.2.1)&&((Oi (jg q1.1) (jg q1.2.1))&&((dU q1.2.2)&&(decide ((0:Int)<=(qI q1.2.2)))))))))
def xJ (vz:Dt):Prop:=((qD vz (3:Int))/\((!(bJ vz (3:Int)))=false->(vz=aae (Jy vz)/\(let q1:=(Jy vz);((tD q1.1)/\((bI q1.1)=true->((tD q1.2.1)/\((bI q1.2.1)=true->((q1.1=eS (jg q1.1)/\q1.2.1=eS (jg q1.2.1))/\((Oi (jg q1.1) (jg q1.2.1))=true->((dU q1.2.2)=true->q1.2.2=eI (qI q1.2.2))))))))))))
theorem acX (vz:Dt):RP Fv [some ((zE eD) vz),none,none,none] (fun r=>Out.rt ((zE eB) r)) (d9 vz) (some (xJ vz)):=R.tp (oA (lq (rY (x_call Dm (cL (aB 0 (zE eD) vz rfl) (cL (x_i 3) bC))))) (dD (cP (fun r=>r) (ou (.bl false) eB false rfl) (fun _=>rfl) fun _=>rfl)) (fB (Yx (cI (aB 0 (zE eD) vz rfl) Jy aae) _ (fun _=>rfl) fun q1=>(cP (fun r=>r) (jA (x_call Hq (cL (aB 1 (zE eD) q1.1 rfl) bC)) (jA (x_call Hq (cL (aB 2 (zE eD) q1.2.1 rfl) bC)) (jA (af5 (cI (aB 1 (zE eD) q1.1 rfl) jg eS) (cI (aB 2 (zE eD) q1.2.1 rfl) jg eS)) (jA (x_call M6 (cL (aB 3 (zE eD) q1.2.2 rfl) bC)) (x_ge (cI (aB 3 (zE eD) q1.2.2 rfl) qI eI) (x_i 0)))))) (fun _=>rfl) fun _=>rfl))))
theorem M7:∀ v bs,(aZ eD aN) v bs->bs.length=1/\(hold (some (xJ v.1))->lA (bs.map lend)=some ((zE eB) (d9 v.1))):=by
 rintro⟨vz,_⟩ _ ⟨_,rfl,rfl⟩
 exact⟨rfl,fun h=>cJ (g:=Fv) (n:=4) (bs:=[.z (eD vz)]) (acX vz) h⟩
def bY (vz:Dt):Bool:=((bJ vz (4:Int))&&((jK (iG vz (0:Int)))&&(d9 (Dt.tup (cut (dI vz) (some (1:Int)) none)))))
def rC (vz:Dt):Prop:=((qD vz (4:Int))/\((bJ vz (4:Int))=true->((RX vz (0:Int)/\(vP (iG vz (0:Int))))/\((jK (iG vz (0:Int)))=true->(is_tuple vz=true/\(xJ (Dt.tup (cut (dI vz) (some (1:Int)) none))))))))
theorem VR (vz:Dt):RP uZ [some ((zE eD) vz)] (fun r=>Out.rt ((zE eB) r)) (bY vz) (some (rC vz)):=R.tp (cP (fun r=>r) (jA (x_call Dm (cL (aB 0 (zE eD) vz rfl) (cL (x_i 4) bC))) (jA (x_call VP (cL (q9 (aB 0 (zE eD) vz rfl) (x_i 0)) bC)) (x_call M7 (cL (dO (zZ (aB 0 (zE eD) vz rfl) (qu (x_i 1)) tX)) bC)))) (fun _=>rfl) fun _=>rfl)
theorem Jl:∀ v bs,(aZ eD aN) v bs->bs.length=1/\(hold (some (rC v.1))->iV (bs.map lend)=some ((zE eB) (bY v.1))):=by
 rintro⟨vz,_⟩ _ ⟨_,rfl,rfl⟩
 exact⟨rfl,fun h=>cJ (g:=uZ) (n:=1) (bs:=[.z (eD vz)]) (VR vz) h⟩
def yI (pW:LS_):Bool:=(((rng 0 ((pW.length:Int) - (1:Int)).toNat).map fun Jm:Int=>(Oi (at' pW Jm) (at' pW (Jm+(1:Int))))).all id)
def sZ (pW:LS_):Prop:=((Rg ((pW.length:Int) - (1:Int))/\(rng 0 ((pW.length:Int) - (1:Int)).toNat).length<=100000)/\(∀ Jm∈(rng 0 ((pW.length:Int) - (1:Int)).toNat),(In pW.length Jm/\In pW.length (Jm+(1:Int)))))
theorem Tg (pW:LS_):RP iW [some ((zE (eT eS)) pW)] (fun r=>Out.rt ((zE eB) r)) (yI pW) (some (sZ pW)):=R.tp (cP (fun r=>r) (rT (fM (ji (Ja (IK (acs (aB 0 (zE (eT eS)) pW rfl)) (x_i 1))) _ (fun _=>rfl) (fun Jm:Int=>(ahT (IV (aB 0 (zE (eT eS)) pW rfl) (aB 1 (zE eI) Jm rfl)) (IV (aB 0 (zE (eT eS)) pW rfl) (ju (aB 1 (zE eI) Jm rfl) (x_i 1)))))))) (fun _=>rfl) fun _=>rfl)
theorem Ti:∀ v bs,(aZ (eT eS) aN) v bs->bs.length=1/\(hold (some (sZ v.1))->cZ (bs.map lend)=some ((zE eB) (yI v.1))):=by
 rintro⟨pW,_⟩ _ ⟨_,rfl,rfl⟩
 exact⟨rfl,fun h=>cJ (g:=iW) (n:=1) (bs:=[.z ((eT eS) pW)]) (Tg pW) h⟩
def gO (vz:Dt):Bool:=((is_tuple vz)&&((((kE vz).map fun va4:Dt=>(bI va4)).all id)&&(yI (p8 vz))))
def oN (vz:Dt):Prop:=((is_tuple vz)=true->(((mY vz=true/\(kE vz).length<=100000)/\(∀ va4∈(kE vz),(tD va4)))/\((((kE vz).map fun va4:Dt=>(bI va4)).all id)=true->(vz=(eT eS) (p8 vz)/\(sZ (p8 vz))))))
theorem V0 (vz:Dt):RP u0 [some ((zE eD) vz)] (fun r=>Out.rt ((zE eB) r)) (gO vz) (some (oN vz)):=R.tp (cP (fun r=>r) (jA (qb is_tuple (aB 0 (zE eD) vz rfl)) (jA (rT (fM (ji (CZ (aB 0 (zE eD) vz rfl)) _ (fun _=>rfl) (fun va4:Dt=>(dO (x_call Hq (cL (aB 0 (zE eD) va4 rfl) bC))))))) (x_call Ti (cL (cI (aB 0 (zE eD) vz rfl) p8 (eT eS)) bC)))) (fun _=>rfl) fun _=>rfl)
theorem V1:∀ v bs,(aZ eD aN) v bs->bs.length=1/\(hold (some (oN v.1))->lB (bs.map lend)=some ((zE eB) (gO v.1))):=by
 rintro⟨vz,_⟩ _ ⟨_,rfl,rfl⟩
 exact⟨rfl,fun h=>cJ (g:=u0) (n:=1) (bs:=[.z (eD vz)]) (V0 vz) h⟩
def nT (wH:dM):dM:=(let q1:=wH;((-q1.1),q1.2.1,q1.2.2.1,q1.2.2.2))
theorem Xr (wH:dM):RP yh [some ((zE dw) wH),none,none,none,none] (fun r=>Out.rt ((zE dw) r)) (nT wH) none:=R.tp (Yx (aB 0 (zE dw) wH rfl) _ (fun _=>rfl) fun q1=>(cP (fun r=>r) (Xb (ace (aB 1 (zE eI) q1.1 rfl)) (aB 2 (zE eS) q1.2.1 rfl) (aB 3 (zE eS) q1.2.2.1 rfl) (aB 4 (zE eI) q1.2.2.2 rfl)) (fun _=>rfl) fun _=>rfl))
theorem Xu:∀ v bs,(aZ dw aN) v bs->bs.length=1/\(hold (none)->nJ (bs.map lend)=some ((zE dw) (nT v.1))):=by
 rintro⟨wH,_⟩ _ ⟨_,rfl,rfl⟩
 exact⟨rfl,fun h=>cJ (g:=yh) (n:=5) (bs:=[.z (dw wH)]) (Xr wH) h⟩
def ug (pW:List dM):Bool:=(((rng 0 ((pW.length:Int) - (1:Int)).toNat).map fun Jm:Int=>(Xd dw (at' pW Jm) (at' pW (Jm+(1:Int))))).all id)
def pQ (pW:List dM):Prop:=((Rg ((pW.length:Int) - (1:Int))/\(rng 0 ((pW.length:Int) - (1:Int)).toNat).length<=100000)/\(∀ Jm∈(rng 0 ((pW.length:Int) - (1:Int)).toNat),(In pW.length Jm/\In pW.length (Jm+(1:Int)))))
theorem M8 (pW:List dM) {bZ:Bx} (dH:Lp bZ (pW.map dw)):RP iW [some bZ] (fun r=>Out.rt ((zE eB) r)) (ug pW) (some (pQ pW)):=R.tp (cP (fun r=>r) (rT (fM (ji (Ja (IK (x_len (fV 0 dw pW dH rfl)) (x_i 1))) _ (fun _=>rfl) (fun Jm:Int=>(acP (jx (fV 0 dw pW dH (congrArg some (dH.get rfl))) (aB 1 (zE eI) Jm rfl)) (jx (fV 0 dw pW dH (congrArg some (dH.get rfl))) (ju (aB 1 (zE eI) Jm rfl) (x_i 1)))))))) (fun _=>rfl) fun _=>rfl)
theorem M9:∀ v bs,(aL dw aN) v bs->bs.length=1/\(hold (some (pQ v.1))->cZ (bs.map lend)=some ((zE eB) (ug v.1))):=by
 rintro⟨pW,_⟩ _ ⟨bZ,_,rfl,dH,rfl⟩
 exact⟨rfl,fun h=>cJ (g:=iW) (n:=1) (bs:=[lend bZ]) (M8 pW (zY dH)) h⟩
def gP (vz:Dt) (Dp:LS_):Bool:=(if ((!(is_tuple vz))||(!(((kE vz).map fun wH:Dt=>(bY wH)).all id)))=true then false else (if (!(((kE vz).map fun wH:Dt=>((decide ((jg (iG wH (1:Int)))∈Dp))&&(decide ((jg (iG wH (2:Int)))∈Dp)))).all id))=true then false else (ug ((kE vz).map fun wH:Dt=>(nT (Fp wH))))))
def j8 (vz:Dt) (Dp:LS_):Prop:=(((!(is_tuple vz))=false->((mY vz=true/\(kE vz).length<=100000)/\(∀ wH∈(kE vz),(rC wH))))/\(((!(is_tuple vz))||(!(((kE vz).map fun wH:Dt=>(bY wH)).all id)))=false->(((mY vz=true/\(kE vz).length<=100000)/\(∀ wH∈(kE vz),((RX wH (1:Int)/\(iG wH (1:Int))=eS (jg (iG wH (1:Int))))/\((decide ((jg (iG wH (1:Int)))∈Dp))=true->(RX wH (2:Int)/\(iG wH (2:Int))=eS (jg (iG wH (2:Int))))))))/\((!(((kE vz).map fun wH:Dt=>((decide ((jg (iG wH (1:Int)))∈Dp))&&(decide ((jg (iG wH (2:Int)))∈Dp)))).all id))=false->(((mY vz=true/\(kE vz).length<=100000)/\(∀ wH∈(kE vz),wH=dw (Fp wH)))/\(pQ ((kE vz).map fun wH:Dt=>(nT (Fp wH)))))))))
theorem O2 (vz:Dt) (Dp:LS_):RP qQ [some ((zE eD) vz),some ((zE (eT eS)) Dp)] (fun r=>Out.rt ((zE eB) r)) (gP vz Dp) (some (j8 vz Dp)):=R.tp (oA (EY (lq (rY (qb is_tuple (aB 0 (zE eD) vz rfl)))) (lq (rY (rT (fM (ji (CZ (aB 0 (zE eD) vz rfl)) _ (fun _=>rfl) (fun wH:Dt=>(dO (x_call Jl (cL (aB 0 (zE eD) wH rfl) bC)))))))))) (dD (cP (fun r=>r) (ou (.bl false) eB false rfl) (fun _=>rfl) fun _=>rfl)) (fB (oA (lq (rY (rT (fM (ji (CZ (aB 0 (zE eD) vz rfl)) _ (fun _=>rfl) (fun wH:Dt=>(jA (Qj (cI (q9 (aB 1 (zE eD) wH rfl) (x_i 1)) jg eS) (aB 0 (zE (eT eS)) Dp rfl)) (Qj (cI (q9 (aB 1 (zE eD) wH rfl) (x_i 2)) jg eS) (aB 0 (zE (eT eS)) Dp rfl))))))))) (dD (cP (fun r=>r) (ou (.bl false) eB false rfl) (fun _=>rfl) fun _=>rfl)) (fB (cP (fun r=>r) (x_call M9 (Jx (Z7 (Lb (ji (CZ (aB 0 (zE eD) vz rfl)) _ (fun _=>rfl) (fun wH:Dt=>(dO (x_call Xu (cL (cI (aB 0 (zE eD) wH rfl) Fp dw) bC))))))) bC)) (fun _=>rfl) fun _=>rfl)))))
theorem O4:∀ v bs,(aZ eD (aZ (eT eS) aN)) v bs->bs.length=2/\(hold (some (j8 v.1 v.2.1))->jk (bs.map lend)=some ((zE eB) (gP v.1 v.2.1))):=by
 rintro⟨vz,Dp,_⟩ _ ⟨_,rfl,⟨_,rfl,rfl⟩⟩
 exact⟨rfl,fun h=>cJ (g:=qQ) (n:=2) (bs:=[.z (eD vz),.z ((eT eS) Dp)]) (O2 vz Dp) h⟩
def uh (pW:List kW):Bool:=(((rng 0 ((pW.length:Int) - (1:Int)).toNat).map fun Jm:Int=>(Xd iI (at' pW Jm) (at' pW (Jm+(1:Int))))).all id)
def pR (pW:List kW):Prop:=((Rg ((pW.length:Int) - (1:Int))/\(rng 0 ((pW.length:Int) - (1:Int)).toNat).length<=100000)/\(∀ Jm∈(rng 0 ((pW.length:Int) - (1:Int)).toNat),(In pW.length Jm/\In pW.length (Jm+(1:Int)))))
theorem Nb (pW:List kW):RP iW [some ((zE (eT iI)) pW)] (fun r=>Out.rt ((zE eB) r)) (uh pW) (some (pR pW)):=R.tp (cP (fun r=>r) (rT (fM (ji (Ja (IK (acs (aB 0 (zE (eT iI)) pW rfl)) (x_i 1))) _ (fun _=>rfl) (fun Jm:Int=>(acP (IV (aB 0 (zE (eT iI)) pW rfl) (aB 1 (zE eI) Jm rfl)) (IV (aB 0 (zE (eT iI)) pW rfl) (ju (aB 1 (zE eI) Jm rfl) (x_i 1)))))))) (fun _=>rfl) fun _=>rfl)
theorem Nf:∀ v bs,(aZ (eT iI) aN) v bs->bs.length=1/\(hold (some (pR v.1))->cZ (bs.map lend)=some ((zE eB) (uh v.1))):=by
 rintro⟨pW,_⟩ _ ⟨_,rfl,rfl⟩
 exact⟨rfl,fun h=>cJ (g:=iW) (n:=1) (bs:=[.z ((eT iI) pW)]) (Nb pW) h⟩
def nU (vz:Dt) (Dp:LS_):Bool:=(if ((!(is_tuple vz))||(!(((kE vz).map fun Kd:Dt=>(d9 Kd)).all id)))=true then false else ((((kE vz).map fun Kd:Dt=>((decide ((jg (iG Kd (0:Int)))∈Dp))&&(decide ((jg (iG Kd (1:Int)))∈Dp)))).all id)&&(uh (acU vz))))
def qF (vz:Dt) (Dp:LS_):Prop:=(((!(is_tuple vz))=false->((mY vz=true/\(kE vz).length<=100000)/\(∀ Kd∈(kE vz),(xJ Kd))))/\(((!(is_tuple vz))||(!(((kE vz).map fun Kd:Dt=>(d9 Kd)).all id)))=false->(((mY vz=true/\(kE vz).length<=100000)/\(∀ Kd∈(kE vz),((RX Kd (0:Int)/\(iG Kd (0:Int))=eS (jg (iG Kd (0:Int))))/\((decide ((jg (iG Kd (0:Int)))∈Dp))=true->(RX Kd (1:Int)/\(iG Kd (1:Int))=eS (jg (iG Kd (1:Int))))))))/\((((kE vz).map fun Kd:Dt=>((decide ((jg (iG Kd (0:Int)))∈Dp))&&(decide ((jg (iG Kd (1:Int)))∈Dp)))).all id)=true->(vz=(eT iI) (acU vz)/\(pR (acU vz)))))))
theorem Xv (vz:Dt) (Dp:LS_):RP yj [some ((zE eD) vz),some ((zE (eT eS)) Dp)] (fun r=>Out.rt ((zE eB) r)) (nU vz Dp) (some (qF vz Dp)):=R.tp (oA (EY (lq (rY (qb is_tuple (aB 0 (zE eD) vz rfl)))) (lq (rY (rT (fM (ji (CZ (aB 0 (zE eD) vz rfl)) _ (fun _=>rfl) (fun Kd:Dt=>(dO (x_call M7 (cL (aB 0 (zE eD) Kd rfl) bC)))))))))) (dD (cP (fun r=>r) (ou (.bl false) eB false rfl) (fun _=>rfl) fun _=>rfl)) (fB (cP (fun r=>r) (jA (rT (fM (ji (CZ (aB 0 (zE eD) vz rfl)) _ (fun _=>rfl) (fun Kd:Dt=>(jA (Qj (cI (q9 (aB 1 (zE eD) Kd rfl) (x_i 0)) jg eS) (aB 0 (zE (eT eS)) Dp rfl)) (Qj (cI (q9 (aB 1 (zE eD) Kd rfl) (x_i 1)) jg eS) (aB 0 (zE (eT eS)) Dp rfl))))))) (x_call Nf (cL (cI (aB 0 (zE eD) vz rfl) acU (eT iI)) bC))) (fun _=>rfl) fun _=>rfl)))
theorem Xw:∀ v bs,(aZ eD (aZ (eT eS) aN)) v bs->bs.length=2/\(hold (some (qF v.1 v.2.1))->nM (bs.map lend)=some ((zE eB) (nU v.1 v.2.1))):=by
 rintro⟨vz,Dp,_⟩ _ ⟨_,rfl,⟨_,rfl,rfl⟩⟩
 exact⟨rfl,fun h=>cJ (g:=yj) (n:=2) (bs:=[.z (eD vz),.z ((eT eS) Dp)]) (Xv vz Dp) h⟩
def jf (vz:Dt):Bool:=(if (!(bJ vz (3:Int)))=true then false else (let q1:=(Jy vz);((gO q1.1)&&((gP q1.2.1 (p8 q1.1))&&(nU q1.2.2 (p8 q1.1))))))
def vQ (vz:Dt):Prop:=((qD vz (3:Int))/\((!(bJ vz (3:Int)))=false->(vz=aae (Jy vz)/\(let q1:=(Jy vz);((oN q1.1)/\((gO q1.1)=true->((q1.1=(eT eS) (p8 q1.1)/\(j8 q1.2.1 (p8 q1.1)))/\((gP q1.2.1 (p8 q1.1))=true->(q1.1=(eT eS) (p8 q1.1)/\(qF q1.2.2 (p8 q1.1)))))))))))
theorem V2 (vz:Dt):RP u5 [some ((zE eD) vz),none,none,none] (fun r=>Out.rt ((zE eB) r)) (jf vz) (some (vQ vz)):=R.tp (oA (lq (rY (x_call Dm (cL (aB 0 (zE eD) vz rfl) (cL (x_i 3) bC))))) (dD (cP (fun r=>r) (ou (.bl false) eB false rfl) (fun _=>rfl) fun _=>rfl)) (fB (Yx (cI (aB 0 (zE eD) vz rfl) Jy aae) _ (fun _=>rfl) fun q1=>(cP (fun r=>r) (jA (x_call V1 (cL (aB 1 (zE eD) q1.1 rfl) bC)) (jA (x_call O4 (cL (aB 2 (zE eD) q1.2.1 rfl) (cL (cI (aB 1 (zE eD) q1.1 rfl) p8 (eT eS)) bC))) (x_call Xw (cL (aB 3 (zE eD) q1.2.2 rfl) (cL (cI (aB 1 (zE eD) q1.1 rfl) p8 (eT eS)) bC))))) (fun _=>rfl) fun _=>rfl))))
theorem V3:∀ v bs,(aZ eD aN) v bs->bs.length=1/\(hold (some (vQ v.1))->lC (bs.map lend)=some ((zE eB) (jf v.1))):=by
 rintro⟨vz,_⟩ _ ⟨_,rfl,rfl⟩
 exact⟨rfl,fun h=>cJ (g:=u5) (n:=4) (bs:=[.z (eD vz)]) (V2 vz) h⟩
def cD (vr:Dt):Bool:=(if ((!(jz vr))||(!((decide ((0:Int) < (rz vr)))&&(decide ((rz vr) < (9:Int))))))=true then false else (((kE vr).map fun vx:Dt=>(Ul (jg vx) ("abcdefghijklmnopqrstuvwxyz" : Str))).all id))
def jt (vr:Dt):Prop:=(((!(jz vr))=false->(mY vr=true/\((decide ((0:Int) < (rz vr)))=true->mY vr=true)))/\(((!(jz vr))||(!((decide ((0:Int) < (rz vr)))&&(decide ((rz vr) < (9:Int))))))=false->((mY vr=true/\(kE vr).length<=100000)/\(∀ vx∈(kE vr),vx=eS (jg vx)))))
theorem O5 (vr:Dt):RP qR [some ((zE eD) vr)] (fun r=>Out.rt ((zE eB) r)) (cD vr) (some (jt vr)):=R.tp (oA (EY (lq (rY (qb jz (aB 0 (zE eD) vr rfl)))) (lq (alE (afe (Yu (x_i 0) (xU (aB 0 (zE eD) vr rfl))) (Yu (xU (aB 0 (zE eD) vr rfl)) (x_i 9)))))) (dD (cP (fun r=>r) (ou (.bl false) eB false rfl) (fun _=>rfl) fun _=>rfl)) (fB (cP (fun r=>r) (rT (fM (ji (CZ (aB 0 (zE eD) vr rfl)) _ (fun _=>rfl) (fun vx:Dt=>(agb (cI (aB 0 (zE eD) vx rfl) jg eS) (x_s "abcdefghijklmnopqrstuvwxyz")))))) (fun _=>rfl) fun _=>rfl)))
theorem wD:∀ v bs,(aZ eD aN) v bs->bs.length=1/\(hold (some (jt v.1))->dG (bs.map lend)=some ((zE eB) (cD v.1))):=by
 rintro⟨vr,_⟩ _ ⟨_,rfl,rfl⟩
 exact⟨rfl,fun h=>cJ (g:=qR) (n:=1) (bs:=[.z (eD vr)]) (O5 vr) h⟩
def j9 (jw:Dt) (Wj:Dt):Bool:=((cD jw)&&((cD Wj)&&(Oi (jg jw) (jg Wj))))
def xK (jw:Dt) (Wj:Dt):Prop:=((jt jw)/\((cD jw)=true->((jt Wj)/\((cD Wj)=true->(jw=eS (jg jw)/\Wj=eS (jg Wj))))))
theorem aaj (jw:Dt) (Wj:Dt):RP Bv [some ((zE eD) jw),some ((zE eD) Wj)] (fun r=>Out.rt ((zE eB) r)) (j9 jw Wj) (some (xK jw Wj)):=R.tp (cP (fun r=>r) (jA (x_call wD (cL (aB 0 (zE eD) jw rfl) bC)) (jA (x_call wD (cL (aB 1 (zE eD) Wj rfl) bC)) (af5 (cI (aB 0 (zE eD) jw rfl) jg eS) (cI (aB 1 (zE eD) Wj rfl) jg eS)))) (fun _=>rfl) fun _=>rfl)
theorem Qu:∀ v bs,(aZ eD (aZ eD aN)) v bs->bs.length=2/\(hold (some (xK v.1 v.2.1))->lW (bs.map lend)=some ((zE eB) (j9 v.1 v.2.1))):=by
 rintro⟨jw,Wj,_⟩ _ ⟨_,rfl,⟨_,rfl,rfl⟩⟩
 exact⟨rfl,fun h=>cJ (g:=Bv) (n:=2) (bs:=[.z (eD jw),.z (eD Wj)]) (aaj jw Wj) h⟩
def cY (vr:Dt) (vac:Int) (vad:Int):Bool:=((nF vr)&&((!(is_bool vr))&&((decide (vac<=(qI vr)))&&(decide ((qI vr)<=vad)))))
def kh (vr:Dt) (vac:Int) (vad:Int):Prop:=((nF vr)=true->((!(is_bool vr))=true->(vr=eI (qI vr)/\((decide (vac<=(qI vr)))=true->vr=eI (qI vr)))))
theorem O6 (vr:Dt) (vac:Int) (vad:Int):RP qT [some ((zE eD) vr),some ((zE eI) vac),some ((zE eI) vad)] (fun r=>Out.rt ((zE eB) r)) (cY vr vac vad) (some (kh vr vac vad)):=R.tp (cP (fun r=>r) (jA (qb nF (aB 0 (zE eD) vr rfl)) (jA (af7 (qb is_bool (aB 0 (zE eD) vr rfl))) (afe (Z8 (aB 1 (zE eI) vac rfl) (cI (aB 0 (zE eD) vr rfl) qI eI)) (Z8 (cI (aB 0 (zE eD) vr rfl) qI eI) (aB 2 (zE eI) vad rfl))))) (fun _=>rfl) fun _=>rfl)
theorem wF:∀ v bs,(aZ eD (aZ eI (aZ eI aN))) v bs->bs.length=3/\(hold (some (kh v.1 v.2.1 v.2.2.1))->d8 (bs.map lend)=some ((zE eB) (cY v.1 v.2.1 v.2.2.1))):=by
 rintro⟨vr,vac,vad,_⟩ _ ⟨_,rfl,⟨_,rfl,⟨_,rfl,rfl⟩⟩⟩
 exact⟨rfl,fun h=>cJ (g:=qT) (n:=3) (bs:=[.z (eD vr),.z (eI vac),.z (eI vad)]) (O6 vr vac vad) h⟩
def bR (vr:Dt):Bool:=(if ((!(is_tuple vr))||((!decide ((rz vr)=(4:Int)))||(!(j9 (iG vr (1:Int)) (iG vr (2:Int))))))=true then false else ((cY (iG vr (0:Int)) (1:Int) (1000:Int))&&(cY (iG vr (3:Int)) (0:Int) ((10:Int) ^ 12))))
def jZ (vr:Dt):Prop:=(((!(is_tuple vr))=false->(mY vr=true/\((!decide ((rz vr)=(4:Int)))=false->((RX vr (1:Int)/\RX vr (2:Int))/\(xK (iG vr (1:Int)) (iG vr (2:Int)))))))/\(((!(is_tuple vr))||((!decide ((rz vr)=(4:Int)))||(!(j9 (iG vr (1:Int)) (iG vr (2:Int))))))=false->((RX vr (0:Int)/\(kh (iG vr (0:Int)) (1:Int) (1000:Int)))/\((cY (iG vr (0:Int)) (1:Int) (1000:Int))=true->(RX vr (3:Int)/\(kh (iG vr (3:Int)) (0:Int) ((10:Int) ^ 12)))))))
theorem JV (vr:Dt):RP nu [some ((zE eD) vr)] (fun r=>Out.rt ((zE eB) r)) (bR vr) (some (jZ vr)):=R.tp (oA (EY (lq (rY (qb is_tuple (aB 0 (zE eD) vr rfl)))) (EY (rR (acg (by decide) (xU (aB 0 (zE eD) vr rfl)) (x_i 4))) (lq (rY (x_call Qu (cL (q9 (aB 0 (zE eD) vr rfl) (x_i 1)) (cL (q9 (aB 0 (zE eD) vr rfl) (x_i 2)) bC))))))) (dD (cP (fun r=>r) (ou (.bl false) eB false rfl) (fun _=>rfl) fun _=>rfl)) (fB (cP (fun r=>r) (jA (x_call wF (cL (q9 (aB 0 (zE eD) vr rfl) (x_i 0)) (cL (x_i 1) (cL (x_i 1000) bC)))) (x_call wF (cL (q9 (aB 0 (zE eD) vr rfl) (x_i 3)) (cL (x_i 0) (cL (Xa 10 12 12 (by decide) rfl) bC))))) (fun _=>rfl) fun _=>rfl)))
theorem zB:∀ v bs,(aZ eD aN) v bs->bs.length=1/\(hold (some (jZ v.1))->cW (bs.map lend)=some ((zE eB) (bR v.1))):=by
 rintro⟨vr,_⟩ _ ⟨_,rfl,rfl⟩
 exact⟨rfl,fun h=>cJ (g:=nu) (n:=1) (bs:=[.z (eD vr)]) (JV vr) h⟩
def dN (vr:Dt):Bool:=(if ((!(is_tuple vr))||((!decide ((rz vr)=(3:Int)))||(!(j9 (iG vr (0:Int)) (iG vr (1:Int))))))=true then false else (cY (iG vr (2:Int)) (0:Int) ((10:Int) ^ 12)))
def pU (vr:Dt):Prop:=(((!(is_tuple vr))=false->(mY vr=true/\((!decide ((rz vr)=(3:Int)))=false->((RX vr (0:Int)/\RX vr (1:Int))/\(xK (iG vr (0:Int)) (iG vr (1:Int)))))))/\(((!(is_tuple vr))||((!decide ((rz vr)=(3:Int)))||(!(j9 (iG vr (0:Int)) (iG vr (1:Int))))))=false->(RX vr (2:Int)/\(kh (iG vr (2:Int)) (0:Int) ((10:Int) ^ 12)))))
theorem Tj (vr:Dt):RP sW [some ((zE eD) vr)] (fun r=>Out.rt ((zE eB) r)) (dN vr) (some (pU vr)):=R.tp (oA (EY (lq (rY (qb is_tuple (aB 0 (zE eD) vr rfl)))) (EY (rR (acg (by decide) (xU (aB 0 (zE eD) vr rfl)) (x_i 3))) (lq (rY (x_call Qu (cL (q9 (aB 0 (zE eD) vr rfl) (x_i 0)) (cL (q9 (aB 0 (zE eD) vr rfl) (x_i 1)) bC))))))) (dD (cP (fun r=>r) (ou (.bl false) eB false rfl) (fun _=>rfl) fun _=>rfl)) (fB (cP (fun r=>r) (x_call wF (cL (q9 (aB 0 (zE eD) vr rfl) (x_i 2)) (cL (x_i 0) (cL (Xa 10 12 12 (by decide) rfl) bC)))) (fun _=>rfl) fun _=>rfl)))
theorem Gg:∀ v bs,(aZ eD aN) v bs->bs.length=1/\(hold (some (pU v.1))->eY (bs.map lend)=some ((zE eB) (dN v.1))):=by
 rintro⟨vr,_⟩ _ ⟨_,rfl,rfl⟩
 exact⟨rfl,fun h=>cJ (g:=sW) (n:=1) (bs:=[.z (eD vr)]) (Tj vr) h⟩
def mG (vq:LS_):Bool:=((decide (vq=(uK vq)))&&(decide (((wQ vq).length:Int)=(vq.length:Int))))
def yJ (vq:LS_):Prop:=(vq.length < 64/\((decide (vq=(uK vq)))=true->vq.length < 4000))
theorem Tn (vq:LS_) {bZ:Bx} (dH:Lp bZ (vq.map eS)):RP iY [some bZ] (fun r=>Out.rt ((zE eB) r)) (mG vq) (some (yJ vq)):=R.tp (cP (fun r=>r) (jA (ach (by decide) (fV 0 eS vq dH rfl) (fM (agf (Yv (fV 0 eS vq dH rfl))))) (x_eq (by decide) (agf (ahP (ajC (fV 0 eS vq dH rfl)))) (x_len (fV 0 eS vq dH rfl)))) (fun _=>rfl) fun _=>rfl)
theorem Tp:∀ v bs,(aL eS aN) v bs->bs.length=1/\(hold (some (yJ v.1))->cR (bs.map lend)=some ((zE eB) (mG v.1))):=by
 rintro⟨vq,_⟩ _ ⟨bZ,_,rfl,dH,rfl⟩
 exact⟨rfl,fun h=>cJ (g:=iY) (n:=1) (bs:=[lend bZ]) (Tn vq (zY dH)) h⟩
def iB (vq:List dM):Bool:=((decide (vq=(o9 dw vq)))&&(decide (((Dy vq).length:Int)=(vq.length:Int))))
def um (vq:List dM):Prop:=(vq.length < 64/\((decide (vq=(o9 dw vq)))=true->vq.length<=64))
theorem Ng (vq:List dM) {bZ:Bx} (dH:Lp bZ (vq.map dw)):RP iY [some bZ] (fun r=>Out.rt ((zE eB) r)) (iB vq) (some (um vq)):=R.tp (cP (fun r=>r) (jA (ach (by decide) (fV 0 dw vq dH rfl) (fM (YD (fV 0 dw vq dH rfl)))) (x_eq (by decide) (YF (fV 0 dw vq dH rfl)) (x_len (fV 0 dw vq dH rfl)))) (fun _=>rfl) fun _=>rfl)
theorem Nh:∀ v bs,(aL dw aN) v bs->bs.length=1/\(hold (some (um v.1))->cR (bs.map lend)=some ((zE eB) (iB v.1))):=by
 rintro⟨vq,_⟩ _ ⟨bZ,_,rfl,dH,rfl⟩
 exact⟨rfl,fun h=>cJ (g:=iY) (n:=1) (bs:=[lend bZ]) (Ng vq (zY dH)) h⟩
def jC (vq:List kW):Bool:=((decide (vq=(o9 iI vq)))&&(decide (((Dy vq).length:Int)=(vq.length:Int))))
def uo (vq:List kW):Prop:=(vq.length < 64/\((decide (vq=(o9 iI vq)))=true->vq.length<=64))
theorem Ni (vq:List kW) {bZ:Bx} (dH:Lp bZ (vq.map iI)):RP iY [some bZ] (fun r=>Out.rt ((zE eB) r)) (jC vq) (some (uo vq)):=R.tp (cP (fun r=>r) (jA (ach (by decide) (fV 0 iI vq dH rfl) (fM (YD (fV 0 iI vq dH rfl)))) (x_eq (by decide) (YF (fV 0 iI vq dH rfl)) (x_len (fV 0 iI vq dH rfl)))) (fun _=>rfl) fun _=>rfl)
theorem Nj:∀ v bs,(aL iI aN) v bs->bs.length=1/\(hold (some (uo v.1))->cR (bs.map lend)=some ((zE eB) (jC v.1))):=by
 rintro⟨vq,_⟩ _ ⟨bZ,_,rfl,dH,rfl⟩
 exact⟨rfl,fun h=>cJ (g:=iY) (n:=1) (bs:=[lend bZ]) (Ni vq (zY dH)) h⟩
def uq (vr:Dt) (vc:Dt) (va:Dt) (vb:Dt) (Xx:LD_):Bool:=((Xx.map fun vag:Dt=>((decide ((jg (iG vag (0:Int)))∈(p8 vc)))&&(decide ((jg (iG vag (1:Int)))∈(p8 vc))))).all id)
def ur (vr:Dt) (vc:Dt) (va:Dt) (vb:Dt) (Xx:LD_):Prop:=(Xx.length<=100000/\(∀ vag∈Xx,(((RX vag (0:Int)/\(iG vag (0:Int))=eS (jg (iG vag (0:Int))))/\vc=(eT eS) (p8 vc))/\((decide ((jg (iG vag (0:Int)))∈(p8 vc)))=true->((RX vag (1:Int)/\(iG vag (1:Int))=eS (jg (iG vag (1:Int))))/\vc=(eT eS) (p8 vc))))))
def uw:Ev->Option Out:=(aK (eX (aP allB (ak (dW (Bj (gv 4)) (mK 1) jM (oX (b2 inF (b2 eU (gv 1) (cB (.int 0))) (gv 0)) (b2 inF (b2 eU (gv 1) (cB (.int 1))) (gv 0))) [1] 1) aC))) gq)
theorem Dq (vr:Dt) (vc:Dt) (va:Dt) (vb:Dt) (Xx:LD_):RP uw [some ((zE eD) vr),some ((zE eD) vc),some ((zE eD) va),some ((zE eD) vb),some ((oE eD) Xx)] (fun r=>Out.rt ((zE eB) r)) (uq vr vc va vb Xx) (some (ur vr vc va vb Xx)):=R.tp (cP (fun r=>r) (rT (fM (ji (ahL (iH (aB 4 (lE eD) Xx rfl))) _ (fun _=>rfl) (fun vag:Dt=>(jA (Qj (cI (q9 (aB 1 (zE eD) vag rfl) (x_i 0)) jg eS) (cI (aB 0 (zE eD) vc rfl) p8 (eT eS))) (Qj (cI (q9 (aB 1 (zE eD) vag rfl) (x_i 1)) jg eS) (cI (aB 0 (zE eD) vc rfl) p8 (eT eS)))))))) (fun _=>rfl) fun _=>rfl)
def iD (vr:Dt) (vc:Dt) (va:Dt) (vb:Dt):Bool:=(if ((!(((kE vc).map fun vh:Dt=>(cD vh)).all id))||(!(mG ((dI vc).map jg))))=true then false else (if ((!(((kE va).map fun jw:Dt=>(bR jw)).all id))||(!(((kE vb).map fun jw:Dt=>(dN jw)).all id)))=true then false else (if ((!(iB ((kE va).map fun jw:Dt=>(Fp (Dt.tup (dI (Dt.tup [(eI ((0:Int) - (qI (iG jw (0:Int)))))])++dI (Dt.tup (cut (dI jw) (some (1:Int)) none))))))))||(!(jC ((dI vb).map Fq))))=true then false else (let Xx:=(((kE va).map fun jw:Dt=>(Dt.tup (cut (dI jw) (some (1:Int)) (some (3:Int)))))++((kE vb).map fun jw:Dt=>(Dt.tup (cut (dI jw) none (some (2:Int))))));(uq vr vc va vb Xx)))))
def nW (vr:Dt) (vc:Dt) (va:Dt) (vb:Dt):Prop:=((((mY vc=true/\(kE vc).length<=100000)/\(∀ vh∈(kE vc),(jt vh)))/\((!(((kE vc).map fun vh:Dt=>(cD vh)).all id))=false->((acv vc=true/\(∀ d∈(dI vc),d=eS (jg d)))/\(yJ ((dI vc).map jg)))))/\(((!(((kE vc).map fun vh:Dt=>(cD vh)).all id))||(!(mG ((dI vc).map jg))))=false->((((mY va=true/\(kE va).length<=100000)/\(∀ jw∈(kE va),(jZ jw)))/\((!(((kE va).map fun jw:Dt=>(bR jw)).all id))=false->((mY vb=true/\(kE vb).length<=100000)/\(∀ jw∈(kE vb),(pU jw)))))/\(((!(((kE va).map fun jw:Dt=>(bR jw)).all id))||(!(((kE vb).map fun jw:Dt=>(dN jw)).all id)))=false->(((((mY va=true/\(kE va).length<=100000)/\(∀ jw∈(kE va),((((RX jw (0:Int)/\(iG jw (0:Int))=eI (qI (iG jw (0:Int))))/\is_tuple jw=true)/\(is_tuple (Dt.tup [(eI ((0:Int) - (qI (iG jw (0:Int)))))])=true/\is_tuple (Dt.tup (cut (dI jw) (some (1:Int)) none))=true/\p7 ((dI (Dt.tup [(eI ((0:Int) - (qI (iG jw (0:Int)))))])).length+(dI (Dt.tup (cut (dI jw) (some (1:Int)) none))).length)))/\(Dt.tup (dI (Dt.tup [(eI ((0:Int) - (qI (iG jw (0:Int)))))])++dI (Dt.tup (cut (dI jw) (some (1:Int)) none))))=dw (Fp (Dt.tup (dI (Dt.tup [(eI ((0:Int) - (qI (iG jw (0:Int)))))])++dI (Dt.tup (cut (dI jw) (some (1:Int)) none))))))))/\(um ((kE va).map fun jw:Dt=>(Fp (Dt.tup (dI (Dt.tup [(eI ((0:Int) - (qI (iG jw (0:Int)))))])++dI (Dt.tup (cut (dI jw) (some (1:Int)) none))))))))/\((!(iB ((kE va).map fun jw:Dt=>(Fp (Dt.tup (dI (Dt.tup [(eI ((0:Int) - (qI (iG jw (0:Int)))))])++dI (Dt.tup (cut (dI jw) (some (1:Int)) none))))))))=false->((acv vb=true/\(∀ d∈(dI vb),d=iI (Fq d)))/\(uo ((dI vb).map Fq)))))/\(((!(iB ((kE va).map fun jw:Dt=>(Fp (Dt.tup (dI (Dt.tup [(eI ((0:Int) - (qI (iG jw (0:Int)))))])++dI (Dt.tup (cut (dI jw) (some (1:Int)) none))))))))||(!(jC ((dI vb).map Fq))))=false->(((((mY va=true/\(kE va).length<=100000)/\(∀ jw∈(kE va),is_tuple jw=true))/\((mY vb=true/\(kE vb).length<=100000)/\(∀ jw∈(kE vb),is_tuple jw=true)))/\p7 (((kE va).map fun jw:Dt=>(Dt.tup (cut (dI jw) (some (1:Int)) (some (3:Int))))).length+((kE vb).map fun jw:Dt=>(Dt.tup (cut (dI jw) none (some (2:Int))))).length))/\(let Xx:=(((kE va).map fun jw:Dt=>(Dt.tup (cut (dI jw) (some (1:Int)) (some (3:Int)))))++((kE vb).map fun jw:Dt=>(Dt.tup (cut (dI jw) none (some (2:Int))))));(ur vr vc va vb Xx)))))))))
def Dr:Ev->Option Out:=(aK (Bf (N6 (mW (tV (aP allB (ak (dW (Bj (gv 1)) (mK 0) jM (b1 kj (bH 1 dG (ak (gv 0) aC))) [] 1) aC)))) (mW (tV (bH 1 cR (ak (b1 kj (aP qY (ak (gv 1) aC))) aC))))) (aK (eX (cB (.bl false))) gq) gq) (aK (Bf (N6 (mW (tV (aP allB (ak (dW (Bj (gv 2)) (mK 0) jM (b1 kj (bH 1 cW (ak (gv 0) aC))) [] 1) aC)))) (mW (tV (aP allB (ak (dW (Bj (gv 3)) (mK 0) jM (b1 kj (bH 1 eY (ak (gv 0) aC))) [] 1) aC))))) (aK (eX (cB (.bl false))) gq) gq) (aK (Bf (N6 (mW (tV (bH 1 cR (ak (b1 kj (dW (Bj (gv 2)) (mK 0) jM (b1 kj (b2 bQ (aP aJ (ak (b2 subB (cB (.int 0)) (b2 eU (gv 0) (cB (.int 0)))) aC)) (wG (gv 0) (dZ (cB (.int 1))) dR))) [] 1)) aC)))) (mW (tV (bH 1 cR (ak (b1 kj (aP qY (ak (gv 3) aC))) aC))))) (aK (eX (cB (.bl false))) gq) gq) (aK (setG 4 (b2 bQ (dW (Bj (gv 2)) (mK 0) jM (b1 kj (wG (gv 0) (dZ (cB (.int 1))) (dZ (cB (.int 3))))) [] 1) (dW (Bj (gv 3)) (mK 0) jM (b1 kj (wG (gv 0) dR (dZ (cB (.int 2))))) [] 1))) uw))))
theorem Ds (vr:Dt) (vc:Dt) (va:Dt) (vb:Dt):RP Dr [some ((zE eD) vr),some ((zE eD) vc),some ((zE eD) va),some ((zE eD) vb),none] (fun r=>Out.rt ((zE eB) r)) (iD vr vc va vb) (some (nW vr vc va vb)):=R.tp (oA (EY (lq (rY (rT (fM (ji (CZ (aB 1 (zE eD) vc rfl)) _ (fun _=>rfl) (fun vh:Dt=>(dO (x_call wD (cL (aB 0 (zE eD) vh rfl) bC))))))))) (lq (rY (x_call Tp (Jx (Z7 (Vj (Lb (R3 (aB 1 (zE eD) vc rfl))) jg eS)) bC))))) (dD (cP (fun r=>r) (ou (.bl false) eB false rfl) (fun _=>rfl) fun _=>rfl)) (fB (oA (EY (lq (rY (rT (fM (ji (CZ (aB 2 (zE eD) va rfl)) _ (fun _=>rfl) (fun jw:Dt=>(dO (x_call zB (cL (aB 0 (zE eD) jw rfl) bC))))))))) (lq (rY (rT (fM (ji (CZ (aB 3 (zE eD) vb rfl)) _ (fun _=>rfl) (fun jw:Dt=>(dO (x_call Gg (cL (aB 0 (zE eD) jw rfl) bC)))))))))) (dD (cP (fun r=>r) (ou (.bl false) eB false rfl) (fun _=>rfl) fun _=>rfl)) (fB (oA (EY (lq (rY (x_call Nh (Jx (Z7 (Lb (ji (CZ (aB 2 (zE eD) va rfl)) _ (fun _=>rfl) (fun jw:Dt=>(cI (dO (CW (aM (ao (kO (IK (x_i 0) (cI (q9 (aB 0 (zE eD) jw rfl) (x_i 0)) qI eI))) (aF eD)) (zb rfl)) (zZ (aB 0 (zE eD) jw rfl) (qu (x_i 1)) tX))) Fp dw))))) bC)))) (lq (rY (x_call Nj (Jx (Z7 (Vj (Lb (R3 (aB 3 (zE eD) vb rfl))) Fq iI)) bC))))) (dD (cP (fun r=>r) (ou (.bl false) eB false rfl) (fun _=>rfl) fun _=>rfl)) (fB (cj 4 (mL (fM (ji (CZ (aB 2 (zE eD) va rfl)) _ (fun _=>rfl) (fun jw:Dt=>(dO (zZ (aB 0 (zE eD) jw rfl) (qu (x_i 1)) (qu (x_i 3))))))) (fM (ji (CZ (aB 3 (zE eD) vb rfl)) _ (fun _=>rfl) (fun jw:Dt=>(dO (zZ (aB 0 (zE eD) jw rfl) tX (qu (x_i 2)))))))) (fun _=>rfl) fun Xx=>(Dq vr vc va vb Xx).r)))))))
def iQ (vr:Dt):Bool:=(if ((!(is_tuple vr))||((!decide ((rz vr)=(3:Int)))||(!(((kE vr).map fun vae:Dt=>(is_tuple vae)).all id))))=true then false else (let q1:=(Jy vr);(iD vr q1.1 q1.2.1 q1.2.2)))
def nC (vr:Dt):Prop:=(((!(is_tuple vr))=false->(mY vr=true/\((!decide ((rz vr)=(3:Int)))=false->(mY vr=true/\(kE vr).length<=100000))))/\(((!(is_tuple vr))||((!decide ((rz vr)=(3:Int)))||(!(((kE vr).map fun vae:Dt=>(is_tuple vae)).all id))))=false->(vr=aae (Jy vr)/\(let q1:=(Jy vr);(nW vr q1.1 q1.2.1 q1.2.2)))))
theorem JW (vr:Dt):RP nA [some ((zE eD) vr),none,none,none,none] (fun r=>Out.rt ((zE eB) r)) (iQ vr) (some (nC vr)):=R.tp (oA (EY (lq (rY (qb is_tuple (aB 0 (zE eD) vr rfl)))) (EY (rR (acg (by decide) (xU (aB 0 (zE eD) vr rfl)) (x_i 3))) (lq (rY (rT (fM (Kc (CZ (aB 0 (zE eD) vr rfl)) _ (fun _=>rfl) (fun vae:Dt=>(dO (qb is_tuple (aB 0 (zE eD) vae rfl)))) fun _=>rfl))))))) (dD (cP (fun r=>r) (ou (.bl false) eB false rfl) (fun _=>rfl) fun _=>rfl)) (fB (Yx (cI (aB 0 (zE eD) vr rfl) Jy aae) _ (fun _=>rfl) fun q1=>(Ds vr q1.1 q1.2.1 q1.2.2).r)))
theorem JX:∀ v bs,(aZ eD aN) v bs->bs.length=1/\(hold (some (nC v.1))->fQ (bs.map lend)=some ((zE eB) (iQ v.1))):=by
 rintro⟨vr,_⟩ _ ⟨_,rfl,rfl⟩
 exact⟨rfl,fun h=>cJ (g:=nA) (n:=5) (bs:=[.z (eD vr)]) (JW vr) h⟩
def ux (vq:LD_) (vn:LD_) (v4:Int):LD_:=(let vd:=(aV v4 (10:Int));(let vn:=vn++[(bA fuel (at' vq (((at' vd (0:Int)) % (vq.length:Int)) * (if (decide (((at' vd (1:Int)) % (2:Int))=(1:Int)))=true then (1:Int) else 0))) (cut vd (some (2:Int)) none) (((at' vd (1:Int)) / (2:Int)) % (4:Int)))];vn))
def Ba (vq:LD_) (vn:LD_) (v4:Int):Prop:=((gM v4 (10:Int))/\(let vd:=(aV v4 (10:Int));(((((((In vd.length (0:Int)/\0 < (vq.length:Int))/\In vd.length (1:Int))/\Mul ((at' vd (0:Int)) % (vq.length:Int)) (if (decide (((at' vd (1:Int)) % (2:Int))=(1:Int)))=true then (1:Int) else 0))/\In vq.length (((at' vd (0:Int)) % (vq.length:Int)) * (if (decide (((at' vd (1:Int)) % (2:Int))=(1:Int)))=true then (1:Int) else 0)))/\In vd.length (1:Int))/\(cX fuel (at' vq (((at' vd (0:Int)) % (vq.length:Int)) * (if (decide (((at' vd (1:Int)) % (2:Int))=(1:Int)))=true then (1:Int) else 0))) (cut vd (some (2:Int)) none) (((at' vd (1:Int)) / (2:Int)) % (4:Int))))/\p7 vn.length)))
theorem acZ (v0:LI_) {bZ:Bx} (dH:Lp bZ (v0.map eI)) (v1:LI_) (v8:cQ) (vo:LD_) (vq:LD_) (vn:LD_) (v4:Int):RP Lq [some bZ,some ((oE eI) v1),some ((zE fP) v8),some ((oE eD) vn),some ((zE (eT eD)) vo),some ((oE eD) vq),some ((zE eI) v4),none,none,none] (fun s=>Out.nx ((fun vn:LD_=>[some bZ,some ((oE eI) v1),some ((zE fP) v8),some ((oE eD) vn),some ((zE (eT eD)) vo),some ((oE eD) vq),none,none,none,none]) s)) (ux vq vn v4) (some (Ba vq vn v4)):=R.tp (dD (cj 7 (x_call ni (cL (aB 6 (zE eI) v4 rfl) (cL (x_i 10) bC))) (fun _=>rfl) fun vd=>(dD (Fe 3 vn rfl (dO (x_call (qU fuel) (cL (jx (iH (aB 5 (lE eD) vq rfl)) (acf (Ez (jx (iH (aB 7 (lE eI) vd rfl)) (x_i 0)) (x_len (iH (aB 5 (lE eD) vq rfl)))) (acw (x_eq (by decide) (dF (jx (iH (aB 7 (lE eI) vd rfl)) (x_i 1)) 2 (by decide)) (x_i 1))))) (Jx (Z7 (Lb (afj (iH (aB 7 (lE eI) vd rfl)) (qu (x_i 2)) tX))) (cL (dF (o8 (jx (iH (aB 7 (lE eI) vd rfl)) (x_i 1)) 2 (by decide)) 4 (by decide)) bC))))) fun vn=>(fB (jN vn rfl))))))
def uy  (s1:Unit) (vr:Dt):Wi (Unit) Bool:=(let v6:=[(bY vr),(d9 vr),(jf vr)];(if (!decide (v6=[(bR vr),(dN vr),(iQ vr)]))=true then (Wi.rt false) else (if (!((v6.map fun jw:Bool=>(is_bool (eB jw))).all id))=true then (Wi.rt false) else (Wi.nx ()))))
def Gh  (s1:Unit) (vr:Dt):Prop:=(((rC vr)/\((xJ vr)/\(vQ vr)))/\(let v6:=[(bY vr),(d9 vr),(jf vr)];(((jZ vr)/\((pU vr)/\(nC vr)))/\((!decide (v6=[(bR vr),(dN vr),(iQ vr)]))=false->v6.length<=100000))))
theorem ac0 (v0:LI_) {bZ:Bx} (dH:Lp bZ (v0.map eI)) (v1:LI_) (v8:cQ) (vn:LD_) (vo:LD_) (vq:LD_) (s1:Unit) (vr:Dt):RP Lr [some bZ,some ((oE eI) v1),some ((zE fP) v8),some ((lE eD) vn),some ((zE (eT eD)) vo),some ((oE eD) vq),none,none,some ((zE eD) vr),none] (cC (fun s1:Unit=>[some bZ,some ((oE eI) v1),some ((zE fP) v8),some ((lE eD) vn),some ((zE (eT eD)) vo),some ((oE eD) vq),none,none,none,none]) (zE eB)) (uy  s1 vr) (some (Gh  s1 vr)):=R.tp (dD (cj 9 (iJ (ao (dO (x_call Jl (cL (aB 8 (zE eD) vr rfl) bC))) (ao (dO (x_call M7 (cL (aB 8 (zE eD) vr rfl) bC))) (ao (dO (x_call V3 (cL (aB 8 (zE eD) vr rfl) bC))) (aF eB)))) (zb rfl)) (fun _=>rfl) fun v6=>(dD (oA (rR (ajx (by decide) (iH (aB 9 (lE eB) v6 rfl)) (fM (iJ (ao (dO (x_call zB (cL (aB 8 (zE eD) vr rfl) bC))) (ao (dO (x_call Gg (cL (aB 8 (zE eD) vr rfl) bC))) (ao (dO (x_call JX (cL (aB 8 (zE eD) vr rfl) bC))) (aF eB)))) (zb rfl))))) (dD (cP .rt (ou (.bl false) eB false rfl) (fun _=>rfl) fun _=>rfl)) (fB (dD (oA (lq (rY (rT (fM (Kc (ahL (iH (aB 9 (lE eB) v6 rfl))) _ (fun _=>rfl) (fun jw:Bool=>(dO (qb is_bool (aB 0 (zE eB) jw rfl)))) fun _=>rfl))))) (dD (cP .rt (ou (.bl false) eB false rfl) (fun _=>rfl) fun _=>rfl)) (fB (fB (jN (.nx ()) rfl))))))))))
def V4 (v0:LI_) (v1:LI_) (v8:cQ) (vn:LD_) (vo:LD_) (vq:LD_):Bool:=true
def V5:Ev->Option Out:=(aK (eX (cB (.bl true))) gq)
theorem ac1 (v0:LI_) {bZ:Bx} (dH:Lp bZ (v0.map eI)) (v1:LI_) (v8:cQ) (vn:LD_) (vo:LD_) (vq:LD_):RP V5 [some bZ,some ((oE eI) v1),some ((zE fP) v8),some ((lE eD) vn),some ((zE (eT eD)) vo),some ((oE eD) vq),none,none,none,none] (fun r=>Out.rt ((zE eB) r)) (V4 v0 v1 v8 vn vo vq) (none):=R.tp (cP (fun r=>r) (ou (.bl true) eB true rfl) (fun _=>rfl) fun _=>rfl)
def Gi (v0:LI_) (v1:LI_) (v8:cQ) (vn:LD_) (vo:LD_) (vq:LD_):Bool:=(behind (Dc (fun (s1:Unit) (vr:Dt)=>((uy  s1 vr):Wi (Unit) Bool)) vn ()) (fun r=>r) fun s1:Unit=>(V4 v0 v1 v8 vn vo vq))
def Nk (v0:LI_) (v1:LI_) (v8:cQ) (vn:LD_) (vo:LD_) (vq:LD_):Prop:=(Qk (fun (s1:Unit) (vr:Dt)=>((uy  s1 vr):Wi (Unit) Bool)) (fun (s1:Unit) (vr:Dt)=>some (Gh  s1 vr)) vn ()/\(Yz (Dc (fun (s1:Unit) (vr:Dt)=>((uy  s1 vr):Wi (Unit) Bool)) vn ()) fun s1:Unit=>True))
def V6:Ev->Option Out:=(aK (Oa 3 (mK 8) Lr) V5)
theorem ac2 (v0:LI_) {bZ:Bx} (dH:Lp bZ (v0.map eI)) (v1:LI_) (v8:cQ) (vn:LD_) (vo:LD_) (vq:LD_):RP V6 [some bZ,some ((oE eI) v1),some ((zE fP) v8),some ((oE eD) vn),some ((zE (eT eD)) vo),some ((oE eD) vq),none,none,none,none] (fun r=>Out.rt ((zE eB) r)) (Gi v0 v1 v8 vn vo vq) (some (Nk v0 v1 v8 vn vo vq)):=R.tp (afm 3 vn (ahO rfl) (fun s1:Unit=>[some bZ,some ((oE eI) v1),some ((zE fP) v8),some ((lE eD) vn),some ((zE (eT eD)) vo),some ((oE eD) vq),none,none,none,none]) () rfl _ (fun _ _=>rfl) (fun (s1:Unit) (vr:Dt)=>((ac0 v0 dH v1 v8 vn vo vq s1 vr).r:R _ _ (cC (fun s1:Unit=>[some bZ,some ((oE eI) v1),some ((zE fP) v8),some ((lE eD) vn),some ((zE (eT eD)) vo),some ((oE eD) vq),none,none,none,none]) (zE eB)))) (fun r=>r) (fun _=>rfl) fun s1=>(ac1 v0 dH v1 v8 vn vo vq).r)
def Nm (v0:LI_) (v1:LI_) (v8:cQ) (vn:LD_) (vo:LD_) (vq:LD_):Bool:=(let vn:LD_:=((cut v0 (some (1:Int)) (some (30:Int))).foldl (fun (vn:LD_) (v4:Int)=>(ux vq vn v4)) vn);(Gi v0 v1 v8 vn vo vq))
def Np (v0:LI_) (v1:LI_) (v8:cQ) (vn:LD_) (vo:LD_) (vq:LD_):Prop:=(Lf (fun (vn:LD_) (v4:Int)=>(ux vq vn v4)) (fun (vn:LD_) (v4:Int)=>some (Ba vq vn v4)) (cut v0 (some (1:Int)) (some (30:Int))) vn/\(let vn:LD_:=((cut v0 (some (1:Int)) (some (30:Int))).foldl (fun (vn:LD_) (v4:Int)=>(ux vq vn v4)) vn);(Nk v0 v1 v8 vn vo vq)))
def V7:Ev->Option Out:=(aK (CN (itF (wG (gv 0) (dZ (cB (.int 1))) (dZ (cB (.int 30))))) (mK 6) Lq) V6)
theorem ac3 (v0:LI_) {bZ:Bx} (dH:Lp bZ (v0.map eI)) (v1:LI_) (v8:cQ) (vn:LD_) (vo:LD_) (vq:LD_):RP V7 [some bZ,some ((oE eI) v1),some ((zE fP) v8),some ((oE eD) vn),some ((zE (eT eD)) vo),some ((oE eD) vq),none,none,none,none] (fun r=>Out.rt ((zE eB) r)) (Nm v0 v1 v8 vn vo vq) (some (Np v0 v1 v8 vn vo vq)):=R.tp (Ve (fun vn:LD_=>[some bZ,some ((oE eI) v1),some ((zE fP) v8),some ((oE eD) vn),some ((zE (eT eD)) vo),some ((oE eD) vq),none,none,none,none]) vn rfl (ajB (afj (fV 0 eI v0 dH rfl) (qu (x_i 1)) (qu (x_i 30)))) _ (fun _ _=>rfl) (fun (vn:LD_) (v4:Int)=>(acZ v0 dH v1 v8 vo vq vn v4).r) fun vn=>(ac2 v0 dH v1 v8 vn vo vq).r)
def Nq (v0:LI_) (v1:LI_) (v8:cQ) (vn:LD_) (vo:LD_):Bool:=(let vq:=(([(fP v8)]++(v8.2.1.map dw))++(v8.2.2.map iI));(Nm v0 v1 v8 vn vo vq))
def Nr (v0:LI_) (v1:LI_) (v8:cQ) (vn:LD_) (vo:LD_):Prop:=((p7 ([(fP v8)].length+(v8.2.1.map dw).length)/\p7 (([(fP v8)]++(v8.2.1.map dw)).length+(v8.2.2.map iI).length))/\(let vq:=(([(fP v8)]++(v8.2.1.map dw))++(v8.2.2.map iI));(Np v0 v1 v8 vn vo vq)))
def V8:Ev->Option Out:=(aK (setG 5 (b2 bQ (b2 bQ (aP fX (ak (gv 2) aC)) (aP qY (ak (b2 eU (gv 2) (cB (.int 1))) aC))) (aP qY (ak (b2 eU (gv 2) (cB (.int 2))) aC)))) V7)
theorem ac4 (v0:LI_) {bZ:Bx} (dH:Lp bZ (v0.map eI)) (v1:LI_) (v8:cQ) (vn:LD_) (vo:LD_):RP V8 [some bZ,some ((oE eI) v1),some ((zE fP) v8),some ((oE eD) vn),some ((zE (eT eD)) vo),none,none,none,none,none] (fun r=>Out.rt ((zE eB) r)) (Nq v0 v1 v8 vn vo) (some (Nr v0 v1 v8 vn vo)):=R.tp (cj 5 (mL (fM (mL (fM (iJ (ao (kO (aB 2 (zE fP) v8 rfl)) (aF eD)) (zb rfl))) (fM (acy (R0 (af8 (aB 2 (zE fP) v8 rfl) (fun q=>q.2.1) (eT dw) 1 fun _=>rfl)))))) (fM (acy (R0 (af8 (aB 2 (zE fP) v8 rfl) (fun q=>q.2.2) (eT iI) 2 fun _=>rfl))))) (fun _=>rfl) fun vq=>(ac3 v0 dH v1 v8 vn vo vq).r)
def Nt (v0:LI_) (v1:LI_) (v8:cQ) (vn:LD_) (vo:LD_):Bool:=(let vn:=(vn++(fG ));(Nq v0 v1 v8 vn vo))
def Nu (v0:LI_) (v1:LI_) (v8:cQ) (vn:LD_) (vo:LD_):Prop:=(((pK )/\p7 (vn.length+(fG ).length))/\(let vn:=(vn++(fG ));(Nr v0 v1 v8 vn vo)))
def V9:Ev->Option Out:=(aK (setG 3 (b2 bQ (gv 3) (bH 0 fD aC))) V8)
theorem ac5 (v0:LI_) {bZ:Bx} (dH:Lp bZ (v0.map eI)) (v1:LI_) (v8:cQ) (vn:LD_) (vo:LD_):RP V9 [some bZ,some ((oE eI) v1),some ((zE fP) v8),some ((oE eD) vn),some ((zE (eT eD)) vo),none,none,none,none,none] (fun r=>Out.rt ((zE eB) r)) (Nt v0 v1 v8 vn vo) (some (Nu v0 v1 v8 vn vo)):=R.tp (cj 3 (mL (iH (aB 3 (lE eD) vn rfl)) (fM (x_call MP bC))) (fun _=>rfl) fun vn=>(ac4 v0 dH v1 v8 vn vo).r)
def Nv (v0:LI_) (v1:LI_) (v8:cQ) (vn:LD_) (vo:LD_):Bool:=(let vn:=vn++[(Dt.tup [(Dt.tup [(Dt.str "abcdefgh"),(Dt.str "b")]),(Dt.tup [(Dt.tup [(Dt.int 1),(Dt.str "abcdefgh"),(Dt.str "b"),(Dt.int 0)])]),(Dt.tup [(Dt.tup [(Dt.str "abcdefgh"),(Dt.str "b"),(Dt.int 0)])])])];(Nt v0 v1 v8 vn vo))
def Nx (v0:LI_) (v1:LI_) (v8:cQ) (vn:LD_) (vo:LD_):Prop:=(p7 vn.length/\(let vn:=vn++[(Dt.tup [(Dt.tup [(Dt.str "abcdefgh"),(Dt.str "b")]),(Dt.tup [(Dt.tup [(Dt.int 1),(Dt.str "abcdefgh"),(Dt.str "b"),(Dt.int 0)])]),(Dt.tup [(Dt.tup [(Dt.str "abcdefgh"),(Dt.str "b"),(Dt.int 0)])])])];(Nu v0 v1 v8 vn vo)))
def Wa:Ev->Option Out:=(aK (CK 3 (aP aJ (ak (aP aJ (ak (cB (.str "abcdefgh")) (ak (cB (.str "b")) aC))) (ak (aP aJ (ak (aP aJ (ak (cB (.int 1)) (ak (cB (.str "abcdefgh")) (ak (cB (.str "b")) (ak (cB (.int 0)) aC))))) aC)) (ak (aP aJ (ak (aP aJ (ak (cB (.str "abcdefgh")) (ak (cB (.str "b")) (ak (cB (.int 0)) aC)))) aC)) aC))))) V9)
theorem ac6 (v0:LI_) {bZ:Bx} (dH:Lp bZ (v0.map eI)) (v1:LI_) (v8:cQ) (vn:LD_) (vo:LD_):RP Wa [some bZ,some ((oE eI) v1),some ((zE fP) v8),some ((oE eD) vn),some ((zE (eT eD)) vo),none,none,none,none,none] (fun r=>Out.rt ((zE eB) r)) (Nv v0 v1 v8 vn vo) (some (Nx v0 v1 v8 vn vo)):=R.tp (Fe 3 vn rfl (aM (ao (aM (ao (x_k (.str "abcdefgh")) (ao (x_k (.str "b")) (aF eD))) (zb rfl)) (ao (aM (ao (aM (ao (x_k (.int 1)) (ao (x_k (.str "abcdefgh")) (ao (x_k (.str "b")) (ao (x_k (.int 0)) (aF eD))))) (zb rfl)) (aF eD)) (zb rfl)) (ao (aM (ao (aM (ao (x_k (.str "abcdefgh")) (ao (x_k (.str "b")) (ao (x_k (.int 0)) (aF eD)))) (zb rfl)) (aF eD)) (zb rfl)) (aF eD)))) (zb rfl)) fun vn=>(ac5 v0 dH v1 v8 vn vo).r)
def Ny (v0:LI_) (v1:LI_) (v8:cQ) (vn:LD_) (vo:LD_):Bool:=(let vn:=(vn++[(Dt.tup [(Dt.tup [(Dt.str "a"),(Dt.str "b")]),(Dt.tup []),((eT eD) vo)]),(Dt.tup [(Dt.tup [(Dt.str "a"),(Dt.str "b")]),(Dt.tup []),((eT eD) vo.reverse)]),(Dt.tup [(Dt.tup [(Dt.str "a"),(Dt.str "b")]),(Dt.tup []),(Dt.tup [(at' vo (2:Int)),(at' vo (0:Int))])])]);(Nv v0 v1 v8 vn vo))
def Nz (v0:LI_) (v1:LI_) (v8:cQ) (vn:LD_) (vo:LD_):Prop:=(((In vo.length (2:Int)/\In vo.length (0:Int))/\p7 (vn.length+[(Dt.tup [(Dt.tup [(Dt.str "a"),(Dt.str "b")]),(Dt.tup []),((eT eD) vo)]),(Dt.tup [(Dt.tup [(Dt.str "a"),(Dt.str "b")]),(Dt.tup []),((eT eD) vo.reverse)]),(Dt.tup [(Dt.tup [(Dt.str "a"),(Dt.str "b")]),(Dt.tup []),(Dt.tup [(at' vo (2:Int)),(at' vo (0:Int))])])].length))/\(let vn:=(vn++[(Dt.tup [(Dt.tup [(Dt.str "a"),(Dt.str "b")]),(Dt.tup []),((eT eD) vo)]),(Dt.tup [(Dt.tup [(Dt.str "a"),(Dt.str "b")]),(Dt.tup []),((eT eD) vo.reverse)]),(Dt.tup [(Dt.tup [(Dt.str "a"),(Dt.str "b")]),(Dt.tup []),(Dt.tup [(at' vo (2:Int)),(at' vo (0:Int))])])]);(Nx v0 v1 v8 vn vo)))
def Wb:Ev->Option Out:=(aK (setG 3 (b2 bQ (gv 3) (aP fX (ak (aP aJ (ak (aP aJ (ak (cB (.str "a")) (ak (cB (.str "b")) aC))) (ak (aP aJ aC) (ak (gv 4) aC)))) (ak (aP aJ (ak (aP aJ (ak (cB (.str "a")) (ak (cB (.str "b")) aC))) (ak (aP aJ aC) (ak (b1 kj (b2 KN (gv 4) (b1 zM (cB (.int 1))))) aC)))) (ak (aP aJ (ak (aP aJ (ak (cB (.str "a")) (ak (cB (.str "b")) aC))) (ak (aP aJ aC) (ak (aP aJ (ak (b2 eU (gv 4) (cB (.int 2))) (ak (b2 eU (gv 4) (cB (.int 0))) aC))) aC)))) aC)))))) Wa)
theorem ac7 (v0:LI_) {bZ:Bx} (dH:Lp bZ (v0.map eI)) (v1:LI_) (v8:cQ) (vn:LD_) (vo:LD_):RP Wb [some bZ,some ((oE eI) v1),some ((zE fP) v8),some ((oE eD) vn),some ((zE (eT eD)) vo),none,none,none,none,none] (fun r=>Out.rt ((zE eB) r)) (Ny v0 v1 v8 vn vo) (some (Nz v0 v1 v8 vn vo)):=R.tp (cj 3 (mL (iH (aB 3 (lE eD) vn rfl)) (fM (iJ (ao (aM (ao (aM (ao (x_k (.str "a")) (ao (x_k (.str "b")) (aF eD))) (zb rfl)) (ao (aM (aF eD) (zb rfl)) (ao (kO (aB 4 (zE (eT eD)) vo rfl)) (aF eD)))) (zb rfl)) (ao (aM (ao (aM (ao (x_k (.str "a")) (ao (x_k (.str "b")) (aF eD))) (zb rfl)) (ao (aM (aF eD) (zb rfl)) (ao (kO (dO (af9 (aB 4 (zE (eT eD)) vo rfl)))) (aF eD)))) (zb rfl)) (ao (aM (ao (aM (ao (x_k (.str "a")) (ao (x_k (.str "b")) (aF eD))) (zb rfl)) (ao (aM (aF eD) (zb rfl)) (ao (aM (ao (IV (aB 4 (zE (eT eD)) vo rfl) (x_i 2)) (ao (IV (aB 4 (zE (eT eD)) vo rfl) (x_i 0)) (aF eD))) (zb rfl)) (aF eD)))) (zb rfl)) (aF eD)))) (zb rfl)))) (fun _=>rfl) fun vn=>(ac6 v0 dH v1 v8 vn vo).r)
def Hr (v0:LI_) (v1:LI_) (v8:cQ) (vn:LD_) (vo:LD_):Bool:=(let vo:=[(Dt.tup [(Dt.str "a"),(Dt.str "b"),(Dt.int 2)]),(Dt.tup [(Dt.str "a"),(Dt.str "b"),(Dt.int 10)]),(Dt.tup [(Dt.str "a"),(Dt.str "b"),(Dt.int 100)])];(Ny v0 v1 v8 vn vo))
def Ht (v0:LI_) (v1:LI_) (v8:cQ) (vn:LD_) (vo:LD_):Prop:=(let vo:=[(Dt.tup [(Dt.str "a"),(Dt.str "b"),(Dt.int 2)]),(Dt.tup [(Dt.str "a"),(Dt.str "b"),(Dt.int 10)]),(Dt.tup [(Dt.str "a"),(Dt.str "b"),(Dt.int 100)])];(Nz v0 v1 v8 vn vo))
def Qv:Ev->Option Out:=(aK (setG 4 (aP aJ (ak (aP aJ (ak (cB (.str "a")) (ak (cB (.str "b")) (ak (cB (.int 2)) aC)))) (ak (aP aJ (ak (cB (.str "a")) (ak (cB (.str "b")) (ak (cB (.int 10)) aC)))) (ak (aP aJ (ak (cB (.str "a")) (ak (cB (.str "b")) (ak (cB (.int 100)) aC)))) aC))))) Wb)
theorem aal (v0:LI_) {bZ:Bx} (dH:Lp bZ (v0.map eI)) (v1:LI_) (v8:cQ) (vn:LD_) (vo:LD_):RP Qv [some bZ,some ((oE eI) v1),some ((zE fP) v8),some ((oE eD) vn),some ((zE (eT eD)) vo),none,none,none,none,none] (fun r=>Out.rt ((zE eB) r)) (Hr v0 v1 v8 vn vo) (some (Ht v0 v1 v8 vn vo)):=R.tp (cj 4 (acn (ao (aM (ao (x_k (.str "a")) (ao (x_k (.str "b")) (ao (x_k (.int 2)) (aF eD)))) (zb rfl)) (ao (aM (ao (x_k (.str "a")) (ao (x_k (.str "b")) (ao (x_k (.int 10)) (aF eD)))) (zb rfl)) (ao (aM (ao (x_k (.str "a")) (ao (x_k (.str "b")) (ao (x_k (.int 100)) (aF eD)))) (zb rfl)) (aF eD)))) (zb rfl)) (fun _=>rfl) fun vo=>(ac7 v0 dH v1 v8 vn vo).r)
def Hu (v0:LI_) (v1:LI_) (v8:cQ) (vn:LD_) (vo:LD_):Bool:=(let vn:=(vn++[(Dt.tup [(Dt.tup [(Dt.str "a"),(Dt.str "b")]),((eT eD) vo),(Dt.tup [])]),(Dt.tup [(Dt.tup [(Dt.str "a"),(Dt.str "b")]),((eT eD) vo.reverse),(Dt.tup [])]),(Dt.tup [(Dt.tup [(Dt.str "a"),(Dt.str "b")]),(Dt.tup [(at' vo (1:Int)),(at' vo (0:Int))]),(Dt.tup [])])]);(Hr v0 v1 v8 vn vo))
def Hv (v0:LI_) (v1:LI_) (v8:cQ) (vn:LD_) (vo:LD_):Prop:=(((In vo.length (1:Int)/\In vo.length (0:Int))/\p7 (vn.length+[(Dt.tup [(Dt.tup [(Dt.str "a"),(Dt.str "b")]),((eT eD) vo),(Dt.tup [])]),(Dt.tup [(Dt.tup [(Dt.str "a"),(Dt.str "b")]),((eT eD) vo.reverse),(Dt.tup [])]),(Dt.tup [(Dt.tup [(Dt.str "a"),(Dt.str "b")]),(Dt.tup [(at' vo (1:Int)),(at' vo (0:Int))]),(Dt.tup [])])].length))/\(let vn:=(vn++[(Dt.tup [(Dt.tup [(Dt.str "a"),(Dt.str "b")]),((eT eD) vo),(Dt.tup [])]),(Dt.tup [(Dt.tup [(Dt.str "a"),(Dt.str "b")]),((eT eD) vo.reverse),(Dt.tup [])]),(Dt.tup [(Dt.tup [(Dt.str "a"),(Dt.str "b")]),(Dt.tup [(at' vo (1:Int)),(at' vo (0:Int))]),(Dt.tup [])])]);(Ht v0 v1 v8 vn vo)))
def Qw:Ev->Option Out:=(aK (setG 3 (b2 bQ (gv 3) (aP fX (ak (aP aJ (ak (aP aJ (ak (cB (.str "a")) (ak (cB (.str "b")) aC))) (ak (gv 4) (ak (aP aJ aC) aC)))) (ak (aP aJ (ak (aP aJ (ak (cB (.str "a")) (ak (cB (.str "b")) aC))) (ak (b1 kj (b2 KN (gv 4) (b1 zM (cB (.int 1))))) (ak (aP aJ aC) aC)))) (ak (aP aJ (ak (aP aJ (ak (cB (.str "a")) (ak (cB (.str "b")) aC))) (ak (aP aJ (ak (b2 eU (gv 4) (cB (.int 1))) (ak (b2 eU (gv 4) (cB (.int 0))) aC))) (ak (aP aJ aC) aC)))) aC)))))) Qv)
theorem aam (v0:LI_) {bZ:Bx} (dH:Lp bZ (v0.map eI)) (v1:LI_) (v8:cQ) (vn:LD_) (vo:LD_):RP Qw [some bZ,some ((oE eI) v1),some ((zE fP) v8),some ((oE eD) vn),some ((zE (eT eD)) vo),none,none,none,none,none] (fun r=>Out.rt ((zE eB) r)) (Hu v0 v1 v8 vn vo) (some (Hv v0 v1 v8 vn vo)):=R.tp (cj 3 (mL (iH (aB 3 (lE eD) vn rfl)) (fM (iJ (ao (aM (ao (aM (ao (x_k (.str "a")) (ao (x_k (.str "b")) (aF eD))) (zb rfl)) (ao (kO (aB 4 (zE (eT eD)) vo rfl)) (ao (aM (aF eD) (zb rfl)) (aF eD)))) (zb rfl)) (ao (aM (ao (aM (ao (x_k (.str "a")) (ao (x_k (.str "b")) (aF eD))) (zb rfl)) (ao (kO (dO (af9 (aB 4 (zE (eT eD)) vo rfl)))) (ao (aM (aF eD) (zb rfl)) (aF eD)))) (zb rfl)) (ao (aM (ao (aM (ao (x_k (.str "a")) (ao (x_k (.str "b")) (aF eD))) (zb rfl)) (ao (aM (ao (IV (aB 4 (zE (eT eD)) vo rfl) (x_i 1)) (ao (IV (aB 4 (zE (eT eD)) vo rfl) (x_i 0)) (aF eD))) (zb rfl)) (ao (aM (aF eD) (zb rfl)) (aF eD)))) (zb rfl)) (aF eD)))) (zb rfl)))) (fun _=>rfl) fun vn=>(aal v0 dH v1 v8 vn vo).r)
def Hw (v0:LI_) (v1:LI_) (v8:cQ) (vn:LD_):Bool:=(let vo:=[(Dt.tup [(Dt.int 1),(Dt.str "a"),(Dt.str "b"),(Dt.int 2)]),(Dt.tup [(Dt.int 1),(Dt.str "a"),(Dt.str "b"),(Dt.int 10)]),(Dt.tup [(Dt.int 1),(Dt.str "a"),(Dt.str "b"),(Dt.int 100)])];(Hu v0 v1 v8 vn vo))
def Hx (v0:LI_) (v1:LI_) (v8:cQ) (vn:LD_):Prop:=(let vo:=[(Dt.tup [(Dt.int 1),(Dt.str "a"),(Dt.str "b"),(Dt.int 2)]),(Dt.tup [(Dt.int 1),(Dt.str "a"),(Dt.str "b"),(Dt.int 10)]),(Dt.tup [(Dt.int 1),(Dt.str "a"),(Dt.str "b"),(Dt.int 100)])];(Hv v0 v1 v8 vn vo))
def Qx:Ev->Option Out:=(aK (setG 4 (aP aJ (ak (aP aJ (ak (cB (.int 1)) (ak (cB (.str "a")) (ak (cB (.str "b")) (ak (cB (.int 2)) aC))))) (ak (aP aJ (ak (cB (.int 1)) (ak (cB (.str "a")) (ak (cB (.str "b")) (ak (cB (.int 10)) aC))))) (ak (aP aJ (ak (cB (.int 1)) (ak (cB (.str "a")) (ak (cB (.str "b")) (ak (cB (.int 100)) aC))))) aC))))) Qw)
theorem aan (v0:LI_) {bZ:Bx} (dH:Lp bZ (v0.map eI)) (v1:LI_) (v8:cQ) (vn:LD_):RP Qx [some bZ,some ((oE eI) v1),some ((zE fP) v8),some ((oE eD) vn),none,none,none,none,none,none] (fun r=>Out.rt ((zE eB) r)) (Hw v0 v1 v8 vn) (some (Hx v0 v1 v8 vn)):=R.tp (cj 4 (acn (ao (aM (ao (x_k (.int 1)) (ao (x_k (.str "a")) (ao (x_k (.str "b")) (ao (x_k (.int 2)) (aF eD))))) (zb rfl)) (ao (aM (ao (x_k (.int 1)) (ao (x_k (.str "a")) (ao (x_k (.str "b")) (ao (x_k (.int 10)) (aF eD))))) (zb rfl)) (ao (aM (ao (x_k (.int 1)) (ao (x_k (.str "a")) (ao (x_k (.str "b")) (ao (x_k (.int 100)) (aF eD))))) (zb rfl)) (aF eD)))) (zb rfl)) (fun _=>rfl) fun vo=>(aam v0 dH v1 v8 vn vo).r)
def Hy (v0:LI_) (v1:LI_) (v8:cQ) (vn:LD_):Bool:=(let vn:=vn++[(Dt.tup [(Dt.tup [(Dt.str "a"),(Dt.str "b")]),(Dt.tup []),(Dt.tup [(Dt.tup [(Dt.str "a"),(Dt.str "b"),(Dt.int 1)]),(Dt.tup [(Dt.str "a"),(Dt.str "b"),(Dt.int 0)])])])];(Hw v0 v1 v8 vn))
def Hz (v0:LI_) (v1:LI_) (v8:cQ) (vn:LD_):Prop:=(p7 vn.length/\(let vn:=vn++[(Dt.tup [(Dt.tup [(Dt.str "a"),(Dt.str "b")]),(Dt.tup []),(Dt.tup [(Dt.tup [(Dt.str "a"),(Dt.str "b"),(Dt.int 1)]),(Dt.tup [(Dt.str "a"),(Dt.str "b"),(Dt.int 0)])])])];(Hx v0 v1 v8 vn)))
def Qy:Ev->Option Out:=(aK (CK 3 (aP aJ (ak (aP aJ (ak (cB (.str "a")) (ak (cB (.str "b")) aC))) (ak (aP aJ aC) (ak (aP aJ (ak (aP aJ (ak (cB (.str "a")) (ak (cB (.str "b")) (ak (cB (.int 1)) aC)))) (ak (aP aJ (ak (cB (.str "a")) (ak (cB (.str "b")) (ak (cB (.int 0)) aC)))) aC))) aC))))) Qx)
theorem aao (v0:LI_) {bZ:Bx} (dH:Lp bZ (v0.map eI)) (v1:LI_) (v8:cQ) (vn:LD_):RP Qy [some bZ,some ((oE eI) v1),some ((zE fP) v8),some ((oE eD) vn),none,none,none,none,none,none] (fun r=>Out.rt ((zE eB) r)) (Hy v0 v1 v8 vn) (some (Hz v0 v1 v8 vn)):=R.tp (Fe 3 vn rfl (aM (ao (aM (ao (x_k (.str "a")) (ao (x_k (.str "b")) (aF eD))) (zb rfl)) (ao (aM (aF eD) (zb rfl)) (ao (aM (ao (aM (ao (x_k (.str "a")) (ao (x_k (.str "b")) (ao (x_k (.int 1)) (aF eD)))) (zb rfl)) (ao (aM (ao (x_k (.str "a")) (ao (x_k (.str "b")) (ao (x_k (.int 0)) (aF eD)))) (zb rfl)) (aF eD))) (zb rfl)) (aF eD)))) (zb rfl)) fun vn=>(aan v0 dH v1 v8 vn).r)
def HB (v0:LI_) (v1:LI_) (v8:cQ) (vn:LD_):Bool:=(let vn:=vn++[(Dt.tup [(Dt.tup [(Dt.str "a"),(Dt.str "b")]),(Dt.tup [(Dt.tup [(Dt.int 1),(Dt.str "a"),(Dt.str "b"),(Dt.int 0)]),(Dt.tup [(Dt.int 1),(Dt.str "a"),(Dt.str "b"),(Dt.int 0)])]),(Dt.tup [])])];(Hy v0 v1 v8 vn))
def HD (v0:LI_) (v1:LI_) (v8:cQ) (vn:LD_):Prop:=(p7 vn.length/\(let vn:=vn++[(Dt.tup [(Dt.tup [(Dt.str "a"),(Dt.str "b")]),(Dt.tup [(Dt.tup [(Dt.int 1),(Dt.str "a"),(Dt.str "b"),(Dt.int 0)]),(Dt.tup [(Dt.int 1),(Dt.str "a"),(Dt.str "b"),(Dt.int 0)])]),(Dt.tup [])])];(Hz v0 v1 v8 vn)))
def Qz:Ev->Option Out:=(aK (CK 3 (aP aJ (ak (aP aJ (ak (cB (.str "a")) (ak (cB (.str "b")) aC))) (ak (aP aJ (ak (aP aJ (ak (cB (.int 1)) (ak (cB (.str "a")) (ak (cB (.str "b")) (ak (cB (.int 0)) aC))))) (ak (aP aJ (ak (cB (.int 1)) (ak (cB (.str "a")) (ak (cB (.str "b")) (ak (cB (.int 0)) aC))))) aC))) (ak (aP aJ aC) aC))))) Qy)
theorem aap (v0:LI_) {bZ:Bx} (dH:Lp bZ (v0.map eI)) (v1:LI_) (v8:cQ) (vn:LD_):RP Qz [some bZ,some ((oE eI) v1),some ((zE fP) v8),some ((oE eD) vn),none,none,none,none,none,none] (fun r=>Out.rt ((zE eB) r)) (HB v0 v1 v8 vn) (some (HD v0 v1 v8 vn)):=R.tp (Fe 3 vn rfl (aM (ao (aM (ao (x_k (.str "a")) (ao (x_k (.str "b")) (aF eD))) (zb rfl)) (ao (aM (ao (aM (ao (x_k (.int 1)) (ao (x_k (.str "a")) (ao (x_k (.str "b")) (ao (x_k (.int 0)) (aF eD))))) (zb rfl)) (ao (aM (ao (x_k (.int 1)) (ao (x_k (.str "a")) (ao (x_k (.str "b")) (ao (x_k (.int 0)) (aF eD))))) (zb rfl)) (aF eD))) (zb rfl)) (ao (aM (aF eD) (zb rfl)) (aF eD)))) (zb rfl)) fun vn=>(aao v0 dH v1 v8 vn).r)
def HF (v0:LI_) (v1:LI_) (v8:cQ) (vn:LD_):Bool:=(let vn:=(vn++ah0);(HB v0 v1 v8 vn))
def HJ (v0:LI_) (v1:LI_) (v8:cQ) (vn:LD_):Prop:=(p7 (vn.length+ah0.length)/\(let vn:=(vn++ah0);(HD v0 v1 v8 vn)))
def QC:Ev->Option Out:=(aK (setG 3 (b2 bQ (gv 3) (aP fX (ak (aP aJ (ak (aP aJ (ak (cB (.str "a")) (ak (cB (.str "b")) aC))) (ak (aP aJ aC) (ak (aP aJ (ak (aP aJ (ak (cB (.str "a")) (ak (cB (.str "c")) (ak (cB (.int 0)) aC)))) aC)) aC)))) (ak (aP aJ (ak (aP aJ (ak (cB (.str "a")) (ak (cB (.str "b")) aC))) (ak (aP aJ (ak (aP aJ (ak (cB (.int 1)) (ak (cB (.str "a")) (ak (cB (.str "b")) (ak (cB (.int 0)) aC))))) (ak (aP aJ (ak (cB (.int 2)) (ak (cB (.str "a")) (ak (cB (.str "b")) (ak (cB (.int 0)) aC))))) aC))) (ak (aP aJ aC) aC)))) aC))))) Qz)
theorem aaq (v0:LI_) {bZ:Bx} (dH:Lp bZ (v0.map eI)) (v1:LI_) (v8:cQ) (vn:LD_):RP QC [some bZ,some ((oE eI) v1),some ((zE fP) v8),some ((oE eD) vn),none,none,none,none,none,none] (fun r=>Out.rt ((zE eB) r)) (HF v0 v1 v8 vn) (some (HJ v0 v1 v8 vn)):=R.tp (cj 3 (mL (iH (aB 3 (lE eD) vn rfl)) (fM (iJ (ao (aM (ao (aM (ao (x_k (.str "a")) (ao (x_k (.str "b")) (aF eD))) (zb rfl)) (ao (aM (aF eD) (zb rfl)) (ao (aM (ao (aM (ao (x_k (.str "a")) (ao (x_k (.str "c")) (ao (x_k (.int 0)) (aF eD)))) (zb rfl)) (aF eD)) (zb rfl)) (aF eD)))) (zb rfl)) (ao (aM (ao (aM (ao (x_k (.str "a")) (ao (x_k (.str "b")) (aF eD))) (zb rfl)) (ao (aM (ao (aM (ao (x_k (.int 1)) (ao (x_k (.str "a")) (ao (x_k (.str "b")) (ao (x_k (.int 0)) (aF eD))))) (zb rfl)) (ao (aM (ao (x_k (.int 2)) (ao (x_k (.str "a")) (ao (x_k (.str "b")) (ao (x_k (.int 0)) (aF eD))))) (zb rfl)) (aF eD))) (zb rfl)) (ao (aM (aF eD) (zb rfl)) (aF eD)))) (zb rfl)) (aF eD))) (zb rfl)))) (fun _=>rfl) fun vn=>(aap v0 dH v1 v8 vn).r)
def HN (v0:LI_) (v1:LI_) (v8:cQ) (vn:LD_):Bool:=(let vn:=vn++[(Dt.tup [(Dt.tup [(Dt.str "a"),(Dt.str "b")]),(Dt.tup [(Dt.tup [(Dt.int 1),(Dt.str "a"),(Dt.str "c"),(Dt.int 0)])]),(Dt.tup [])])];(HF v0 v1 v8 vn))
def HS (v0:LI_) (v1:LI_) (v8:cQ) (vn:LD_):Prop:=(p7 vn.length/\(let vn:=vn++[(Dt.tup [(Dt.tup [(Dt.str "a"),(Dt.str "b")]),(Dt.tup [(Dt.tup [(Dt.int 1),(Dt.str "a"),(Dt.str "c"),(Dt.int 0)])]),(Dt.tup [])])];(HJ v0 v1 v8 vn)))
def QD:Ev->Option Out:=(aK (CK 3 (aP aJ (ak (aP aJ (ak (cB (.str "a")) (ak (cB (.str "b")) aC))) (ak (aP aJ (ak (aP aJ (ak (cB (.int 1)) (ak (cB (.str "a")) (ak (cB (.str "c")) (ak (cB (.int 0)) aC))))) aC)) (ak (aP aJ aC) aC))))) QC)
theorem aar (v0:LI_) {bZ:Bx} (dH:Lp bZ (v0.map eI)) (v1:LI_) (v8:cQ) (vn:LD_):RP QD [some bZ,some ((oE eI) v1),some ((zE fP) v8),some ((oE eD) vn),none,none,none,none,none,none] (fun r=>Out.rt ((zE eB) r)) (HN v0 v1 v8 vn) (some (HS v0 v1 v8 vn)):=R.tp (Fe 3 vn rfl (aM (ao (aM (ao (x_k (.str "a")) (ao (x_k (.str "b")) (aF eD))) (zb rfl)) (ao (aM (ao (aM (ao (x_k (.int 1)) (ao (x_k (.str "a")) (ao (x_k (.str "c")) (ao (x_k (.int 0)) (aF eD))))) (zb rfl)) (aF eD)) (zb rfl)) (ao (aM (aF eD) (zb rfl)) (aF eD)))) (zb rfl)) fun vn=>(aaq v0 dH v1 v8 vn).r)
def HW (v0:LI_) (v1:LI_) (v8:cQ) (vn:LD_):Bool:=(let vn:=(vn++ahZ);(HN v0 v1 v8 vn))
def HX (v0:LI_) (v1:LI_) (v8:cQ) (vn:LD_):Prop:=(p7 (vn.length+ahZ.length)/\(let vn:=(vn++ahZ);(HS v0 v1 v8 vn)))
def QF:Ev->Option Out:=(aK (setG 3 (b2 bQ (gv 3) (aP fX (ak (aP aJ (ak (cB (.str "a")) (ak (cB (.str "b")) (ak (cB (.int 0)) (ak (cB (.int 0)) aC))))) (ak (aP aJ (ak (aP aJ (ak (cB .non) aC)) (ak (aP aJ aC) (ak (aP aJ aC) aC)))) (ak (aP aJ (ak (aP aJ (ak (cB (.str "b")) (ak (cB (.str "a")) aC))) (ak (aP aJ aC) (ak (aP aJ aC) aC)))) (ak (aP aJ (ak (aP aJ (ak (cB (.str "a")) (ak (cB (.str "a")) aC))) (ak (aP aJ aC) (ak (aP aJ aC) aC)))) aC))))))) QD)
theorem aas (v0:LI_) {bZ:Bx} (dH:Lp bZ (v0.map eI)) (v1:LI_) (v8:cQ) (vn:LD_):RP QF [some bZ,some ((oE eI) v1),some ((zE fP) v8),some ((oE eD) vn),none,none,none,none,none,none] (fun r=>Out.rt ((zE eB) r)) (HW v0 v1 v8 vn) (some (HX v0 v1 v8 vn)):=R.tp (cj 3 (mL (iH (aB 3 (lE eD) vn rfl)) (fM (iJ (ao (aM (ao (x_k (.str "a")) (ao (x_k (.str "b")) (ao (x_k (.int 0)) (ao (x_k (.int 0)) (aF eD))))) (zb rfl)) (ao (aM (ao (aM (ao (x_k .non) (aF eD)) (zb rfl)) (ao (aM (aF eD) (zb rfl)) (ao (aM (aF eD) (zb rfl)) (aF eD)))) (zb rfl)) (ao (aM (ao (aM (ao (x_k (.str "b")) (ao (x_k (.str "a")) (aF eD))) (zb rfl)) (ao (aM (aF eD) (zb rfl)) (ao (aM (aF eD) (zb rfl)) (aF eD)))) (zb rfl)) (ao (aM (ao (aM (ao (x_k (.str "a")) (ao (x_k (.str "a")) (aF eD))) (zb rfl)) (ao (aM (aF eD) (zb rfl)) (ao (aM (aF eD) (zb rfl)) (aF eD)))) (zb rfl)) (aF eD))))) (zb rfl)))) (fun _=>rfl) fun vn=>(aar v0 dH v1 v8 vn).r)
def HY (v0:LI_) (v1:LI_) (v8:cQ) (vn:LD_):Bool:=(let vn:=(vn++ahY);(HW v0 v1 v8 vn))
def Ia (v0:LI_) (v1:LI_) (v8:cQ) (vn:LD_):Prop:=(p7 (vn.length+ahY.length)/\(let vn:=(vn++ahY);(HX v0 v1 v8 vn)))
def QG:Ev->Option Out:=(aK (setG 3 (b2 bQ (gv 3) (aP fX (ak (aP aJ (ak (cB (.bl true)) (ak (cB (.str "a")) (ak (cB (.str "b")) (ak (cB (.int 0)) aC))))) (ak (aP aJ (ak (cB (.str "a")) (ak (cB (.str "b")) (ak (cB (.int 0)) aC)))) (ak (aP aJ (ak (cB (.str "b")) (ak (cB (.str "a")) (ak (cB (.int 0)) aC)))) (ak (aP aJ (ak (cB (.str "a")) (ak (cB (.str "b")) aC))) (ak (aP aJ (ak (cB (.str "a")) (ak (cB (.str "b")) (ak (cB .non) aC)))) aC)))))))) QF)
theorem aat (v0:LI_) {bZ:Bx} (dH:Lp bZ (v0.map eI)) (v1:LI_) (v8:cQ) (vn:LD_):RP QG [some bZ,some ((oE eI) v1),some ((zE fP) v8),some ((oE eD) vn),none,none,none,none,none,none] (fun r=>Out.rt ((zE eB) r)) (HY v0 v1 v8 vn) (some (Ia v0 v1 v8 vn)):=R.tp (cj 3 (mL (iH (aB 3 (lE eD) vn rfl)) (fM (iJ (ao (aM (ao (x_k (.bl true)) (ao (x_k (.str "a")) (ao (x_k (.str "b")) (ao (x_k (.int 0)) (aF eD))))) (zb rfl)) (ao (aM (ao (x_k (.str "a")) (ao (x_k (.str "b")) (ao (x_k (.int 0)) (aF eD)))) (zb rfl)) (ao (aM (ao (x_k (.str "b")) (ao (x_k (.str "a")) (ao (x_k (.int 0)) (aF eD)))) (zb rfl)) (ao (aM (ao (x_k (.str "a")) (ao (x_k (.str "b")) (aF eD))) (zb rfl)) (ao (aM (ao (x_k (.str "a")) (ao (x_k (.str "b")) (ao (x_k .non) (aF eD)))) (zb rfl)) (aF eD)))))) (zb rfl)))) (fun _=>rfl) fun vn=>(aas v0 dH v1 v8 vn).r)
def Ib (v0:LI_) (v1:LI_) (v8:cQ) (vn:LD_):Bool:=(let vn:=(vn++ahX);(HY v0 v1 v8 vn))
def Ie (v0:LI_) (v1:LI_) (v8:cQ) (vn:LD_):Prop:=(p7 (vn.length+ahX.length)/\(let vn:=(vn++ahX);(Ia v0 v1 v8 vn)))
def QH:Ev->Option Out:=(aK (setG 3 (b2 bQ (gv 3) (aP fX (ak (aP aJ (ak (cB (.int 1000)) (ak (cB (.str "a")) (ak (cB (.str "b")) (ak (cB (.int 99)) aC))))) (ak (aP aJ (ak (cB (.int 1)) (ak (cB (.str "a")) (ak (cB (.str "b")) (ak (b1 zM (cB (.int 1))) aC))))) (ak (aP aJ (ak (cB (.int 1)) (ak (cB (.str "a")) (ak (cB (.str "a")) (ak (cB (.int 0)) aC))))) (ak (aP aJ (ak (cB (.int 1)) (ak (cB (.str "a")) (ak (cB (.str "b")) (ak (cB (.bl true)) aC))))) (ak (b1 kj (aP fX (ak (cB (.str "a")) (ak (cB (.str "b")) (ak (cB (.int 0)) aC))))) aC)))))))) QG)
theorem aau (v0:LI_) {bZ:Bx} (dH:Lp bZ (v0.map eI)) (v1:LI_) (v8:cQ) (vn:LD_):RP QH [some bZ,some ((oE eI) v1),some ((zE fP) v8),some ((oE eD) vn),none,none,none,none,none,none] (fun r=>Out.rt ((zE eB) r)) (Ib v0 v1 v8 vn) (some (Ie v0 v1 v8 vn)):=R.tp (cj 3 (mL (iH (aB 3 (lE eD) vn rfl)) (fM (iJ (ao (aM (ao (x_k (.int 1000)) (ao (x_k (.str "a")) (ao (x_k (.str "b")) (ao (x_k (.int 99)) (aF eD))))) (zb rfl)) (ao (aM (ao (x_k (.int 1)) (ao (x_k (.str "a")) (ao (x_k (.str "b")) (ao (kO (ace (x_i 1))) (aF eD))))) (zb rfl)) (ao (aM (ao (x_k (.int 1)) (ao (x_k (.str "a")) (ao (x_k (.str "a")) (ao (x_k (.int 0)) (aF eD))))) (zb rfl)) (ao (aM (ao (x_k (.int 1)) (ao (x_k (.str "a")) (ao (x_k (.str "b")) (ao (x_k (.bl true)) (aF eD))))) (zb rfl)) (ao (kO (Lb (iJ (ao (x_k (.str "a")) (ao (x_k (.str "b")) (ao (x_k (.int 0)) (aF eD)))) (zb rfl)))) (aF eD)))))) (zb rfl)))) (fun _=>rfl) fun vn=>(aat v0 dH v1 v8 vn).r)
def Ig (v0:LI_) (v1:LI_) (v8:cQ) (vn:LD_):Bool:=(let vn:=(vn++ahW);(Ib v0 v1 v8 vn))
def Ih (v0:LI_) (v1:LI_) (v8:cQ) (vn:LD_):Prop:=(p7 (vn.length+ahW.length)/\(let vn:=(vn++ahW);(Ie v0 v1 v8 vn)))
def QJ:Ev->Option Out:=(aK (setG 3 (b2 bQ (gv 3) (aP fX (ak (aP aJ (ak (aP aJ (ak (cB (.str "a")) aC)) (ak (aP aJ aC) (ak (aP aJ aC) aC)))) (ak (aP aJ (ak (cB (.int 1)) (ak (cB (.str "a")) (ak (cB (.str "b")) (ak (cB (.int 0)) aC))))) (ak (aP aJ (ak (cB (.int 1)) (ak (cB (.str "b")) (ak (cB (.str "a")) (ak (cB (.int 0)) aC))))) (ak (aP aJ (ak (cB (.int 0)) (ak (cB (.str "a")) (ak (cB (.str "b")) (ak (cB (.int 0)) aC))))) (ak (aP aJ (ak (cB (.int 1001)) (ak (cB (.str "a")) (ak (cB (.str "b")) (ak (cB (.int 0)) aC))))) aC)))))))) QH)
theorem aav (v0:LI_) {bZ:Bx} (dH:Lp bZ (v0.map eI)) (v1:LI_) (v8:cQ) (vn:LD_):RP QJ [some bZ,some ((oE eI) v1),some ((zE fP) v8),some ((oE eD) vn),none,none,none,none,none,none] (fun r=>Out.rt ((zE eB) r)) (Ig v0 v1 v8 vn) (some (Ih v0 v1 v8 vn)):=R.tp (cj 3 (mL (iH (aB 3 (lE eD) vn rfl)) (fM (iJ (ao (aM (ao (aM (ao (x_k (.str "a")) (aF eD)) (zb rfl)) (ao (aM (aF eD) (zb rfl)) (ao (aM (aF eD) (zb rfl)) (aF eD)))) (zb rfl)) (ao (aM (ao (x_k (.int 1)) (ao (x_k (.str "a")) (ao (x_k (.str "b")) (ao (x_k (.int 0)) (aF eD))))) (zb rfl)) (ao (aM (ao (x_k (.int 1)) (ao (x_k (.str "b")) (ao (x_k (.str "a")) (ao (x_k (.int 0)) (aF eD))))) (zb rfl)) (ao (aM (ao (x_k (.int 0)) (ao (x_k (.str "a")) (ao (x_k (.str "b")) (ao (x_k (.int 0)) (aF eD))))) (zb rfl)) (ao (aM (ao (x_k (.int 1001)) (ao (x_k (.str "a")) (ao (x_k (.str "b")) (ao (x_k (.int 0)) (aF eD))))) (zb rfl)) (aF eD)))))) (zb rfl)))) (fun _=>rfl) fun vn=>(aau v0 dH v1 v8 vn).r)
def Ii (v0:LI_) (v1:LI_) (v8:cQ):Bool:=(let vn:=[(fP v8),((eL eD) [(eT eS) v8.1,(eT dw) v8.2.1,(eT iI) v8.2.2]),(aft (v8.1,v8.2.1)),(Dt.tup [(Dt.tup []),(Dt.tup []),(Dt.tup [])]),(Dt.tup [(Dt.tup []),(Dt.tup [])]),(Dt.tup []),Dt.non,(Dt.int 0),(Dt.str "a"),((eL eI) []),Dt.emp,(Dt.bl true)];(Ig v0 v1 v8 vn))
def Ij (v0:LI_) (v1:LI_) (v8:cQ):Prop:=(let vn:=[(fP v8),((eL eD) [(eT eS) v8.1,(eT dw) v8.2.1,(eT iI) v8.2.2]),(aft (v8.1,v8.2.1)),(Dt.tup [(Dt.tup []),(Dt.tup []),(Dt.tup [])]),(Dt.tup [(Dt.tup []),(Dt.tup [])]),(Dt.tup []),Dt.non,(Dt.int 0),(Dt.str "a"),((eL eI) []),Dt.emp,(Dt.bl true)];(Ih v0 v1 v8 vn))
def QK:Ev->Option Out:=(aK (setG 3 (aP fX (ak (gv 2) (ak (b1 kj (aP qY (ak (gv 2) aC))) (ak (b1 kj (wG (gv 2) dR (dZ (cB (.int 2))))) (ak (aP aJ (ak (aP aJ aC) (ak (aP aJ aC) (ak (aP aJ aC) aC)))) (ak (aP aJ (ak (aP aJ aC) (ak (aP aJ aC) aC))) (ak (aP aJ aC) (ak (cB .non) (ak (cB (.int 0)) (ak (cB (.str "a")) (ak (b1 kj (aP fX aC)) (ak (cB .emp) (ak (cB (.bl true)) aC)))))))))))))) QJ)
theorem aaw (v0:LI_) {bZ:Bx} (dH:Lp bZ (v0.map eI)) (v1:LI_) (v8:cQ):RP QK [some bZ,some ((oE eI) v1),some ((zE fP) v8),none,none,none,none,none,none,none] (fun r=>Out.rt ((zE eB) r)) (Ii v0 v1 v8) (some (Ij v0 v1 v8)):=R.tp (cj 3 (iJ (ao (kO (aB 2 (zE fP) v8 rfl)) (ao (kO (Lb (R0 (alF (aB 2 (zE fP) v8 rfl) (fun q=>[(eT eS) q.1,(eT dw) q.2.1,(eT iI) q.2.2]) (eT eD) fun _=>rfl)))) (ao (kO (dO (ajA (aB 2 (zE fP) v8 rfl) (fun q=>(q.1,q.2.1)) aft none (some (2:Int)) rfl rfl fun _=>rfl))) (ao (aM (ao (aM (aF eD) (zb rfl)) (ao (aM (aF eD) (zb rfl)) (ao (aM (aF eD) (zb rfl)) (aF eD)))) (zb rfl)) (ao (aM (ao (aM (aF eD) (zb rfl)) (ao (aM (aF eD) (zb rfl)) (aF eD))) (zb rfl)) (ao (aM (aF eD) (zb rfl)) (ao (x_k .non) (ao (x_k (.int 0)) (ao (x_k (.str "a")) (ao (kO (Lb (iJ (aF eI) (zb rfl)))) (ao (ou .emp eD .emp rfl) (ao (x_k (.bl true)) (aF eD))))))))))))) (zb rfl)) (fun _=>rfl) fun vn=>(aav v0 dH v1 v8 vn).r)
def QL (v0:LI_) (v1:LI_):Bool:=(let v8:=(pJ v0 (0:Int) ((at' v1 (6:Int)) % (7:Int)) ((at' v1 (7:Int)) % (9:Int)) ((at' v1 (8:Int)) % (5:Int)));(Ii v0 v1 v8))
def QM (v0:LI_) (v1:LI_):Prop:=(((In v1.length (6:Int)/\(In v1.length (7:Int)/\In v1.length (8:Int)))/\(sX v0 (0:Int) ((at' v1 (6:Int)) % (7:Int)) ((at' v1 (7:Int)) % (9:Int)) ((at' v1 (8:Int)) % (5:Int))))/\(let v8:=(pJ v0 (0:Int) ((at' v1 (6:Int)) % (7:Int)) ((at' v1 (7:Int)) % (9:Int)) ((at' v1 (8:Int)) % (5:Int)));(Ij v0 v1 v8)))
def aax:Ev->Option Out:=(aK (setG 2 (bH 5 iT (ak (gv 0) (ak (cB (.int 0)) (ak (b2 fH (b2 eU (gv 1) (cB (.int 6))) (cB (.int 7))) (ak (b2 fH (b2 eU (gv 1) (cB (.int 7))) (cB (.int 9))) (ak (b2 fH (b2 eU (gv 1) (cB (.int 8))) (cB (.int 5))) aC))))))) QK)
theorem aay (v0:LI_) {bZ:Bx} (dH:Lp bZ (v0.map eI)) (v1:LI_):RP aax [some bZ,some ((oE eI) v1),none,none,none,none,none,none,none,none] (fun r=>Out.rt ((zE eB) r)) (QL v0 v1) (some (QM v0 v1)):=R.tp (cj 2 (x_call S9 (Jx (fV 0 eI v0 dH rfl) (cL (x_i 0) (cL (dF (jx (iH (aB 1 (lE eI) v1 rfl)) (x_i 6)) 7 (by decide)) (cL (dF (jx (iH (aB 1 (lE eI) v1 rfl)) (x_i 7)) 9 (by decide)) (cL (dF (jx (iH (aB 1 (lE eI) v1 rfl)) (x_i 8)) 5 (by decide)) bC)))))) (fun _=>rfl) fun v8=>(aaw v0 dH v1 v8).r)
def YQ (v0:LI_):Bool:=(let v1:=(aV (bx v0 (0:Int)) (9:Int));(QL v0 v1))
def YS (v0:LI_):Prop:=(((lQ v0 (0:Int))/\(gM (bx v0 (0:Int)) (9:Int)))/\(let v1:=(aV (bx v0 (0:Int)) (9:Int));(QM v0 v1)))
theorem aj5 (v0:LI_) {bZ:Bx} (dH:Lp bZ (v0.map eI)):RP YL [some bZ,none,none,none,none,none,none,none,none,none] (fun r=>Out.rt ((zE eB) r)) (YQ v0) (some (YS v0)):=R.tp (cj 1 (x_call ni (cL (dO (x_call yH (Jx (fV 0 eI v0 dH rfl) (cL (x_i 0) bC)))) (cL (x_i 9) bC))) (fun _=>rfl) fun v1=>(aay v0 dH v1).r)
theorem agj:∀ v bs,(aL eI aN) v bs->bs.length=1/\(hold (some (YS v.1))->u6 (bs.map lend)=some ((zE eB) (YQ v.1))):=by
 rintro⟨v0,_⟩ _ ⟨bZ,_,rfl,dH,rfl⟩
 exact⟨rfl,fun h=>cJ (g:=YL) (n:=10) (bs:=[lend bZ]) (aj5 v0 (zY dH)) h⟩
theorem agk (h:∀ ns:List Int,ns.length<=63->YS ns/\YQ ns=true):(∀ ns:List Int,ns.length<=63->u6 [.z (.lst (ns.map .int))]=some (.z (.bl true)))/\∀ ns:List Int,ns.length<=63->u6 [.l (ns.map .int)]=some (.z (.bl true)):=
 ⟨fun ns hn=>((agj (ns,()) [.z (.lst (ns.map .int))] ⟨_,_,rfl,rfl,rfl⟩).2 (h ns hn).1).trans (by rw[(h ns hn).2]),fun ns hn=>((agj (ns,()) [.l (ns.map .int)] ⟨_,_,rfl,rfl,rfl⟩).2 (h ns hn).1).trans (by rw[(h ns hn).2])⟩
end
end G09
end
section
set_option synthInstance.maxSize 100000
namespace G09
open PySem PySem.Spec PyProof.Rows L2 P1
theorem Tq (script:List Int) (k:Int) (h0:0<=k) (h1:k<=1000):lQ script k:=by
 unfold lQ
 exact⟨fun h=>in_of h0 (by simpa using h),fun _=>acK h0 (by omega)⟩
theorem ac8 (k:Nat) (s:Int×List Int×Int) (hk:k < 1000) (h:(0<=s.1/\s.1 < 1999999973)/\s.2.1.length=k/\(∀ x∈s.2.1,0<=x)/\0<=s.2.2):mC s k/\(0<=(dh s k).1/\(dh s k).1 < 1999999973)/\(dh s k).2.1.length=k+1/\(∀ x∈(dh s k).2.1,0<=x)/\0<=(dh s k).2.2:=by
 obtain⟨h1,h2,h3,h4⟩:=h
 have hin:In 2 (if (decide ((0:Int) < s.2.2))=true then (1:Int) else 0):=by split<;>exact in_of (by omega) (by omega)
 refine⟨⟨acK h1.1 (by omega),hin,?_⟩,tY _ (by decide),?_,?_,Int.ediv_nonneg h4 (by decide)⟩
 ·show s.2.1.length<=1000000
  omega
 ·show (s.2.1++[_]).length=k+1
  rw[Zp,h2];rfl
 ·intro x hx
  rcases List.mem_append.mp hx with hx|hx
  ·exact h3 x hx
  ·cases List.mem_singleton.mp hx
   have:=pq (xs:=[((((s.1 * ((s.1 % (65521:Int))+(40487:Int)))+((7:Int) * k))+(5:Int)) % (1999999973:Int)),(s.2.2 % (1000000:Int))]) hin
   simp only[ZY,Z3,or_false] at this
   rcases this with e|e<;>rw[e]
   ·exact (tY _ (by decide)).1
   ·exact (tY _ (by decide)).1
theorem NK (c m:Int) (h0:0<=m) (h1:m<=1000):gM c m/\(aV c m).length=m.toNat/\∀ x∈aV c m,0<=x:=by
 have key:∀ st dg:Int,(0<=st/\st < 1999999973)->0<=dg->qC c m [] st dg/\(mD c m [] st dg).length=m.toNat/\∀ x∈mD c m [] st dg,0<=x:=fun st dg hs hd=>by
  have:=Fi (P:=fun s k=>some (mC s k)) (fun k s=>(0<=s.1/\s.1 < 1999999973)/\s.2.1.length=k/\(∀ x∈s.2.1,0<=x)/\0<=s.2.2) (step:=fun s k=>dh s k) m.toNat (st,[],dg) ⟨hs,rfl,fun x h=>(by cases h),hd⟩ fun k s hk h=>ac8 k s (by omega) h
  exact⟨⟨Vh h0 (by omega),this.1⟩,this.2.2.1,this.2.2.2.1⟩
 refine key _ _ (tY _ (by decide)) ?_
 dsimp only
 split<;>(try split)<;>omega
theorem foldl_size {α:Type} (c:Array α):∀ (n:Nat) (a:Array α),((List.replicate n c).foldl (·++·) a).size=a.size+n * c.size
 |0,a=>by simp
 |n+1,a=>by
  rw[List.replicate_succ,List.foldl_cons,foldl_size c n,kB,Nat.succ_mul]
  omega
theorem Rt (x:Str) (k:Int):(Txt.mul x k).length<=x.length * k.toNat:=by
 unfold Txt.mul
 split
 ·exact QO _
 split
 ·rename_i h0 h
  simp only[Bool.or_eq_true,beq_iff_eq] at h
  rcases h with h|h
  ·subst h;simp
  ·rw[h];simp
 ·show (Array.size _)<=_
  rw[foldl_size]
  have:x.cps.size=x.length:=rfl
  rw[this,Nat.mul_comm]
  simp
def LT:Str:=("abcdefghijklmnopqrstuvwxyz" : Str)
theorem Ik:LT.length=26:=by decide +kernel
theorem dj {n:Nat} (h:n<=1000):p7 n:=zw h (by decide)
theorem Xy (xs:List Int) (hl:6<=xs.length) (stem:Str) (hs:stem.length<=5) (at_:Int) (k:Nat) (found:LS_) (hk:k < 200) (h:found.length=k/\∀ n∈found,n.length<=12):pH xs LT stem at_ found k/\(iz xs LT stem at_ found k).length=k+1/\∀ n∈iz xs LT stem at_ found k,n.length<=12:=by
 have s1:=zw (slice_le stem none (some at_)) hs
 have s2:=zw (slice_le stem (some at_) none) hs
 have c1:=nH LT ((↑k+at' xs 2) % 15)
 have m8:=tY (k:Int) (m:=8) (by decide)
 have hd:(0:Int)<=(k:Int) / 8/\(k:Int) / 8 < 26:=by omega
 refine⟨⟨⟨in_of (by decide) (by omega),mO (by decide) (by rw[Ik];decide)⟩,⟨dj (by omega),dj (by rw[iR];omega)⟩,⟨in_of (by decide) (by omega),fun _=>⟨in_of hd.1 (by rw[Ik];exact hd.2),by omega,by omega,by rw[nH];decide⟩⟩,dj (by omega)⟩,?_⟩
 have key:∀ n:Str,n.length<=12->(found++[n]).length=k+1/\∀ m∈found++[n],m.length<=12:=fun n hn=>⟨by simp[h.1],fun m hm=>by
  rcases List.mem_append.mp hm with hm|hm
  ·exact h.2 m hm
  ·cases List.mem_singleton.mp hm;exact hn⟩
 unfold iz
 dsimp only
 split
 ·exact key _ (by have:=Rt (ch LT ((k:Int) / 8)) (1+(k:Int) % 8);rw[nH] at this;exact zw this (by omega))
 ·exact key _ (by rw[iR,iR,c1];omega)
theorem ah6 (xs:LS_) (n:Nat) (h:∀ x∈xs,x.length<=n):(Txt.join "" xs).length<=xs.length * n:=by
 have h1:=StrLaws.join_length_le ("" : Str) xs
 rw[<-StrLaws.glued_eq_join] at h1
 have h2:(xs.map (·.length)).sum<=xs.length * n:=by
  clear h1
  induction xs with
  |nil=>simp
  |cons a l ih=>
   have:=ih fun x hx=>h x (zl _ hx)
   have:=h a (zt ..)
   simp only[zz,List.sum_cons,qi,Nat.succ_mul]
   omega
 have h3:("" : Str).length=0:=rfl
 rw[h3,Nat.mul_zero] at h1
 exact zw h1 (by omega)
theorem aoN (xs:LS_) (h:∀ x∈xs,x.length=1):(xs.map (·.length)).sum=xs.length:=by
 induction xs with
 |nil=>rfl
 |cons a l ih=>
  have:=ih fun x hx=>h x (zl _ hx)
  have:=h a (zt ..)
  simp only[zz,List.sum_cons,qi]
  omega
theorem ac9 (xs:List Int) (hl:6<=xs.length) (many:Int) (h0:0<=many) (h1:many<=200):u9 xs many/\(je xs many).length=many.toNat/\∀ n∈je xs many,n.length<=12:=by
 have m6:=tY (at' xs 0) (m:=6) (by decide)
 have st:∀ stem:Str,stem.length<=5->uf xs many LT stem/\(pI xs many LT stem).length=many.toNat/\∀ n∈pI xs many LT stem,n.length<=12:=fun stem hs=>by
  have:=Fi (P:=fun f k=>some (pH xs LT stem (at' xs 1 % ((stem.length:Int)+1)) f k)) (step:=fun f k=>iz xs LT stem (at' xs 1 % ((stem.length:Int)+1)) f k) (fun k s=>s.length=k/\∀ n∈s,n.length<=12) many.toNat [] ⟨rfl,fun n h=>(by cases h)⟩ fun k s hk h=>Xy xs hl stem hs _ k s (by omega) h
  exact⟨⟨⟨in_of (by decide) (by omega),by omega⟩,Vh h0 (by omega),this.1⟩,this.2⟩
 have c1:∀ x∈((rng 0 (at' xs 0 % 6).toNat).map fun k_:Int=>ch LT (at' xs k_ / 40 % 26)),x.length=1:=fun x hx=>by
  obtain⟨k,_,rfl⟩:=List.mem_map.mp hx
  exact nH _ _
 have:=st (Txt.join "" ((rng 0 (at' xs 0 % 6).toNat).map fun k_:Int=>ch LT (at' xs k_ / 40 % 26))) (by
  have:=ah6 _ 1 fun x hx=>ke (c1 x hx)
  rw[zh,uQ] at this
  omega)
 refine⟨⟨⟨⟨⟨⟨in_of (by decide) (by omega),Vh m6.1 (by omega)⟩,by rw[uQ];omega⟩,fun k hk=>?_⟩,?_⟩,this.1⟩,this.2⟩
 ·obtain⟨j,hj,rfl⟩:=Bq hk
  exact⟨in_of (by omega) (by omega),mO (by decide) (by rw[show ("abcdefghijklmnopqrstuvwxyz" : Str)=LT from rfl,Ik];decide)⟩
 ·rw[show ("abcdefghijklmnopqrstuvwxyz" : Str)=LT from rfl,aoN _ c1,zh,uQ]
  have h3:("" : Str).length=0:=rfl
  rw[h3]
  omega
theorem aaz (d:Dt) (sg:Str) (n:Int) (h:n<=1000):pP d sg n:=by
 unfold pP
 intro hs
 obtain⟨x,rfl⟩:=tu hs
 refine⟨⟨rfl,fun _=>rfl⟩,fun hl=>⟨⟨rfl,?_⟩,fun s h=>YG h⟩⟩
 rw[YH]
 have h2:(x.length:Int)<=n:=QE ((zv _ _).mp hl).2
 omega
theorem Wc {d:Dt} {sg:Str} {n:Int} (h:mF d sg n=true):jz d=true:=by
 unfold mF at h
 rw[zv] at h
 exact h.1
theorem Xz (d:Dt):tD d:=aaz d _ 8 (by decide)
theorem Bb {d:Dt} (h:bI d=true):jz d=true:=Wc h
theorem oO (d:Dt):cD d=bI d:=by
 unfold cD bI mF
 cases d with
 |str x=>
  show (if (!(decide ((0:Int) < (x.length:Int))&&decide ((x.length:Int) < 9)))=true then false else _)=((decide ((1:Int)<=(x.length:Int))&&decide ((x.length:Int)<=8))&&_)
  have e1:decide ((0:Int) < (x.length:Int))=decide ((1:Int)<=(x.length:Int)):=decide_eq_decide.mpr (by omega)
  have e2:decide ((x.length:Int) < 9)=decide ((x.length:Int)<=8):=decide_eq_decide.mpr (by omega)
  rw[e1,e2]
  cases (decide ((1:Int)<=(x.length:Int))&&decide ((x.length:Int)<=8))<;>rfl
 |_=>rfl
theorem Du (d:Dt):jt d:=by
 unfold jt
 cases d with
 |str x=>
  refine⟨fun _=>⟨rfl,fun _=>rfl⟩,fun h=>⟨⟨rfl,?_⟩,fun s h=>YG h⟩⟩
  rw[YH]
  have h:(!(decide ((0:Int) < (x.length:Int))&&decide ((x.length:Int) < 9)))=false:=h
  have h2:(x.length:Int) < 9:=QE ((zv _ _).mp (by cases hq:(decide ((0:Int) < (x.length:Int))&&decide ((x.length:Int) < 9)) with|true=>rfl|false=>rw[hq] at h;cases h)).2
  omega
 |_=>exact⟨fun h=>(by cases h),fun h=>(by cases h)⟩
theorem Bw {d:Dt} (h:bI d=true):d=eS (jg d):=by obtain⟨x,rfl⟩:=tu (Bb h);rfl
theorem oR {d:Dt} (h:dU d=true):d=eI (qI d):=by
 cases d with
 |int i=>rfl
 |_=>cases h
theorem ada (d:Dt):vP d:=fun h=>⟨oR h,fun _=>oR h⟩
theorem Il (d:Dt) (a b:Int):kh d a b:=by
 intro h1 h2
 have:d=eI (qI d):=by
  cases d with
  |int i=>rfl
  |bl b=>cases h2
  |_=>cases h1
 exact⟨this,fun _=>this⟩
theorem Dv (d:Dt) (a b:Int):cY d a b=(dU d&&(decide (a<=qI d)&&decide (qI d<=b))):=by
 unfold cY dU
 rw[Bool.and_assoc]
theorem BJ {d:Dt} (h:is_tuple d=true):∃ ds,d=.tup ds/\rz d=ds.length:=by
 obtain⟨ds,rfl⟩:=dX h
 exact⟨ds,rfl,rfl⟩
theorem adb {d:Dt} (h:bJ d 3=true):∃ a b c,d=.tup [a,b,c]:=by
 unfold bJ at h
 rw[zv,zS] at h
 obtain⟨ds,rfl,e⟩:=BJ h.1
 rw[e] at h
 have h:=h.2
 match ds,h with
 |[a,b,c],_=>exact⟨a,b,c,rfl⟩
theorem ah7 {d:Dt} (h:bJ d 4=true):∃ a b c x,d=.tup [a,b,c,x]:=by
 unfold bJ at h
 rw[zv,zS] at h
 obtain⟨ds,rfl,e⟩:=BJ h.1
 rw[e] at h
 have h:=h.2
 match ds,h with
 |[a,b,c,x],_=>exact⟨a,b,c,x,rfl⟩
theorem Tr (d:Dt) (n:Int):qD d n:=fun h=>Fj h
theorem uF {b:Bool} (h:(!b)=false):b=true:=by cases b<;>first|rfl|cases h
def B3 (a b c:Dt):Bool:=bI a&&(bI b&&(Oi (jg a) (jg b)&&(dU c&&decide ((0:Int)<=qI c))))
theorem aj6 (a b c:Dt):d9 (.tup [a,b,c])=B3 a b c:=rfl
theorem ade {d:Dt} (h:bJ d 3=false):d9 d=false:=by
 unfold d9
 rw[h];rfl
theorem NP (a b:Dt):j9 a b=(bI a&&(bI b&&Oi (jg a) (jg b))):=by
 unfold j9
 rw[oO,oO]
theorem adf {a b c:Dt} (h:dU c=true->qI c<=10 ^ 12):dN (.tup [a,b,c])=B3 a b c:=by
 show (if (!(j9 a b))=true then false else cY c 0 (10 ^ 12))=_
 rw[NP,Dv]
 unfold B3
 cases bI a with
 |false=>rfl
 |true=>cases bI b with
  |false=>rfl
  |true=>cases Oi (jg a) (jg b) with
   |false=>rfl
   |true=>cases hw:dU c with
    |false=>rfl
    |true=>
     have:=h hw
     show (decide ((0:Int)<=qI c)&&decide (qI c<=10 ^ 12))=decide ((0:Int)<=qI c)
     rw[Q1 this,JS]
theorem adg (d:Dt):xJ d:=by
 refine⟨Tr d 3,fun h=>?_⟩
 obtain⟨a,b,c,rfl⟩:=adb (uF h)
 exact⟨rfl,Xz a,fun h1=>⟨Xz b,fun h2=>⟨⟨Bw h1,Bw h2⟩,fun _ h3=>oR h3⟩⟩⟩
theorem agl (a b:Dt):xK a b:=⟨Du a,fun h1=>⟨Du b,fun h2=>⟨Bw (by rw[<-oO];exact h1),Bw (by rw[<-oO];exact h2)⟩⟩⟩
theorem QS (d:Dt):pU d:=by
 refine⟨fun h=>⟨Fj (uF h),fun h2=>?_⟩,fun h=>?_⟩
 ·obtain⟨ds,rfl,e⟩:=BJ (uF h)
  have h2:=QE (uF h2)
  rw[e] at h2
  match ds,h2 with
  |[a,b,c],_=>exact⟨⟨in_of (by decide) (by simp),in_of (by decide) (by simp)⟩,agl a b⟩
 ·rw[kL,kL] at h
  obtain⟨ds,rfl,e⟩:=BJ (uF h.1)
  have h2:=QE (uF h.2.1)
  rw[e] at h2
  match ds,h2 with
  |[a,b,c],_=>exact⟨in_of (by decide) (by simp),Il c _ _⟩
theorem XC {d:Dt} (h:bJ d 3=false):dN d=false:=by
 unfold dN
 rw[zo]
 unfold bJ at h
 cases h1:is_tuple d with
 |false=>rfl
 |true=>
  rw[h1,ko] at h
  rw[h];rfl
theorem Tt {d:Dt} (h:Gj 60 1000000000 d=true):d9 d=dN d:=by
 cases ht:bJ d 3 with
 |false=>rw[ade ht,XC ht]
 |true=>
  obtain⟨a,b,c,rfl⟩:=adb ht
  rw[aj6,adf]
  intro hw
  have:=(mQ.mp h).2 c (by simp)
  rw[oR hw] at this ⊢
  have this:qI c<=1000000000:=QE (by simpa only[Gj,eI] using this)
  show qI c<=_
  omega
def R4 (x a b c:Dt):Bool:=jK x&&B3 a b c
theorem aj7 (x a b c:Dt):bY (.tup [x,a,b,c])=R4 x a b c:=rfl
theorem adh {d:Dt} (h:bJ d 4=false):bY d=false:=by
 unfold bY
 rw[h];rfl
theorem XD {d:Dt} (h:bJ d 4=false):bR d=false:=by
 unfold bR
 rw[zo]
 unfold bJ at h
 cases h1:is_tuple d with
 |false=>rfl
 |true=>
  rw[h1,ko] at h
  rw[h];rfl
theorem aaA (d:Dt):jK d=cY d 1 1000:=by rw[Dv];rfl
theorem adi {x a b c:Dt} (h:dU c=true->qI c<=10 ^ 12):bR (.tup [x,a,b,c])=R4 x a b c:=by
 show (if (!(j9 a b))=true then false else (cY x 1 1000&&cY c 0 (10 ^ 12)))=_
 rw[NP,Dv c,<-aaA]
 unfold R4 B3
 cases jK x with
 |false=>split<;>rfl
 |true=>cases bI a with
  |false=>rfl
  |true=>cases bI b with
   |false=>rfl
   |true=>cases Oi (jg a) (jg b) with
    |false=>rfl
    |true=>cases hw:dU c with
     |false=>rfl
     |true=>
      have:=h hw
      show (decide ((0:Int)<=qI c)&&decide (qI c<=10 ^ 12))=decide ((0:Int)<=qI c)
      rw[Q1 this,JS]
theorem Tv {d:Dt} (h:Gj 60 1000000000 d=true):bY d=bR d:=by
 cases ht:bJ d 4 with
 |false=>rw[adh ht,XD ht]
 |true=>
  obtain⟨x,a,b,c,rfl⟩:=ah7 ht
  rw[aj7,adi]
  intro hw
  have:=(mQ.mp h).2 c (by simp)
  rw[oR hw] at this ⊢
  have this:qI c<=1000000000:=QE (by simpa only[Gj,eI] using this)
  show qI c<=_
  omega
theorem agm (d:Dt):rC d:=by
 refine⟨Tr d 4,fun h=>?_⟩
 obtain⟨x,a,b,c,rfl⟩:=ah7 h
 exact⟨⟨in_of (by decide) (by simp),ada _⟩,fun _=>⟨rfl,adg _⟩⟩
theorem QT (d:Dt):jZ d:=by
 refine⟨fun h=>⟨Fj (uF h),fun h2=>?_⟩,fun h=>?_⟩
 ·obtain⟨ds,rfl,e⟩:=BJ (uF h)
  have h2:=QE (uF h2)
  rw[e] at h2
  match ds,h2 with
  |[x,a,b,c],_=>exact⟨⟨in_of (by decide) (by simp),in_of (by decide) (by simp)⟩,agl a b⟩
 ·rw[kL,kL] at h
  obtain⟨ds,rfl,e⟩:=BJ (uF h.1)
  have h2:=QE (uF h.2.1)
  rw[e] at h2
  match ds,h2 with
  |[x,a,b,c],_=>exact⟨⟨in_of (by decide) (by simp),Il x _ _⟩,fun _=>⟨in_of (by decide) (by simp),Il c _ _⟩⟩
theorem Tw {d:Dt} (h:d9 d=true):∃ a b c,d=.tup [.str a,.str b,.int c]:=by
 cases ht:bJ d 3 with
 |false=>rw[ade ht] at h;cases h
 |true=>
  obtain⟨a,b,c,rfl⟩:=adb ht
  rw[aj6] at h
  unfold B3 at h
  rw[zv,zv,zv,zv] at h
  obtain⟨a',rfl⟩:=tu (Bb h.1)
  obtain⟨b',rfl⟩:=tu (Bb h.2.1)
  have:=oR h.2.2.2.1
  exact⟨a',b',qI c,by rw[this];rfl⟩
theorem NQ {d:Dt} (h:bY d=true):∃ x a b c,d=.tup [.int x,.str a,.str b,.int c]:=by
 cases ht:bJ d 4 with
 |false=>rw[adh ht] at h;cases h
 |true=>
  obtain⟨x,a,b,c,rfl⟩:=ah7 ht
  rw[aj7] at h
  unfold R4 B3 at h
  rw[zv,zv,zv,zv,zv] at h
  obtain⟨a',rfl⟩:=tu (Bb h.2.1)
  obtain⟨b',rfl⟩:=tu (Bb h.2.2.1)
  have e1:=oR h.2.2.2.2.1
  have hx:dU x=true:=by
   have:=h.1
   unfold jK at this
   exact ((zv _ _).mp this).1
  have e2:=oR hx
  exact⟨qI x,a',b',qI c,by rw[e1,e2];rfl⟩
abbrev allB (p:Dt->Bool) (ds:List Dt):Bool:=(ds.map p).all id
theorem uz {p:Dt->Bool} {ds:List Dt} (h:allB p ds=true):∀ d∈ds,p d=true:=fun d hd=>by
 have:=List.all_eq_true.mp h (p d) (List.mem_map_of_mem hd)
 exact this
theorem BK {p q:Dt->Bool} {ds:List Dt} (h:∀ d∈ds,p d=q d):allB p ds=allB q ds:=congrArg (fun l:List Bool=>l.all id) (ZO h)
theorem afv {β:Type} {p:β->Bool} {xs ys:List β}:((xs++ys).map p).all id=((xs.map p).all id&&(ys.map p).all id):=by rw[qv,List.all_append]
theorem xM {ns:List Dt} (h:allB bI ns=true):(.tup ns:Dt)=(eT eS) (p8 (.tup ns)):=by
 show Dt.tup ns=Dt.tup ((ns.map jg).map eS)
 rw[qh]
 congr 1
 exact (List.map_id' ns).symm.trans (ZO fun d hd=>Bw (uz h d hd))
theorem adk {ns:List Dt} (h:allB bI ns=true):∀ d∈ns,d=eS (jg d):=fun d hd=>Bw (uz h d hd)
theorem ah8 {xs:LS_} (h:xs.length<=60):sZ xs:=by
 refine⟨⟨⟨by omega,by omega⟩,by rw[uQ];omega⟩,fun z hz=>?_⟩
 obtain⟨k,hk,rfl⟩:=Bq hz
 exact⟨in_of (by omega) (by omega),in_of (by omega) (by omega)⟩
theorem ah9 {xs:List dM} (h:xs.length<=60):pQ xs:=by
 refine⟨⟨⟨by omega,by omega⟩,by rw[uQ];omega⟩,fun z hz=>?_⟩
 obtain⟨k,hk,rfl⟩:=Bq hz
 exact⟨in_of (by omega) (by omega),in_of (by omega) (by omega)⟩
theorem aia {xs:List kW} (h:xs.length<=60):pR xs:=by
 refine⟨⟨⟨by omega,by omega⟩,by rw[uQ];omega⟩,fun z hz=>?_⟩
 obtain⟨k,hk,rfl⟩:=Bq hz
 exact⟨in_of (by omega) (by omega),in_of (by omega) (by omega)⟩
theorem afw {ns:List Dt} (h:ns.length<=60):oN (.tup ns):=fun _=>⟨⟨⟨rfl,by show ns.length<=_;omega⟩,fun d _=>Xz d⟩,fun ha=>⟨xM ha,ah8 (by show (ns.map jg).length<=60;rw[zh];exact h)⟩⟩
def e12 (nm:LS_) (d:Dt):Bool:=decide (jg (iG d 1)∈nm)&&decide (jg (iG d 2)∈nm)
def e01 (nm:LS_) (d:Dt):Bool:=decide (jg (iG d 0)∈nm)&&decide (jg (iG d 1)∈nm)
theorem aaB {rs:List Dt} (nm:LS_) (h:rs.length<=60):j8 (.tup rs) nm:=by
 have l:(kE (.tup rs)).length<=100000:=by show rs.length<=_;omega
 refine⟨fun _=>⟨⟨rfl,l⟩,fun d _=>agm d⟩,fun h1=>?_⟩
 have ha:allB bY rs=true:=uF (Bool.or_eq_false_iff.mp h1).2
 refine⟨⟨⟨rfl,l⟩,fun d hd=>?_⟩,fun _=>⟨⟨⟨rfl,l⟩,fun d hd=>?_⟩,ah9 (by rw[zh];exact h)⟩⟩
 ·obtain⟨x,a,b,c,rfl⟩:=NQ (uz ha d hd)
  exact⟨⟨in_of (by decide) (by simp),rfl⟩,fun _=>⟨in_of (by decide) (by simp),rfl⟩⟩
 ·obtain⟨x,a,b,c,rfl⟩:=NQ (uz ha d hd)
  rfl
theorem afx {bs:List Dt} (h:allB d9 bs=true):(.tup bs:Dt)=(eT iI) (acU (.tup bs)):=by
 show Dt.tup bs=Dt.tup ((bs.map Fq).map iI)
 rw[qh]
 congr 1
 refine (List.map_id' bs).symm.trans (ZO fun d hd=>?_)
 obtain⟨a,b,c,rfl⟩:=Tw (uz h d hd)
 rfl
theorem aib {bs:List Dt} (nm:LS_) (h:bs.length<=60):qF (.tup bs) nm:=by
 have l:(kE (.tup bs)).length<=100000:=by show bs.length<=_;omega
 refine⟨fun _=>⟨⟨rfl,l⟩,fun d _=>adg d⟩,fun h1=>?_⟩
 have ha:allB d9 bs=true:=uF (Bool.or_eq_false_iff.mp h1).2
 refine⟨⟨⟨rfl,l⟩,fun d hd=>?_⟩,fun _=>⟨afx ha,aia (by show (bs.map Fq).length<=60;rw[zh];exact h)⟩⟩
 obtain⟨a,b,c,rfl⟩:=Tw (uz ha d hd)
 exact⟨⟨in_of (by decide) (by simp),rfl⟩,fun _=>⟨in_of (by decide) (by simp),rfl⟩⟩
theorem XF {d:Dt} (h:is_tuple d=false):oN d:=fun z=>by rw[h] at z;cases z
theorem Tz {d:Dt} (nm:LS_) (h:is_tuple d=false):j8 d nm:=⟨fun z=>(by rw[h] at z;cases z),fun z=>(by rw[h] at z;cases z)⟩
theorem aaC {d:Dt} (nm:LS_) (h:is_tuple d=false):qF d nm:=⟨fun z=>(by rw[h] at z;cases z),fun z=>(by rw[h] at z;cases z)⟩
theorem adl {d:Dt} (h:Gj 60 1000000000 d=true):oN d:=by
 cases ht:is_tuple d with
 |false=>exact XF ht
 |true=>obtain⟨ds,rfl⟩:=dX ht;exact afw (mQ.mp h).1
theorem XH {d:Dt} (nm:LS_) (h:Gj 60 1000000000 d=true):j8 d nm:=by
 cases ht:is_tuple d with
 |false=>exact Tz nm ht
 |true=>obtain⟨ds,rfl⟩:=dX ht;exact aaB nm (mQ.mp h).1
theorem afy {d:Dt} (nm:LS_) (h:Gj 60 1000000000 d=true):qF d nm:=by
 cases ht:is_tuple d with
 |false=>exact aaC nm ht
 |true=>obtain⟨ds,rfl⟩:=dX ht;exact aib nm (mQ.mp h).1
theorem O7 {d:Dt} (h:gO d=true):is_tuple d=true/\allB bI (kE d)=true:=by
 unfold gO at h
 rw[zv,zv] at h
 exact⟨h.1,h.2.1⟩
theorem adn {d:Dt} (h:Gj 60 1000000000 d=true):vQ d:=by
 refine⟨Tr d 3,fun h1=>?_⟩
 obtain⟨a,b,c,rfl⟩:=adb (uF h1)
 have ho:=(mQ.mp h).2
 refine⟨rfl,adl (ho a (by simp)),fun ha=>?_⟩
 obtain⟨t,n⟩:=O7 ha
 have ea:a=(eT eS) (p8 a):=by
  obtain⟨ns,rfl⟩:=dX t
  exact xM n
 exact⟨⟨ea,XH _ (ho b (by simp))⟩,fun _=>⟨ea,afy _ (ho c (by simp))⟩⟩
def pl (d:Dt):dM:=Fp (Dt.tup (dI (Dt.tup [(eI ((0:Int) - (qI (iG d (0:Int)))))])++dI (Dt.tup (cut (dI d) (some (1:Int)) none))))
theorem aj9 {rs:List Dt} (h:allB bY rs=true):rs.map pl=rs.map fun d=>nT (Fp d):=ZO fun d hd=>by
 obtain⟨x,a,b,c,rfl⟩:=NQ (uz h d hd)
 show (0 - x,a,b,c)=(-x,a,b,c)
 rw[Int.zero_sub]
def en1 (d:Dt):Dt:=Dt.tup (cut (dI d) (some (1:Int)) (some (3:Int)))
def en2 (d:Dt):Dt:=Dt.tup (cut (dI d) none (some (2:Int)))
theorem afz {rs bs:List Dt} (nm:LS_) (h1:allB bY rs=true) (h2:allB d9 bs=true):((rs.map en1++bs.map en2).map (e01 nm)).all id=(allB (e12 nm) rs&&allB (e01 nm) bs):=by
 rw[afv,qh,qh]
 refine congr (congrArg _ ?_) ?_
 ·refine congrArg (fun l:List Bool=>l.all id) (ZO fun d hd=>?_)
  obtain⟨x,a,b,c,rfl⟩:=NQ (uz h1 d hd)
  rfl
 ·refine congrArg (fun l:List Bool=>l.all id) (ZO fun d hd=>?_)
  obtain⟨a,b,c,rfl⟩:=Tw (uz h2 d hd)
  rfl
theorem akb (v:Dt) {ns rs bs:List Dt}:iD v (.tup ns) (.tup rs) (.tup bs)=(if ((!(allB cD ns))||(!(mG (ns.map jg))))=true then false else if ((!(allB bR rs))||(!(allB dN bs)))=true then false else if ((!(iB (rs.map pl)))||(!(jC (bs.map Fq))))=true then false else ((rs.map en1++bs.map en2).map (e01 (ns.map jg))).all id):=rfl
theorem YT (a b c:Dt):jf (.tup [a,b,c])=(gO a&&(gP b (p8 a)&&nU c (p8 a))):=rfl
theorem aic (v:Dt) {ns rs bs:List Dt} (h1:∀ d∈rs,Gj 60 1000000000 d=true) (h2:∀ d∈bs,Gj 60 1000000000 d=true):jf (.tup [.tup ns,.tup rs,.tup bs])=iD v (.tup ns) (.tup rs) (.tup bs):=by
 have n1:allB cD ns=allB bI ns:=BK fun d _=>oO d
 have n2:mG (ns.map jg)=z8 Oi (ns.map jg):=ajG _
 have r1:allB bR rs=allB bY rs:=BK fun d hd=>(Tv (h1 d hd)).symm
 have b1:allB dN bs=allB d9 bs:=BK fun d hd=>(Tt (h2 d hd)).symm
 have r3:iB (rs.map pl)=z8 (Xd dw) (rs.map pl):=agh _
 have b3:jC (bs.map Fq)=z8 (Xd iI) (bs.map Fq):=agh _
 rw[akb,n1,n2,r1,b1,r3,b3,YT]
 have ga:gO (.tup ns)=(allB bI ns&&z8 Oi (ns.map jg)):=rfl
 have gr:gP (.tup rs) (p8 (.tup ns))=(if (!(allB bY rs))=true then false else if (!(allB (e12 (ns.map jg)) rs))=true then false else z8 (Xd dw) (rs.map fun d=>nT (Fp d))):=rfl
 have gb:nU (.tup bs) (p8 (.tup ns))=(if (!(allB d9 bs))=true then false else (allB (e01 (ns.map jg)) bs&&z8 (Xd iI) (bs.map Fq))):=rfl
 rw[ga,gr,gb]
 cases hn:allB bI ns with
 |false=>rfl
 |true=>cases hc:z8 Oi (ns.map jg) with
  |false=>rfl
  |true=>cases hr:allB bY rs with
   |false=>rfl
   |true=>cases hb:allB d9 bs with
    |false=>
     show (true&&(_&&false))=false
     rw[jv];rfl
    |true=>
     rw[afz _ hr hb,aj9 hr]
     cases allB (e12 (ns.map jg)) rs<;>cases z8 (Xd dw) (rs.map fun d=>nT (Fp d))<;>cases allB (e01 (ns.map jg)) bs<;>cases z8 (Xd iI) (bs.map Fq)<;>rfl
theorem aoP (v:Dt) {ns rs bs:List Dt} (l1:ns.length<=60) (l2:rs.length<=60) (l3:bs.length<=60) (o1:∀ d∈rs,Gj 60 1000000000 d=true) (o2:∀ d∈bs,Gj 60 1000000000 d=true):nW v (.tup ns) (.tup rs) (.tup bs):=by
 have s1:mY (.tup ns)=true/\(kE (.tup ns)).length<=100000:=⟨rfl,by show ns.length<=_;omega⟩
 have s2:mY (.tup rs)=true/\(kE (.tup rs)).length<=100000:=⟨rfl,by show rs.length<=_;omega⟩
 have s3:mY (.tup bs)=true/\(kE (.tup bs)).length<=100000:=⟨rfl,by show bs.length<=_;omega⟩
 have nx:allB cD ns=allB bI ns:=BK fun d _=>oO d
 refine⟨⟨⟨s1,fun d _=>Du d⟩,fun h=>⟨⟨rfl,adk (ns:=ns) (by rw[<-nx];exact uF h)⟩,by show (ns.map jg).length < 64;rw[zh];omega,fun _=>by show (ns.map jg).length < 4000;rw[zh];omega⟩⟩,fun h0=>?_⟩
 have hn:allB bI ns=true:=by rw[<-nx];exact uF (Bool.or_eq_false_iff.mp h0).1
 refine⟨⟨⟨s2,fun d _=>QT d⟩,fun _=>⟨s3,fun d _=>QS d⟩⟩,fun h1=>?_⟩
 obtain⟨hr,hb⟩:=Bool.or_eq_false_iff.mp h1
 have hr:allB bY rs=true:=by rw[BK fun d hd=>Tv (o1 d hd)];exact uF hr
 have hb:allB d9 bs=true:=by rw[BK fun d hd=>Tt (o2 d hd)];exact uF hb
 have pr:∀ d∈rs,∃ x a b c,d=.tup [.int x,.str a,.str b,.int c]:=fun d hd=>NQ (uz hr d hd)
 have pb:∀ d∈bs,∃ a b c,d=.tup [.str a,.str b,.int c]:=fun d hd=>Tw (uz hb d hd)
 have ll:(rs.map pl).length<=60:=by rw[zh];exact l2
 have lb:(bs.map Fq).length<=60:=by rw[zh];exact l3
 refine⟨⟨⟨⟨s2,fun d hd=>?_⟩,?_⟩,fun _=>⟨⟨rfl,fun d hd=>?_⟩,?_⟩⟩,fun _=>⟨⟨⟨⟨s2,fun d hd=>?_⟩,s3,fun d hd=>?_⟩,?_⟩,?_,fun e he=>?_⟩⟩
 ·obtain⟨x,a,b,c,rfl⟩:=pr d hd
  exact⟨⟨⟨⟨in_of (by decide) (by simp),rfl⟩,rfl⟩,rfl,rfl,by show (1:Nat)+3<=_;exact dj (by decide)⟩,rfl⟩
 ·exact⟨Kk ll (by decide),fun _=>zw ll (by decide)⟩
 ·obtain⟨a,b,c,rfl⟩:=pb d hd
  rfl
 ·exact⟨Kk lb (by decide),fun _=>zw lb (by decide)⟩
 ·obtain⟨x,a,b,c,rfl⟩:=pr d hd;rfl
 ·obtain⟨a,b,c,rfl⟩:=pb d hd;rfl
 ·exact dj (by show (rs.map _).length+(bs.map _).length<=1000;rw[zh,zh];omega)
 ·show (rs.map en1++bs.map en2).length<=100000
  rw[Zp,zh,zh];omega
 ·have he:e∈rs.map en1++bs.map en2:=he
  rcases List.mem_append.mp he with he|he
  ·obtain⟨d,hd,rfl⟩:=List.mem_map.mp he
   obtain⟨x,a,b,c,rfl⟩:=pr d hd
   exact⟨⟨⟨in_of (n:=2) (by decide) (by decide),rfl⟩,xM hn⟩,fun _=>⟨⟨in_of (n:=2) (by decide) (by decide),rfl⟩,xM hn⟩⟩
  ·obtain⟨d,hd,rfl⟩:=List.mem_map.mp he
   obtain⟨a,b,c,rfl⟩:=pb d hd
   exact⟨⟨⟨in_of (n:=2) (by decide) (by decide),rfl⟩,xM hn⟩,fun _=>⟨⟨in_of (n:=2) (by decide) (by decide),rfl⟩,xM hn⟩⟩
theorem aie (a b c:Dt):iQ (.tup [a,b,c])=(if (!(is_tuple a&&(is_tuple b&&(is_tuple c&&true))))=true then false else iD (.tup [a,b,c]) a b c):=rfl
theorem XJ {d:Dt} (h:Gj 60 1000000000 d=true):nC d/\jf d=iQ d:=by
 cases ht:bJ d 3 with
 |false=>
  have e1:jf d=false:=by unfold jf;rw[ht];rfl
  have e2:((!(is_tuple d))||((!decide ((rz d)=(3:Int)))||(!(((kE d).map fun vae:Dt=>(is_tuple vae)).all id))))=true:=by
   unfold bJ at ht
   cases h1:is_tuple d with
   |false=>rfl
   |true=>rw[h1,ko] at ht;rw[ht];rfl
  refine⟨⟨fun h1=>⟨Fj (uF h1),fun _=>⟨Fj (uF h1),?_⟩⟩,fun z=>by rw[e2] at z;cases z⟩,?_⟩
  ·obtain⟨ds,rfl⟩:=dX (uF h1)
   have:=(mQ.mp h).1
   show ds.length<=_
   omega
  ·rw[e1]
   exact (zo e2).symm
 |true=>
  obtain⟨a,b,c,rfl⟩:=adb ht
  have ho:=(mQ.mp h).2
  have oa:=ho a (by simp)
  have ob:=ho b (by simp)
  have oc:=ho c (by simp)
  refine⟨⟨fun _=>⟨rfl,fun _=>⟨rfl,by show (3:Nat)<=_;decide⟩⟩,fun z=>⟨rfl,?_⟩⟩,?_⟩
  ·have z:(!(is_tuple a&&(is_tuple b&&(is_tuple c&&true))))=false:=z
   have z:=uF z
   rw[zv,zv,zv] at z
   obtain⟨ns,rfl⟩:=dX z.1
   obtain⟨rs,rfl⟩:=dX z.2.1
   obtain⟨bs,rfl⟩:=dX z.2.2.1
   exact aoP _ (mQ.mp oa).1 (mQ.mp ob).1 (mQ.mp oc).1 (mQ.mp ob).2 (mQ.mp oc).2
  ·rw[aie]
   cases ha:is_tuple a with
   |false=>
    have:gO a=false:=by unfold gO;rw[ha];rfl
    rw[YT,this];rfl
   |true=>cases hb:is_tuple b with
    |false=>
     have:gP b (p8 a)=false:=by unfold gP;rw[hb];rfl
     rw[YT,this,kb,jv];rfl
    |true=>cases hc:is_tuple c with
     |false=>
      have:nU c (p8 a)=false:=by unfold nU;rw[hc];rfl
      rw[YT,this,jv,jv];rfl
     |true=>
      obtain⟨ns,rfl⟩:=dX ha
      obtain⟨rs,rfl⟩:=dX hb
      obtain⟨bs,rfl⟩:=dX hc
      exact aic _ (mQ.mp ob).2 (mQ.mp oc).2
theorem NT {d:Dt} (h:Gj 60 1000000000 d=true):Gh () d/\uy () d=.nx ():=by
 obtain⟨g1,g2⟩:=XJ h
 refine⟨⟨⟨agm d,adg d,adn h⟩,⟨QT d,QS d,g1⟩,fun _=>by show (3:Nat)<=_;decide⟩,?_⟩
 unfold uy
 dsimp only
 rw[Tv h,Tt h,g2,Q1 rfl]
 rfl
theorem aif {xs:LS_} {i:Int} {n:Nat} (hi:In xs.length i) (h:∀ x∈xs,x.length<=n):(at' xs i).length<=n:=h _ (pq hi)
theorem aaD (x:Str) (p q:Int) (h:x.length<=20):sY x p q/\(pN x p q).length<=50:=by
 have hm:In 2 (q / 3 % 2):=mO (by decide) (by decide)
 have h36:at' [(36:Int),94] (q / 3 % 2)=36\/at' [(36:Int),94] (q / 3 % 2)=94:=by
  have:=pq (xs:=[(36:Int),94]) hm
  simpa using this
 have hs:=fun l u=>zw (slice_le x l u) h
 have hl:∀ l u l' u':Option Int,∀ s:Str,s.length=1->(Txt.slice x l u).length+s.length<=50/\((Txt.slice x l u)++s).length+(Txt.slice x l' u').length<=50/\(Txt.slice x l u).length+(Txt.slice x l' u').length<=50:=fun l u l' u' s e=>by
  have:=hs l u;have:=hs l' u'
  rw[iR,e];omega
 have fit:∀ n,n<=50->p7 n:=fun n h=>zw h (by decide)
 refine⟨⟨(by unfold p7;decide +kernel),⟨⟨hm,by rcases h36 with e|e<;>rw[e]<;>decide⟩,?_⟩,by omega,⟨⟨fit _ (hl _ _ none none _ (nH _ _)).1,fit _ (hl _ _ _ _ _ (nH _ _)).2.1⟩,⟨fit _ (hl _ _ none none _ (nH _ _)).1,fit _ (hl _ _ _ _ _ (nH _ _)).2.1⟩,fit _ (hl _ _ _ _ _ (nH x 0)).2.2⟩,mO (by decide) (ka 3)⟩,?_⟩
 ·have e:((("abcdefghijklmnopqrstuvwxyz0123456789 ABCDEFGHIJKLMNOPQRSTUVWXYZ" : Str)++("!#$&'()*+,-./:;<=>?\x40[]^_`{|}~\"\\" : Str)).length)=94:=by decide +kernel
  rw[e]
  rcases h36 with e|e<;>rw[e]<;>exact mO (by decide) (by decide)
 ·refine aif (mO (by decide) (ka 3)) ?_
  simp only[List.forall_mem_cons,Z3,false_implies,implies_true,and_true]
  refine⟨?_,?_,?_⟩
  ·rw[iR];exact (hl _ _ _ _ _ (nH _ _)).2.1
  ·rw[iR];exact (hl _ _ _ _ _ (nH _ _)).2.1
  ·rw[iR];exact (hl _ _ _ _ _ (nH x 0)).2.2
theorem afA (ds:List Dt):EqX (.tup ds) (.tup []):=⟨by cases ds<;>rfl,zw (Nat.min_le_right _ _) (by decide)⟩
theorem afB (ds:List Dt):eqX (.tup ds) (.tup [])=ds.isEmpty:=by cases ds<;>rfl
theorem TF {ds:List Dt} {i:Int} (h:In ds.length i):iG (.tup ds) i∈ds:=by
 obtain⟨d,hd⟩:=xT h
 have e:iG (.tup ds) i=d:=by
  unfold iG
  simp only[eU,vU,bnd,hd]
 rw[e]
 unfold N5 at hd
 obtain⟨j,_,hd⟩:=bind_some hd
 exact QP hd
abbrev uG (d:Dt):Prop:=Gj 60 1000000000 d=true
theorem NZ {d:Dt} (h:vX d=true):uG d:=acT (by decide) (by decide) h
theorem rD {ds:List Dt} (h1:ds.length<=60) (h2:∀ d∈ds,uG d):uG (.tup ds):=mQ.mpr ⟨h1,h2⟩
abbrev od1:List Dt:=ah1
abbrev od2:List Dt:=afu
theorem aii:(od1++od2).length=23:=rfl
theorem afC:∀ d∈od1++od2,uG d:=by
 have:Sd 60 1000000000 (od1++od2)=true:=by decide +kernel
 exact Fo.mp this
theorem Wd (y:Int):In (od1++od2).length (y % 23):=by rw[aii];exact mO (by decide) (ka 23)
theorem YW (y:Int):uG (at' (od1++od2) (y % 23)):=afC _ (pq (Wd y))
theorem XM:p7 (od1.length+od2.length):=dj (by decide)
theorem ado (n:Nat) (x:Str) (hx:x.length<=20) (xs:List Int) (hl:3<=xs.length) (deep:Int):cX (n+1) (.str x) xs deep/\uG (bA (n+1) (.str x) xs deep):=by
 have i0:In xs.length 0:=in_of (by decide) (by omega)
 have i1:In xs.length 1:=in_of (by decide) (by omega)
 have i2:In xs.length 2:=in_of (by decide) (by omega)
 have sg:=aaD x (at' xs 1) (at' xs 2) hx
 constructor
 ·exact⟨i0,fun _=>⟨⟨rfl,i1,i2⟩,sg.1⟩,fun _=>⟨fun h=>(by cases h),fun _=>⟨XM,fun h=>(by cases h),fun _=>Wd _,fun h=>(by cases h)⟩⟩⟩
 ·have e:bA (n+1) (.str x) xs deep=if (decide (at' xs 0 % 3=1))=true then .str (pN x (at' xs 1) (at' xs 2)) else at' (od1++od2) (at' xs 0 / 3 % 23):=rfl
  rw[e]
  split
  ·show Gj _ _ _=true
   rw[Gj,zS]
   exact zw sg.2 (by decide)
  ·exact YW _
theorem adp (n:Nat) (x:Int) (hx:x<=1000000) (xs:List Int) (hl:3<=xs.length) (deep:Int):cX (n+1) (.int x) xs deep/\uG (bA (n+1) (.int x) xs deep):=by
 have i0:In xs.length 0:=in_of (by decide) (by omega)
 have i2:In 2 (at' xs 0 / 3 % 2):=mO (by decide) (by decide)
 constructor
 ·exact⟨i0,fun h=>(by cases h),fun _=>⟨fun _=>⟨rfl,i2⟩,fun _=>⟨XM,fun h=>(by cases h),fun _=>Wd _,fun h=>(by cases h)⟩⟩⟩
 ·have e:bA (n+1) (.int x) xs deep=if (decide (at' xs 0 % 3=1))=true then .int (x+at' [(1:Int),0 - 1] (at' xs 0 / 3 % 2)) else at' (od1++od2) (at' xs 0 / 3 % 23):=rfl
  rw[e]
  split
  ·show Gj _ _ _=true
   rw[Gj,zS]
   have:=pq (xs:=[(1:Int),0 - 1]) i2
   simp only[ZY,Z3,or_false] at this
   omega
  ·exact YW _
theorem adq (n:Nat) (ds:List Dt) (hd:ds.length<=20) (hs:∀ e∈ds,vX e=true) (xs:List Int) (hl:3<=xs.length) (deep:Int) (ih:0 < deep->∀ e∈ds,cX n e (xs.drop 1) (deep - 1)/\uG (bA n e (xs.drop 1) (deep - 1))):cX (n+1) (.tup ds) xs deep/\uG (bA (n+1) (.tup ds) xs deep):=by
 have i0:In xs.length 0:=in_of (by decide) (by omega)
 have c:∀ l u,(cut ds l u).length<=20:=fun l u=>zw (YB ds l u) hd
 have f1:∀ l u (d:Dt),p7 ((cut ds l u).length+[d].length):=fun l u d=>dj (by have:=c l u;simp;omega)
 have f2:∀ l u (d:Dt) l' u',p7 ((cut ds l u++[d]).length+(cut ds l' u').length):=fun l u d l' u'=>dj (by have:=c l u;have:=c l' u';simp;omega)
 have f3:∀ l u l' u',p7 ((cut ds l u).length+(cut ds l' u').length):=fun l u l' u'=>dj (by have:=c l u;have:=c l' u';omega)
 have f4:∀ d:Dt,p7 (ds.length+[d].length):=fun d=>dj (by simp;omega)
 have c1:cut xs (some 1) none=xs.drop 1:=Vi (k:=1) (by omega)
 have s60:∀ e∈ds,uG e:=fun e he=>NZ (hs e he)
 have mc:∀ {l u e},e∈cut ds l u->uG e:=fun h=>s60 _ (afo h)
 have hp:(false||eqX (.tup ds) (.tup []))=false->0 < ds.length:=fun h=>by
  rw[afB,KL] at h
  cases ds with
  |nil=>cases h
  |cons a b=>simp
 constructor
 ·refine⟨i0,fun h=>(by cases h),fun _=>⟨fun h=>(by cases h),fun _=>⟨XM,fun _=>afA ds,fun _=>Wd _,fun h=>?_⟩⟩⟩
  have h1:=hp h
  have h1':(0:Int) < (ds.length:Int):=by omega
  have hi:∀ y:Int,In ds.length (y % (ds.length:Int)):=fun y=>mO h1' (ka _)
  refine⟨⟨rfl,h1'⟩,fun h2=>?_,fun _=>⟨fun _=>⟨Wd _,rfl,rfl,f4 _⟩,fun h5=>⟨⟨⟨⟨rfl,rfl⟩,rfl,rfl,f3 _ _ _ _⟩,⟨⟨⟨⟨rfl,hi _⟩,rfl,rfl,f1 _ _ _⟩,rfl⟩,rfl,rfl,f2 _ _ _ _ _⟩,rfl,rfl⟩,⟨rfl,dj (zb rfl)⟩,?_⟩⟩⟩
  ·simp only[zv,zS] at h2
   refine⟨⟨⟨⟨rfl,hi _,?_⟩,rfl,rfl,f1 _ _ _⟩,rfl⟩,rfl,rfl,f2 _ _ _ _ _⟩
   rw[c1]
   exact (ih h2.1 _ (TF (hi _))).1
  ·have h5:at' xs 0 / 64 % 6≠5:=of_decide_eq_false h5
   have:=tY (at' xs 0 / 64) (m:=6) (by decide)
   show In 5 (at' xs 0 / 64 % 6)
   exact in_of this.1 (by omega)
 ·have e:bA (n+1) (.tup ds) xs deep=if (false||eqX (.tup ds) (.tup []))=true then at' (od1++od2) (at' xs 0 / 3 % 23) else
    if ((decide (0 < deep))&&(decide (0 < at' xs 0 % 8)))=true then .tup ((cut ds none (some (at' xs 0 / 8 % (ds.length:Int)))++[bA n (iG (.tup ds) (at' xs 0 / 8 % (ds.length:Int))) (cut xs (some 1) none) (deep - 1)])++cut ds (some (at' xs 0 / 8 % (ds.length:Int)+1)) none)
    else if (decide (at' xs 0 / 64 % 6=5))=true then .tup (ds++[at' (od1++od2) (at' xs 0 / 512 % 23)])
    else at' ([.tup (cut ds none (some (at' xs 0 / 8 % (ds.length:Int)))++cut ds (some (at' xs 0 / 8 % (ds.length:Int)+1)) none),.tup ((cut ds none (some (at' xs 0 / 8 % (ds.length:Int)))++[iG (.tup ds) (at' xs 0 / 8 % (ds.length:Int))])++cut ds (some (at' xs 0 / 8 % (ds.length:Int))) none),.tup ds.reverse,(eL eD) ds]++[.tup (cut ds (some 1) none)]) (at' xs 0 / 64 % 6):=rfl
  rw[e]
  split
  ·exact YW _
  rename_i h
  have h1:=hp (by simpa using h)
  have h1':(0:Int) < (ds.length:Int):=by omega
  have hi:∀ y:Int,In ds.length (y % (ds.length:Int)):=fun y=>mO h1' (ka _)
  split
  ·rename_i h2
   simp only[zv,zS] at h2
   have a1:=c none (some (at' xs 0 / 8 % (ds.length:Int)))
   have a2:=c (some (at' xs 0 / 8 % (ds.length:Int)+1)) none
   refine rD (by simp only[Zp,qi,List.length_nil];omega) fun e he=>?_
   rw[JY,JJ,JJ,List.mem_singleton] at he
   rcases he with he|rfl|he
   ·exact mc he
   ·rw[c1];exact (ih h2.1 _ (TF (hi _))).2
   ·exact mc he
  split
  ·refine rD (by simp;omega) fun e he=>?_
   rcases List.mem_append.mp he with he|he
   ·exact s60 e he
   ·cases List.mem_singleton.mp he;exact YW _
  ·rename_i h5
   have h5:at' xs 0 / 64 % 6≠5:=fun z=>h5 (Q1 z)
   have m6:=tY (at' xs 0 / 64) (m:=6) (by decide)
   have i5:∀ (a b c d e:Dt),In ([a,b,c,d]++[e]).length (at' xs 0 / 64 % 6):=fun a b c d e=>in_of (n:=5) m6.1 (by omega)
   generalize hv:at' xs 0 / 8 % (ds.length:Int)=v9 at *
   have hm:=pq (i5 (.tup (cut ds none (some v9)++cut ds (some (v9+1)) none)) (.tup ((cut ds none (some v9)++[iG (.tup ds) v9])++cut ds (some v9) none)) (.tup ds.reverse) ((eL eD) ds) (.tup (cut ds (some 1) none)))
   have a1:=c none (some v9)
   have a2:=c (some (v9+1)) none
   have a3:=c (some v9) none
   have a4:=c (some 1) none
   generalize at' ([Dt.tup (cut ds none (some v9)++cut ds (some (v9+1)) none),.tup ((cut ds none (some v9)++[iG (.tup ds) v9])++cut ds (some v9) none),.tup ds.reverse,(eL eD) ds]++[.tup (cut ds (some 1) none)]) (at' xs 0 / 64 % 6)=R at hm ⊢
   simp only[List.cons_append,List.nil_append,ZY,Z3,or_false] at hm
   rcases hm with e|e|e|e|e<;>rw[e]
   ·refine rD (by simp only[Zp];omega) fun e he=>?_
    rcases List.mem_append.mp he with he|he<;>exact mc he
   ·refine rD (by simp only[Zp,qi,List.length_nil];omega) fun e he=>?_
    rw[JY,JJ,JJ,List.mem_singleton] at he
    rcases he with he|rfl|he
    ·exact mc he
    ·exact s60 _ (TF (by rw[<-hv];exact hi _))
    ·exact mc he
   ·exact rD (by rw[List.length_reverse];omega) fun e he=>s60 e (List.mem_reverse.mp he)
   ·rfl
   ·exact rD (by omega) fun e he=>mc he
theorem XQ:∀ (n:Nat) (d:Dt),vX d=true->∀ (xs:List Int),n+3<=xs.length->∀ deep:Int,deep<=n->cX (n+1) d xs deep/\uG (bA (n+1) d xs deep):=by
 intro n
 induction n with
 |zero=>
  intro d hd xs hl deep hdp
  cases d with
  |str x=>exact ado 0 x (by simpa only[vX,zS] using hd) xs (by omega) deep
  |int x=>exact adp 0 x (by simpa only[vX,zS] using hd) xs (by omega) deep
  |tup ds=>
   have:=Sg.mp hd
   exact adq 0 ds this.1 this.2 xs (by omega) deep fun h=>absurd h (by omega)
  |_=>cases hd
 |succ n ih=>
  intro d hd xs hl deep hdp
  cases d with
  |str x=>exact ado _ x (by simpa only[vX,zS] using hd) xs (by omega) deep
  |int x=>exact adp _ x (by simpa only[vX,zS] using hd) xs (by omega) deep
  |tup ds=>
   have:=Sg.mp hd
   exact adq _ ds this.1 this.2 xs (by omega) deep fun h e he=>ih e (this.2 e he) _ (by rw[kg];omega) _ (by omega)
  |_=>cases hd
theorem TJ {n:Nat} {a b:Int} (ha:0<=a/\a < n) (hb:0<=b/\b < n):In n (if b < a then b else a):=by split<;>exact in_of (by omega) (by omega)
theorem TQ {n:Nat} {a b:Int} (ha:0<=a/\a < n) (hb:0<=b/\b < n):In n (if b > a then b else a):=by split<;>exact in_of (by omega) (by omega)
theorem YX {many:Int} {n:Nat} (hn:n=many.toNat) {x y:Int} (h:(!decide (x % (if many > (1:Int) then many else (1:Int))=y % (if many > (1:Int) then many else (1:Int))))=true):(0<=x % (if many > (1:Int) then many else (1:Int))/\x % (if many > (1:Int) then many else (1:Int)) < n)/\(0<=y % (if many > (1:Int) then many else (1:Int))/\y % (if many > (1:Int) then many else (1:Int)) < n):=by
 by_cases e:many > 1
 ·rw[zo e] at h ⊢
  have h1:=tY x (m:=many) (by omega)
  have h2:=tY y (m:=many) (by omega)
  omega
 ·rw[zI e] at h
  simp at h
theorem Wf {many:Int}:0 < (if many > (1:Int) then many else (1:Int)):=by split<;>omega
def Rk (r:dM):Prop:=-1000<=r.1/\r.2.1.length<=12/\r.2.2.1.length<=12/\r.2.2.2<=10
def Bk (b:kW):Prop:=b.1.length<=12/\b.2.1.length<=12/\b.2.2<=10
theorem aaE (script:List Int) (at_ many:Int) (a0:0<=at_) (a1:at_<=500) (head:List Int) (hh:6<=head.length) (n_:LS_) (hn:n_.length=many.toNat) (hw:∀ n∈n_,n.length<=12) (k:Nat) (hk:k < 60) (told:List dM) (h:told.length<=k/\∀ r∈told,Rk r) :
  jX script at_ many head n_ told k/\(eF script at_ many head n_ told k).length<=k+1/\∀ r∈eF script at_ many head n_ told k,Rk r:=by
 obtain⟨n1,n2,n3⟩:=NK (bx script ((at_+(1:Int))+k)) 4 (by decide) (by decide)
 have n2:(aV (bx script ((at_+(1:Int))+k)) 4).length=4:=n2
 unfold jX eF
 dsimp only
 generalize aV (bx script ((at_+(1:Int))+k)) 4=xs at *
 have en:=fun x y=>YX (x:=x) (y:=y) hn
 have pm:=@Wf many
 generalize (if many > (1:Int) then many else (1:Int))=mm at *
 have ix:∀ i:Nat,i < 4->In xs.length (i:Int):=fun i hi=>acJ (by omega)
 have i3:∀ (a b c:Int),In [a,b,c].length (at' head 4 % 3):=fun a b c=>mO (by decide) (ka 3)
 refine⟨⟨⟨Tq _ _ (by omega) (by omega),n1⟩,⟨⟨ix 0 (by decide),pm⟩,ix 1 (by decide),pm⟩,⟨⟨⟨ix 2 (by decide),ix 2 (by decide),ix 2 (by decide)⟩,in_of (by decide) (by omega)⟩,mO (by decide) (ka 3)⟩,fun hne=>?_⟩,?_⟩
 ·have:=en _ _ hne
  exact⟨⟨TJ this.1 this.2,TQ this.1 this.2,ix 3 (by decide),mO (by decide) (by decide)⟩,dj (by omega)⟩
 ·split
  ·rename_i hne
   have:=en _ _ hne
   refine⟨by rw[Zp];show _+1<=_;omega,fun r hr=>?_⟩
   rcases List.mem_append.mp hr with hr|hr
   ·exact h.2 r hr
   ·cases List.mem_singleton.mp hr
    have w:=pq (i3 (1+at' xs 2 % 3) (1+at' xs 2 % 9) (1+at' xs 2 % 1000))
    have u:=pq (xs:=[(0:Int),2,10]) (i:=at' xs 3 % 3) (mO (by decide) (ka 3))
    simp only[ZY,Z3,or_false] at w u
    refine⟨?_,hw _ (pq (TJ this.1 this.2)),hw _ (pq (TQ this.1 this.2)),?_⟩
    ·show -1000<=0 - at' [1+at' xs 2 % 3,1+at' xs 2 % 9,1+at' xs 2 % 1000] (at' head 4 % 3)
     omega
    ·show at' [(0:Int),2,10] (at' xs 3 % 3)<=10
     omega
  ·exact⟨by omega,h.2⟩
theorem aaF (script:List Int) (at_ many:Int) (a0:0<=at_) (a1:at_<=500) (n_:LS_) (hn:n_.length=many.toNat) (hw:∀ n∈n_,n.length<=12) (k:Nat) (hk:k < 60) (shut:List kW) (h:shut.length<=k/\∀ b∈shut,Bk b) :
  jY script at_ many n_ shut k/\(eG script at_ many n_ shut k).length<=k+1/\∀ b∈eG script at_ many n_ shut k,Bk b:=by
 obtain⟨n1,n2,n3⟩:=NK (bx script ((at_+(1:Int))+k)) 8 (by decide) (by decide)
 have n2:(aV (bx script ((at_+(1:Int))+k)) 8).length=8:=n2
 unfold jY eG
 dsimp only
 generalize aV (bx script ((at_+(1:Int))+k)) 8=xs at *
 have en:=fun x y=>YX (x:=x) (y:=y) hn
 have pm:=@Wf many
 generalize (if many > (1:Int) then many else (1:Int))=mm at *
 have ix:∀ i:Nat,i < 8->In xs.length (i:Int):=fun i hi=>acJ (by omega)
 refine⟨⟨⟨Tq _ _ (by omega) (by omega),n1⟩,⟨⟨ix 5 (by decide),pm⟩,ix 6 (by decide),pm⟩,fun hne=>?_⟩,?_⟩
 ·have:=en _ _ hne
  exact⟨⟨TJ this.1 this.2,TQ this.1 this.2,ix 7 (by decide),mO (by decide) (by decide)⟩,dj (by omega)⟩
 ·split
  ·rename_i hne
   have:=en _ _ hne
   refine⟨by rw[Zp];show _+1<=_;omega,fun r hr=>?_⟩
   rcases List.mem_append.mp hr with hr|hr
   ·exact h.2 r hr
   ·cases List.mem_singleton.mp hr
    have u:=pq (xs:=[(2:Int),10]) (i:=at' xs 7 % 2) (mO (by decide) (ka 2))
    simp only[ZY,Z3,or_false] at u
    refine⟨hw _ (pq (TJ this.1 this.2)),hw _ (pq (TQ this.1 this.2)),?_⟩
    show at' [(2:Int),10] (at' xs 7 % 2)<=10
    omega
  ·exact⟨by omega,h.2⟩
theorem nD {s:Str} (h:s.length<=12):vX (.str s)=true:=by rw[vX,zS];omega
theorem TV {i:Int} (h:i<=1000):vX (.int i)=true:=by rw[vX,zS];omega
structure GO (g:cQ):Prop where
 n:g.1.length<=15
 nl:∀ n∈g.1,n.length<=12
 r:g.2.1.length<=15
 rl:∀ r∈g.2.1,vX (dw r)=true
 b:g.2.2.length<=15
 bl:∀ b∈g.2.2,vX (iI b)=true
theorem Wg {ds:List Dt} (h:ds.length<=15) (k:∀ d∈ds,vX d=true):vX (.tup ds)=true:=Sg.mpr ⟨by omega,k⟩
theorem YZ {a b c:Dt} (ha:vX a=true) (hb:vX b=true) (hc:vX c=true):vX (.tup [a,b,c])=true:=Wg (by simp) fun d hd=>by
 simp only[ZY,Z3,or_false] at hd
 rcases hd with rfl|rfl|rfl<;>assumption
theorem agn {a b c e:Dt} (ha:vX a=true) (hb:vX b=true) (hc:vX c=true) (he:vX e=true):vX (.tup [a,b,c,e])=true:=Wg (by simp) fun d hd=>by
 simp only[ZY,Z3,or_false] at hd
 rcases hd with rfl|rfl|rfl|rfl<;>assumption
theorem TX {α:Type} {e:α->Dt} {l:List α} (h:l.length<=15) (k:∀ x∈l,vX (e x)=true):vX (.tup (l.map e))=true:=Wg (by rw[zh];exact h) fun d hd=>by
 obtain⟨x,hx,rfl⟩:=List.mem_map.mp hd
 exact k x hx
theorem GO.p1 {g:cQ} (h:GO g):vX ((eT eS) g.1)=true:=TX h.n fun x hx=>nD (h.nl x hx)
theorem GO.p2 {g:cQ} (h:GO g):vX ((eT dw) g.2.1)=true:=TX h.r h.rl
theorem GO.p3 {g:cQ} (h:GO g):vX ((eT iI) g.2.2)=true:=TX h.b h.bl
theorem GO.p {g:cQ} (h:GO g):vX (fP g)=true:=YZ h.p1 h.p2 h.p3
theorem aaG (script:List Int) (at_ many reasons bars:Int) (a0:0<=at_) (a1:at_<=500) (m0:0<=many) (m1:many<=15) (r0:0<=reasons) (r1:reasons<=15) (b0:0<=bars) (b1:bars<=15):sX script at_ many reasons bars/\GO (pJ script at_ many reasons bars):=by
 obtain⟨n1,n2,n3⟩:=NK (bx script at_) 6 (by decide) (by decide)
 have n2:(aV (bx script at_) 6).length=6:=n2
 have key:∀ head:List Int,6<=head.length->rP script at_ many reasons bars head/\GO (rO script at_ many reasons bars head):=fun head hh=>by
  obtain⟨k1,k2,k3⟩:=ac9 head hh many m0 (by omega)
  have hn:(uK (je head many)).length=many.toNat:=by rw[(tQ _).length_eq,k2]
  have hw:∀ n∈uK (je head many),n.length<=12:=fun n h=>k3 n ((tQ _).mem_iff.mp h)
  have c8:∀ n_:LS_,n_.length=many.toNat->(∀ n∈n_,n.length<=12)->rN script at_ many reasons bars head n_/\GO (rM script at_ many reasons bars head n_):=fun n_ hn hw=>by
   obtain⟨t1,t2,t3⟩:=Fi (P:=fun f k=>some (jX script at_ many head n_ f k)) (step:=fun f k=>eF script at_ many head n_ f k) (fun k s=>s.length<=k/\∀ r∈s,Rk r) reasons.toNat [] ⟨zi 0,fun r h=>(by cases h)⟩ fun k s hk h=>aaE script at_ many a0 a1 head hh n_ hn hw k (by omega) s h
   obtain⟨s1,s2,s3⟩:=Fi (P:=fun f k=>some (jY script at_ many n_ f k)) (step:=fun f k=>eG script at_ many n_ f k) (fun k s=>s.length<=k/\∀ b∈s,Bk b) bars.toNat [] ⟨zi 0,fun r h=>(by cases h)⟩ fun k s hk h=>aaF script at_ many a0 a1 n_ hn hw k (by omega) s h
   have sl:=zw s2 (show bars.toNat<=15 by omega)
   have c6:∀ told:List dM,told.length<=reasons.toNat->(∀ r∈told,Rk r)->rK script at_ many reasons bars head n_ told/\GO (rJ script at_ many reasons bars head n_ told):=fun told tl tr=>by
    have dl:=Bp told
    have sp:=(qw (e:=eP4 eI eS eS eI) (Dy told)).length_eq
    refine⟨⟨⟨⟨by omega,by omega⟩,by rw[sp];omega⟩,⟨Vh b0 (by omega),s1⟩,zw sl (by decide),Kk sl (by decide)⟩,?_,hw,?_,?_,?_,?_⟩
    ·show n_.length<=15
     omega
    ·show (List.map _ _).length<=15
     rw[zh,sp];omega
    ·intro r hr
     obtain⟨q,hq,rfl⟩:=List.mem_map.mp (show r∈List.map _ _ from hr)
     obtain⟨q1,q2,q3,q4⟩:=tr q (rW.mp ((qw _).mem_iff.mp hq))
     exact agn (TV (by show 0 - q.1<=1000;omega)) (nD q2) (nD q3) (TV (by show q.2.2.2<=1000;omega))
    ·show (o9 _ _).length<=15
     rw[(qw _).length_eq]
     exact zw (Bp _) sl
    ·intro b hb
     obtain⟨q1,q2,q3⟩:=s3 b (rW.mp ((qw _).mem_iff.mp hb))
     exact YZ (nD q1) (nD q2) (TV (by show b.2.2<=1000;omega))
   have:=c6 _ t2 t3
   exact⟨⟨⟨Vh r0 (by omega),t1⟩,this.1⟩,this.2⟩
  have:=c8 _ hn hw
  exact⟨⟨⟨k1,by rw[k2];omega⟩,this.1⟩,this.2⟩
 have:=key _ (ke n2.symm)
 exact⟨⟨⟨Tq _ _ a0 (by omega),n1⟩,this.1⟩,this.2⟩
theorem Y0 {x:Str} {y:Str} (h:y∈chars x):y.length=1:=by
 rw[acR] at h
 obtain⟨c,_,rfl⟩:=List.mem_map.mp h
 rfl
theorem Y4:vX (.tup [])=true:=rfl
theorem Wh:pK/\(fG).length<=100/\∀ d∈fG,uG d:=by
 have l26:(chars LT).length=26:=by rw[wR,Ik]
 have ix:∀ v∈rng 0 (kN 25),In LT.length v/\In LT.length (v+1):=fun v hv=>by
  rw[acC] at hv
  obtain⟨k,hk,rfl⟩:=Bq hv
  rw[Ik]
  exact⟨in_of (by omega) (by omega),in_of (by omega) (by omega)⟩
 have r25:(rng 0 (kN 25)).length=25:=by rw[uQ,acC]
 have s1:∀ l u,(chars (Txt.slice LT l u)).length<=26:=fun l u=>by
  rw[wR];exact zw (slice_le _ _ _) (ke Ik)
 have one:∀ (c d:Str) , c.length<=12->vX (.str c)=true:=fun c d h=>nD h
 have e:fG=(((((chars LT).map fun vp:Str=>(Dt.tup [(Dt.tup [(eS vp)]),(Dt.tup []),(Dt.tup [])]))++((rng 0 (kN 25)).map fun v2:Int=>(Dt.tup [((.int 1):Dt),(eS (ch LT v2)),(eS (ch LT (v2+(1:Int)))),((.int 0):Dt)])))++((rng 0 (kN 25)).map fun v2:Int=>(Dt.tup [(eS ((ch LT v2)++("a" : Str))),(eS ((ch LT (v2+(1:Int)))++("z" : Str))),((.int 3):Dt)])))++[(Dt.tup [((eT eS) (chars (Txt.slice LT none (some (13:Int))))),(Dt.tup []),(Dt.tup [])]),(Dt.tup [((eT eS) (chars (Txt.slice LT (some (13:Int)) none))),(Dt.tup []),(Dt.tup [])])]):=rfl
 have la:∀ (i:Int) (z:Str),z.length=1->(ch LT i).length+z.length<=12:=fun i z h=>by rw[nH,h];decide
 have a1:("a" : Str).length=1:=by decide +kernel
 have z1:("z" : Str).length=1:=by decide +kernel
 have fs:∀ l u,uG ((eT eS) (chars (Txt.slice LT l u))):=fun l u=>rD (by rw[zh];exact zw (s1 l u) (by decide)) fun d hd=>by
  obtain⟨y,hy,rfl⟩:=List.mem_map.mp hd
  exact NZ (nD (by rw[Y0 hy];decide))
 have f3:∀ a b c:Dt,uG a->uG b->uG c->uG (.tup [a,b,c]):=fun a b c ha hb hc=>rD (by simp) fun d hd=>by
  simp only[ZY,Z3,or_false] at hd
  rcases hd with rfl|rfl|rfl<;>assumption
 refine⟨⟨by show (chars LT).length<=_;rw[l26];decide,⟨⟨by rw[r25];decide,fun v hv=>ix v hv⟩,?_⟩,⟨⟨by rw[r25];decide,fun v hv=>⟨⟨(ix v hv).1,dj (zw (la v _ a1) (by decide))⟩,(ix v hv).2,dj (zw (la (v+1) _ z1) (by decide))⟩⟩,?_⟩,?_⟩,?_,?_⟩
 ·refine dj ?_
  show (List.map _ (chars LT)).length+(List.map _ (rng 0 (kN 25))).length<=1000
  rw[zh,zh,l26,r25];decide
 ·refine dj ?_
  show (List.map _ (chars LT)++List.map _ (rng 0 (kN 25))).length+(List.map _ (rng 0 (kN 25))).length<=1000
  rw[Zp,zh,zh,zh,l26,r25];decide
 ·refine dj ?_
  show ((List.map _ (chars LT)++List.map _ (rng 0 (kN 25)))++List.map _ (rng 0 (kN 25))).length+2<=1000
  rw[Zp,Zp,zh,zh,zh,l26,r25];decide
 ·rw[e,Zp,Zp,Zp,zh,zh,zh,l26,r25];decide
 ·rw[e]
  intro d hd
  rcases List.mem_append.mp hd with hd|hd
  ·rcases List.mem_append.mp hd with hd|hd
   ·rcases List.mem_append.mp hd with hd|hd
    ·obtain⟨y,hy,rfl⟩:=List.mem_map.mp hd
     exact NZ (YZ (Wg (by simp) fun d hd=>by cases List.mem_singleton.mp hd;exact nD (by rw[Y0 hy];decide)) Y4 Y4)
    ·obtain⟨v,_,rfl⟩:=List.mem_map.mp hd
     exact NZ (agn rfl (nD (by rw[nH];decide)) (nD (by rw[nH];decide)) rfl)
   ·obtain⟨v,_,rfl⟩:=List.mem_map.mp hd
    exact NZ (YZ (nD (by rw[iR];exact la _ _ a1)) (nD (by rw[iR];exact la _ _ z1)) rfl)
  ·simp only[ZY,Z3,or_false] at hd
   rcases hd with rfl|rfl
   ·exact f3 _ _ _ (fs _ _) rfl rfl
   ·exact f3 _ _ _ (fs _ _) rfl rfl
abbrev Fl (n:Nat) (ds:List Dt):Prop:=ds.length<=n/\∀ d∈ds,uG d
theorem Fl.app {n m:Nat} {ds es:List Dt} (h:Fl n ds) (k:Fl m es):Fl (n+m) (ds++es):=⟨by rw[Zp];have:=h.1;have:=k.1;omega,fun d hd=>(List.mem_append.mp hd).elim (h.2 d) (k.2 d)⟩
theorem uH {es:List Dt} {n:Nat} (h1:es.length=n) (h:Sd 60 1000000000 es=true):Fl n es:=⟨ke h1,Fo.mp h⟩
theorem Fl.fit {n m:Nat} {ds es:List Dt} (h:Fl n ds) (he:es.length=m) (hn:n+m<=1000:=by decide):p7 (ds.length+es.length):=dj (by have:=h.1;omega)
theorem akc {v0 v1:List Int} {v8:cQ} {vo:List Dt} {vq:List Dt} {vn:List Dt} (h:∀ d∈vn,uG d):Nk v0 v1 v8 vn vo vq/\Gi v0 v1 v8 vn vo vq=true:=by
 obtain⟨f1,f2⟩:=Vg (P:=fun s1 vr=>some (Gh s1 vr)) (step:=fun s1 vr=>uy s1 vr) vn fun d hd=>⟨(NT (h d hd)).1,.inl (NT (h d hd)).2⟩
 refine⟨⟨f2,by rw[f1];trivial⟩,?_⟩
 unfold Gi
 rw[f1]
 rfl
theorem akd {vq:List Dt} (hq:0 < vq.length) (hq2:vq.length<=100) (hp:∀ d∈vq,vX d=true) (vn:List Dt) (hl:vn.length<=500) (c:Int):Ba vq vn c/\∃ d,uG d/\ux vq vn c=vn++[d]:=by
 obtain⟨n1,n2,n3⟩:=NK c 10 (by decide) (by decide)
 have n2:(aV c 10).length=10:=n2
 unfold Ba ux
 dsimp only
 generalize aV c 10=vd at *
 have hq':(0:Int) < (vq.length:Int):=by omega
 have m:=tY (at' vd 0) (m:=(vq.length:Int)) hq'
 have hm:In vq.length ((at' vd 0 % (vq.length:Int)) * (if (decide ((at' vd 1 % 2)=1))=true then (1:Int) else 0)):=by
  split
  ·rw[Int.mul_one];exact in_of m.1 m.2
  ·rw[Int.mul_zero];exact in_of (by decide) hq'
 have c2:cut vd (some 2) none=vd.drop 2:=Vi (k:=2) (by omega)
 have dp:=tY (at' vd 1 / 2) (m:=4) (by decide)
 have ck:=XQ 3 _ (hp _ (pq hm)) (cut vd (some 2) none) (by rw[c2,kg,n2];decide) (at' vd 1 / 2 % 4) (by omega)
 have i0:In vd.length 0:=in_of (by decide) (by omega)
 have i1:In vd.length 1:=in_of (by decide) (by omega)
 have mu:Mul (at' vd 0 % (vq.length:Int)) (if (decide ((at' vd 1 % 2)=1))=true then (1:Int) else 0):=acK m.1 (by have:=m.2;omega)
 exact⟨⟨n1,⟨⟨⟨⟨⟨⟨i0,hq'⟩,i1⟩,mu⟩,hm⟩,i1⟩,ck.1⟩,dj (by omega)⟩,_,ck.2,rfl⟩
section
variable {v0 v1:List Int} {v8:cQ} {vn vo vq:List Dt} {N:Nat}
theorem ake (hv:v0.length<=63) (hq:0 < vq.length) (hq2:vq.length<=100) (hp:∀ d∈vq,vX d=true) (h:Fl N vn) (hN:N<=400):Np v0 v1 v8 vn vo vq/\Nm v0 v1 v8 vn vo vq=true:=by
 have hc:=YB v0 (some 1) (some 30)
 have:=R7 (P:=fun vn v4=>some (Ba vq vn v4)) (step:=fun vn v4=>ux vq vn v4) (fun k (s:List Dt)=>s.length<=N+k/\∀ d∈s,uG d) (cut v0 (some 1) (some 30)) 0 vn ⟨h.1,h.2⟩ fun k x s e hs=>by
  have hk:=(List.getElem?_eq_some_iff.mp e).1
  obtain⟨b1,d,b2,b3⟩:=akd hq hq2 hp s (by omega) x
  refine⟨b1,?_⟩
  rw[b3]
  exact⟨by rw[Zp,List.length_singleton];omega,fun z hz=>(List.mem_append.mp hz).elim (hs.2 z) fun hz=>by cases List.mem_singleton.mp hz;exact b2⟩
 have c4:=akc (v0:=v0) (v1:=v1) (v8:=v8) (vo:=vo) (vq:=vq) this.2.2
 exact⟨⟨this.1,c4.1⟩,c4.2⟩
theorem akf (hv:v0.length<=63) (g:GO v8) (h:Fl N vn) (hN:N<=400):Nr v0 v1 v8 vn vo/\Nq v0 v1 v8 vn vo=true:=by
 have hr:=g.r
 have hb:=g.b
 have l:(([(fP v8)]++(v8.2.1.map dw))++(v8.2.2.map iI)).length=1+v8.2.1.length+v8.2.2.length:=by
  rw[Zp,Zp,zh,zh];rfl
 have k:=ake (v1:=v1) (v8:=v8) (vo:=vo) (vq:=([(fP v8)]++(v8.2.1.map dw))++(v8.2.2.map iI)) hv (by omega) (by omega) (fun d hd=>by
  rcases List.mem_append.mp hd with hd|hd
  ·rcases List.mem_append.mp hd with hd|hd
   ·cases List.mem_singleton.mp hd;exact g.p
   ·obtain⟨x,hx,rfl⟩:=List.mem_map.mp hd;exact g.rl x hx
  ·obtain⟨x,hx,rfl⟩:=List.mem_map.mp hd;exact g.bl x hx) h hN
 exact⟨⟨⟨dj (by rw[zh];show 1+_<=_;omega),dj (by rw[Zp,zh,zh];show 1+_+_<=_;omega)⟩,k.1⟩,k.2⟩
theorem ago (hv:v0.length<=63) (g:GO v8) (h:Fl N vn) (hN:N<=300):Nu v0 v1 v8 vn vo/\Nt v0 v1 v8 vn vo=true:=by
 obtain⟨l1,l2,l3⟩:=Wh
 have k:=akf (v1:=v1) (vo:=vo) hv g (Fl.app h ⟨l2,l3⟩) (by omega)
 exact⟨⟨⟨l1,dj (by have:=h.1;omega)⟩,k.1⟩,k.2⟩
theorem agp (hv:v0.length<=63) (g:GO v8) (h:Fl N vn) (hN:N<=290):Nx v0 v1 v8 vn vo/\Nv v0 v1 v8 vn vo=true:=⟨⟨dj (zw h.1 (by omega)),(ago hv g (Fl.app h (uH (n:=1) rfl (by decide +kernel))) (by omega)).1⟩,(ago hv g (Fl.app h (uH (n:=1) rfl (by decide +kernel))) (by omega)).2⟩
theorem akg (hv:v0.length<=63) (g:GO v8) (h:Fl N vn) (hN:N<=280):Nz v0 v1 v8 vn [(Dt.tup [((.str "a"):Dt),((.str "b"):Dt),((.int 2):Dt)]),(Dt.tup [((.str "a"):Dt),((.str "b"):Dt),((.int 10):Dt)]),(Dt.tup [((.str "a"):Dt),((.str "b"):Dt),((.int 100):Dt)])]/\Ny v0 v1 v8 vn [(Dt.tup [((.str "a"):Dt),((.str "b"):Dt),((.int 2):Dt)]),(Dt.tup [((.str "a"):Dt),((.str "b"):Dt),((.int 10):Dt)]),(Dt.tup [((.str "a"):Dt),((.str "b"):Dt),((.int 100):Dt)])]=true:=⟨⟨⟨⟨in_of (by decide) (by decide),in_of (by decide) (by decide)⟩,dj (zw (Q2 h.1 _) (by show N+3<=1000;omega))⟩,(agp hv g (Fl.app h (uH (n:=3) rfl (by decide +kernel))) (by omega)).1⟩,(agp hv g (Fl.app h (uH (n:=3) rfl (by decide +kernel))) (by omega)).2⟩
theorem adt (hv:v0.length<=63) (g:GO v8) (h:Fl N vn) (hN:N<=280):Ht v0 v1 v8 vn vo/\Hr v0 v1 v8 vn vo=true:=akg hv g h hN
theorem aij (hv:v0.length<=63) (g:GO v8) (h:Fl N vn) (hN:N<=270):Hv v0 v1 v8 vn [(Dt.tup [((.int 1):Dt),((.str "a"):Dt),((.str "b"):Dt),((.int 2):Dt)]),(Dt.tup [((.int 1):Dt),((.str "a"):Dt),((.str "b"):Dt),((.int 10):Dt)]),(Dt.tup [((.int 1):Dt),((.str "a"):Dt),((.str "b"):Dt),((.int 100):Dt)])]/\Hu v0 v1 v8 vn [(Dt.tup [((.int 1):Dt),((.str "a"):Dt),((.str "b"):Dt),((.int 2):Dt)]),(Dt.tup [((.int 1):Dt),((.str "a"):Dt),((.str "b"):Dt),((.int 10):Dt)]),(Dt.tup [((.int 1):Dt),((.str "a"):Dt),((.str "b"):Dt),((.int 100):Dt)])]=true:=⟨⟨⟨⟨in_of (by decide) (by decide),in_of (by decide) (by decide)⟩,dj (zw (Q2 h.1 _) (by show N+3<=1000;omega))⟩,(adt (vo:=[(Dt.tup [((.int 1):Dt),((.str "a"):Dt),((.str "b"):Dt),((.int 2):Dt)]),(Dt.tup [((.int 1):Dt),((.str "a"):Dt),((.str "b"):Dt),((.int 10):Dt)]),(Dt.tup [((.int 1):Dt),((.str "a"):Dt),((.str "b"):Dt),((.int 100):Dt)])]) hv g (Fl.app h (uH (n:=3) rfl (by decide +kernel))) (by omega)).1⟩,(adt (vo:=[(Dt.tup [((.int 1):Dt),((.str "a"):Dt),((.str "b"):Dt),((.int 2):Dt)]),(Dt.tup [((.int 1):Dt),((.str "a"):Dt),((.str "b"):Dt),((.int 10):Dt)]),(Dt.tup [((.int 1):Dt),((.str "a"):Dt),((.str "b"):Dt),((.int 100):Dt)])]) hv g (Fl.app h (uH (n:=3) rfl (by decide +kernel))) (by omega)).2⟩
theorem adu (hv:v0.length<=63) (g:GO v8) (h:Fl N vn) (hN:N<=270):Hx v0 v1 v8 vn/\Hw v0 v1 v8 vn=true:=aij hv g h hN
theorem adv (hv:v0.length<=63) (g:GO v8) (h:Fl N vn) (hN:N<=260):Hz v0 v1 v8 vn/\Hy v0 v1 v8 vn=true:=⟨⟨dj (zw h.1 (by omega)),(adu hv g (Fl.app h (uH (n:=1) rfl (by decide +kernel))) (by omega)).1⟩,(adu hv g (Fl.app h (uH (n:=1) rfl (by decide +kernel))) (by omega)).2⟩
theorem adw (hv:v0.length<=63) (g:GO v8) (h:Fl N vn) (hN:N<=250):HD v0 v1 v8 vn/\HB v0 v1 v8 vn=true:=⟨⟨dj (zw h.1 (by omega)),(adv hv g (Fl.app h (uH (n:=1) rfl (by decide +kernel))) (by omega)).1⟩,(adv hv g (Fl.app h (uH (n:=1) rfl (by decide +kernel))) (by omega)).2⟩
theorem adx (hv:v0.length<=63) (g:GO v8) (h:Fl N vn) (hN:N<=240):HJ v0 v1 v8 vn/\HF v0 v1 v8 vn=true:=⟨⟨dj (zw (Q2 h.1 _) (by show N+2<=1000;omega)),(adw hv g (Fl.app h (uH (n:=2) rfl (by decide +kernel))) (by omega)).1⟩,(adw hv g (Fl.app h (uH (n:=2) rfl (by decide +kernel))) (by omega)).2⟩
theorem ady (hv:v0.length<=63) (g:GO v8) (h:Fl N vn) (hN:N<=230):HS v0 v1 v8 vn/\HN v0 v1 v8 vn=true:=⟨⟨dj (zw h.1 (by omega)),(adx hv g (Fl.app h (uH (n:=1) rfl (by decide +kernel))) (by omega)).1⟩,(adx hv g (Fl.app h (uH (n:=1) rfl (by decide +kernel))) (by omega)).2⟩
theorem adz (hv:v0.length<=63) (g:GO v8) (h:Fl N vn) (hN:N<=220):HX v0 v1 v8 vn/\HW v0 v1 v8 vn=true:=⟨⟨dj (zw (Q2 h.1 _) (by show N+4<=1000;omega)),(ady hv g (Fl.app h (uH (n:=4) rfl (by decide +kernel))) (by omega)).1⟩,(ady hv g (Fl.app h (uH (n:=4) rfl (by decide +kernel))) (by omega)).2⟩
theorem adA (hv:v0.length<=63) (g:GO v8) (h:Fl N vn) (hN:N<=210):Ia v0 v1 v8 vn/\HY v0 v1 v8 vn=true:=⟨⟨dj (zw (Q2 h.1 _) (by show N+5<=1000;omega)),(adz hv g (Fl.app h (uH (n:=5) rfl (by decide +kernel))) (by omega)).1⟩,(adz hv g (Fl.app h (uH (n:=5) rfl (by decide +kernel))) (by omega)).2⟩
theorem adB (hv:v0.length<=63) (g:GO v8) (h:Fl N vn) (hN:N<=200):Ie v0 v1 v8 vn/\Ib v0 v1 v8 vn=true:=⟨⟨dj (zw (Q2 h.1 _) (by show N+5<=1000;omega)),(adA hv g (Fl.app h (uH (n:=5) rfl (by decide +kernel))) (by omega)).1⟩,(adA hv g (Fl.app h (uH (n:=5) rfl (by decide +kernel))) (by omega)).2⟩
theorem aik (hv:v0.length<=63) (g:GO v8) (h:Fl N vn) (hN:N<=190):Ih v0 v1 v8 vn/\Ig v0 v1 v8 vn=true:=⟨⟨dj (zw (Q2 h.1 _) (by show N+5<=1000;omega)),(adB hv g (Fl.app h (uH (n:=5) rfl (by decide +kernel))) (by omega)).1⟩,(adB hv g (Fl.app h (uH (n:=5) rfl (by decide +kernel))) (by omega)).2⟩
theorem ail (hv:v0.length<=63) (g:GO v8):Ij v0 v1 v8/\Ii v0 v1 v8=true:=by
 have h:Fl 12 [(fP v8),((eL eD) [(eT eS) v8.1,(eT dw) v8.2.1,(eT iI) v8.2.2]),(aft (v8.1,v8.2.1)),(Dt.tup [(Dt.tup []),(Dt.tup []),(Dt.tup [])]),(Dt.tup [(Dt.tup []),(Dt.tup [])]),(Dt.tup []),Dt.non,((.int 0):Dt),((.str "a"):Dt),((eL eI) []),Dt.emp,((.bl true):Dt)]:=by
  refine⟨zi _,?_⟩
  simp only[List.forall_mem_cons,Z3,false_implies,implies_true,and_true]
  refine⟨NZ g.p,rfl,NZ (Wg (by simp) fun d hd=>?_),by decide +kernel,by decide +kernel,by decide +kernel,rfl,by decide +kernel,by decide +kernel,rfl,rfl,rfl⟩
  simp only[ZY,Z3,or_false] at hd
  rcases hd with rfl|rfl
  ·exact g.p1
  ·exact g.p2
 exact aik hv g h (by decide)
theorem adC (ns:List Int) (hn:ns.length<=63):YS ns/\YQ ns=true:=by
 obtain⟨n1,n2,n3⟩:=NK (bx ns 0) 9 (by decide) (by decide)
 have n2:(aV (bx ns 0) 9).length=9:=n2
 have a:=tY (at' (aV (bx ns 0) 9) 6) (m:=7) (by decide)
 have b:=tY (at' (aV (bx ns 0) 9) 7) (m:=9) (by decide)
 have c:=tY (at' (aV (bx ns 0) 9) 8) (m:=5) (by decide)
 obtain⟨g1,g2⟩:=aaG ns 0 _ _ _ (by decide) (by decide) a.1 (by omega) b.1 (by omega) c.1 (by omega)
 have k:=ail (v1:=aV (bx ns 0) 9) hn g2
 exact⟨⟨⟨Tq ns 0 (by decide) (by decide),n1⟩,⟨⟨in_of (by decide) (by omega),in_of (by decide) (by omega),in_of (by decide) (by omega)⟩,g1⟩,k.1⟩,k.2⟩
end
theorem H1:∀ ns:List Int,ns.length<=63->u6 [.z (.lst (ns.map .int))]=some (.z (.bl true)):=(agk adC).1
theorem H2:∀ ns:List Int,ns.length<=63->u6 [.l (ns.map .int)]=some (.z (.bl true)):=(agk adC).2
end G09
end
open PySem PySem.W PyProof.Rows
def PySem.W.Fast.tw11847036006257853174:=0
def PySem.W.Fast.tw9936568408497279593:=0
def PySem.W.Fast.tw13950553604614248644:=0
def PySem.W.Fast.tw4834446926433781259:=0
def PySem.W.Fast.tw18412455235536106610:=0
def PySem.W.Fast.tw12712881711927673739:=0
def PySem.W.Fast.tw14839868868477134620:=0
set_option maxRecDepth 100000 in
set_option maxHeartbeats 0 in
theorem PySem.Challenge.cw_onefolk_k09_what_grounds_are_holds : PySem.Challenge.rw_onefolk_k09_what_grounds_are.Holds := by
 w_on;refine PySem.W.holds_law (by decide +kernel) fun said=>?_
 k_head;(case hw=>w_witness2)
 k_fill
 refine G09.walk (l:=PySem.Challenge.rw_onefolk_k09_what_grounds_are) rfl rfl G09.H1 G09.H2 (fun w h Y=>PySem.W.kIn_of Y) ?F
 case F=>
  intro w mg fa h KX G hmg
  refine' G09.all_mk KX G hmg ?a0 ?l0 ?c0 ?k0 ?a1 ?l1 ?c1 ?k1 ?a2 ?l2 ?c2 ?k2 ?a3 ?l3 ?c3 ?k3 ?a4 ?l4 ?c4 ?k4 ?a5 ?l5 ?c5 ?k5 ?a6 ?l6 ?c6 ?k6 ?a7 ?l7 ?c7 ?k7 ?a8 ?l8 ?c8 ?k8 ?a9 ?l9 ?c9 ?k9 ?a10 ?l10 ?c10 ?k10 ?a11 ?l11 ?c11 ?k11 ?a12 ?l12 ?c12 ?k12 ?a13 ?l13 ?c13 ?k13 ?a14 ?l14 ?c14 ?k14 ?a15 ?l15 ?c15 ?k15 ?a16 ?l16 ?c16 ?k16 ?a17 ?l17 ?c17 ?k17 ?a18 ?l18 ?c18 ?k18 ?a19 ?l19 ?c19 ?k19 ?a20 ?l20 ?c20 ?k20 ?a21 ?l21 ?c21 ?k21 ?a22 ?l22 ?c22 ?k22 ?a23 ?l23 ?c23 ?k23 ?a24 ?l24 ?c24 ?k24 ?a25 ?l25 ?c25 ?k25 ?a26 ?l26 ?c26 ?k26 ?a27 ?l27 ?c27 ?k27 ?YM ?rA ?G7 ?Jf ?bD ?qd ?yE ?FJ ?Vz ?pD ?Mf ?rB ?Qs ?jd ?Mu ?yV ?Aj
  all_goals try (show _=_;k_is)
