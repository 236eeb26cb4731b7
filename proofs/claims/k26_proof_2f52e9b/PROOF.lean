import PyProof.Rows.All
import Wide.All
import OpenK.AllK
import Wide.FinOn
import PyProof.EqAt
import PyProof.EqKinds
import PyProof.TupleCall
import PyProof.StrLoop
import PyProof.StrWalks
import PyProof.CompFree
import PyProof.NeKinds
import PyProof.Rows.RuleN_isinstance
import PyProof.ConsumeWalk
import PyProof.IsiPairs
import PyProof.IsiSeqPairs
import PyProof.IsiHeapPairs
import PyProof.IsiNone
import PyProof.PureStr
import PyProof.StrCalls
import PyProof.Rows.SortStr
import PyProof.Rows.StrJoin2
import PyProof.CallStr
import PyProof.WalkInts
import PyProof.Rows.StrDigits
import PyProof.DictWalks
import PyProof.DictTruth
import PyProof.CollectWalk
import PyProof.WalkLemmas
import PyProof.Rows.SortShellK
import PyProof.Rows.SortWalk
import PyProof.SetKind
import PyProof.FactsAll.set
import PyProof.Rows.SetFrom
import PyProof.TupleKey
import PyProof.IsRules
import PyProof.WalksMore
import PyProof.SetRoads
import PyProof.DictCompW
import PyProof.ListRange
import PyProof.FString5
import PyProof.MeetsSeq2
import PyProof.FactsAll.tuple_0
import PyProof.FactsAll.tuple_2
import PyProof.FactsAll.tuple_3
import PyProof.EnumFor
import PyProof.EnumMake
import PyProof.EnumStmt
import PyProof.Rows.EnumRows
import PyProof.SumWalk
import PyProof.Rows.SeqCalls
import KE.KRevSl
import PyProof.ZipIter
import PyProof.TupleIter
import PyProof.AttrMiss
import KE.KDictOf
import Lean
import PySem.Challenge.RW_onefolk_k26_whole_joinings_go_along
set_option maxRecDepth 100000
set_option maxHeartbeats 4000000
set_option linter.all false
set_option Elab.async false
section
open PySem PySem.Spec PyProof.Rows
abbrev zb:=@wpAny_bind
abbrev zd:=@Heap.get?_push_of_some
abbrev ze:=@wpAny_pure
abbrev zg:=@List.mem_cons_of_mem
abbrev zh:=@List.mem_cons_self
abbrev zi:=@List.length_map
abbrev zk:=@List.map_cons
abbrev zl:=@Nat.le_refl
abbrev zo:=@if_pos
abbrev zr:=@Bool.false_eq_true
abbrev zt:=@Heap.get?_push_size
abbrev zv:=@Heap.lt_size
abbrev zw:=@if_neg
abbrev zz:=@List.getElem?_eq_getElem
abbrev zC:=@List.size_toArray
abbrev zD:=@Nat.ne_of_lt
abbrev zI:=@Nat.le_of_ble_eq_true
abbrev zS:=@List.getElem?_map
abbrev z0:=@List.length_append
abbrev z3:=@Nat.le_trans
abbrev z4:=@List.foldl_cons
abbrev z5:=@Bool.false_ne_true
abbrev Zl:=@decide_eq_true
abbrev Zp:=@decide_eq_true_eq
abbrev Zs:=@List.map_map
abbrev ZA:=@List.getElem?_append_left
abbrev ZE:=@Nat.lt_of_lt_of_le
abbrev ZH:=@if_false
abbrev ZI:=@List.getElem?_cons_succ
abbrev ZN:=@Bool.and_eq_true
abbrev ZO:=@List.map_append
abbrev ZT:=@Array.getElem?_eq_getElem
abbrev ZU:=@Heap.size_push
abbrev ZY:=@List.mem_of_getElem?
abbrev ZZ:=@List.getElem?_append_right
abbrev Z3:=@wpAny_newObj_type
abbrev qa:=@List.mem_append_right
abbrev qc:=@decide_eq_false
abbrev qf:=@Array.length_toList
abbrev qh:=@PySem.W.mg_of
abbrev qi:=@Nat.lt_succ_self
abbrev qk:=@List.length_cons
abbrev qo:=@wpAny_holding
abbrev qq:=@List.getElem_of_mem
abbrev qv:=@wpAny_call_entry
abbrev qA:=@Nat.zero_le
abbrev qB:=@wpAny_mono
abbrev qE:=@PySem.W.mg_none_of
abbrev qS:=@wpAny_field
abbrev qV:=@List.getElem?_eq_none
abbrev Qb:=@Array.getElem?_toList
abbrev Qr:=@List.map_id'
abbrev QA:=@List.all_eq_true
abbrev QE:=@wpAny_callSpecial?_slot
abbrev QI:=@List.getElem?_replicate
abbrev QN:=@Nat.lt_succ_of_lt
abbrev QO:=@if_true
abbrev QP:=@wpAny_typeOf
abbrev QQ:=@List.map_congr_left
abbrev QR:=@Bool.not_eq_true'
abbrev QU:=@wpAny_seqItems
abbrev QY:=@List.find?_cons
abbrev Q1:=@wpAny_setState_of
abbrev Q2:=@List.mem_cons
abbrev Q3:=@List.mem_append_left
abbrev Q4:=@decide_eq_false_iff_not
abbrev ja:=@of_decide_eq_true
abbrev js:=@codeAny_builtin
abbrev jv:=@List.not_mem_nil
abbrev jI:=@Option.some.inj
abbrev jS:=@List.append_nil
abbrev j0:=@Heap.get?_update_ne
abbrev j3:=@List.filter_cons
abbrev Jn:=@Or.inr
abbrev JA:=@List.rel_of_pairwise_cons
abbrev JE:=@List.mem_filter
abbrev JJ:=@List.cons.injEq
abbrev JO:=@F.slot_zip_next
abbrev JP:=@Nat.zero_add
abbrev JU:=@Nat.le_of_lt
abbrev JY:=@List.map_nil
abbrev ka:=@Nat.lt_irrefl
abbrev kb:=@List.any_cons
abbrev kc:=@List.Pairwise.imp_of_mem
abbrev ke:=@PySem.mem_of_lookup
abbrev kf:=@List.any_eq_true
abbrev kg:=@wpAny_setField_rec
abbrev ki:=@Obj.data_mapFields
abbrev km:=@List.filter_append
abbrev ko:=@Array.getElem?_eq_none
abbrev kq:=@Nat.not_lt_zero
abbrev ku:=@List.nil_append
abbrev ky:=@List.length_set
abbrev kz:=@List.all_cons
abbrev kA:=@Bool.not_true
abbrev kB:=@Heap.get?_update_self
abbrev kC:=@Int.toNat_natCast
abbrev kD:=@wpAny_rule
abbrev kF:=@F.slot_tuple_iterator_next
abbrev kK:=@wpAny_isInstance
abbrev kL:=@List.length_take
abbrev kM:=@List.filterMap_cons
abbrev kN:=@wpAny_comprehension_free
abbrev kP:=@Bool.eq_iff_iff
abbrev kQ:=@Or.inl
abbrev kR:=@wpAny_Call_Name_kw
abbrev kS:=@wpAny_getItem_str_slice
abbrev kU:=@List.pairwise_mergeSort
abbrev kX:=@decide_false
abbrev Kb:=@Nat.ne_of_gt
abbrev Ki:=@List.mem_map
abbrev Kj:=@List.pairwise_map
abbrev Kk:=@List.nodup_append
abbrev Kn:=@List.length_range
abbrev Kt:=@List.foldl_append
abbrev Kx:=@List.filter_congr
abbrev KA:=@List.append_assoc
abbrev KB:=@Array.size_append
abbrev KF:=@wpAny_attempt
abbrev KG:=@Bool.and_true
abbrev KI:=@decide_true
abbrev KL:=@Nat.le_succ
abbrev KM:=@wpAny_passesOwn
abbrev KO:=@List.forIn_cons
abbrev KP:=@List.mergeSort_perm
abbrev KS:=@List.getElem?_range
abbrev KU:=@Heap.SameBut.update
abbrev KW:=@Ne.symm
abbrev K2:=@List.nodup_nil
abbrev ya:=@List.mem_range
abbrev yb:=@wpAny_pyIter_tuple
abbrev ye:=@Nat.lt_of_le_of_lt
abbrev yf:=@List.zip_cons_cons
abbrev yi:=@Array.forIn_toList
abbrev yk:=@List.drop_eq_getElem_cons
abbrev ym:=@wpAny_truthy_bool
abbrev yn:=@Nat.lt_trichotomy
abbrev yo:=@List.getElem?_set
abbrev yv:=@F.args_zip_next_1
abbrev yz:=@wpAny_standAt
abbrev yA:=@PySem.F.args_tuple_add_2
abbrev yB:=@wpAny_forIn_list
abbrev yT:=@Option.bind_some
abbrev yY:=@Nat.le_add_right
abbrev y0:=@List.nodup_range
abbrev y3:=@List.getElem_mem
abbrev y7:=@F.entry_zip_next
abbrev y8:=@PySem.F.entry_tuple_add
abbrev y9:=@List.filter_cons_of_pos
abbrev Ya:=@List.filter_cons_of_neg
abbrev Yf:=@List.append_cancel_left
abbrev YA:=@F.plain_set_update_loop
end
section
namespace L2
open PySem PySem.Spec PyProof.Rows
abbrev Key:=Sum Int Str
def mD:Key->Value->Bool
 |.inl k,v=>Value.isInt k v
 |.inr x,v=>Value.isStrOf x v
def aeK (w:World):Key->Int
 |.inl k=>hashInt k
 |.inr x=>hashStr w x
theorem bJ:∀ {k:Key} {v:Value},mD k v=true->(∃ i t,k=Sum.inl i/\v=Value.int i t)\/(∃ x t,k=Sum.inr x/\v=Value.str x t)
 |.inl i,v,h=>by
  obtain⟨t,e⟩:=Value.isInt_shape (k:=i) (v:=v) h
  exact .inl ⟨i,t,rfl,e⟩
 |.inr x,v,h=>by
  obtain⟨t,e⟩:=Value.isStrOf_shape (x:=x) (v:=v) h
  exact .inr ⟨x,t,rfl,e⟩
theorem QS (i:Int) (t:Tok):mD (.inl i) (.int i t)=true:=by simp[mD,Value.isInt]
theorem QT (x:Str) (t:Tok):mD (.inr x) (.str x t)=true:=by simp[mD,Value.isStrOf]
theorem aaf (a b:Int):decide ((Sum.inl a:Key)=Sum.inl b)=(a==b):=by
 by_cases e:a=b
 ·subst e;simp
 ·have h:¬ (Sum.inl a:Key)=Sum.inl b:=fun q=>e (Sum.inl.inj q)
  rw[qc h]
  exact (beq_eq_false_iff_ne.mpr e).symm
theorem aag (a b:Str):decide ((Sum.inr a:Key)=Sum.inr b)=decide (a=b):=by
 by_cases e:a=b
 ·subst e;simp
 ·have h:¬ (Sum.inr a:Key)=Sum.inr b:=fun q=>e (Sum.inr.inj q)
  rw[qc h,qc e]
theorem aah (a:Int) (b:Str):decide ((Sum.inl a:Key)=Sum.inr b)=false:=qc (fun q=>nomatch q)
theorem aai (a:Str) (b:Int):decide ((Sum.inr a:Key)=Sum.inl b)=false:=qc (fun q=>nomatch q)
def bD (prog:Program) (w:World):PySem.KeyKind prog w Key where
 is:=mD
 hash:=aeK w
 inj:=fun v a b ha hb=>by
  rcases bJ ha with⟨i,t,rfl,rfl⟩|⟨x,t,rfl,rfl⟩
  ·rcases bJ hb with⟨j,u,rfl,e⟩|⟨y,u,rfl,e⟩
   ·injection e with e1 _;rw[e1]
   ·exact nomatch e
  ·rcases bJ hb with⟨j,u,rfl,e⟩|⟨y,u,rfl,e⟩
   ·exact nomatch e
   ·injection e with e1 _;rw[e1]
 byValue:=fun k v h=>by
  rcases bJ h with⟨i,t,rfl,rfl⟩|⟨x,t,rfl,rfl⟩<;>rfl
 pyHash:=fun hv h=>by
  rcases bJ hv with⟨i,t,rfl,rfl⟩|⟨x,t,rfl,rfl⟩
  ·exact wpAny_pyHash_int h
  ·exact wpAny_pyHash_str h
 eqBool:=fun hu hv h=>by
  rcases bJ hu with⟨i,t,rfl,rfl⟩|⟨x,t,rfl,rfl⟩
  ·rcases bJ hv with⟨j,u,rfl,rfl⟩|⟨y,u,rfl,rfl⟩
   ·rw[aaf] at h;exact wpAny_eqBool_int h
   ·rw[aah] at h;exact SeqAt.EqAt.int_str i t y u _ _ _ _ h
  ·rcases bJ hv with⟨j,u,rfl,rfl⟩|⟨y,u,rfl,rfl⟩
   ·rw[aai] at h;exact SeqAt.EqAt.str_int x t j u _ _ _ _ h
   ·rw[aag] at h;exact wpAny_eqBool_str h
 «strs»:=fun k x t v h=>by
  rcases bJ h with⟨i,u,rfl,e⟩|⟨y,u,rfl,e⟩
  ·exact nomatch e
  ·injection e with e1 _
   subst e1
   cases v<;>rfl
theorem JN (prog:Program) (w:World) (i:Int) (t:Tok):(bD prog w).is (.inl i) (.int i t)=true:=QS i t
theorem JQ (prog:Program) (w:World) (x:Str) (t:Tok):(bD prog w).is (.inr x) (.str x t)=true:=QT x t
end L2
namespace L2
open PySem PySem.Spec PyProof.Rows
inductive V where
 |non|bl (b:Bool)|int (i:Int)|str (x:Str)|byt (b:Array UInt8)|flt (b:UInt64)|ref (a:Addr)|ty (n:String)
 deriving DecidableEq
def RelV:V->Value->Prop
 |.non,u=>u=Value.none
 |.bl b,u=>u=Value.bool b
 |.int i,u=>∃ t,u=Value.int i t
 |.str x,u=>∃ t,u=Value.str x t
 |.byt b,u=>∃ t,u=Value.bytes b t
 |.flt b,u=>∃ t,u=Value.float b t
 |.ref a,u=>u=Value.ref a
 |.ty n,u=>u=Value.type n
abbrev Vals:List V->List Value->Prop:=Paired RelV
theorem Vals.length {xs:List V} {us:List Value} (r:Vals xs us):xs.length=us.length:=Paired.length r
theorem Vals.get:∀ {xs:List V} {us:List Value} {i:Nat} {x:V},Vals xs us->xs[i]?=some x->∃ u,us[i]?=some u/\RelV x u
 |_,_,_,_,.nil,e=>by simp at e
 |_,_,0,_,.cons r _,e=>by simp at e;subst e;exact⟨_,rfl,r⟩
 |_,_,i+1,x,.cons _ t,e=>by
  obtain⟨u,h1,h2⟩:=Vals.get (i:=i) (x:=x) t (by simpa using e)
  exact⟨u,by simpa using h1,h2⟩
theorem Vals.set {x:V} {u:Value} (r:RelV x u):∀ {xs:List V} {us:List Value} (i:Nat),Vals xs us->Vals (xs.set i x) (us.set i u)
 |_,_,_,.nil=>.nil
 |_,_,0,.cons _ t=>.cons r t
 |_,_,i+1,.cons q t=>.cons q (Vals.set r i t)
theorem Vals.append:∀ {xs ys:List V} {us ws:List Value},Vals xs us->Vals ys ws->Vals (xs++ys) (us++ws)
 |_,_,_,_,.nil,s=>s
 |_,_,_,_,.cons r t,s=>.cons r (Vals.append t s)
theorem Vals.take:∀ {xs:List V} {us:List Value} (n:Nat),Vals xs us->Vals (xs.take n) (us.take n)
 |_,_,0,_=>.nil
 |_,_,_+1,.nil=>.nil
 |_,_,n+1,.cons r t=>.cons r (Vals.take n t)
theorem Vals.drop:∀ {xs:List V} {us:List Value} (n:Nat),Vals xs us->Vals (xs.drop n) (us.drop n)
 |_,_,0,r=>r
 |_,_,_+1,.nil=>.nil
 |_,_,n+1,.cons _ t=>Vals.drop n t
def yO:Option V->Option Value->Prop
 |some v,some u=>RelV v u
 |none,none=>True
 |_,_=>False
def KV {κ:Type}:List (κ×V)->List (κ×Value)->Prop:=Paired fun (p:κ×V) (q:κ×Value)=>p.1=q.1/\RelV p.2 q.2
def kV:Key->V
 |.inl i=>.int i
 |.inr x=>.str x
inductive HO where
 |lst (xs:List V)
 |tup (xs:List V)
 |dK (kvs:List (Key×V))|dT (kvs:List (List Key×V))
 |set (S:Int->Bool) (n:Nat)
 |ins (C dx:Addr) (fs:List (Str×V))
 |own (x:Addr)
 |xd (fs:List (Str×V))
 |met (f x:Addr)
 |rng (lo hi:Int)
 |rO (o:Obj) (u:HO)
 |tbl (ps:Array Value)
 |ext (φ:Heap->Prop)
abbrev Hp:=Addr->Option HO
def upd (H:Hp) (a:Addr) (o:HO):Hp:=fun b=>if b=a then some o else H b
theorem bK {H:Hp} {a:Addr} {o:HO}:upd H a o a=some o:=by unfold upd;rw[zo rfl]
theorem aQ {H:Hp} {a b:Addr} {o:HO} (h:b≠a):upd H a o b=H b:=by unfold upd;rw[zw h]
def rP (h:Heap) (a:Addr) (items:Array Value):Prop:=∃ o,h.get? a=some o/\o.cls=.type "tuple" ∧ (∃ n,o.data=.seq items n)/\o.dict=none
theorem rP.weak {h:Heap} {a:Addr} {items:Array Value} (x:rP h a items):IsTup h a items:=let ⟨o,e,c,d,_⟩:=x;⟨o,e,c,d⟩
theorem rP.new (h:Heap) (items:Array Value):rP (h.push { cls:=.type "tuple", data:=.seq items }) h.objs.size items:=⟨_,zt _ rfl,rfl,⟨_,rfl⟩,rfl⟩
theorem pA {H:Hp} {a b:Addr} {o u:HO} (h:H a=some o) (h':H b=some u) (d:o≠u):a≠b:=by
 intro e;subst e;rw[h] at h';exact d (jI h')
theorem fH {H:Hp} {a b:Addr} {o:HO} (h:H a=some o) (h':H b=none):a≠b:=by
 intro e;subst e;rw[h] at h';cases h'
section
variable (P:Program) (w:World)
def jC (H:Hp) (h:Heap) (a:Addr):HO->Prop
 |.lst xs=>xs.length<=sizeLine/\∃ (its:List Value) (n:Nat),Vals xs its/\h.get? a=some { cls:=.type "list", data:=.seq its.toArray n }
 |.tup xs=>xs.length<=sizeLine/\∃ its:List Value,Vals xs its/\rP h a its.toArray
 |.dK kvs=>kvs.length<=sizeLine/\(a==sysModules)=false/\∃ vs,KV kvs vs/\h.DictOf (bD P w) a vs
 |.dT kvs=>kvs.length<=sizeLine/\(a==sysModules)=false/\∃ xs:List (List Key×Addr×Value),
   Paired (fun (p:List Key×V) (q:List Key×Addr×Value)=>p.1=q.1/\H q.2.1=some (.tup (p.1.map kV))/\RelV p.2 q.2.2) kvs xs ∧
   ∃ o es ep,h.get? a=some o/\o.ExactDict/\o.data=.dict es ep/\es.toList=xs.map (entryOfKey (tupleKind (bD P w)))/\(xs.map (·.1)).Nodup
 |.set S n=>h.SetOf (intKind P w) a S n
 |.ins C dx fs=>H dx=some (.own a)/\fs.length<=1000/\dx≠a/\h.get? a=some (PySem.W.instObj C dx) ∧
   ∃ mA,h.Ns1 dx mA/\(∀ f,yO (fs.lookup f) (mA f))/\PySem.Within mA (fs.map (·.1))
 |.own _=>∃ o,h.get? a=some o
 |.xd fs=>∃ mA,h.Ns1 a mA/\∀ f,yO (fs.lookup f) (mA f)
 |.rng lo hi=>∃ t u v,h.get? a=some { cls:=.type "range", data:=.fields #[.int lo t,.int hi u,.int 1 v] }
 |.rO o u=>h.get? a=some o/\jC H h a u
 |.tbl ps=>h.get? a=some { cls:=.none,data:=.fields ps }
 |.met f x=>h.get? a=some (PySem.W.methodObj (.ref f) (.ref x))
 |.ext φ=>φ h/\(∃ o,h.get? a=some o)/\∀ h1 h2:Heap,φ h1->(∀ o,h1.get? a=some o->h2.get? a=some o)->φ h2
def wZ (H:Hp) (h:Heap):Prop:=∀ a o,H a=some o->jC P w H h a o
end
section
variable {P:Program} {w:World} {H H':Hp} {h h':Heap} {a:Addr} {o:HO}
theorem jC.lt (x:jC P w H h a o):a < h.objs.size:=by
 cases o with
 |lst xs=>obtain⟨_,_,_,_,e⟩:=x;exact zv e
 |tup xs=>obtain⟨_,_,_,p⟩:=x;exact p.weak.lt
 |dK kvs=>obtain⟨_,_,_,_,o,_,_,e,_⟩:=x;exact zv e
 |dT kvs=>obtain⟨_,_,_,_,o,_,_,e,_⟩:=x;exact zv e
 |set S n=>obtain⟨o,_,_,_,e,_⟩:=x;exact zv e
 |ins C dx fs=>obtain⟨_,_,_,e,_⟩:=x;exact zv e
 |own y=>obtain⟨_,e⟩:=x;exact zv e
 |xd fs=>obtain⟨_,⟨_,_,_,e,_⟩,_⟩:=x;exact zv e
 |rng lo hi=>obtain⟨_,_,_,e⟩:=x;exact zv e
 |rO ob u=>obtain⟨e,_⟩:=x;exact zv e
 |tbl ps=>exact zv (show h.get? a=some _ from x)
 |met f y=>exact zv (show h.get? a=some _ from x)
 |ext φ=>obtain⟨_,⟨_,e⟩,_⟩:=x;exact zv e
theorem Paired.WD {α β:Type} {F G:α->β->Prop}:∀ {l₁:List α} {l₂:List β},Paired F l₁ l₂->(∀ a b,F a b->G a b)->Paired G l₁ l₂
 |_,_,.nil,_=>.nil
 |_,_,.cons r t,f=>.cons (f _ _ r) (Paired.WD t f)
theorem Paired.imp' {α β:Type} {F G:α->β->Prop} (f:∀ a b,F a b->G a b) {l₁:List α} {l₂:List β} (r:Paired F l₁ l₂):Paired G l₁ l₂:=Paired.WD r f
theorem jC.stay (x:jC P w H h a o) (k:∀ b u,(b=a\/H b=some (.own a))->h.get? b=some u->h'.get? b=some u)
  (ho:∀ b,H b=some (.own a)->H' b=some (.own a)) (ht:∀ b xs,H b=some (.tup xs)->H' b=some (.tup xs)):jC P w H' h' a o:=by
 induction o with
 |lst xs=>obtain⟨z,its,n,r,e⟩:=x;exact⟨z,its,n,r,k _ _ (.inl rfl) e⟩
 |tup xs=>obtain⟨z,its,r,ob,e,c⟩:=x;exact⟨z,its,r,ob,k _ _ (.inl rfl) e,c⟩
 |dK kvs=>obtain⟨z,y,vs,r,ob,es,ep,e,c⟩:=x;exact⟨z,y,vs,r,ob,es,ep,k _ _ (.inl rfl) e,c⟩
 |dT kvs=>
  obtain⟨z,y,xs,r,ob,es,ep,e,c⟩:=x
  exact⟨z,y,xs,Paired.WD r fun p q z=>⟨z.1,ht _ _ z.2.1,z.2.2⟩,ob,es,ep,k _ _ (.inl rfl) e,c⟩
 |set S n=>obtain⟨ob,es,ep,t,e,c⟩:=x;exact⟨ob,es,ep,t,k _ _ (.inl rfl) e,c⟩
 |ins C dx fs=>
  obtain⟨d,z,ne,e,mA,⟨od,es,ep,e2,c⟩,r⟩:=x
  exact⟨ho _ d,z,ne,k _ _ (.inl rfl) e,mA,⟨od,es,ep,k _ _ (.inr d) e2,c⟩,r⟩
 |own y=>obtain⟨ob,e⟩:=x;exact⟨ob,k _ _ (.inl rfl) e⟩
 |xd fs=>obtain⟨mA,⟨od,es,ep,e,c⟩,r⟩:=x;exact⟨mA,⟨od,es,ep,k _ _ (.inl rfl) e,c⟩,r⟩
 |rng lo hi=>obtain⟨t,u,v,e⟩:=x;exact⟨t,u,v,k _ _ (.inl rfl) e⟩
 |rO ob u ih=>obtain⟨e,q⟩:=x;exact⟨k _ _ (.inl rfl) e,ih q⟩
 |tbl ps=>
  have e:h.get? a=some { cls:=.none,data:=.fields ps }:=x
  show h'.get? a=some { cls:=.none,data:=.fields ps }
  exact k a _ (.inl rfl) e
 |met f y=>
  have e:h.get? a=some (PySem.W.methodObj (.ref f) (.ref y)):=x
  show h'.get? a=some (PySem.W.methodObj (.ref f) (.ref y))
  exact k a _ (.inl rfl) e
 |ext φ=>obtain⟨p,⟨o,e⟩,st⟩:=x;exact⟨st _ _ p fun o q=>k _ _ (.inl rfl) q,⟨o,k _ _ (.inl rfl) e⟩,st⟩
theorem wZ.lt (x:wZ P w H h) (e:H a=some o):a < h.objs.size:=(x a o e).lt
theorem wZ.fresh (x:wZ P w H h) (e:h.objs.size<=a):H a=none:=by
 cases q:H a with
 |none=>rfl
 |some u=>exact absurd (ZE (x.lt q) e) (ka _)
theorem wZ.kept (x:wZ P w H h) (k:∀ b u,h.get? b=some u->h'.get? b=some u):wZ P w H h':=fun a o e=>
 (x a o e).stay (fun b u _ q=>k b u q) (fun _ q=>q) fun _ _ q=>q
theorem wZ.laid (x:wZ P w H h) (k:∀ b u,h.get? b=some u->h'.get? b=some u) (hp:h.objs.size<=a) (new:jC P w (upd H a o) h' a o):wZ P w (upd H a o) h':=fun b u e=>by
 have hn:=x.fresh hp
 by_cases hb:b=a
 ·subst hb;rw[bK] at e;cases e;exact new
 ·rw[aQ hb] at e
  exact (x b u e).stay (fun c v _ q=>k c v q) (fun c q=>by rw[aQ (fH q hn)];exact q) fun c xs q=>by rw[aQ (fH q hn)];exact q
end
def Rd (H:Hp) (a:Addr) (u:HO):Prop:=H a=some u\/∃ o,H a=some (.rO o u)
theorem Rd.of {H:Hp} {a:Addr} {u:HO} (h:H a=some u):Rd H a u:=.inl h
theorem Rd.ok {P:Program} {w:World} {H:Hp} {h:Heap} {a:Addr} {u:HO} (r:Rd H a u) (x:wZ P w H h):jC P w H h a u:=by
 rcases r with r|⟨o,r⟩
 ·exact x a u r
 ·obtain⟨_,q⟩:=x a _ r
  exact q
def Mut:Option HO->Prop
 |some (.lst _)=>True
 |some (.dK _)=>True
 |some (.dT _)=>True
 |some (.set _ _)=>True
 |some (.ins _ _ _)=>True
 |some (.ext _)=>True
 |_=>False
section
variable {P:Program} {w:World} {H:Hp} {h h':Heap} {x e:Addr} {o':HO}
theorem wZ.write (ok:wZ P w H h) (mu:Mut (H x)) (he:e=x\/H e=some (.own x)) (k:∀ b u,b≠e->h.get? b=some u->h'.get? b=some u) (heo:∃ u,h'.get? e=some u)
  (new:jC P w (upd H x o') h' x o'):wZ P w (upd H x o') h':=fun b u q=>by
 have acD:∀ c y,H c=some (.own y)->c≠x:=fun c y r z=>by subst z;rw[r] at mu;exact mu
 have aeL:∀ c xs,H c=some (.tup xs)->c≠x:=fun c xs r z=>by subst z;rw[r] at mu;exact mu
 by_cases hb:b=x
 ·subst hb;rw[bK] at q;cases q;exact new
 ·rw[aQ hb] at q
  by_cases hbe:b=e
  ·have q':H b=some (.own x):=by
    rcases he with z|z
    ·exact absurd (hbe.trans z) hb
    ·rw[hbe];exact z
   rw[q] at q';cases q'
   obtain⟨v,hv⟩:=heo
   exact⟨v,by rw[hbe];exact hv⟩
  ·refine (ok b u q).stay (fun c v hc r=>k c v ?_ r) (fun c r=>by rw[aQ (acD c b r)];exact r) fun c xs r=>by rw[aQ (aeL c xs r)];exact r
   rcases hc with rfl|hc
   ·exact hbe
   ·rintro rfl
    rcases he with z|z
    ·exact acD c b hc z
    ·rw[hc] at z;cases z;exact hb rfl
end
structure Un (fs ex:List Addr) (H H':Hp) (h h':Heap):Prop where
 keep:∀ b o,h.get? b=some o->H b=none->b∉fs->b∉ex->h'.get? b=some o
 slot:∀ b o,h.get? b=some o->H b=none->b∈fs->b∉ex->∃ sl,h'.get? b=some { o with slots:=sl }
 free:∀ b o,h.get? b=some o->H b=none->b∉ex->H' b=none
 there:∀ b o,h.get? b=some o->b∉ex->∃ o',h'.get? b=some o'
 tups:∀ b xs,H b=some (.tup xs)->H' b=some (.tup xs)
 vG:∀ b o u,H b=some (.rO o u)->H' b=some (.rO o u)
 w6:∀ b ps,H b=some (.tbl ps)->∃ more,H' b=some (.tbl (ps++more))
section
variable {fs fs' ex ex':List Addr} {H H1 H2:Hp} {h h1 h2 h':Heap} {a x e:Addr} {o:HO}
theorem Un.any (u:Un fs ex H H1 h h1) {b:Addr} {ob:Obj} (q:h.get? b=some ob) (n:H b=none) (hx:b∉ex):∃ sl,h1.get? b=some { ob with slots:=sl }:=by
 by_cases hb:b∈fs
 ·exact u.slot b ob q n hb hx
 ·exact⟨ob.slots,u.keep b ob q n hb hx⟩
theorem Un.trans (a:Un fs ex H H1 h h1) (b:Un fs ex H1 H2 h1 h2):Un fs ex H H2 h h2 where
 keep:=fun c ob q n hc hx=>b.keep c ob (a.keep c ob q n hc hx) (a.free c ob q n hx) hc hx
 slot:=fun c ob q n hc hx=>by
  obtain⟨sl,e1⟩:=a.slot c ob q n hc hx
  obtain⟨sl',e2⟩:=b.slot c _ e1 (a.free c ob q n hx) hc hx
  exact⟨sl',e2⟩
 free:=fun c ob q n hx=>by
  obtain⟨o',e1⟩:=a.there c ob q hx
  exact b.free c o' e1 (a.free c ob q n hx) hx
 there:=fun c ob q hx=>by
  obtain⟨o',e1⟩:=a.there c ob q hx
  exact b.there c o' e1 hx
 tups:=fun c xs q=>b.tups c xs (a.tups c xs q)
 vG:=fun c ob xs q=>b.vG c ob xs (a.vG c ob xs q)
 w6:=fun c ps q=>by
  obtain⟨m1,e1⟩:=a.w6 c ps q
  obtain⟨m2,e2⟩:=b.w6 c _ e1
  exact⟨m1++m2,by rw[e2,Array.append_assoc]⟩
theorem Un.kept (k:∀ b u,h.get? b=some u->h'.get? b=some u):Un fs ex H H h h':=
 ⟨fun b ob q _ _ _=>k b ob q,fun b ob q _ _ _=>⟨ob.slots,k b ob q⟩,fun _ _ _ n _=>n,fun b ob q _=>⟨ob,k b ob q⟩,fun _ _ q=>q,fun _ _ _ q=>q,fun _ ps q=>⟨#[],by rw[q];simp⟩⟩
theorem Un.refl:Un fs ex H H h h:=Un.kept fun _ _ q=>q
theorem Un.laid (k:∀ b u,h.get? b=some u->h'.get? b=some u) (hp:h.objs.size<=a) (hn:H a=none):Un fs ex H (upd H a o) h h' where
 keep:=fun b u q _ _ _=>k b u q
 slot:=fun b u q _ _ _=>⟨u.slots,k b u q⟩
 free:=fun b u q n _=>by rw[aQ (zD (ZE (zv q) hp))];exact n
 there:=fun b u q _=>⟨u,k b u q⟩
 tups:=fun b xs q=>by rw[aQ (fH q hn)];exact q
 vG:=fun b u xs q=>by rw[aQ (fH q hn)];exact q
 w6:=fun b ps q=>⟨#[],by rw[aQ (fH q hn),q];simp⟩
theorem Un.write (mu:Mut (H x)) (he:e=x\/H e=some (.own x)) (k:∀ b u,b≠e->h.get? b=some u->h'.get? b=some u) (heo:∃ u,h'.get? e=some u):Un fs ex H (upd H x o) h h':=by
 have hx:∀ b,H b=none->b≠x:=fun b n z=>by subst z;rw[n] at mu;exact mu
 have hb:∀ b,H b=none->b≠e:=fun b n z=>by
  subst z
  rcases he with r|r
  ·exact hx b n r
  ·rw[n] at r;cases r
 have hm:∀ b u,H b=some u->¬ Mut (some u)->b≠x:=fun b u q nm z=>by subst z;rw[q] at mu;exact nm mu
 refine⟨fun b u q n _ _=>k b u (hb b n) q,fun b u q n _ _=>⟨u.slots,k b u (hb b n) q⟩,fun b u q n _=>by rw[aQ (hx b n)];exact n,fun b u q _=>?_,
  fun b xs q=>by rw[aQ (hm b _ q fun z=>z)];exact q,fun b u xs q=>by rw[aQ (hm b _ q fun z=>z)];exact q,fun b ps q=>⟨#[],by rw[aQ (hm b _ q fun z=>z),q];simp⟩⟩
 by_cases hbe:b=e
 ·subst hbe;exact heo
 ·exact⟨u,k b u hbe q⟩
theorem Un.mono (u:Un fs ex H H1 h h1) (hs:∀ b∈fs,b∈fs') (hx:∀ b∈ex,b∈ex'):Un fs' ex' H H1 h h1:=
 ⟨fun b ob q n hb he=>u.keep b ob q n (fun z=>hb (hs b z)) fun z=>he (hx b z),fun _ _ q n _ he=>u.any q n fun z=>he (hx _ z),fun b ob q n he=>u.free b ob q n fun z=>he (hx b z),fun b ob q he=>u.there b ob q fun z=>he (hx b z),u.tups,u.vG,u.w6⟩
end
def trk (h:Heap) (H:Hp):List Addr:=(List.range h.objs.size).filter fun a=>(H a).isSome
def Hh (h:Heap) (H:Hp):Heap:=PySem.W.hideAll h (trk h H)
theorem QW (h:Heap) (H:Hp):(Hh h H).objs.size=h.objs.size:=PySem.W.hideAll_size _ _
theorem Tf {h:Heap} {H:Hp} {b:Addr} {o:Obj} (e:h.get? b=some o) (n:H b=none):(Hh h H).get? b=some o:=
 PySem.W.hideAll_get _ e fun hm=>by
  have q:(H b).isSome=true:=(List.mem_filter.mp hm).2
  rw[n] at q;simp at q
theorem WK {h:Heap} {H:Hp} {b:Addr} {o:Obj} (e:(Hh h H).get? b=some o):h.get? b=some o/\H b=none:=by
 have e':h.get? b=some o:=PySem.W.of_hideAll (trk h H) e
 refine⟨e',?_⟩
 cases q:H b with
 |none=>rfl
 |some x=>
  have hm:b∈trk h H:=List.mem_filter.mpr ⟨List.mem_range.mpr (zv e'),by simp[q]⟩
  have z:(Hh h H).get? b=none:=PySem.W.hideAll_none (trk h H) hm
  rw[z] at e;cases e
def WL (g h:Heap) (L:Addr):List (Addr×Obj):=(List.range h.objs.size).filterMap fun a=>if a=L\/(g.get? a).isSome=true then none else (h.get? a).map fun o=>(a,o)
def rest (g h:Heap) (L d:Addr):List (Addr×Obj):=(WL g h L).filter fun p=>decide (p.1≠d)
end L2
namespace L2
open PySem PySem.Spec PyProof.Rows
structure Mod (K:PySem.W.Frag) (mg:Str->Option Value) (base:Heap):Prop where
 kin:K.In base
 glob:base.Ns mainGlobals mg
 blt:∃ mb,base.Ns builtinsNs mb/\∀ x:Str,x ≠ "__name__" → mb x=bootBuiltins x
 nolimit:base.NoLimit
structure Cx where
 prog:Program
 w:World
 K:PySem.W.Frag
 mg:Str->Option Value
 base:Heap
 A:Around
 N:List Str
 s₀:Shared
 H₀:Hp
 env:Env
 outer:List Env
 stack:List Env
 ex:List Addr
 fn:Str->Bool
 calm:Bool
 pn:List (Addr×Obj)
 xe:Value->Shared->Prop
def frs (l:List Env):List Addr:=l.filterMap (·.frame)
abbrev Cx.fs (X:Cx):List Addr:=frs X.outer
def Ww (sc:Scope) (x:Str):Prop:=sc.names.lookup x=some .local\/sc.names.lookup x=some .cell\/sc.names.lookup x=some .free
def Loc (sc:Scope) (x:Str):Prop:=sc.names.lookup x=some .local\/sc.names.lookup x=some .cell
def Look (env:Env) (h:Heap) (m:Str->Option Value) (x:Str) (u:Value):Prop:=
 (env.kindOf x=some .local/\m x=some u)\/((env.kindOf x=some .cell\/env.kindOf x=some .free)/\∃ c,env.cells.lookup x=some c/\h.IsCell c (some u))
structure Cx.Ok (X:Cx):Prop where
 mod:Mod X.K X.mg X.base
 kind:X.env.scope.kind=.function
 glob:X.env.globals=mainGlobals
 blt:X.env.builtins=builtinsNs
 above:X.s₀.heap.objs.size<=X.env.locals
 inj:∀ x y c,X.env.cells.lookup x=some c->X.env.cells.lookup y=some c->x=y
 has:∀ x,(X.env.kindOf x=some .cell\/X.env.kindOf x=some .free)->∃ c,X.env.cells.lookup x=some c
 cab:∀ x c,X.fn x=true->X.env.cells.lookup x=some c->X.s₀.heap.objs.size<=c
 hd:X.calm=true->X.A.handled=none
 frames:X.A.frames=some X.stack
 stk:X.stack=X.outer\/(X.stack=X.env::X.outer/\X.env.frame=some X.env.locals)
 exf:∀ b∈X.ex,b≠X.env.locals/\∀ x c,X.env.cells.lookup x=some c->c≠b
 bs:∀ b o,X.base.get? b=some o->X.s₀.heap.get? b=some o/\X.H₀ b=none
 WM:X.base.objs.size<=X.s₀.heap.objs.size
 Tg:∀ b o,X.base.get? b=some o->b∉X.ex
 WQ:∀ b∈X.ex,b∉X.fs
 Am:X.s₀.heap.FunFrames X.base X.outer
 frf:∀ b∈X.fs,X.H₀ b=none
structure Inv (X:Cx) (pins:List (Addr×Obj)) (σ:List (Option V)) (H:Hp) (s:Shared):Prop where
 ok:X.Ok
 os:s.os=X.s₀.os
 bare:AllBare s.gens
 base:Un X.fs X.ex X.H₀ H X.s₀.heap s.heap
 loc:∃ m,s.heap.Ns X.env.locals m/\∀ (i:Nat) (x:Str) (v:V),X.N[i]?=some x->σ[i]?=some (some v)->Ww X.env.scope x->∃ u,RelV v u/\Look X.env s.heap m x u
 cell:∀ x c,X.env.cells.lookup x=some c->∃ v,s.heap.IsCell c v
 free:H X.env.locals=none
 pR:∀ x c,X.env.cells.lookup x=some c->H c=none
 pin:∀ p∈X.pn++pins,s.heap.get? p.1=some p.2/\H p.1=none/\p.1≠X.env.locals/\p.1∉X.fs/\∀ v,p.2.data≠.cell v
 hok:wZ X.prog X.w H s.heap
 len:σ.length=X.N.length
section
variable {X:Cx} {pins:List (Addr×Obj)} {σ:List (Option V)} {H H':Hp} {s:Shared} {h':Heap}
theorem Cx.Ok.aeN (ok:X.Ok) {b:Addr} {o:Obj} (e:X.base.get? b=some o):b∉X.fs:=fun hb=>by
 have:=(ok.Am.mem hb).1
 rw[e] at this;cases this
theorem Inv.bs (I:Inv X pins σ H s):∀ b o,X.base.get? b=some o->s.heap.get? b=some o/\H b=none:=fun b o e=>
 ⟨I.base.keep b o (I.ok.bs b o e).1 (I.ok.bs b o e).2 (I.ok.aeN e) (I.ok.Tg b o e),I.base.free b o (I.ok.bs b o e).1 (I.ok.bs b o e).2 (I.ok.Tg b o e)⟩
theorem Inv.bk (I:Inv X pins σ H s):∀ b o,X.base.get? b=some o->s.heap.get? b=some o:=fun b o e=>(I.bs b o e).1
theorem Inv.mod (I:Inv X pins σ H s):Mod X.K X.mg X.base:=I.ok.mod
theorem Inv.kIn (I:Inv X pins σ H s):X.K.In s.heap:=I.ok.mod.kin.keeps I.bk
theorem Inv.nolimit (I:Inv X pins σ H s):s.heap.NoLimit:=I.ok.mod.nolimit.keeps I.bk
theorem Inv.lt (I:Inv X pins σ H s):X.env.locals < s.heap.objs.size:=let ⟨_,hn,_⟩:=I.loc;hn.lt
theorem Inv.sz (I:Inv X pins σ H s):X.s₀.heap.objs.size<=s.heap.objs.size:=z3 I.ok.above (JU I.lt)
theorem Inv.aeO (I:Inv X pins σ H s) {a:Addr} (h:s.heap.objs.size<=a):a∉X.fs:=fun hb=>by
 obtain⟨_,o,ho,_⟩:=I.ok.Am.mem hb
 exact absurd (ZE (zv ho) (z3 I.sz h)) (ka _)
theorem Inv.cne (I:Inv X pins σ H s):∀ x c,X.env.cells.lookup x=some c->c≠X.env.locals:=fun x c e z=>by
 obtain⟨v,o,ho,hd⟩:=I.cell x c e
 obtain⟨m,⟨o',es,ep,ho',hd',_⟩,_⟩:=I.loc
 rw[z,ho'] at ho;cases ho;rw[hd'] at hd;cases hd
theorem Inv.Am (I:Inv X pins σ H s):s.heap.FunFrames X.base X.outer:=by
 have all:∀ (l:List Env),(∀ b∈frs l,b∈X.fs)->X.s₀.heap.FunFrames X.base l->s.heap.FunFrames X.base l:=by
  intro l
  induction l with
  |nil=>intro _ _;trivial
  |cons env r ih=>
   intro hs hl
   obtain⟨hk,⟨L,o,hf,hn,ho,hd⟩,hr⟩:=hl
   have hL:L∈X.fs:=hs L (by unfold frs;rw[kM,hf];exact zh)
   obtain⟨sl,e⟩:=I.base.slot L o ho (I.ok.frf L hL) hL fun z=>I.ok.WQ L z hL
   exact⟨hk,⟨L,_,hf,hn,e,hd⟩,ih (fun b hb=>hs b (by unfold frs;rw[kM,hf];exact zg _ hb)) hr⟩
 exact all X.outer (fun _ hb=>hb) I.ok.Am
theorem Inv.stack (I:Inv X pins σ H s):s.heap.FunFrames X.base X.stack:=by
 rcases I.ok.stk with e|⟨e,hf⟩
 ·rw[e];exact I.Am
 ·rw[e]
  obtain⟨m,hn,_⟩:=I.loc
  refine .cons (by rw[I.ok.kind];decide) hf hn ?_ I.Am
  exact Heap.get?_none_of_le (z3 I.ok.WM I.ok.above)
theorem Inv.Hi (I:Inv X pins σ H s):∀ b∈frs X.stack,b∈X.env.locals::X.fs:=fun b hb=>by
 rcases I.ok.stk with e|⟨e,hf⟩
 ·rw[e] at hb;exact zg _ hb
 ·rw[e] at hb
  unfold frs at hb
  rw[kM,hf] at hb
  exact hb
theorem Inv.O5 (I:Inv X pins σ H s):∀ b∈frs X.stack,H b=none:=fun b hb=>by
 rcases List.mem_cons.mp (I.Hi b hb) with e|hb
 ·rw[e];exact I.free
 ·obtain⟨_,o,ho,_⟩:=I.ok.Am.mem hb
  exact I.base.free b o ho (I.ok.frf b hb) fun z=>I.ok.WQ b z hb
theorem Inv.step {g':Array GenState} {t':Nat} {d':Drawn} {ch:List Addr} (I:Inv X pins σ H s)
  (hch:∀ b∈ch,(b∈X.ex\/X.s₀.heap.objs.size<=b)/\b≠X.env.locals/\(∀ x c,X.env.cells.lookup x=some c->c≠b)/\∀ p∈X.pn++pins,p.1≠b)
  (keep:∀ b o,b≠X.env.locals->b∉X.fs->b∉ch->s.heap.get? b=some o->H b=none->h'.get? b=some o)
  (slot:∀ b o,b≠X.env.locals->b∈X.fs->b∉ch->s.heap.get? b=some o->H b=none->∃ sl,h'.get? b=some { o with slots:=sl }) (free:∀ b o,b∉ch->s.heap.get? b=some o->H b=none->H' b=none)
  (there:∀ b o,b∉ch->s.heap.get? b=some o->∃ o',h'.get? b=some o')
  (tups:∀ b xs,H b=some (.tup xs)->H' b=some (.tup xs)) (vG:∀ b o u,H b=some (.rO o u)->H' b=some (.rO o u)) (w6:∀ b ps,H b=some (.tbl ps)->∃ more,H' b=some (.tbl (ps++more)))
  (ns:∀ m,s.heap.Ns X.env.locals m->h'.Ns X.env.locals m) (hok:wZ X.prog X.w H' h') (hg:AllBare g') :
  Inv X pins σ H' { s with heap:=h',gens:=g',drawn:=d',toks:=t' }:=by
 have neL:∀ b o,X.s₀.heap.get? b=some o->b≠X.env.locals:=fun b o e=>zD (ZE (zv e) I.ok.above)
 have neC:∀ b o,X.s₀.heap.get? b=some o->b∉X.ex->b∉ch:=fun b o e hx hb=>by
  rcases (hch b hb).1 with z|z
  ·exact hx z
  ·exact absurd (ZE (zv e) z) (ka _)
 have cellK:∀ x c,X.env.cells.lookup x=some c->∀ v,s.heap.IsCell c v->h'.IsCell c v:=fun x c e v ⟨o,ho,hd⟩=>by
  have nch:c∉ch:=fun z=>(hch c z).2.2.1 x c e rfl
  by_cases hc:c∈X.fs
  ·obtain⟨sl,q⟩:=slot c o (I.cne x c e) hc nch ho (I.pR x c e)
   exact⟨_,q,hd⟩
  ·exact⟨o,keep c o (I.cne x c e) hc nch ho (I.pR x c e),hd⟩
 refine⟨I.ok,I.os,hg,⟨fun b o e n hb hx=>?_,fun b o e n hb hx=>?_,fun b o e n hx=>?_,fun b o e hx=>?_,fun b xs e=>tups b xs (I.base.tups b xs e),fun b o xs e=>vG b o xs (I.base.vG b o xs e),fun b ps e=>?_⟩,?_,fun x c e=>?_,?_,fun x c e=>?_,fun p hp=>?_,hok,I.len⟩
 ·exact keep b o (neL b o e) hb (neC b o e hx) (I.base.keep b o e n hb hx) (I.base.free b o e n hx)
 ·obtain⟨sl,e1⟩:=I.base.slot b o e n hb hx
  obtain⟨sl',e2⟩:=slot b _ (neL b o e) hb (neC b o e hx) e1 (I.base.free b o e n hx)
  exact⟨sl',e2⟩
 ·obtain⟨o',e1⟩:=I.base.there b o e hx
  exact free b o' (neC b o e hx) e1 (I.base.free b o e n hx)
 ·obtain⟨o',e1⟩:=I.base.there b o e hx
  exact there b o' (neC b o e hx) e1
 ·obtain⟨m1,e1⟩:=I.base.w6 b ps e
  obtain⟨m2,e2⟩:=w6 b _ e1
  exact⟨m1++m2,by rw[e2,Array.append_assoc]⟩
 ·obtain⟨m,hn,hl⟩:=I.loc
  refine⟨m,ns m hn,fun i x v e1 e2 e3=>?_⟩
  obtain⟨u,r,l⟩:=hl i x v e1 e2 e3
  refine⟨u,r,?_⟩
  rcases l with l|⟨k,c,e,z⟩
  ·exact .inl l
  ·exact .inr ⟨k,c,e,cellK x c e _ z⟩
 ·obtain⟨v,z⟩:=I.cell x c e
  exact⟨v,cellK x c e v z⟩
 ·obtain⟨m,⟨o,_,_,ho,_⟩,_⟩:=I.loc
  exact free _ o (fun z=>(hch _ z).2.1 rfl) ho I.free
 ·obtain⟨v,o,ho,hd⟩:=I.cell x c e
  exact free c o (fun z=>(hch c z).2.2.1 x c e rfl) ho (I.pR x c e)
 ·obtain⟨e,n,ne,nf,d⟩:=I.pin p hp
  have nch:p.1∉ch:=fun z=>(hch p.1 z).2.2.2 p hp rfl
  exact⟨keep p.1 p.2 ne nf nch e n,free p.1 p.2 nch e n,ne,nf,d⟩
theorem Inv.un {t':Nat} (I:Inv X pins σ H s) (u:Un X.fs [] H H' s.heap h') (hok:wZ X.prog X.w H' h'):Inv X pins σ H' { s with heap:=h',toks:=t' }:=by
 obtain⟨m,⟨o,es,ep,ho,r⟩,_⟩:=id I.loc
 obtain⟨sl,hL⟩:=u.any ho I.free (by simp)
 exact I.step (g':=s.gens) (d':=s.drawn) (ch:=[]) (fun _ z=>nomatch z) (fun b o _ hb _ e n=>u.keep b o e n hb (by simp)) (fun b o _ hb _ e n=>u.slot b o e n hb (by simp)) (fun b o _ e n=>u.free b o e n (by simp)) (fun b o _ e=>u.there b o e (by simp)) u.tups u.vG u.w6 (fun m' hm=>by
  obtain⟨o',es',ep',ho',r'⟩:=hm
  rw[ho] at ho';cases ho'
  exact⟨_,es',ep',hL,r'⟩) hok I.bare
theorem Inv.call {g':Array GenState} {t':Nat} {d':Drawn} {ch:List Addr} (I:Inv X pins σ H s) (u:Un (frs X.stack) ch H H' s.heap h') (hok:wZ X.prog X.w H' h') (hg:AllBare g')
  (hch:∀ b∈ch,(b∈X.ex\/X.s₀.heap.objs.size<=b)/\b≠X.env.locals/\(∀ x c,X.env.cells.lookup x=some c->c≠b)/\∀ p∈X.pn++pins,p.1≠b) :
  Inv X pins σ H' { s with heap:=h',gens:=g',drawn:=d',toks:=t' }:=by
 obtain⟨m,⟨o,es,ep,ho,r⟩,_⟩:=id I.loc
 obtain⟨sl,hL⟩:=u.any ho I.free fun z=>(hch _ z).2.1 rfl
 exact I.step (ch:=ch) hch (fun b o hL hb hc e n=>u.keep b o e n (fun z=>(List.mem_cons.mp (I.Hi b z)).elim hL hb) hc) (fun b o _ _ hc e n=>u.any e n hc) (fun b o hc e n=>u.free b o e n hc) (fun b o hc e=>u.there b o e hc) u.tups u.vG u.w6 (fun m' hm=>by
  obtain⟨o',es',ep',ho',r'⟩:=hm
  rw[ho] at ho';cases ho'
  exact⟨_,es',ep',hL,r'⟩) hok hg
theorem Inv.turned {t':Nat} {it:Addr} (I:Inv X pins σ H s) (k:∀ b o,b≠it->s.heap.get? b=some o->h'.get? b=some o) (hn:H it=none) (hL:it≠X.env.locals)
  (h1:it∈X.ex\/X.s₀.heap.objs.size<=it) (h2:∀ x c,X.env.cells.lookup x=some c->c≠it) (h3:∀ p∈X.pn++pins,p.1≠it):Inv X pins σ H { s with heap:=h',toks:=t' }:=by
 have nit:∀ b u,H b=some u->b≠it:=fun b u e z=>by rw[z,hn] at e;cases e
 refine I.step (g':=s.gens) (d':=s.drawn) (ch:=[it]) (fun b hb=>?_) (fun b o _ _ hc e _=>k b o (fun z=>hc (by simp[z])) e) (fun b o _ _ hc e _=>⟨o.slots,k b o (fun z=>hc (by simp[z])) e⟩) (fun _ _ _ _ n=>n)
  (fun b o hc e=>⟨o,k b o (fun z=>hc (by simp[z])) e⟩) (fun _ _ e=>e) (fun _ _ _ e=>e) (fun b ps e=>⟨#[],by rw[e];simp⟩) (fun m hm=>?_) (fun b u e=>?_) I.bare
 ·have e:b=it:=by simpa using hb
  subst e
  exact⟨h1,hL,h2,h3⟩
 ·obtain⟨o,es,ep,ho,r⟩:=hm
  exact⟨o,es,ep,k _ o (KW hL) ho,r⟩
 ·refine (I.hok b u e).stay (fun c v hc q=>k c v ?_ q) (fun _ q=>q) fun _ _ q=>q
  rcases hc with z|z
  ·rw[z];exact nit b u e
  ·exact nit c _ z
theorem Inv.tok (I:Inv X pins σ H s) (t:Nat):Inv X pins σ H { s with toks:=t }:=I.un (h':=s.heap) (t':=t) Un.refl I.hok
theorem Inv.kept {t':Nat} (I:Inv X pins σ H s) (k:∀ b u,s.heap.get? b=some u->h'.get? b=some u):Inv X pins σ H { s with heap:=h',toks:=t' }:=I.un (Un.kept k) (I.hok.kept k)
theorem Inv.laid {a:Addr} {o:HO} {t':Nat} (I:Inv X pins σ H s) (k:∀ b u,s.heap.get? b=some u->h'.get? b=some u) (hp:s.heap.objs.size<=a) (new:jC X.prog X.w (upd H a o) h' a o) :
  Inv X pins σ (upd H a o) { s with heap:=h',toks:=t' }:=I.un (Un.laid k hp (I.hok.fresh hp)) (I.hok.laid k hp new)
theorem Inv.write {x e:Addr} {o:HO} {t':Nat} (I:Inv X pins σ H s) (mu:Mut (H x)) (he:e=x\/H e=some (.own x)) (k:∀ b u,b≠e->s.heap.get? b=some u->h'.get? b=some u) (heo:∃ u,h'.get? e=some u)
  (new:jC X.prog X.w (upd H x o) h' x o):Inv X pins σ (upd H x o) { s with heap:=h',toks:=t' }:=I.un (Un.write mu he k heo) (I.hok.write mu he k heo new)
theorem Inv.weak {σ':List (Option V)} (I:Inv X pins σ H s) (hl:σ'.length=σ.length) (w:∀ (i:Nat) v,σ'[i]?=some (some v)->σ[i]?=some (some v)):Inv X pins σ' H s:=
 ⟨I.ok,I.os,I.bare,I.base,let ⟨m,hn,hl'⟩:=I.loc;⟨m,hn,fun i x v e1 e2 e3=>hl' i x v e1 (w i v e2) e3⟩,I.cell,I.free,I.pR,I.pin,I.hok,hl.trans I.len⟩
theorem Inv.Hj {Zr:List (Addr×Obj)} (I:Inv X pins σ H s) (h:∀ p∈Zr,s.heap.get? p.1=some p.2/\H p.1=none/\p.1≠X.env.locals/\p.1∉X.fs/\∀ v,p.2.data≠.cell v):Inv X Zr σ H s:=
 ⟨I.ok,I.os,I.bare,I.base,I.loc,I.cell,I.free,I.pR,fun p hp=>(List.mem_append.mp hp).elim (fun z=>I.pin p (Q3 _ z)) (h p),I.hok,I.len⟩
theorem JR {N:List Str} (hN:N.Nodup) {i j:Nat} {x:Str} (a:N[i]?=some x) (b:N[j]?=some x):i=j:=by
 obtain⟨h1,e1⟩:=List.getElem?_eq_some_iff.mp a
 obtain⟨h2,e2⟩:=List.getElem?_eq_some_iff.mp b
 exact (List.getElem_inj hN).mp (e1.trans e2.symm)
theorem QX {M:Model} {A:Around} {E:Value->Shared->Prop} {i:Nat} {x:Str} {v:V} {u:Value} {Q:Unit->Shared->Prop} (I:Inv X pins σ H s) (hN:X.N.Nodup) (hi:X.N[i]?=some x) (hx:Loc X.env.scope x) (r:RelV v u)
  (h:∀ s',Inv X pins (σ.set i (some v)) H s'->(∃ a,Heap.SameBut a s.heap s'.heap/\(a=X.env.locals\/X.env.cells.lookup x=some a))->Q () s') (hf:X.fn x=true\/X.env.scope.names.lookup x=some .local:=by first|exact .inl rfl|exact .inr rfl|assumption):wpAny M A (storeName X.env x u) Q E s:=by
 obtain⟨m,hn,hl⟩:=id I.loc
 have hcls:(X.env.scope.kind==.class||(X.env.scope.kind==.module&&X.env.locals != X.env.globals))=false:=by rw[I.ok.kind];rfl
 have hiσ:i < σ.length:=by rw[I.len];exact (List.getElem?_eq_some_iff.mp hi).1
 have cne:=I.cne
 have tracked:∀ {a:Addr} {h':Heap},(∃ o,s.heap.get? a=some o/\H a=none)->Heap.SameBut a s.heap h'->wZ X.prog X.w H h':=fun {a h'} ha hs b ob e=>by
  obtain⟨_,_,hfree⟩:=ha
  refine (I.hok b ob e).stay (fun c w' hc q=>(hs.2 c ?_).trans q) (fun _ q=>q) fun _ _ q=>q
  rintro rfl
  rcases hc with rfl|hc
  ·rw[hfree] at e;cases e
  ·rw[hfree] at hc;cases hc
 rcases hx with hk|hk
 ·refine wpAny_storeName_local hk hn (fun h' hn' hs=>?_) hcls
  obtain⟨oL,_,_,hoL,_⟩:=id hn
  refine h _ ⟨I.ok,I.os,I.bare,⟨fun b o e n hb hx=>?_,fun b o e n hb hx=>?_,I.base.free,fun b o e hx=>?_,I.base.tups,I.base.vG,I.base.w6⟩,⟨_,hn',fun j y v' e1 e2 e3=>?_⟩,fun y c e=>?_,I.free,I.pR,fun p hp=>?_,tracked ⟨oL,hoL,I.free⟩ hs,by simpa using I.len⟩ ⟨_,hs,.inl rfl⟩
  ·exact (hs.2 b (zD (ZE (zv e) I.ok.above))).trans (I.base.keep b o e n hb hx)
  ·obtain⟨sl,e1⟩:=I.base.slot b o e n hb hx
   exact⟨sl,(hs.2 b (zD (ZE (zv e) I.ok.above))).trans e1⟩
  ·obtain⟨o',e1⟩:=I.base.there b o e hx
   exact⟨o',(hs.2 b (zD (ZE (zv e) I.ok.above))).trans e1⟩
  ·by_cases hj:j=i
   ·subst hj
    rw[hi] at e1;cases e1
    rw[List.getElem?_set_self hiσ] at e2
    cases e2
    exact⟨u,r,.inl ⟨hk,by simp⟩⟩
   ·rw[List.getElem?_set_ne (KW hj)] at e2
    obtain⟨u',r',q⟩:=hl j y v' e1 e2 e3
    refine⟨u',r',?_⟩
    rcases q with⟨k,e⟩|⟨k,c,e,z⟩
    ·refine .inl ⟨k,?_⟩
     have:y≠x:=fun e=>hj (JR hN e1 (e▸hi))
     simp[this,e]
    ·exact .inr ⟨k,c,e,z.sameBut hs (cne y c e)⟩
  ·obtain⟨w',z⟩:=I.cell y c e
   exact⟨w',z.sameBut hs (cne y c e)⟩
  ·obtain⟨e,n,ne,nf,d⟩:=I.pin p hp
   exact⟨(hs.2 p.1 ne).trans e,n,ne,nf,d⟩
 ·have hfn:X.fn x=true:=by
   rcases hf with z|z
   ·exact z
   ·rw[z] at hk;cases hk
  obtain⟨c,hc⟩:=I.ok.has x (.inl hk)
  obtain⟨w',z⟩:=I.cell x c hc
  refine wpAny_storeName_cell I.ok.kind hk hc z (fun h' hc' hs=>?_)
  obtain⟨oc,hoc,aeP⟩:=id z
  refine h { s with heap:=h' } ⟨I.ok,I.os,I.bare,⟨fun b o e n hb hx=>?_,fun b o e n hb hx=>?_,I.base.free,fun b o e hx=>?_,I.base.tups,I.base.vG,I.base.w6⟩,⟨m,hn.sameBut hs (KW (cne x c hc)),fun j y v' e1 e2 e3=>?_⟩,fun y c' e=>?_,I.free,I.pR,fun p hp=>?_,tracked ⟨oc,hoc,I.pR x c hc⟩ hs,by simpa using I.len⟩ ⟨c,hs,.inr hc⟩
  ·exact (hs.2 b (zD (ZE (zv e) (I.ok.cab x c hfn hc)))).trans (I.base.keep b o e n hb hx)
  ·obtain⟨sl,e1⟩:=I.base.slot b o e n hb hx
   exact⟨sl,(hs.2 b (zD (ZE (zv e) (I.ok.cab x c hfn hc)))).trans e1⟩
  ·obtain⟨o',e1⟩:=I.base.there b o e hx
   exact⟨o',(hs.2 b (zD (ZE (zv e) (I.ok.cab x c hfn hc)))).trans e1⟩
  ·by_cases hj:j=i
   ·subst hj
    rw[hi] at e1;cases e1
    rw[List.getElem?_set_self hiσ] at e2
    cases e2
    exact⟨u,r,.inr ⟨.inl hk,c,hc,hc'⟩⟩
   ·rw[List.getElem?_set_ne (KW hj)] at e2
    obtain⟨u',r',q⟩:=hl j y v' e1 e2 e3
    refine⟨u',r',?_⟩
    rcases q with q|⟨k,c',e,z'⟩
    ·exact .inl q
    ·refine .inr ⟨k,c',e,z'.sameBut hs ?_⟩
     rintro rfl
     exact hj (JR hN e1 (I.ok.inj _ _ _ e hc▸hi))
  ·by_cases hcc:c'=c
   ·subst hcc;exact⟨_,hc'⟩
   ·obtain⟨w2,z2⟩:=I.cell y c' e
    exact⟨w2,z2.sameBut hs hcc⟩
  ·obtain⟨e,n,ne,nf,d⟩:=I.pin p hp
   refine⟨(hs.2 p.1 ?_).trans e,n,ne,nf,d⟩
   intro q
   rw[q,hoc] at e
   have q':oc=p.2:=jI e
   exact d w' (by rw[<-q'];exact aeP)
theorem xg {M:Model} {A:Around} {E:Value->Shared->Prop} {i:Nat} {x:Str} {v:V} {u:Value} {Q:Unit->Shared->Prop} (I:Inv X pins σ H s) (hN:X.N.Nodup) (hi:X.N[i]?=some x) (hx:Loc X.env.scope x) (r:RelV v u)
  (h:∀ s',Inv X pins (σ.set i (some v)) H s'->Q () s') (hf:X.fn x=true\/X.env.scope.names.lookup x=some .local:=by first|exact .inl rfl|exact .inr rfl|assumption):wpAny M A (storeName X.env x u) Q E s:=
 QX I hN hi hx r (fun s' I' _=>h s' I') hf
theorem Inv.call' {s':Shared} {ch:List Addr} (I:Inv X pins σ H s) (ho:s'.os=s.os) (u:Un (frs X.stack) ch H H' s.heap s'.heap) (hok:wZ X.prog X.w H' s'.heap) (hg:AllBare s'.gens)
  (hch:∀ b∈ch,(b∈X.ex\/X.s₀.heap.objs.size<=b)/\b≠X.env.locals/\(∀ x c,X.env.cells.lookup x=some c->c≠b)/\∀ p∈X.pn++pins,p.1≠b):Inv X pins σ H' s':=by
 obtain⟨h',g',d',t',o'⟩:=s'
 have e:o'=s.os:=ho
 subst e
 exact I.call (g':=g') (t':=t') (d':=d') u hok hg hch
end
abbrev XK:=Value->Option Addr->Hp->Prop
abbrev St:=List (Option V)
abbrev VK:=V->Hp->Prop
abbrev TE:=St->Hp->VK->Prop
abbrev TT:=St->Hp->(Bool->Hp->Prop)->Prop
abbrev TA:=St->Hp->(List V->Hp->Prop)->Prop
structure Ends where
 nx:St->Hp->Prop
 rt:VK
 bk:St->Hp->Prop:=fun _ _=>False
 ct:St->Hp->Prop:=fun _ _=>False
abbrev TS:=Ends->St->Hp->Prop
def EP (X:Cx) (pins:List (Addr×Obj)) (σ:St) (Q:VK) (u:Value) (s':Shared):Prop:=∃ v H',Inv X pins σ H' s'/\RelV v u/\Q v H'
def TP (X:Cx) (pins:List (Addr×Obj)) (σ:St) (Q:Bool->Hp->Prop) (b:Bool) (s':Shared):Prop:=∃ H',Inv X pins σ H' s'/\Q b H'
def AP (X:Cx) (pins:List (Addr×Obj)) (σ:St) (Q:List V->Hp->Prop) (us:List Value) (s':Shared):Prop:=∃ vs H',Inv X pins σ H' s'/\Vals vs us/\Q vs H'
def SP (X:Cx) (pins:List (Addr×Obj)) (D:Ends) (f:Flow) (s':Shared):Prop:=
 match f with
 |.next=>∃ σ' H',Inv X pins σ' H' s'/\D.nx σ' H'
 |.brk=>∃ σ' H',Inv X pins σ' H' s'/\D.bk σ' H'
 |.cont=>∃ σ' H',Inv X pins σ' H' s'/\D.ct σ' H'
 |.ret u=>∃ v σ' H',Inv X pins σ' H' s'/\RelV v u/\D.rt v H'
def PE (X:Cx) (e:Expr) (t:TE):Prop:=
 ∀ (pins:List (Addr×Obj)) (s:Shared) (σ:St) (H:Hp) (Q:VK),Inv X pins σ H s->t σ H Q->wpAny (model X.prog X.w) X.A (eval e X.env) (EP X pins σ Q) X.xe s
def PT (X:Cx) (e:Expr) (t:TT):Prop:=
 ∀ (pins:List (Addr×Obj)) (s:Shared) (σ:St) (H:Hp) (Q:Bool->Hp->Prop),Inv X pins σ H s->t σ H Q->wpAny (model X.prog X.w) X.A (isTrue e X.env (eval e X.env)) (TP X pins σ Q) X.xe s
def PW (X:Cx) (e:Expr) (t:TT):Prop:=
 ∀ (whole:Sem Value) (pins:List (Addr×Obj)) (s:Shared) (σ:St) (H:Hp) (Q:Bool->Hp->Prop),Inv X pins σ H s->t σ H Q->wpAny (model X.prog X.w) X.A (isTrue e X.env whole) (TP X pins σ Q) X.xe s
theorem PW.pt {X:Cx} {e:Expr} {t:TT} (h:PW X e t):PT X e t:=h _
def PA (X:Cx) (es:List Expr) (t:TA):Prop:=
 ∀ (pos:Pos) (pins:List (Addr×Obj)) (s:Shared) (σ:St) (H:Hp) (Q:List V->Hp->Prop),Inv X pins σ H s->t σ H Q->wpAny (model X.prog X.w) X.A (spliced (backTo pos (starEach es X.env))) (AP X pins σ Q) X.xe s
def PS (X:Cx) (st:Stmt) (t:TS):Prop:=
 ∀ (pins:List (Addr×Obj)) (s:Shared) (σ:St) (H:Hp) (D:Ends),Inv X pins σ H s->t D σ H->wpAny (model X.prog X.w) X.A (exec st X.env) (SP X pins D) X.xe s
def O6 (X:Cx) (st:List Stmt) (t:TS):Prop:=
 ∀ (pins:List (Addr×Obj)) (s:Shared) (σ:St) (H:Hp) (D:Ends),Inv X pins σ H s->t D σ H->wpAny (model X.prog X.w) X.A (execs st X.env) (SP X pins D) X.xe s
theorem mC {α:Type} {t:Sem α} {Q Q':α->Shared->Prop} {M:Model} {A:Around} {E:Value->Shared->Prop} {s:Shared} (h:wpAny M A t Q E s) (hQ:∀ a s,Q a s->Q' a s):wpAny M A t Q' E s:=qB h hQ fun _ _ x=>x
end L2
namespace L2
open PySem PySem.Spec PyProof.Rows
section
variable {X:Cx}
def acF (i:Nat):TE:=fun σ H Q=>∃ v,σ[i]?=some (some v)/\Q v H
def tC (v:V):TE:=fun _ H Q=>Q v H
theorem wF {i:Nat} {x:Str} {pos:Pos} (hN:X.N[i]?=some x) (hv:Ww X.env.scope x) (hd:(x==("__debug__" : Str))=false:=by decide) (hcd:(x==("__classdict__" : Str))=false:=by decide):PE X (.Name x pos) (acF i):=by
 intro pins s σ H Q I h
 obtain⟨v,e,h⟩:=h
 obtain⟨m,hn,hl⟩:=I.loc
 obtain⟨u,r,l⟩:=hl i x v hN e hv
 have fin:EP X pins σ Q u s:=⟨v,H,I,r,h⟩
 rcases l with⟨hk,hm⟩|⟨hk,c,hc,hcell⟩
 ·exact wpAny_Name (wpAny_loadName_local I.ok.kind hk hn hm fin) hd
 ·rcases hk with hk|hk
  ·exact wpAny_Name (wpAny_loadName_cell I.ok.kind hk hc hcell fin) hd
  ·exact wpAny_Name (wpAny_loadName_free I.ok.kind hk hc hcell fin hcd) hd
theorem aan {i j pos}:PE X (.Constant (.int i) j pos) (tC (.int i)):=fun _ _ _ H _ I h=>wpAny_Constant_int ⟨.int i,H,I.tok _,⟨_,rfl⟩,h⟩
theorem acG {b j pos}:PE X (.Constant (.bool b) j pos) (tC (.bl b)):=fun _ _ _ H _ I h=>Constant_bool ⟨.bl b,H,I,rfl,h⟩
theorem aao {j pos}:PE X (.Constant .none j pos) (tC .non):=fun _ _ _ H _ I h=>Constant_none ⟨.non,H,I,rfl,h⟩
theorem aap {x j pos}:PE X (.Constant (.str x) j pos) (tC (.str x)):=fun _ _ _ H _ I h=>Calls.Constant_str ⟨.str x,H,I.tok _,⟨_,rfl⟩,h⟩
def Gl (X:Cx) (x:Str):Prop:=X.env.kindOf x=some .globalImplicit
theorem WR {E:Value->Shared->Prop} {pins:List (Addr×Obj)} {s:Shared} {σ:St} {H:Hp} {x:Str} {u:Value} {pos:Pos} {Q:Value->Shared->Prop} (I:Inv X pins σ H s) (hg:Gl X x) (hm:X.mg x=some u) (h:Q u s)
  (hd:(x==("__debug__" : Str))=false:=by decide):wpAny (model X.prog X.w) X.A (eval (.Name x pos) X.env) Q E s:=
 Calls.Name_function_global I.ok.kind hg (Calls.loadGlobal_global (by rw[I.ok.glob];exact I.mod.glob.keeps I.bk) hm h) hd
theorem BK {E:Value->Shared->Prop} {pins:List (Addr×Obj)} {s:Shared} {σ:St} {H:Hp} {x:Str} {u:Value} {pos:Pos} {Q:Value->Shared->Prop} (I:Inv X pins σ H s) (hg:Gl X x) (hm:X.mg x=none) (hv:bootBuiltins x=some u) (h:Q u s)
  (hn:x ≠ "__name__" := by decide) (hd:(x==("__debug__" : Str))=false:=by decide):wpAny (model X.prog X.w) X.A (eval (.Name x pos) X.env) Q E s:=by
 obtain⟨mb,h1,h2⟩:=I.mod.blt
 exact Calls.Name_function_global I.ok.kind hg (Calls.loadGlobal_builtin (by rw[I.ok.glob];exact I.mod.glob.keeps I.bk) hm (by rw[I.ok.blt];exact h1.keeps I.bk) ((h2 x hn).trans hv) h) hd
variable {a b:Expr} {ta tb:TE} {pos:Pos}
variable {tA tB':TT} {rest:List Expr}
def acH (t u:TT):TT:=fun σ H Q=>t σ H fun c H1=>if c=true then u σ H1 Q else Q false H1
def tOr (t u:TT):TT:=fun σ H Q=>t σ H fun c H1=>if c=true then Q true H1 else u σ H1 Q
def aeQ (t:TT):TT:=fun σ H Q=>t σ H fun c H1=>Q (!c) H1
theorem WT (ha:PT X a tA):PW X (.BoolOp .And [a] pos) tA:=by
 intro wh pins s σ H Q I h
 refine isTrue_and (mC (ha pins s σ H Q I h) fun c s1 e=>?_)
 cases c with
 |true=>exact isTrue_and_nil e
 |false=>exact e
theorem aaq (ha:PT X a tA):PW X (.BoolOp .Or [a] pos) tA:=by
 intro wh pins s σ H Q I h
 refine isTrue_or (mC (ha pins s σ H Q I h) fun c s1 e=>?_)
 cases c with
 |false=>exact isTrue_or_nil e
 |true=>exact e
theorem aar (ha:PT X a tA) (hb:PW X (.BoolOp .And (b::rest) pos) tB'):PW X (.BoolOp .And (a::b::rest) pos) (acH tA tB'):=by
 intro wh pins s σ H Q I h
 refine isTrue_and (mC (ha pins s σ H _ I h) fun c s1 ⟨H1,I1,q1⟩=>?_)
 cases c with
 |true=>exact hb wh pins s1 σ H1 Q I1 q1
 |false=>exact⟨H1,I1,q1⟩
theorem acI (ha:PT X a tA) (hb:PW X (.BoolOp .Or (b::rest) pos) tB'):PW X (.BoolOp .Or (a::b::rest) pos) (tOr tA tB'):=by
 intro wh pins s σ H Q I h
 refine isTrue_or (mC (ha pins s σ H _ I h) fun c s1 ⟨H1,I1,q1⟩=>?_)
 cases c with
 |true=>exact⟨H1,I1,q1⟩
 |false=>exact hb wh pins s1 σ H1 Q I1 q1
theorem aas (ha:PT X a tA):PT X (.UnaryOp .Not a pos) (aeQ tA):=by
 intro pins s σ H Q I h
 exact isTrue_not (ha pins s σ H (fun c H1=>Q (!c) H1) I h)
end
end L2
namespace L2
open PySem PySem.Spec PyProof.Rows
def tR (K:PySem.W.Frag) (H:Hp) (a:Addr) (xs:List V):Prop:=
 Rd H a (.lst xs) ∨
  ∃ (o:Obj) (its:Array Value) (n:Nat),K.lookup a=some o/\o.cls=.type "list" ∧ o.dict=none/\o.data=.seq its n/\its.size<=sizeLine/\Vals xs its.toList
def vH (K:PySem.W.Frag) (H:Hp) (a:Addr) (xs:List V):Prop:=
 Rd H a (.tup xs) ∨
  ∃ (o:Obj) (its:Array Value) (n:Nat),K.lookup a=some o/\(o.cls=.type "tuple" ∧ o.dict=none)/\o.data=.seq its n/\its.size<=sizeLine/\Vals xs its.toList
def aat:Value->Option V
 |.none=>some .non
 |.bool b=>some (.bl b)
 |.int i _=>some (.int i)
 |.str x _=>some (.str x)
 |.bytes b _=>some (.byt b)
 |.float b _=>some (.flt b)
 |.ref a=>some (.ref a)
 |.type n=>some (.ty n)
 |_=>none
theorem RelV.abs {x:V} {u:Value} (r:RelV x u):aat u=some x:=by
 cases x with
 |non=>cases r;rfl
 |bl _=>cases r;rfl
 |int _=>obtain⟨t,rfl⟩:=r;rfl
 |str _=>obtain⟨t,rfl⟩:=r;rfl
 |byt _=>obtain⟨t,rfl⟩:=r;rfl
 |flt _=>obtain⟨t,rfl⟩:=r;rfl
 |ref _=>cases r;rfl
 |ty _=>cases r;rfl
theorem RelV.inj {x y:V} {u:Value} (r:RelV x u) (q:RelV y u):x=y:=jI (r.abs.symm.trans q.abs)
theorem Vals.inj:∀ {xs ys:List V} {us:List Value},Vals xs us->Vals ys us->xs=ys
 |_,_,_,.nil,.nil=>rfl
 |_,_,_,.cons r t,.cons r' t'=>by rw[r.inj r',Vals.inj t t']
section
variable {X:Cx} {pins:List (Addr×Obj)} {σ:St} {H:Hp} {s:Shared} {a:Addr} {xs ys:List V}
theorem tR.of {K:PySem.W.Frag} (h:H a=some (.lst xs)):tR K H a xs:=.inl (.inl h)
theorem vH.of {K:PySem.W.Frag} (h:H a=some (.tup xs)):vH K H a xs:=.inl (.inl h)
theorem Inv.list (I:Inv X pins σ H s) (h:tR X.K H a xs):∃ its:List Value,Vals xs its/\PlainL s.heap a its.toArray/\xs.length<=sizeLine:=by
 rcases h with h|⟨o,its,n,hk,hc,hd,hs,hz,r⟩
 ·obtain⟨z,its,n,r,e⟩:=h.ok I.hok
  exact⟨its,r,⟨_,n,e,rfl,rfl,rfl⟩,z⟩
 ·refine⟨its.toList,r,⟨o,n,I.kIn a o hk,hc,hd,by simpa using hs⟩,?_⟩
  have e:=r.length
  simp only[qf] at e
  omega
theorem Inv.tuple (I:Inv X pins σ H s) (h:vH X.K H a xs):∃ its:List Value,Vals xs its/\IsTup s.heap a its.toArray/\xs.length<=sizeLine:=by
 rcases h with h|⟨o,its,n,hk,hc,hs,hz,r⟩
 ·obtain⟨z,its,r,p⟩:=h.ok I.hok
  exact⟨its,r,p.weak,z⟩
 ·refine⟨its.toList,r,⟨o,I.kIn a o hk,hc.1,n,by simpa using hs⟩,?_⟩
  have e:=r.length
  simp only[qf] at e
  omega
theorem Inv.JT (I:Inv X pins σ H s) (h:tR X.K H a xs) (h':tR X.K H a ys):xs=ys:=by
 obtain⟨its,r,⟨o,n,e,_,_,d⟩,_⟩:=I.list h
 obtain⟨its',r',⟨o',n',e',_,_,d'⟩,_⟩:=I.list h'
 rw[e] at e';cases e'
 rw[d] at d'
 injection d' with d1 _
 have:its=its':=by simpa using congrArg Array.toList d1
 subst this
 exact r.inj r'
theorem Inv.FW (I:Inv X pins σ H s) (h:vH X.K H a xs) (h':vH X.K H a ys):xs=ys:=by
 obtain⟨its,r,⟨o,e,_,n,d⟩,_⟩:=I.tuple h
 obtain⟨its',r',⟨o',e',_,n',d'⟩,_⟩:=I.tuple h'
 rw[e] at e';cases e'
 rw[d] at d'
 injection d' with d1 _
 have:its=its':=by simpa using congrArg Array.toList d1
 subst this
 exact r.inj r'
end
abbrev Cx.wish (X:Cx) (E:Value->Shared->Prop):Cx:={ X with xe:=E }
abbrev Cx.S5 (X:Cx):Cx:=X.wish fun _ _=>False
theorem Cx.Ok.wish {X:Cx} (ok:X.Ok) (E:Value->Shared->Prop):(X.wish E).Ok:=
 ⟨ok.mod,ok.kind,ok.glob,ok.blt,ok.above,ok.inj,ok.has,ok.cab,ok.hd,ok.frames,ok.stk,ok.exf,ok.bs,ok.WM,ok.Tg,ok.WQ,ok.Am,ok.frf⟩
theorem Cx.Ok.qM {X:Cx} {E:Value->Shared->Prop} (ok:(X.wish E).Ok):X.Ok:=
 ⟨ok.mod,ok.kind,ok.glob,ok.blt,ok.above,ok.inj,ok.has,ok.cab,ok.hd,ok.frames,ok.stk,ok.exf,ok.bs,ok.WM,ok.Tg,ok.WQ,ok.Am,ok.frf⟩
section
variable {X:Cx} {pins:List (Addr×Obj)} {σ:St} {H:Hp} {s:Shared} {E:Value->Shared->Prop}
theorem Inv.wish (I:Inv X pins σ H s) (E:Value->Shared->Prop):Inv (X.wish E) pins σ H s:=⟨I.ok.wish E,I.os,I.bare,I.base,I.loc,I.cell,I.free,I.pR,I.pin,I.hok,I.len⟩
theorem Inv.qM (I:Inv (X.wish E) pins σ H s):Inv X pins σ H s:=⟨I.ok.qM,I.os,I.bare,I.base,I.loc,I.cell,I.free,I.pR,I.pin,I.hok,I.len⟩
theorem SP.qM {D:Ends} {f:Flow} {s':Shared} (h:SP (X.wish E) pins D f s'):SP X pins D f s':=by
 cases f with
 |next=>obtain⟨σ',H',I,q⟩:=h;exact⟨σ',H',I.qM,q⟩
 |brk=>obtain⟨σ',H',I,q⟩:=h;exact⟨σ',H',I.qM,q⟩
 |cont=>obtain⟨σ',H',I,q⟩:=h;exact⟨σ',H',I.qM,q⟩
 |ret u=>obtain⟨v,σ',H',I,r,q⟩:=h;exact⟨v,σ',H',I.qM,r,q⟩
theorem PE.S5 {e:Expr} {t:TE} (h:PE X.S5 e t):PE X e t:=fun pins s σ H Q I hw=>
 qB (h pins s σ H Q (I.wish _) hw) (fun _ _ ⟨v,H',I',r,q⟩=>⟨v,H',I'.qM,r,q⟩) fun _ _ z=>False.elim z
theorem PT.S5 {e:Expr} {t:TT} (h:PT X.S5 e t):PT X e t:=fun pins s σ H Q I hw=>
 qB (h pins s σ H Q (I.wish _) hw) (fun _ _ ⟨H',I',q⟩=>⟨H',I'.qM,q⟩) fun _ _ z=>False.elim z
theorem O6.S5 {st:List Stmt} {t:TS} (h:O6 X.S5 st t):O6 X st t:=fun pins s σ H D I hw=>
 qB (h pins s σ H D (I.wish _) hw) (fun _ _ q=>q.qM) fun _ _ z=>False.elim z
end
section
variable {X:Cx} {st:Stmt} {rest:List Stmt} {t u:TS} {e:Expr} {te:TE} {pos:Pos}
def acJ:TS:=fun D σ H=>D.nx σ H
def aeR (t u:TS):TS:=fun D σ H=>t { D with nx:=u D } σ H
theorem WW:O6 X [] acJ:=fun _ _ σ H _ I h=>wpAny_execs_nil ⟨σ,H,I,h⟩
theorem Ti (h1:PS X st t) (h2:O6 X rest u):O6 X (st::rest) (aeR t u):=by
 intro pins s σ H D I h
 refine wpAny_execs_cons (mC (h1 pins s σ H { D with nx:=u D } I h) fun f s1 q=>?_)
 cases f with
 |next=>
  obtain⟨σ',H',I',q⟩:=q
  exact h2 pins s1 σ' H' D I' q
 |ret v=>exact q
 |brk=>exact q
 |cont=>exact q
theorem Inv.quiet {pins:List (Addr×Obj)} {σ:St} {H:Hp} {s:Shared} (I:Inv X pins σ H s):interactive X.env=false:=by simp[interactive,I.ok.kind]
def acK (te:TE):TS:=fun D σ H=>te σ H fun _ H1=>D.nx σ H1
theorem O7 (he:PE X e te) (hs:swapsWith e none pos.line X.env=pure false:=by rfl):PS X (.Expr e pos) (acK te):=by
 intro pins s σ H D I h
 exact wpAny_Expr_any (mC (he pins s σ H _ I h) fun v s1 ⟨x,H1,I1,r1,q1⟩=>⟨σ,H1,I1,q1⟩) I.quiet hs
def aeS (te:TE):TS:=fun D σ H=>te σ H D.rt
theorem Tj (he:PE X e te):PS X (.Return (some e) pos) (aeS te):=by
 intro pins s σ H D I h
 exact wpAny_Return_some (mC (he pins s σ H _ I h) fun v s1 ⟨x,H1,I1,r1,q1⟩=>⟨x,σ,H1,I1,r1,q1⟩)
def aeT (c:TT) (t u:TS):TS:=fun D σ H=>c σ H fun b H1=>if b=true then t D σ H1 else u D σ H1
theorem acL {c:Expr} {a b:List Stmt} {tc:TT} (hc:PT X c tc) (ha:O6 X a t) (hb:O6 X b u):PS X (.If c a b pos) (aeT tc t u):=by
 intro pins s σ H D I h
 refine wpAny_If (mC (hc pins s σ H _ I h) fun d s1 ⟨H1,I1,q1⟩=>?_)
 cases d with
 |true=>exact ha pins s1 σ H1 D I1 q1
 |false=>exact hb pins s1 σ H1 D I1 q1
end
abbrev TG:=V->St->Hp->(St->Hp->Prop)->Prop
abbrev Zt:=List V->St->Hp->(St->Hp->Prop)->Prop
def PG (X:Cx) (target:Expr) (t:TG):Prop:=
 ∀ (pins:List (Addr×Obj)) (s:Shared) (σ:St) (H:Hp) (v:V) (u:Value) (Q:St->Hp->Prop),Inv X pins σ H s->RelV v u->t v σ H Q →
  wpAny (model X.prog X.w) X.A (assign target X.env u) (fun _ s'=>∃ σ' H',Inv X pins σ' H' s'/\Q σ' H') X.xe s
def QZ (X:Cx) (ts:List Expr) (t:Zt):Prop:=
 ∀ (pins:List (Addr×Obj)) (s:Shared) (σ:St) (H:Hp) (vs:List V) (us:List Value) (Q:St->Hp->Prop),Inv X pins σ H s->Vals vs us->t vs σ H Q →
  wpAny (model X.prog X.w) X.A (assignInOrder ((assignEach ts X.env).map (·.2)) us) (fun _ s'=>∃ σ' H',Inv X pins σ' H' s'/\Q σ' H') X.xe s
section
variable {X:Cx} {pos:Pos}
def Zu (i:Nat):TG:=fun v σ H Q=>Q (σ.set i (some v)) H
theorem O8 {i:Nat} {x:Str} (hN:X.N.Nodup) (hi:X.N[i]?=some x) (hx:Loc X.env.scope x) (hf:X.fn x=true\/X.env.scope.names.lookup x=some .local:=by first|exact .inl rfl|exact .inr rfl|assumption):PG X (.Name x pos) (Zu i):=by
 intro pins s σ H v u Q I r h
 exact wpAny_assign_Name (xg I hN hi hx r (fun s' I'=>⟨_,H,I',h⟩) hf)
def aeU:Zt:=fun vs σ H Q=>vs=[]/\Q σ H
def acM (t:TG) (u:Zt):Zt:=fun vs σ H Q=>∃ v r,vs=v::r/\t v σ H fun σ' H'=>u r σ' H' Q
theorem WX:QZ X [] aeU:=by
 intro pins s σ H vs us Q I r h
 obtain⟨e,h⟩:=h
 subst e
 cases r
 exact assignInOrder_nil ⟨σ,H,I,h⟩
theorem Tn {e:Expr} {es:List Expr} {t:TG} {u:Zt} (h1:PG X e t) (h2:QZ X es u)
  (hs:(assignEach (e::es) X.env).map (·.2)=assign e X.env::(assignEach es X.env).map (·.2):=by rfl):QZ X (e::es) (acM t u):=by
 intro pins s σ H vs us Q I r h
 obtain⟨v,vr,e1,h⟩:=h
 subst e1
 cases r with
 |cons r rr=>
  rw[hs]
  refine assignInOrder_cons (mC (h1 pins s σ H _ _ _ I r h) fun _ s1 ⟨σ1,H1,I1,q1⟩=>?_)
  exact h2 pins s1 σ1 H1 _ _ Q I1 rr q1
def aeV (K:PySem.W.Frag) (n:Nat) (t:Zt):TG:=fun v σ H Q=>∃ a xs,v=.ref a/\vH K H a xs/\xs.length=n/\t xs σ H Q
theorem aau {es:List Expr} {k:Nat} {t:Zt} {n:Nat} (hc:X.calm=true) (h:QZ X es t)
  (hn:(assignEach es X.env).length=n:=by rfl) (hst:(assignEach es X.env).findIdx? (·.1)=none:=by rfl):PG X (.Tuple es k pos) (aeV X.K n t):=by
 intro pins s σ H v u Q I r hw
 obtain⟨a,xs,e1,hq,hl,hw⟩:=hw
 subst e1
 cases r
 obtain⟨its,rv,ht,hz⟩:=I.tuple hq
 refine assign_Tuple_tuple (I.ok.hd hc) ht (by simp[hn,<-hl,rv.length]) hst fun h' hx=>?_
 have I1:Inv X pins σ H { s with heap:=h' }:=I.kept (t':=s.toks) fun b o e=>hx b o (zD (zv e)) e
 exact h pins _ σ H xs _ Q I1 (by simpa using rv) hw
def acN (te:TE) (g:TG):TS:=fun D σ H=>te σ H fun x H1=>g x σ H1 D.nx
theorem aav {tg e:Expr} {te:TE} {g:TG} (he:PE X e te) (hg:PG X tg g) (hs:swapsWithSole [tg] e pos.line X.env=pure false:=by rfl) (hw:swappedStores [tg] e X.env=pure none:=by rfl)
  (h1:(assignEach [tg] X.env).map (·.2)=[assign tg X.env]:=by rfl):PS X (.Assign [tg] e pos) (acN te g):=by
 intro pins s σ H D I h
 refine wpAny_Assign_stores (mC (he pins s σ H _ I h) fun v s1 ⟨x,H1,I1,r1,q1⟩=>?_) hs hw
 rw[h1]
 exact mC (hg pins s1 σ H1 x v _ I1 r1 q1) fun _ s2 q=>q
theorem aaw {i:Nat} {x:Str} {e:Expr} {te:TE} {pos':Pos} (hN:X.N.Nodup) (hi:X.N[i]?=some x) (hx:Loc X.env.scope x) (he:PE X e te) (hs:swapsWith e (some (.Name x pos')) pos.line X.env=pure false:=by rfl) (hf:X.fn x=true\/X.env.scope.names.lookup x=some .local:=by first|exact .inl rfl|exact .inr rfl|assumption) :
  PS X (.Assign [.Name x pos'] e pos) (acN te (Zu i)):=by
 intro pins s σ H D I h
 refine wpAny_Assign_Name (mC (he pins s σ H _ I h) fun v s1 ⟨y,H1,I1,r1,q1⟩=>?_) hs
 exact xg I1 hN hi hx r1 (fun s2 I2=>⟨_,H1,I2,q1⟩) hf
def aeW (i j:Nat) (ta:TA):TS:=fun D σ H=>ta σ H fun vs H1=>∃ v w,vs=[v,w]/\D.nx ((σ.set i (some v)).set j (some w)) H1
theorem aax {i j:Nat} {x y:Str} {a b:Expr} {ta:TA} {px py pt:Pos} {kt k2 pt2} (hc:X.calm=true) (hN:X.N.Nodup) (hi:X.N[i]?=some x) (hj:X.N[j]?=some y) (hij:i≠j)
  (hx:X.env.scope.names.lookup x=some .local) (hy:X.env.scope.names.lookup y=some .local) (ha:PA X [a,b] ta)
  (hw:swappedStores [.Tuple [.Name x px,.Name y py] kt pt] (.Tuple [a,b] k2 pt2) X.env=pure (some [x,y]))
  (hs:swapsWithSole [.Tuple [.Name x px,.Name y py] kt pt] (.Tuple [a,b] k2 pt2) pos.line X.env=pure false:=by rfl) :
  PS X (.Assign [.Tuple [.Name x px,.Name y py] kt pt] (.Tuple [a,b] k2 pt2) pos) (aeW i j ta):=by
 intro pins s σ H D I h
 rw[exec_Assign_arm]
 refine zb (yz ?_)
 rw[hs]
 refine zb (ze ?_)
 rw[zw (by decide)]
 refine zb (Tuple_ (mC (ha _ pins s σ H _ I h) fun us s1 ⟨vs,H1,I1,r1,q1⟩=>?_))
 obtain⟨v,w,e1,q1⟩:=q1
 subst e1
 obtain⟨u1,u2,rfl,rv,O9⟩:∃ u1 u2,us=[u1,u2]/\RelV v u1/\RelV w u2:=by
  cases r1 with
  |cons p q=>
   cases q with
   |cons p' q'=>
    cases q'
    exact⟨_,_,rfl,p,p'⟩
 refine Z3 ?_ (by show 2<=sizeLine;decide)
 have I2:Inv X pins σ H1 { s1 with heap:=s1.heap.push { cls:=.type "tuple", data:=.seq [u1,u2].toArray } }:=I1.kept (t':=s1.toks) fun b o e=>zd _ e
 rw[hw]
 refine zb (ze ?_)
 show wpAny (model X.prog X.w) X.A (do rule "assign.swapped-stores"; let items <-unpackItems (.ref s1.heap.objs.size) 2 none;assignInOrder [fun v=>bindName X.env y v,fun v=>bindName X.env x v] items.reverse;pure Flow.next) _ _ _
 refine zb (kD (zb (unpackItems_tuple (items:=#[u1,u2]) (I.ok.hd hc) (IsTup.new s1.heap _) fun h' hx'=>?_)))
 have I3:=I2.kept (h':=h') (t':=s1.toks) fun b o e=>hx' b o (zD (zv e)) e
 show wpAny _ _ (assignInOrder [fun v=>bindName X.env y v,fun v=>bindName X.env x v] [u2,u1] >>= fun _=>pure Flow.next) _ _ _
 refine zb (assignInOrder_cons (wpAny_bindName (xg I3 hN hj (.inl hy) O9 (fun s2 I4=>?_) (.inr hy))))
 refine assignInOrder_cons (wpAny_bindName (xg I4 hN hi (.inl hx) rv (fun s3 I5=>assignInOrder_nil (ze ?_)) (.inr hx)))
 rw[List.set_comm _ _ (KW hij)] at I5
 exact⟨_,H1,I5,q1⟩
end
section
variable {X:Cx} {pos:Pos}
end
structure It where
 go:Nat->Hp->Prop
 yld:Nat->Hp->V->Hp->Prop
 stop:Nat->Hp->Prop
def tZ (X:Cx) (pins:List (Addr×Obj)) (H:Hp) (b:Addr):Prop:=
 H b=none/\b≠X.env.locals/\b∉X.fs/\(b∈X.ex\/X.s₀.heap.objs.size<=b)/\(∀ x c,X.env.cells.lookup x=some c->c≠b)/\∀ p∈X.pn++pins,p.1≠b
theorem Inv.WY {X:Cx} {pins:List (Addr×Obj)} {σ:St} {H H':Hp} {s:Shared} {b:Addr} (I:Inv X pins σ H s) (hb:s.heap.objs.size<=b) (hn:H' b=none):tZ X pins H' b:=by
 refine⟨hn,Kb (ZE I.lt hb),I.aeO hb,.inr (z3 I.sz hb),fun x c e z=>?_,fun p hp z=>?_⟩
 ·obtain⟨v,q⟩:=I.cell x c e
  exact absurd (ZE q.lt (by rw[z];exact hb)) (ka _)
 ·exact absurd (ZE (zv (I.pin p hp).1) (by rw[z];exact hb)) (ka _)
structure Turn (P:Program) (w:World) (K:PySem.W.Frag) (tg:Expr) (J:It) (fp:List Addr) (it:Addr) (tn:Nat->Heap->Prop):Prop where
 mem:it∈fp
 obj:∀ i h,tn i h->∀ b∈fp,∃ o,h.get? b=some o/\∀ v,o.data≠.cell v
 keep:∀ i h h',tn i h->(∀ b∈fp,∀ o,h.get? b=some o->h'.get? b=some o)->tn i h'
 item:∀ (X:Cx),X.prog=P->X.w=w->X.K=K->X.calm=true->∀ (i:Nat) (pins:List (Addr×Obj)) (s:Shared) (σ:St) (H:Hp) (E:Value->Shared->Prop),Inv X pins σ H s->(∀ b∈fp,tZ X pins H b)->tn i s.heap->J.go i H →
  wpAny (model P w) X.A (pyNext (.ref it)) (fun r s1=>∃ u,r=some u ∧
   wpAny (model P w) X.A (letOwnedTupleGo tg (.ref it) u) (fun _ s2=>∃ x H',Inv X pins σ H' s2/\RelV x u/\J.yld i H x H'/\tn (i+1) s2.heap/\∀ b∈fp,H' b=none) E s1) E s
 done:∀ (X:Cx),X.prog=P->X.w=w->X.K=K->X.calm=true->∀ (i:Nat) (pins:List (Addr×Obj)) (s:Shared) (σ:St) (H:Hp) (E:Value->Shared->Prop),Inv X pins σ H s->(∀ b∈fp,tZ X pins H b)->tn i s.heap->J.stop i H →
  wpAny (model P w) X.A (pyNext (.ref it)) (fun r s1=>r=none/\Inv X pins σ H s1) E s
 self:∀ (A:Around) (i:Nat) (s:Shared) (Q:Value->Shared->Prop) (E:Value->Shared->Prop),tn i s.heap->Q (.ref it) s->wpAny (model P w) A (pyIter (.ref it)) Q E s
abbrev TI:=St->Hp->(It->Hp->Prop)->Prop
def PIE (X:Cx) (pins:List (Addr×Obj)) (σ:St) (tg:Expr) (R:It->Hp->Prop) (itv:Value) (s2:Shared):Prop:=
 ∃ (it:Addr) (fp:List Addr) (tn:Nat->Heap->Prop) (J:It) (H':Hp),itv=.ref it/\Inv X pins σ H' s2/\Turn X.prog X.w X.K tg J fp it tn/\tn 0 s2.heap/\(∀ b∈fp,tZ X pins H' b)/\R J H'
def PI (X:Cx) (tg iter:Expr) (wi:TI):Prop:=
 ∀ (pins:List (Addr×Obj)) (s:Shared) (σ:St) (H:Hp) (R:It->Hp->Prop),Inv X pins σ H s->wi σ H R →
  wpAny (model X.prog X.w) X.A (eval iter X.env) (fun v s1=>wpAny (model X.prog X.w) X.A (pyIter v) (PIE X pins σ tg R) X.xe s1) X.xe s
theorem FZ {M:Model} {A:Around} {E:Value->Shared->Prop} {s:Shared} {tg:Expr} {it:Addr} {u:Value} {o:Obj} {n:String} {vs:Array Value} {Q:Unit->Shared->Prop} (ho:s.heap.get? it=some o) (hc:o.cls=.type n) (hd:o.data=.fields vs)
  (hn:["enumerate", "zip", "dict_itemiterator", "dict_reverseitemiterator", "odict_iterator", "itertools.zip_longest", "itertools.pairwise"].contains n=false) (hQ:Q () s):wpAny M A (letOwnedTupleGo tg (.ref it) u) Q E s:=by
 unfold letOwnedTupleGo
 cases tg<;>first
  |exact ze hQ
  |(cases u<;>first
    |exact ze hQ
    |(refine zb (wpAny_load ho ?_)
      rw[hc,hd]
      show wpAny M A (if (["enumerate", "zip", "dict_itemiterator", "dict_reverseitemiterator", "odict_iterator", "itertools.zip_longest", "itertools.pairwise"].contains n&&vs[0]?==some (rawInt _))=true then _ else _) Q E s
      rw[zw (by intro h;rw[hn,Bool.false_and] at h;cases h)]
      exact ze hQ))
def Itl (K:PySem.W.Frag) (a:Addr):It:=
 ⟨fun i H=>∃ xs x,tR K H a xs/\xs[i]?=some x,fun i H x H'=>H'=H/\∀ xs,tR K H a xs->xs[i]?=some x,fun i H=>∃ xs,tR K H a xs/\xs.length<=i⟩
def Itt (K:PySem.W.Frag) (a:Addr):It:=
 ⟨fun i H=>∃ xs x,vH K H a xs/\xs[i]?=some x,fun i H x H'=>H'=H/\∀ xs,vH K H a xs->xs[i]?=some x,fun i H=>∃ xs,vH K H a xs/\xs.length<=i⟩
def Itr (lo:Int) (n:Nat):It:=⟨fun i _=>i < n,fun i H x H'=>H'=H/\x=.int (lo+i),fun i _=>n<=i⟩
theorem Q0 {P:Program} {w:World} {K:PySem.W.Frag} {tg:Expr} (a it:Addr):Turn P w K tg (Itl K a) [it] it (fun i h=>h.IsListIter it a i) where
 mem:=by simp
 obj:=fun i h st b hb=>by
  have e:b=it:=by simpa using hb
  subst e
  obtain⟨o,e,c,d⟩:=st
  exact⟨o,e,fun v z=>by rw[d] at z;cases z⟩
 keep:=fun i h h' st k=>st.at fun o e=>k it (by simp) o e
 item:=by
  intro X hP hw hK hc i pins s σ H E I hf st hg
  subst hP hw hK
  obtain⟨xs,x,hq,hx⟩:=hg
  obtain⟨its,rv,p,hz⟩:=I.list hq
  obtain⟨u,hu,ru⟩:=rv.get hx
  obtain⟨f0,f1,f2,f3,f4,f5⟩:=hf it (by simp)
  refine wpAny_pyNext_list_item st p.isList (x:=u) (by simpa using hu) fun h' st' sb=>?_
  have I1:Inv X pins σ H { s with heap:=h' }:=I.turned (t':=s.toks) (fun b o hb e=>(sb.2 b hb).trans e) f0 f1 f3 f4 f5
  obtain⟨o,e,c,d⟩:=id st'
  exact⟨u,rfl,FZ (s:={ s with heap:=h' }) e c d (by decide) ⟨x,H,I1,ru,⟨rfl,fun ys hy=>by rw[I.JT hy hq];exact hx⟩,st',fun b hb=>(hf b hb).1⟩⟩
 done:=by
  intro X hP hw hK hc i pins s σ H E I hf st hg
  subst hP hw hK
  obtain⟨xs,hq,hx⟩:=hg
  obtain⟨its,rv,p,hz⟩:=I.list hq
  obtain⟨f0,f1,f2,f3,f4,f5⟩:=hf it (by simp)
  have hl:=rv.length
  exact wpAny_pyNext_list_end (I.ok.hd hc) st p.isList (by simp;omega) fun h' eb=>⟨rfl,I.turned (t':=s.toks) (fun b o hb e=>eb b o hb e) f0 f1 f3 f4 f5⟩
 self:=fun _ _ _ _ _ st h=>wpAny_pyIter_listiter st h
theorem Mv {P:Program} {w:World} {K:PySem.W.Frag} {tg:Expr} (a it:Addr):Turn P w K tg (Itt K a) [it] it (fun i h=>h.IsTupleIter it a i) where
 mem:=by simp
 obj:=fun i h st b hb=>by
  have e:b=it:=by simpa using hb
  subst e
  obtain⟨o,e,c,d⟩:=st
  exact⟨o,e,fun v z=>by rw[d] at z;cases z⟩
 keep:=fun i h h' st k=>st.at fun o e=>k it (by simp) o e
 item:=by
  intro X hP hw hK hc i pins s σ H E I hf st hg
  subst hP hw hK
  obtain⟨xs,x,hq,hx⟩:=hg
  obtain⟨its,rv,p,hz⟩:=I.tuple hq
  obtain⟨u,hu,ru⟩:=rv.get hx
  obtain⟨f0,f1,f2,f3,f4,f5⟩:=hf it (by simp)
  refine wpAny_pyNext_tuple_item st (show s.heap.IsTuple a its.toArray from p) (x:=u) (by simpa using hu) fun h' st' sb=>?_
  have I1:Inv X pins σ H { s with heap:=h' }:=I.turned (t':=s.toks) (fun b o hb e=>(sb.2 b hb).trans e) f0 f1 f3 f4 f5
  obtain⟨o,e,c,d⟩:=id st'
  exact⟨u,rfl,FZ (s:={ s with heap:=h' }) e c d (by decide) ⟨x,H,I1,ru,⟨rfl,fun ys hy=>by rw[I.FW hy hq];exact hx⟩,st',fun b hb=>(hf b hb).1⟩⟩
 done:=by
  intro X hP hw hK hc i pins s σ H E I hf st hg
  subst hP hw hK
  obtain⟨xs,hq,hx⟩:=hg
  obtain⟨its,rv,p,hz⟩:=I.tuple hq
  obtain⟨f0,f1,f2,f3,f4,f5⟩:=hf it (by simp)
  have hl:=rv.length
  exact wpAny_pyNext_tuple_end (I.ok.hd hc) st (show s.heap.IsTuple a its.toArray from p) (by simp;omega) fun h' eb=>⟨rfl,I.turned (t':=s.toks) (fun b o hb e=>eb b o hb e) f0 f1 f3 f4 f5⟩
 self:=fun _ _ _ _ _ st h=>wpAny_pyIter_tupleiter st h
theorem Mw {P:Program} {w:World} {K:PySem.W.Frag} {tg:Expr} (it:Addr) (lo:Int) (n:Nat):Turn P w K tg (Itr lo n) [it] it (fun i h=>IsRangeIter h it (lo+(i:Nat) * 1) ((n:Int) - (i:Nat)) 1) where
 mem:=by simp
 obj:=fun i h st b hb=>by
  have e:b=it:=by simpa using hb
  subst e
  exact⟨_,st,fun v z=>by
   have z':Data.fields _=Data.cell v:=z
   cases z'⟩
 keep:=fun i h h' st k=>k it (by simp) _ st
 item:=by
  intro X hP hw hK hc i pins s σ H E I hf st hg
  subst hP hw hK
  obtain⟨f0,f1,f2,f3,f4,f5⟩:=hf it (by simp)
  have W:=Walks.range (prog:=X.prog) (w:=X.w) (I.ok.hd hc) it lo 1 n
  refine W.item i s _ _ hg st fun v h' tk hv st' kk=>?_
  obtain⟨t,rfl⟩:=hv
  have I1:Inv X pins σ H { s with heap:=h',toks:=tk }:=I.turned (fun b o hb e=>kk b o (by simpa using hb) e) f0 f1 f3 f4 f5
  refine⟨_,rfl,FZ (s:={ s with heap:=h',toks:=tk }) (n := "range_iterator") st' rfl rfl (by decide) ⟨.int (lo+i),H,I1,⟨t,?_⟩,⟨rfl,rfl⟩,st',fun b hb=>(hf b hb).1⟩⟩
  rw[Int.mul_one]
 done:=by
  intro X hP hw hK hc i pins s σ H E I hf st hg
  subst hP hw hK
  obtain⟨f0,f1,f2,f3,f4,f5⟩:=hf it (by simp)
  exact wpAny_pyNext_range_end (I.ok.hd hc) st (by have:n<=i:=hg;omega) fun h' eb=>⟨rfl,I.turned (t':=s.toks) (fun b o hb e=>eb b o hb e) f0 f1 f3 f4 f5⟩
 self:=fun _ _ _ _ _ st h=>wpAny_pyIter_rangeiter st h
end L2
namespace L2
open PySem PySem.Spec PyProof.Rows
section
variable {X:Cx} {tg:Expr}
theorem Tp {pins:List (Addr×Obj)} {σ:St} {H:Hp} {s:Shared} {R:It->Hp->Prop} {E:Value->Shared->Prop} {lo hi:Int} {t u v:Tok} {tk:Nat} (I:Inv X pins σ H s) (h1 : -(2 ^ 62)<=lo) (h2:lo < 2 ^ 62) (h3 : -(2 ^ 62)<=hi) (h4:hi < 2 ^ 62)
  (q:R (Itr lo (hi - lo).toNat) H):wpAny (model X.prog X.w) X.A (pyIter (.ref s.heap.objs.size)) (PIE X pins σ tg R) E { s with heap:=s.heap.push { cls:=.type "range", data:=.fields #[.int lo t,.int hi u,.int 1 v] },toks:=tk }:=by
 refine wpAny_pyIter_range (IsRange.new ..) (small_one h1 h2 h3 h4) ?_
 have I1:Inv X pins σ H { s with heap:=s.heap.push { cls:=.type "range", data:=.fields #[.int lo t,.int hi u,.int 1 v] },toks:=tk }:=I.kept fun b o e=>zd _ e
 refine⟨(s.heap.push { cls:=.type "range", data:=.fields #[.int lo t,.int hi u,.int 1 v] }).objs.size,[(s.heap.push { cls:=.type "range", data:=.fields #[.int lo t,.int hi u,.int 1 v] }).objs.size],_,_,H,rfl,
  I1.kept (t':=tk) fun b o e=>zd _ e,Mw _ lo (hi - lo).toNat,?_,fun b hb=>?_,q⟩
 ·have e1:lo+((0:Nat):Int) * 1=lo:=by simp
  have e2:(((hi - lo).toNat:Nat):Int) - ((0:Nat):Int)=Builtin.Range.rangeSize lo hi 1:=by rw[rangeSize_one];split<;>omega
  show IsRangeIter _ _ (lo+((0:Nat):Int) * 1) ((((hi - lo).toNat:Nat):Int) - ((0:Nat):Int)) 1
  rw[e1,e2]
  exact zt _ rfl
 ·have e:b=(s.heap.push { cls:=.type "range", data:=.fields #[.int lo t,.int hi u,.int 1 v] }).objs.size:=by simpa using hb
  subst e
  exact I1.WY (zl _) (I1.hok.fresh (zl _))
def acP (ta:TA):TI:=fun σ H R=>ta σ H fun vs H1=>∃ j:Int,vs=[.int j] ∧ -(2 ^ 62)<=j/\j < 2 ^ 62/\R (Itr 0 j.toNat) H1
theorem Q5 {a:Expr} {ta:TA} {p pos:Pos} (hg:Gl X "range") (hm:X.mg "range" = none) (ha:PA X [a] ta) (hs:starEach [a] X.env=[(false,eval a X.env)]:=by rfl):PI X tg (.Call (.Name "range" p) [a] [] pos) (acP ta):=by
 intro pins s σ H R I h
 refine Call_ (BK I hg hm boot_range (PyProof.Rows.callWith_type1 (mC (ha pos pins s σ H _ I h) fun us s1 ⟨vs,H1,I1,r1,q1⟩=>?_) hs rfl))
 obtain⟨j,e,q1,q2,q⟩:=q1
 subst e
 cases r1 with
 |cons r rr=>
  cases rr
  obtain⟨t,rfl⟩:=r
  exact call_range_1 (Tp I1 (by omega) (by omega) q1 q2 (by simpa using q))
def aeY (wi:TI) (g:TG) (tb:TS):TS:=fun D σ H=>wi σ H fun J H1=>∃ W:Nat->Nat->St->Hp->Prop,(∃ m,W 0 m σ H1)/\∀ i m σ H,W i m σ H →
 (J.stop i H/\D.nx σ H)\/(J.go i H/\∃ N:St->Hp->Prop,(∀ σ' H',N σ' H'->∃ m',m' < m/\W (i+1) m' σ' H')/\∀ x H',J.yld i H x H'->g x σ H' fun σ2 H2=>tb { D with nx:=N,ct:=N,bk:=D.nx } σ2 H2)
def yP (fp:List Addr) (h:Heap):List (Addr×Obj):=fp.filterMap fun b=>(h.get? b).map fun o=>(b,o)
theorem rQ {fp:List Addr} {h:Heap} {b:Addr} {o:Obj} (hb:b∈fp) (e:h.get? b=some o):(b,o)∈yP fp h:=List.mem_filterMap.mpr ⟨b,hb,by rw[e];rfl⟩
theorem Q6 {fp:List Addr} {h:Heap} {p:Addr×Obj} (hp:p∈yP fp h):p.1∈fp/\h.get? p.1=some p.2:=by
 obtain⟨b,hb,e⟩:=List.mem_filterMap.mp hp
 cases q:h.get? b with
 |none=>rw[q] at e;cases e
 |some o=>
  rw[q] at e
  have e':(b,o)=p:=jI e
  subst e'
  exact⟨hb,q⟩
theorem Inv.pinned {pins:List (Addr×Obj)} {σ:St} {H:Hp} {s:Shared} {fp:List Addr} (I:Inv X pins σ H s) (hf:∀ b∈fp,tZ X pins H b) (ho:∀ b∈fp,∃ o,s.heap.get? b=some o/\∀ v,o.data≠.cell v):Inv X (pins++yP fp s.heap) σ H s:=
 I.Hj fun p hp=>(List.mem_append.mp hp).elim (fun z=>I.pin p (qa _ z)) fun z=>by
  obtain⟨hb,e⟩:=Q6 z
  obtain⟨f0,f1,f2,_⟩:=hf p.1 hb
  obtain⟨o,e',d⟩:=ho p.1 hb
  rw[e] at e';cases e'
  exact⟨e,f0,f1,f2,d⟩
theorem Inv.uc {pins pl:List (Addr×Obj)} {σ:St} {H:Hp} {s:Shared} (I:Inv X (pins++pl) σ H s):Inv X pins σ H s:=I.Hj fun p hp=>I.pin p (qa _ (Q3 _ hp))
theorem Tq {iter:Expr} {body:List Stmt} {wi:TI} {g:TG} {tb:TS} {pos:Pos} (hp:PassesOwn (model X.prog X.w) X.A X.env X.xe) (hc:X.calm=true) (hi:PI X tg iter wi) (hg:PG X tg g) (hb:O6 X body tb)
  (hs:∀ x,foldedSetIterable iter X.env x=pure x:=by intro _;rfl):PS X (.For tg iter body [] pos) (aeY wi g tb):=by
 intro pins s σ H D I h
 refine wpAny_For (mC (hi pins s σ H _ I h) fun v s1 h1=>mC h1 fun itv s2 h2=>?_) hs
 obtain⟨it,fp,tn,J,H2,e,I2,T,st2,f2,W,⟨m0,w0⟩,turn⟩:=h2
 subst e
 have stat:∀ {H':Hp},(∀ b∈fp,H' b=none)->∀ b∈fp,tZ X pins H' b:=fun hn b hb=>⟨hn b hb,(f2 b hb).2⟩
 refine codeAny_forLoop_any (fun n s'=>∃ i σ' H',Inv X pins σ' H' s'/\tn i s'.heap/\(∀ b∈fp,H' b=none)/\W i n σ' H') ?_ m0 ⟨0,σ,H2,I2,st2,fun b hb=>(f2 b hb).1,w0⟩
 rintro n s3 ⟨i,σ3,H3,I3,st3,fr3,w3⟩
 rcases turn i n σ3 H3 w3 with⟨stop,qn⟩|⟨go,N,hN,step⟩
 ·refine KM hp (mC (T.done X rfl rfl rfl hc i pins s3 σ3 H3 X.xe I3 (stat fr3) st3 stop) fun r s4 ⟨hr,I4⟩=>?_)
  subst hr
  exact wpAny_execs_nil ⟨σ3,H3,I4,qn⟩
 ·refine KM hp (mC (T.item X rfl rfl rfl hc i pins s3 σ3 H3 X.xe I3 (stat fr3) st3 go) fun r s4 ⟨u,hr,h4⟩=>?_)
  subst hr
  refine KM hp (mC h4 fun _ s5 ⟨x,H5,I5,r5,y5,st5,fr5⟩=>?_)
  have I5':=I5.pinned (stat fr5) (T.obj _ _ st5)
  refine KM hp (mC (hg _ s5 σ3 H5 x u _ I5' r5 (step x H5 y5)) fun _ s6 ⟨σ6,H6,I6,q6⟩=>?_)
  refine KM hp (mC (hb _ s6 σ6 H6 _ I6 q6) fun f s7 q7=>?_)
  have again:∀ {σ7:St} {H7:Hp},Inv X (pins++yP fp s5.heap) σ7 H7 s7->N σ7 H7->∃ m,m < n/\∃ i σ' H',Inv X pins σ' H' s7/\tn i s7.heap/\(∀ b∈fp,H' b=none)/\W i m σ' H':=fun {σ7 H7} I7 n7=>by
   obtain⟨m',hm,w7⟩:=hN σ7 H7 n7
   refine⟨m',hm,i+1,σ7,H7,I7.uc,T.keep _ _ _ st5 fun b hb o e=>(I7.pin (b,o) (qa _ (qa _ (rQ hb e)))).1,fun b hb=>?_,w7⟩
   obtain⟨o,e,d⟩:=T.obj _ _ st5 b hb
   exact (I7.pin (b,o) (qa _ (qa _ (rQ hb e)))).2.1
  cases f with
  |next=>obtain⟨σ7,H7,I7,n7⟩:=q7;exact again I7 n7
  |cont=>obtain⟨σ7,H7,I7,n7⟩:=q7;exact again I7 n7
  |brk=>obtain⟨σ7,H7,I7,q7⟩:=q7;exact⟨σ7,H7,I7.uc,q7⟩
  |ret v=>obtain⟨x7,σ7,H7,I7,r7,q7⟩:=q7;exact⟨x7,σ7,H7,I7.uc,r7,q7⟩
end
end L2
namespace L2
open PySem PySem.Spec PyProof.Rows
abbrev R2:=V->V->Hp->VK->Prop
def wG (X:Cx) (f:Value->Value->Sem Value) (r:R2):Prop:=
 ∀ (pins:List (Addr×Obj)) (s:Shared) (σ:St) (H:Hp) (x y:V) (v u:Value) (Q:VK),Inv X pins σ H s->RelV x v->RelV y u->r x y H Q →
  wpAny (model X.prog X.w) X.A (f v u) (EP X pins σ Q) X.xe s
def UnR (X:Cx) (f:Value->Sem Value) (r:V->Hp->VK->Prop):Prop:=
 ∀ (pins:List (Addr×Obj)) (s:Shared) (σ:St) (H:Hp) (x:V) (v:Value) (Q:VK),Inv X pins σ H s->RelV x v->r x H Q →
  wpAny (model X.prog X.w) X.A (f v) (EP X pins σ Q) X.xe s
def jW (X:Cx) (f:Value) (r:List V->Hp->VK->Prop):Prop:=
 ∀ (pins:List (Addr×Obj)) (s:Shared) (σ:St) (H:Hp) (xs:List V) (us:List Value) (Q:VK),Inv X pins σ H s->Vals xs us->r xs H Q →
  wpAny (model X.prog X.w) X.A (call f us) (EP X pins σ Q) X.xe s
def ae1 (X:Cx) (r:V->Hp->(Bool->Hp->Prop)->Prop):Prop:=
 ∀ (pins:List (Addr×Obj)) (s:Shared) (σ:St) (H:Hp) (x:V) (v:Value) (Q:Bool->Hp->Prop),Inv X pins σ H s->RelV x v->r x H Q →
  wpAny (model X.prog X.w) X.A (truthy v) (TP X pins σ Q) X.xe s
def tOp (r:R2) (ta tb:TE):TE:=fun σ H Q=>ta σ H fun x H1=>tb σ H1 fun y H2=>r x y H2 Q
def rI (C:Int->Int->Prop) (g:Int->Int->V):R2:=fun x y H Q=>∃ i j,x=.int i/\y=.int j/\C i j/\Q (g i j) H
def rI0 (g:Int->Int->V):R2:=fun x y H Q=>∃ i j,x=.int i/\y=.int j/\Q (g i j) H
section
variable {X:Cx} {a b c:Expr} {ta tb tc:TE} {pos:Pos}
theorem aaA (ha:PE X a ta) (hb:PE X b tb) {pins:List (Addr×Obj)} {s:Shared} {σ:St} {H:Hp} {R:V->V->Hp->Prop} (I:Inv X pins σ H s)
  (h:ta σ H fun x H1=>tb σ H1 fun y H2=>R x y H2) {Q:Value->Shared->Prop} {f:Value->Value->Sem Value}
  (hf:∀ v u s2 x y H2,Inv X pins σ H2 s2->RelV x v->RelV y u->R x y H2->wpAny (model X.prog X.w) X.A (f v u) Q X.xe s2) :
  wpAny (model X.prog X.w) X.A (eval a X.env) (fun v s₁=>wpAny (model X.prog X.w) X.A (eval b X.env) (fun u s₂=>wpAny (model X.prog X.w) X.A (f v u) Q X.xe s₂) X.xe s₁) X.xe s:=by
 refine mC (ha pins s σ H _ I h) fun v s1 ⟨x,H1,I1,r1,q1⟩=>?_
 refine mC (hb pins s1 σ H1 _ I1 q1) fun u s2 ⟨y,H2,I2,r2,q2⟩=>?_
 exact hf v u s2 x y H2 I2 r1 r2 q2
theorem acR {op:Operator} {r:R2} (ho:wG X (binaryOp op) r) (ha:PE X a ta) (hb:PE X b tb):PE X (.BinOp a op b pos) (tOp r ta tb):=by
 intro pins s σ H Q I h
 exact wpAny_BinOp (aaA ha hb I h fun v u s2 x y H2 I2 rx ry q=>ho pins s2 σ H2 x y v u Q I2 rx ry q)
theorem opI {f:Value->Value->Sem Value} {C:Int->Int->Prop} {g:Int->Int->Int}
  (rule:∀ (i j:Int) (t u:Tok) (s:Shared) (Q:Value->Shared->Prop) (E:Value->Shared->Prop),C i j->Q (.int (g i j) s.toks) { s with toks:=s.toks+1 }->wpAny (model X.prog X.w) X.A (f (.int i t) (.int j u)) Q E s) :
  wG X f (rI C fun i j=>.int (g i j)):=by
 intro pins s σ H x y v u Q I rx ry h
 obtain⟨i,j,rfl,rfl,hc,q⟩:=h
 obtain⟨t,rfl⟩:=rx
 obtain⟨t',rfl⟩:=ry
 exact rule i j t t' s _ _ hc ⟨.int (g i j),H,I.tok _,⟨_,rfl⟩,q⟩
theorem acS {f:Value->Value->Sem Value} {g:Int->Int->Int}
  (rule:∀ (i j:Int) (t u:Tok) (s:Shared) (Q:Value->Shared->Prop) (E:Value->Shared->Prop),Q (.int (g i j) s.toks) { s with toks:=s.toks+1 }->wpAny (model X.prog X.w) X.A (f (.int i t) (.int j u)) Q E s) :
  wG X f (rI0 fun i j=>.int (g i j)):=by
 intro pins s σ H x y v u Q I rx ry h
 obtain⟨i,j,rfl,rfl,q⟩:=h
 obtain⟨t,rfl⟩:=rx
 obtain⟨t',rfl⟩:=ry
 exact rule i j t t' s _ _ ⟨.int (g i j),H,I.tok _,⟨_,rfl⟩,q⟩
theorem aaB {f:Value->Value->Sem Value} {g:Int->Int->Bool}
  (rule:∀ (i j:Int) (t u:Tok) (s:Shared) (Q:Value->Shared->Prop) (E:Value->Shared->Prop),Q (.bool (g i j)) s->wpAny (model X.prog X.w) X.A (f (.int i t) (.int j u)) Q E s) :
  wG X f (rI0 fun i j=>.bl (g i j)):=by
 intro pins s σ H x y v u Q I rx ry h
 obtain⟨i,j,rfl,rfl,q⟩:=h
 obtain⟨t,rfl⟩:=rx
 obtain⟨t',rfl⟩:=ry
 exact rule i j t t' s _ _ ⟨.bl (g i j),H,I,rfl,q⟩
def ae2 (i j:Int):Prop:=0 < j/\j < 1073741824
def ae3 (i j:Int):Prop:=0<=j/\j<=1000000/\i.natAbs < 2 ^ 64
def aaC (i j:Int):Prop:=(-(2 ^ 64) < i/\i < 2 ^ 64)\/(-(2 ^ 64) < j/\j < 2 ^ 64)
theorem aaC.ok {i j:Int} (h:aaC i j):IntMulOk i j:=by
 rcases h with⟨h1,h2⟩|⟨h1,h2⟩
 ·exact .of_left (intBits_le_64 h1 h2)
 ·exact .of_right (intBits_le_64 h1 h2)
theorem aaD:wG X (binaryOp .Add) (rI0 fun i j=>.int (i+j)):=acS fun _ _ _ _ _ _ _ q=>add_int q
theorem aaE:wG X (binaryOp .Sub) (rI0 fun i j=>.int (i - j)):=acS fun _ _ _ _ _ _ _ q=>sub_int q
theorem aaF:wG X (binaryOp .Mult) (rI aaC fun i j=>.int (i * j)):=opI fun _ _ _ _ _ _ _ hc q=>mul_int q hc.ok
theorem W0:wG X (binaryOp .FloorDiv) (rI ae2 fun i j=>.int (i / j)):=opI fun i j _ _ _ _ _ hc q=>by
 have h1:(0:Int) < j:=hc.1
 have h2:j < 1073741824:=hc.2
 exact floordiv_int (by omega) (by rw[Int.fdiv_eq_ediv_of_nonneg i (by omega)];exact q) (.inl (PyProof.noPylong_small (by omega)))
theorem aaG:wG X (binaryOp .Mod) (rI (fun _ j=>0 < j) fun i j=>.int (i % j)):=opI fun i j _ _ _ _ _ hc q=>by
 have h1:(0:Int) < j:=hc
 exact mod_int' (by omega) (by rw[Int.fmod_eq_emod_of_nonneg i (by omega)];exact q)
theorem aaH:wG X (binaryOp .Pow) (rI ae3 fun i j=>.int (i ^ j.toNat)):=opI fun _ _ _ _ _ _ _ hc q=>pow_int_small hc.1 hc.2.1 hc.2.2 q
end
section
variable {X:Cx} {a b c:Expr} {ta tb tc:TE} {pos:Pos}
theorem Tr {pins:List (Addr×Obj)} {σ:St} {H:Hp} {s:Shared} {Q:VK} {k k':Bool} (I:Inv X pins σ H s) (q:Q (.bl k) H) (e:k=k'):EP X pins σ Q (.bool k') s:=by
 subst e
 exact⟨.bl k,H,I,rfl,q⟩
theorem acT:wG X (compareOp .Lt) (rI0 fun i j=>.bl (decide (i < j))):=aaB fun _ _ _ _ _ _ _ q=>lt_int q
theorem acU:wG X (compareOp .Gt) (rI0 fun i j=>.bl (decide (j < i))):=aaB fun _ _ _ _ _ _ _ q=>gt_int q
theorem acV:wG X (compareOp .GtE) (rI0 fun i j=>.bl (decide (j<=i))):=aaB fun _ _ _ _ _ _ _ q=>ge_int q
theorem Q7:wG X (compareOp .In) (fun x y H Q=>∃ i j,x=.str i/\y=.str j/\Q (.bl (!(Builtin.Str.occurrences j i 0 j.length 1).isEmpty)) H):=by
 intro pins s σ H x y v u Q I rx ry h
 obtain⟨i,j,rfl,rfl,q⟩:=h
 obtain⟨t,rfl⟩:=rx
 obtain⟨t',rfl⟩:=ry
 exact in_str (Tr I q rfl)
theorem aaI:wG X (compareOp .Is) (fun x y H Q=>y=.non/\Q (.bl (decide (x=.non))) H):=by
 intro pins s σ H x y v u Q I rx ry h
 obtain⟨rfl,q⟩:=h
 cases ry
 refine is_none_gen (Tr I q ?_)
 cases x<;>first
  |(cases rx;rfl)
  |(obtain⟨t,rfl⟩:=rx;rfl)
theorem wG.or {f:Value->Value->Sem Value} {r r':R2} (h:wG X f r) (h':wG X f r'):wG X f (fun x y H Q=>r x y H Q\/r' x y H Q):=by
 intro pins s σ H x y v u Q I rx ry q
 rcases q with q|q
 ·exact h pins s σ H x y v u Q I rx ry q
 ·exact h' pins s σ H x y v u Q I rx ry q
theorem dR (b:Expr) {op:CmpOp} (h:op≠.In:=by decide) (h2:op≠.NotIn:=by decide):behindInMarks op b=false:=by
 have e1:(op==CmpOp.In)=false:=by cases op<;>first|rfl|exact absurd rfl h
 have e2:(op==CmpOp.NotIn)=false:=by cases op<;>first|rfl|exact absurd rfl h2
 cases b<;>simp[behindInMarks,e1,e2]
theorem W2 {op:CmpOp} {r:R2} (ho:wG X (compareOp op) r) (ha:PE X a ta) (hb:PE X b tb) (hm:behindInMarks op b=false):PE X (.Compare a [op] [b] pos) (tOp r ta tb):=by
 intro pins s σ H Q I h
 exact wpAny_Compare1 (aaA ha hb I h fun v u s2 x y H2 I2 rx ry q=>ho pins s2 σ H2 x y v u Q I2 rx ry q) hm
def acW (t:TE):TT:=fun σ H Q=>t σ H fun x H'=>∃ k,x=.bl k/\Q k H'
theorem W3 {op:CmpOp} {r:R2} (ho:wG X (compareOp op) r) (ha:PE X a ta) (hb:PE X b tb) (hm:behindInMarks op b=false):PT X (.Compare a [op] [b] pos) (acW (tOp r ta tb)):=by
 intro pins s σ H Q I h
 refine wpAny_isTrue_Compare1 (mC (ha pins s σ H _ I h) fun v s1 ⟨x,H1,I1,r1,q1⟩=>mC (hb pins s1 σ H1 _ I1 q1) fun u s2 ⟨y,H2,I2,r2,q2⟩=>
  mC (ho pins s2 σ H2 x y v u _ I2 r1 r2 q2) fun c s3 ⟨z,H3,I3,r3,k,e,q3⟩=>?_) hm
 subst e
 cases r3
 exact ym ⟨H3,I3,q3⟩
def aaJ (K:PySem.W.Frag) (x:V) (H:Hp) (k:Bool):Prop:=
 match x with
 |.non=>k=false
 |.bl b=>k=b
 |.int i=>k=(i != 0)
 |.str y=>y.length<=sizeLine/\k=((y.length:Int) != 0)
 |.byt y=>y.size<=sizeLine/\k=((y.size:Int) != 0)
 |.ref p=>(∃ xs,tR K H p xs/\k=!xs.isEmpty)\/(∃ xs,vH K H p xs/\k=!xs.isEmpty)\/∃ kvs,H p=some (.dK kvs)/\k=!kvs.isEmpty
 |_=>False
theorem Mx {κ:Type} {kvs:List (κ×V)} {vs:List (κ×Value)} (r:KV kvs vs):(!vs.isEmpty)=!kvs.isEmpty:=by
 cases r<;>rfl
theorem BL {xs:List V} {its:List Value} (r:Vals xs its):(!its.toArray.isEmpty)=!xs.isEmpty:=by
 cases r<;>simp
theorem yQ:(sizeLine:Nat) < 2 ^ 63:=by rw[sizeLine_eq];decide
theorem aaK:ae1 X (fun x H Q=>∃ k,aaJ X.K x H k/\Q k H):=by
 intro pins s σ H x v Q I rx h
 obtain⟨k,e,q⟩:=h
 have hl:=yQ
 have hs:sizeLine=16777216:=sizeLine_eq
 cases x with
 |non=>
  cases rx
  have e':k=false:=e
  subst e'
  exact truthy_none ⟨H,I,q⟩
 |bl b=>
  cases rx
  have e':k=b:=e
  subst e'
  exact ym ⟨H,I,q⟩
 |int i=>
  obtain⟨t,rfl⟩:=rx
  have e':k=(i != 0):=e
  subst e'
  exact PySem.P.truthy_int ⟨H,I,q⟩
 |str y=>
  obtain⟨t,rfl⟩:=rx
  obtain⟨hy,e'⟩:y.length<=sizeLine/\k=((y.length:Int) != 0):=e
  subst e'
  exact PySem.P.truthy_str (by omega) ⟨H,I.tok _,q⟩
 |byt y=>
  obtain⟨t,rfl⟩:=rx
  obtain⟨hy,e'⟩:y.size<=sizeLine/\k=((y.size:Int) != 0):=e
  subst e'
  exact PySem.W.truthy_bytes (by omega) ⟨H,I.tok _,q⟩
 |ref p=>
  cases rx
  have e':(∃ xs,tR X.K H p xs/\k=!xs.isEmpty)\/(∃ xs,vH X.K H p xs/\k=!xs.isEmpty)\/∃ kvs,H p=some (.dK kvs)/\k=!kvs.isEmpty:=e
  rcases e' with⟨xs,hx,e'⟩|⟨xs,hx,e'⟩|⟨kvs,hx,e'⟩
  ·subst e'
   obtain⟨its,r,pl,hz⟩:=I.list hx
   have hlen:=r.length
   exact wpAny_truthy_list pl.isList (by simp only[zC];omega) ⟨H,I.tok _,by rw[BL r];exact q⟩
  ·subst e'
   obtain⟨its,r,pl,hz⟩:=I.tuple hx
   have hlen:=r.length
   exact truthy_tuple pl (by simp only[zC];omega) ⟨H,I.tok _,by rw[BL r];exact q⟩
  ·subst e'
   obtain⟨hz,hS,vs,r,m⟩:kvs.length<=sizeLine/\(p==sysModules)=false/\∃ vs,KV kvs vs/\s.heap.DictOf (bD X.prog X.w) p vs:=I.hok p _ hx
   have hlen:kvs.length=vs.length:=Paired.length r
   exact wpAny_truthy_dict hS m (by omega) ⟨H,I.tok _,by rw[Mx r];exact q⟩
 |_=>exact (show False from e).elim
theorem Tt (ha:PE X a ta) (he:∀ whole,isTrue a X.env whole=(do let v <-whole;standAt a.pos;holding [v] (truthy v))) :
  PT X a (fun σ H Q=>ta σ H fun x H'=>∃ k,aaJ X.K x H' k/\Q k H'):=by
 intro pins s σ H Q I h
 exact isTrue_plain (mC (ha pins s σ H _ I h) fun v s1 ⟨x,H1,I1,r1,q1⟩=>aaK pins s1 σ H1 x v Q I1 r1 q1) (he _)
theorem Mz:wG X (binaryOp .Add) (fun x y H Q=>∃ i j,x=.str i/\y=.str j/\i.length+j.length<=sizeLine/\Q (.str (i++j)) H):=by
 intro pins s σ H x y v u Q I rx ry h
 obtain⟨i,j,rfl,rfl,hz,q⟩:=h
 obtain⟨t,rfl⟩:=rx
 obtain⟨t',rfl⟩:=ry
 exact add_str (fun t' tk=>⟨.str (i++j),H,I.tok _,⟨_,rfl⟩,q⟩) hz
theorem vals1 {x:V} {us:List Value} (r:Vals [x] us):∃ u,us=[u]/\RelV x u:=by
 cases r with
 |cons r1 r2=>cases r2;exact⟨_,rfl,r1⟩
theorem Tv:jW X (.builtin "abs") (fun xs H Q=>∃ i,xs=[.int i]/\Q (.int (if i < 0 then -i else i)) H):=by
 intro pins s σ H xs us Q I r h
 obtain⟨i,rfl,q⟩:=h
 obtain⟨u,rfl,t,rfl⟩:=vals1 r
 exact call_abs_int fun u tk=>⟨.int (if i < 0 then -i else i),H,I.tok _,⟨_,rfl⟩,q⟩
theorem Q8:jW X (.type "int") (fun xs H Q=>(∃ i,xs=[.int i]/\Q (.int i) H)\/∃ k,xs=[.bl k]/\Q (.int (if k then 1 else 0)) H):=by
 intro pins s σ H xs us Q I r h
 rcases h with⟨i,rfl,q⟩|⟨k,rfl,q⟩
 ·obtain⟨u,rfl,t,rfl⟩:=vals1 r
  exact call_int_int ⟨.int i,H,I,⟨_,rfl⟩,q⟩
 ·obtain⟨u,rfl,r1⟩:=vals1 r
  cases r1
  exact call_int_bool ⟨.int (if k then 1 else 0),H,I.tok _,⟨_,rfl⟩,q⟩
end
end L2
namespace L2
open PySem PySem.Spec PyProof.Rows
structure aaL (h:Heap) (x dx C:Addr) (mA:Str->Option Value):Prop where
 obj:h.get? x=some (PySem.W.instObj C dx)
 ns:h.Ns1 dx mA
 ne:dx≠x
theorem Q9 {h:Heap} {dx:Addr} {mA:Str->Option Value} (n:h.Ns1 dx mA):∃ od,h.get? dx=some od/\∀ name,PySem.W.lookIn name od=some (mA name):=by
 obtain⟨o,es,ep,ho,hd,hk,_,hm⟩:=n
 refine⟨o,ho,fun name=>?_⟩
 have e:=hm name
 unfold nsFind findBy at e
 rw[<-Array.find?_toList] at e
 unfold PySem.W.lookIn
 rw[hd]
 dsimp only
 split
 ·rename_i y q
  rw[q] at e
  exact congrArg some e
 ·rename_i q
  rw[q] at e
  have a:es.toList.any (·.refKey)=false:=by
   rw[List.any_eq_false]
   intro y hy
   obtain⟨z,t,hkey⟩:=hk y (Array.mem_toList_iff.mp hy)
   simp[DictEntry.refKey,hkey]
  have a':¬ es.toList.any (·.refKey)=true:=by rw[a];exact z5
  rw[zw a']
  exact congrArg some e
theorem aaL.look {h:Heap} {x dx C:Addr} {mA:Str->Option Value} (I:aaL h x dx C mA):∃ od,PySem.W.InstAt h x (PySem.W.instObj C dx) C (some od)/\∀ name,PySem.W.lookIn name od=some (mA name):=
 let ⟨od,ho,hl⟩:=Q9 I.ns
 ⟨od,⟨I.obj,rfl,rfl,ho⟩,hl⟩
section
variable {prog:Program} {w:World} {A:Around} {E:Value->Shared->Prop} {s:Shared} {K:PySem.W.Frag} {x dx C f:Addr} {mA:Str->Option Value} {name:Str} {v:Value}
end
theorem yO.some_of {v:V} {o:Option Value} (r:yO (some v) o):∃ u,o=some u/\RelV v u:=by
 cases o with
 |none=>exact (show False from r).elim
 |some u=>exact⟨u,rfl,r⟩
section
variable {P:Program} {w:World} {H H':Hp} {h h':Heap} {a C dx:Addr} {fs fs':List (Str×V)}
theorem Bk (hok:wZ P w H h) (e:H a=some (.ins C dx fs)):∃ mA,aaL h a dx C mA/\(∀ f,yO (fs.lookup f) (mA f))/\PySem.Within mA (fs.map (·.1))/\fs.length<=1000/\H dx=some (.own a):=by
 obtain⟨d,z,ne,ob,mA,n,r,q⟩:=(show jC P w H h a (.ins C dx fs) from hok a _ e)
 exact⟨mA,⟨ob,n,ne⟩,r,q,z,d⟩
end
structure Cls (K:PySem.W.Frag) (C:Addr):Prop where
 pg:PySem.W.plainGet K C Str.empty=true
 hd:PySem.W.hasDictIn K C=true
 po:PySem.W.plainOver K C=true
 sa:PySem.W.findIn K (.ref C) "__setattr__" = some (some (.builtin "object.__setattr__"))
theorem Cls.get {K:PySem.W.Frag} {C:Addr} (c:Cls K C) (f:Str):PySem.W.plainGet K C f=true:=c.pg
section
variable {X:Cx} {pins:List (Addr×Obj)} {σ:St} {H:Hp} {s:Shared} {a C dx:Addr} {fs:List (Str×V)} {f:Str} {v:V} {A:Around} {E:Value->Shared->Prop}
theorem Inv.made (I:Inv X pins σ H s):Inv X pins σ (upd (upd H s.heap.objs.size (.own (s.heap.objs.size+1))) (s.heap.objs.size+1) (.ins C s.heap.objs.size []))
  { s with heap:=(s.heap.push PySem.W.emptyDict).push (PySem.W.instObj C s.heap.objs.size) }:=by
 have e1:(s.heap.push PySem.W.emptyDict).get? s.heap.objs.size=some PySem.W.emptyDict:=zt s.heap rfl
 have e2:((s.heap.push PySem.W.emptyDict).push (PySem.W.instObj C s.heap.objs.size)).get? (s.heap.objs.size+1)=some (PySem.W.instObj C s.heap.objs.size):=by
  have:=zt (s.heap.push PySem.W.emptyDict) (o:=PySem.W.instObj C s.heap.objs.size) rfl
  rwa [ZU] at this
 have e3:(s.heap.push PySem.W.emptyDict).Ns s.heap.objs.size (fun _=>none):=⟨PySem.W.emptyDict,#[],_,e1,rfl,(fun e he=>absurd he (by simp)),fun _=>rfl⟩
 have I1:=I.laid (a:=s.heap.objs.size) (o:=.own (s.heap.objs.size+1)) (h':=s.heap.push PySem.W.emptyDict) (t':=s.toks) (fun b u q=>zd _ q) (zl _) ⟨_,e1⟩
 refine I1.laid (a:=s.heap.objs.size+1) (o:=.ins C s.heap.objs.size []) (t':=s.toks) (fun b u q=>zd _ q) (Nat.le_of_eq (ZU _ _)) ?_
 have ne:s.heap.objs.size≠s.heap.objs.size+1:=zD (qi _)
 refine⟨by rw[aQ ne,bK],qA _,ne,e2,fun _=>none,(Heap.Ns1.of_empty e3).at fun o q=>zd _ q,fun _=>True.intro,fun y hy=>absurd rfl hy⟩
end
section
variable {X:Cx} {o e value:Expr} {f:Str} {pos pos' tpos:Pos} {ta tv:TE}
end
section
variable {X:Cx} {pins:List (Addr×Obj)} {σ:St} {H:Hp} {s:Shared} {A:Around} {E:Value->Shared->Prop} {Q:Value->Shared->Prop} {c:Value} {b:Bool}
end
end L2
namespace L2
open PySem PySem.Spec PyProof.Rows
structure m5 (k:Nat) (A:Around):Prop where
 hd:A.handled=none
 dp:A.depth+3 * k+5 < recursionLimit
 un:A.units+16 * k+200 < cLine
theorem m5.mono {j k:Nat} {A:Around} (r:m5 k A) (h:j<=k):m5 j A:=⟨r.hd,by have:=r.dp;omega,by have:=r.un;omega⟩
theorem m5.deeper {k:Nat} {A:Around} (r:m5 (k+1) A) (env:Env):m5 k (A.deeper env):=
 ⟨r.hd,by have:=r.dp;show A.depth+1+3 * k+5 < _;omega,by have:=r.un;show A.units+3+16 * k+200 < _;omega⟩
theorem m5.in1 {k:Nat} {A:Around} (r:m5 (k+1) A):m5 k A.in1:=
 ⟨r.hd,by have:=r.dp;show A.depth+3 * k+5 < _;omega,by have:=r.un;show A.units+1+16 * k+200 < _;omega⟩
theorem m5.depth {k:Nat} {A:Around} (r:m5 k A):A.depth < recursionLimit:=by have:=r.dp;omega
theorem m5.units {k:Nat} {A:Around} (r:m5 k A):A.units+64 < cLine:=by have:=r.un;omega
def ae4:TA:=fun _ H Q=>Q [] H
def acX (ta:TE) (tr:TA):TA:=fun σ H Q=>ta σ H fun x H1=>tr σ H1 fun xs H2=>Q (x::xs) H2
section
variable {X:Cx} {e:Expr} {es:List Expr} {te:TE} {t:TA} {pos:Pos}
theorem BP:PA X [] ae4:=fun _ _ _ _ H Q I h=>Calls.spliced_nil ⟨[],H,I,.nil,h⟩
theorem rR (ha:PE X e te) (hr:PA X es t) (hs:starEach (e::es) X.env=(false,eval e X.env)::starEach es X.env:=by rfl):PA X (e::es) (acX te t):=by
 intro pos pins s σ H Q I h
 rw[hs]
 show wpAny _ _ (spliced ((false,eval e X.env)::backTo pos (starEach es X.env))) _ _ s
 refine Calls.spliced_cons (mC (ha pins s σ H _ I h) fun u s1 ⟨x,H1,I1,r1,q1⟩=>?_)
 exact mC (hr pos pins s1 σ H1 _ I1 q1) fun us s2 ⟨xs,H2,I2,r2,q2⟩=>⟨x::xs,H2,I2,.cons r1 r2,q2⟩
def ae5 (t:TA):TE:=fun σ H Q=>t σ H fun xs H1=>xs.length<=sizeLine/\∀ p,H1 p=none->Q (.ref p) (upd H1 p (.tup xs))
def ae6 (t:TA):TE:=fun σ H Q=>t σ H fun xs H1=>xs.length<=sizeLine/\∀ p,H1 p=none->Q (.ref p) (upd H1 p (.lst xs))
theorem aaM {x1} (h:PA X es t):PE X (.Tuple es x1 pos) (ae5 t):=by
 intro pins s σ H Q I hq
 refine wpAny_Tuple_spliced (mC (h pos pins s σ H _ I hq) fun us s1 ⟨xs,H1,I1,r,z,q⟩=>⟨by rw[<-r.length];exact z,?_⟩)
 have hf:H1 s1.heap.objs.size=none:=I1.hok.fresh (zl _)
 refine⟨.ref s1.heap.objs.size,upd H1 s1.heap.objs.size (.tup xs),I1.laid (t':=s1.toks) (fun b u e=>zd _ e) (zl _) ?_,rfl,q _ hf⟩
 exact⟨z,us,r,⟨_,zt _ rfl,rfl,⟨_,rfl⟩,rfl⟩⟩
theorem aaN (h:PA X es t):PE X (.List es pos) (ae6 t):=by
 intro pins s σ H Q I hq
 refine wpAny_List_spliced (mC (h pos pins s σ H _ I hq) fun us s1 ⟨xs,H1,I1,r,z,q⟩=>⟨by rw[<-r.length];exact z,?_⟩)
 have hf:H1 s1.heap.objs.size=none:=I1.hok.fresh (zl _)
 refine⟨.ref s1.heap.objs.size,upd H1 s1.heap.objs.size (.lst xs),I1.laid (t':=s1.toks) (fun b u e=>zd _ e) (zl _) ?_,rfl,q _ hf⟩
 exact⟨z,us,0,r,zt _ rfl⟩
end
abbrev Sp:=List V->Hp->VK->XK->Prop
abbrev Pa:=List Env->Hp->Shared->XK->Value->Shared->Prop
structure MF (P:Program) (w:World) (K:PySem.W.Frag) (mg:Str->Option Value) (base:Heap) (A:Around) (outer:List Env) (s:Shared) (H:Hp):Prop where
 frames:A.frames=some outer
 mod:Mod K mg base
 bs:∀ b o,base.get? b=some o->s.heap.get? b=some o/\H b=none
 WM:base.objs.size<=s.heap.objs.size
 Am:s.heap.FunFrames base outer
 frf:∀ b∈frs outer,H b=none
 hok:wZ P w H s.heap
 bare:AllBare s.gens
def CE (outer:List Env) (P:Program) (w:World) (H:Hp) (s:Shared) (Q:VK) (u:Value) (s':Shared):Prop:=
 ∃ v H',s'.os=s.os/\AllBare s'.gens/\Un (frs outer) [] H H' s.heap s'.heap/\wZ P w H' s'.heap/\RelV v u/\Q v H'
def CR (CX:Pa) (outer:List Env) (P:Program) (w:World) (H:Hp) (s:Shared) (Q:VK) (E:XK) (r:Result) (s':Shared):Prop:=
 match r with
 |.ok (.ret u)=>CE outer P w H s Q u s'
 |.ok _=>False
 |.error e=>CX outer H s E e s'
structure dG (P:Program) (w:World) (K:PySem.W.Frag) (mg:Str->Option Value) (base:Heap) (CX:Pa) (k:Nat) (f:Addr) (fd:FuncData) (ps:List Str) (sp:Sp):Prop where
 len:∀ vs H Q E,sp vs H Q E->vs.length=ps.length
 run:∀ (A:Around) (outer:List Env) (s:Shared) (H:Hp) (args:Args) (us:List Value) (vs:List V) (Q:VK) (E:XK),m5 k A->MF P w K mg base A outer s H->BindsTo s fd args (ps.zip us)->Vals vs us->sp vs H Q E →
  codeAny (model P w) A (.call (.ref f) args) (CR CX outer P w H s Q E) s
theorem dG.mono {P:Program} {w:World} {K:PySem.W.Frag} {mg:Str->Option Value} {base:Heap} {CX:Pa} {j k:Nat} {f:Addr} {fd:FuncData} {ps:List Str} {sp:Sp} (F:dG P w K mg base CX j f fd ps sp) (h:j<=k) :
  dG P w K mg base CX k f fd ps sp:=⟨F.len,fun A outer s H args us vs Q E hr=>F.run A outer s H args us vs Q E (hr.mono h)⟩
theorem dG.imp {P:Program} {w:World} {K:PySem.W.Frag} {mg:Str->Option Value} {base:Heap} {CX:Pa} {k:Nat} {f:Addr} {fd:FuncData} {ps:List Str} {sp sp':Sp} (F:dG P w K mg base CX k f fd ps sp)
  (h:∀ vs H Q E,sp' vs H Q E->sp vs H Q E):dG P w K mg base CX k f fd ps sp':=
 ⟨fun vs H Q E q=>F.len vs H Q E (h _ _ _ _ q),fun A outer s H args us vs Q E hr he hb hv hs=>F.run A outer s H args us vs Q E hr he hb hv (h _ _ _ _ hs)⟩
theorem MF.in1 {P:Program} {w:World} {K:PySem.W.Frag} {mg:Str->Option Value} {base:Heap} {A:Around} {outer:List Env} {s:Shared} {H:Hp} (e:MF P w K mg base A outer s H) :
  MF P w K mg base A.in1 outer s H:=⟨e.frames,e.mod,e.bs,e.WM,e.Am,e.frf,e.hok,e.bare⟩
section
variable {X:Cx} {pins:List (Addr×Obj)} {σ:St} {H:Hp} {s s':Shared}
theorem Inv.env0 (I:Inv X pins σ H s):MF X.prog X.w X.K X.mg X.base X.A X.stack s H:=
 ⟨I.ok.frames,I.ok.mod,I.bs,z3 I.ok.WM I.sz,I.stack,I.O5,I.hok,I.bare⟩
theorem Inv.after {Q:VK} {u:Value} (I:Inv X pins σ H s) (h:CE X.stack X.prog X.w H s Q u s'):EP X pins σ Q u s':=by
 obtain⟨v,H',os,bare,un,hok,r,q⟩:=h
 obtain⟨hh,g,d,t,os'⟩:=s'
 obtain rfl:os'=s.os:=os
 exact⟨v,H',I.call (h':=hh) (g':=g) (d':=d) (t':=t) (ch:=[]) un hok bare (fun b z=>absurd z (by simp)),r,q⟩
end
def acY (sp:Sp) (Zv:List V) (E:XK) (t:TA):TE:=fun σ H Q=>t σ H fun vs H1=>sp (vs++Zv) H1 Q E
def Binds (K:PySem.W.Frag) (fd:FuncData) (ps:List Str) (ds:List Value):Prop:=
 ∀ (s:Shared) (us:List Value),K.In s.heap->(us++ds).length=ps.length->BindsTo s fd ⟨us,[]⟩ (ps.zip (us++ds))
theorem Binds.all {K:PySem.W.Frag} {fd:FuncData} {ps:List Str} (h:∀ us:List Value,us.length=ps.length->bindArgs fd ⟨us,[]⟩=pure (ps.zip us)):Binds K fd ps []:=fun s us _ hl=>by
 rw[jS] at hl ⊢
 exact .of_eq (h us hl)
def Passes (CX:Pa) (X:Cx) (E:XK):Prop:=∀ (pins:List (Addr×Obj)) (σ:St) (H:Hp) (s:Shared) (e:Value) (s':Shared),Inv X pins σ H s->CX X.stack H s E e s'->X.xe e s'
section
variable {X:Cx} {CX:Pa} {k:Nat} {f C:Addr} {fd:FuncData} {ps:List Str} {sp:Sp} {Zv:List V} {ds:List Value} {E:XK} {x m:Str} {p pos apos:Pos} {e o:Expr} {es:List Expr} {ta:TE} {t:TA}
theorem aaO {pins:List (Addr×Obj)} {σ:St} {H:Hp} {s:Shared} {Q:VK} {us:List Value} {vs:List V} (F:dG X.prog X.w X.K X.mg X.base CX k f fd ps sp) (hr:m5 k X.A) (hb:Binds X.K fd ps ds) (hd:Vals Zv ds) (hx:Passes CX X E)
  (I:Inv X pins σ H s) (r:Vals vs us) (h:sp (vs++Zv) H Q E):wpAny (model X.prog X.w) X.A (call (.ref f) us) (EP X pins σ Q) X.xe s:=by
 have r2:Vals (vs++Zv) (us++ds):=r.append hd
 have hl:(us++ds).length=ps.length:=by rw[<-r2.length];exact F.len _ _ _ _ h
 refine wpAny_call (codeAny_mono (F.run X.A X.stack s H ⟨us,[]⟩ (us++ds) (vs++Zv) Q E hr I.env0 (hb s us I.kIn hl) r2 h) fun r s' hq=>?_)
 cases r with
 |error e=>exact hx pins σ H s e s' I hq
 |ok fl=>
  cases fl with
  |ret u=>exact I.after hq
  |next=>exact False.elim hq
  |brk=>exact False.elim hq
  |cont=>exact False.elim hq
theorem Pb (F:dG X.prog X.w X.K X.mg X.base CX k f fd ps sp) (hr:m5 k X.A) (hg:Gl X x) (hm:X.mg x=some (.ref f)) (hk:PySem.W.keepIn X.K (.ref f)=true) (hb:Binds X.K fd ps ds) (hd:Vals Zv ds) (hx:Passes CX X E)
  (ha:PA X (e::es) t) (hdb:(x==("__debug__" : Str))=false:=by decide) (he:starEach (e::es) X.env=(false,eval e X.env)::starEach es X.env:=by rfl) (hpl:(backTo pos (starEach es X.env)).any (·.1)=false:=by rfl) :
  PE X (.Call (.Name x p) (e::es) [] pos) (acY sp Zv E t):=by
 intro pins s σ H Q I h
 refine kR (WR I hg hm ?_ hdb)
 refine PySem.W.callWith_K (h₀:=X.base) I.ok.mod.kin hk (mC (ha pos pins s σ H _ I h) fun us s1 ⟨vs,H1,I1,r,q⟩=>⟨I1.kIn,?_⟩) he hpl
 exact aaO F hr hb hd hx I1 r q
end
section
variable {X:Cx} {CX:Pa} {k:Nat} {f C:Addr} {fd:FuncData} {ps ks:List Str} {sp:Sp} {E:XK} {x m:Str} {p pos apos kpos:Pos} {e o:Expr} {es:List Expr} {kws:List Keyword} {te ta:TE} {t tk:TA} {nm:Option Str}
variable {g:List Value->List Value->List Value} {gV:List V->List V->List V}
end
structure dh (N P:List Str) (sc:Scope):Prop where
 kind:sc.kind=.function
 co:sc.isCoroutine=false
 gen:sc.isGenerator=false
 nd:N.Nodup
 pre:N.take P.length=P
 par:∀ x∈P,sc.names.lookup x=some .local\/sc.names.lookup x=some .cell
 aaP:∀ y∈sc.names,y.2≠.free
theorem Ga {kindOf:Str->Option NameKind} {x:Str}:∀ {binds:List (Str×Value)} {m:Str->Option Value},(∀ v,(x,v)∉binds)->bindL kindOf binds m x=m x
 |[],_,_=>rfl
 |(n,v)::r,m,h=>by
  unfold bindL
  rw[Ga fun w hw=>h w (zg _ hw)]
  split
  ·have:x≠n:=by rintro rfl;exact h v zh
   simp[this]
  ·rfl
theorem Gb {kindOf:Str->Option NameKind} {x:Str}:∀ {binds:List (Str×Value)} {m:Str->Option Value},(∀ v,(x,v)∉binds)->bindC kindOf binds m x=m x
 |[],_,_=>rfl
 |(n,v)::r,m,h=>by
  unfold bindC
  rw[Gb fun w hw=>h w (zg _ hw)]
  split
  ·rfl
  ·have:x≠n:=by rintro rfl;exact h v zh
   simp[this]
theorem Gd {kindOf:Str->Option NameKind} {x:Str} {v:Value}:∀ {P:List Str} {vs:List Value} {i:Nat} {m:Str->Option Value},P.Nodup->P[i]?=some x->vs[i]?=some v->kindOf x=some .local →
  bindL kindOf (P.zip vs) m x=some v
 |[],_,_,_,_,h,_,_=>by simp at h
 |_::_,[],_,_,_,_,h,_=>by simp at h
 |p::P,w::vs,0,m,nd,h1,h2,hk=>by
  simp at h1 h2;subst h1;subst h2
  show bindL kindOf ((p,w)::P.zip vs) m p=_
  unfold bindL
  rw[Ga fun v hv=>(List.nodup_cons.mp nd).1 (List.of_mem_zip hv).1,zo hk]
  simp
 |p::P,w::vs,i+1,m,nd,h1,h2,hk=>by
  show bindL kindOf ((p,w)::P.zip vs) m x=_
  unfold bindL
  exact Gd (i:=i) (List.nodup_cons.mp nd).2 (by simpa using h1) (by simpa using h2) hk
theorem Ge {kindOf:Str->Option NameKind} {x:Str} {v:Value}:∀ {P:List Str} {vs:List Value} {i:Nat} {m:Str->Option Value},P.Nodup->P[i]?=some x->vs[i]?=some v->kindOf x≠some .local →
  bindC kindOf (P.zip vs) m x=some v
 |[],_,_,_,_,h,_,_=>by simp at h
 |_::_,[],_,_,_,_,h,_=>by simp at h
 |p::P,w::vs,0,m,nd,h1,h2,hk=>by
  simp at h1 h2;subst h1;subst h2
  show bindC kindOf ((p,w)::P.zip vs) m p=_
  unfold bindC
  rw[Gb fun v hv=>(List.nodup_cons.mp nd).1 (List.of_mem_zip hv).1,zw hk]
  simp
 |p::P,w::vs,i+1,m,nd,h1,h2,hk=>by
  show bindC kindOf ((p,w)::P.zip vs) m x=_
  unfold bindC
  exact Ge (i:=i) (List.nodup_cons.mp nd).2 (by simpa using h1) (by simpa using h2) hk
def start (N:List Str) (vs:List V):St:=vs.map some++List.replicate (N.length - vs.length) none
def Ei (CX:Pa) (P:Program) (w:World) (K:PySem.W.Frag) (mg:Str->Option Value) (base:Heap) (N:List Str) (qual:Str) (scope:Scope) (f:Addr) (cd:Value) (A:Around) (outer:List Env) (s:Shared) (H:Hp) (E:XK):Cx where
 prog:=P
 w:=w
 K:=K
 mg:=mg
 base:=base
 A:=A.deeper (envOfC qual scope s.heap.objs.size f cd)
 N:=N
 s₀:=s
 H₀:=H
 env:=envOfC qual scope s.heap.objs.size f cd
 outer:=outer
 stack:=envOfC qual scope s.heap.objs.size f cd::outer
 ex:=[]
 calm:=true
 fn:=fun _=>true
 pn:=[]
 xe:=fun e s'=>wpAny (model P w) (A.deeper (envOfC qual scope s.heap.objs.size f cd)) (leaving (envOfC qual scope s.heap.objs.size f cd) e) (fun _ s''=>CX outer H s E e s'') (fun e' s''=>CX outer H s E e' s'') s'
theorem JV {sc:Scope} {n:Nat} {x:Str} (h:sc.names.lookup x=some .cell):∃ c,(cellsFrom n sc.names []).lookup x=some c:=by
 have q:=PySem.W.cellsFrom_some sc.names n [] (.inl h)
 exact Option.isSome_iff_exists.mp q
theorem Ra {CX:Pa} {P:Program} {w:World} {K:PySem.W.Frag} {mg:Str->Option Value} {base:Heap} {N ps:List Str} {qual:Str} {scope:Scope} {f:Addr} {cd:Value} {A:Around} {outer:List Env} {s s1:Shared} {H:Hp} {E:XK} {us:List Value} {vs:List V}
  (S:dh N ps scope) (hd:A.handled=none) (e0:MF P w K mg base A outer s H) (hl:vs.length=ps.length) (r:Vals vs us)
  (x:InCallC s s.heap.objs.size (bindL (envOfC qual scope s.heap.objs.size f cd).kindOf (ps.zip us) fun _=>none) (cellsFrom (s.heap.objs.size+1) scope.names []) (bindC (envOfC qual scope s.heap.objs.size f cd).kindOf (ps.zip us) fun _=>none) s1) :
  Inv (Ei CX P w K mg base N qual scope f cd A outer s H E) [] (start N vs) H s1:=by
 have hpl:ps.length<=N.length:=by have:=congrArg List.length S.pre;rw[kL] at this;omega
 obtain⟨h1,tk,rfl,hk⟩:=x.done
 have noA:∀ b:Addr,b∉(Ei CX P w K mg base N qual scope f cd A outer s H E).ex:=fun b z=>absurd (show b∈([]:List Addr) from z) (by simp)
 refine⟨⟨e0.mod,S.kind,rfl,rfl,zl _,fun y z c h1 h2=>?_,fun y hy=>?_,fun y c _ h=>?_,fun _=>hd,Around.frames_deeper e0.frames,.inr ⟨rfl,rfl⟩,fun b z=>absurd z (noA b),e0.bs,e0.WM,fun b _ _=>noA b,fun b z=>absurd z (noA b),e0.Am,e0.frf⟩,
  rfl,e0.bare,Un.kept hk,⟨_,x.toInCall.ns,fun i y v h1 h2 h3=>?_⟩,fun y c h=>⟨_,x.cell y c h⟩,e0.hok.fresh (zl _),fun y c h=>?_,fun p hp=>absurd (show p∈([]:List (Addr×Obj)) from hp) (by simp),e0.hok.kept hk,?_⟩
 ·exact name_of_addr x.apart (ke h1) (ke h2)
 ·have hy:scope.names.lookup y=some .cell\/scope.names.lookup y=some .free:=hy
  rcases hy with hy|hy
  ·exact JV hy
  ·exact absurd rfl (S.aaP _ (ke hy))
 ·exact JU (x.above y c (ke h))
 ·have hi:i < vs.length:=by
   unfold start at h2
   by_cases hi:i < vs.length
   ·exact hi
   ·rw[ZZ (by simpa using hi)] at h2
    rw[QI] at h2
    split at h2<;>cases h2
  have ha:vs[i]?=some v:=by
   unfold start at h2
   rw[ZA (by simpa using hi),zS] at h2
   cases e:vs[i]? with
   |none=>rw[e] at h2;cases h2
   |some a=>rw[e] at h2;cases h2;rfl
  obtain⟨u,hu,rv⟩:=r.get ha
  have hp:ps[i]?=some y:=by
   rw[<-S.pre,List.getElem?_take_of_lt (by omega)];exact h1
  have ndP:ps.Nodup:=by rw[<-S.pre];exact S.nd.sublist (List.take_sublist _ _)
  refine⟨u,rv,?_⟩
  rcases S.par y (ZY hp) with k|k
  ·exact .inl ⟨k,Gd ndP hp hu k⟩
  ·obtain⟨c,e⟩:=JV (n:=s.heap.objs.size+1) k
   refine .inr ⟨.inl k,c,e,?_⟩
   have q:=x.cell y c e
   rw[Ge ndP hp hu (by show scope.names.lookup y≠_;rw[k];decide)] at q
   exact q
 ·exact e0.hok.fresh (JU (x.above y c (ke h)))
 ·unfold start
  show _=N.length
  rw[z0,zi,List.length_replicate]
  omega
theorem ac0 {CX:Pa} {P:Program} {w:World} {K:PySem.W.Frag} {mg:Str->Option Value} {base:Heap} {k:Nat} {f:Addr} {name qual:Str} {params:Arguments} {body:List Stmt} {scope:Scope} {dV kV doc pm cdv ct oc:Value} {an od:Option Addr}
  {osl:Array (Option Value)} {N ps:List Str} {sp:Sp} (lk:K.lookup f=some ⟨oc,od,.func (PySem.W.fnOf name qual params body scope dV kV doc pm an cdv ct),osl⟩) (hcd:PySem.W.codeIn K cdv qual=true) (S:dh N ps scope)
  (len:∀ vs H Q E,sp vs H Q E->vs.length=ps.length)
  (hbody:∀ (A:Around) (outer:List Env) (s:Shared) (H:Hp) (vs:List V) (Q:VK) (E:XK),m5 k (A.deeper (envOfC qual scope s.heap.objs.size f cdv))->sp vs H Q E →
   ∃ t,O6 (Ei CX P w K mg base N qual scope f cdv A outer s H E) body t/\t { nx:=fun _ H'=>Q .non H',rt:=Q } (start N vs) H) :
  dG P w K mg base CX (k+1) f (PySem.W.fnOf name qual params body scope dV kV doc pm an cdv ct) ps sp:=by
 refine⟨len,fun A outer s H args us vs Q E hr e0 hb r hsp=>?_⟩
 have hl:=len _ _ _ _ hsp
 have KX:K.In s.heap:=e0.mod.kin.keeps fun b o e=>(e0.bs b o e).1
 have lim:s.heap.NoLimit:=e0.mod.nolimit.keeps fun b o e=>(e0.bs b o e).1
 have hkind:∀ y∈ps.zip us,scope.names.lookup y.1=some .local\/(scope.names.lookup y.1=some .cell/\((cellsFrom (s.heap.objs.size+1) scope.names []).lookup y.1).isSome=true):=fun ⟨n,v⟩ hy=>by
  rcases S.par n (List.of_mem_zip hy).1 with q|q
  ·exact .inl q
  ·exact .inr ⟨q,PySem.W.cellsFrom_some _ _ _ (.inl q)⟩
 refine codeAny_call_function hr.depth (KX _ _ lk) rfl S.co S.gen rfl (PySem.W.codeRec_of KX hcd) (hb _ _ _ _ ?_)
 refine wpAny_newFunctionEnv_cells S.kind hkind fun env he s1 x=>?_
 subst he
 refine⟨lim.keeps x.toInCall.keep,codeAny_func ?_⟩
 obtain⟨t,ht,hq⟩:=hbody A outer s H vs Q E (hr.deeper _) hsp
 have I:Inv (Ei CX P w K mg base N qual scope f cdv A outer s H E) [] (start N vs) H s1:=Ra S hr.hd e0 hl r x
 refine qB (ht [] s1 (start N vs) H _ I hq) (fun fl s' hs=>?_) fun e s' hs=>hs
 have fin:∀ {σ':St} {H':Hp} {v:V} {u:Value},Inv (Ei CX P w K mg base N qual scope f cdv A outer s H E) [] σ' H' s'->RelV v u->Q v H'->CE outer P w H s Q u s':=
  fun {σ' H' v u} J rv q=>⟨v,H',J.os,J.bare,J.base,J.hok,rv,q⟩
 cases fl with
 |ret u=>
  obtain⟨v,σ',H',J,rv,q⟩:=hs
  exact fin J rv q
 |next=>
  obtain⟨σ',H',J,q⟩:=hs
  exact fin (v:=V.non) (u:=Value.none) J rfl q
 |brk=>
  obtain⟨_,_,_,q⟩:=hs
  exact False.elim q
 |cont=>
  obtain⟨_,_,_,q⟩:=hs
  exact False.elim q
end L2
namespace L2
open PySem PySem.Spec PyProof.Rows
section
variable {X:Cx} {x:Str} {p pos:Pos} {e:Expr} {es:List Expr} {t:TA} {id T:String} {r:List V->Hp->VK->Prop}
def tCB (r:List V->Hp->VK->Prop) (t:TA):TE:=fun σ H Q=>t σ H fun vs H1=>r vs H1 Q
theorem JW (hc:jW X (.builtin id) r) (hg:Gl X x) (hm:X.mg x=none) (hv:bootBuiltins x=some (.builtin id)) (ha:PA X (e::es) t) (hn:x ≠ "__name__" := by decide) (hdb:(x==("__debug__" : Str))=false:=by decide)
  (he:starEach (e::es) X.env=(false,eval e X.env)::starEach es X.env:=by rfl) (hpl:(backTo pos (starEach es X.env)).any (·.1)=false:=by rfl):PE X (.Call (.Name x p) (e::es) [] pos) (tCB r t):=by
 intro pins s σ H Q I h
 refine kR (BK I hg hm hv ?_ hn hdb)
 exact PyProof.Rows.callWith_builtin1 (mC (ha pos pins s σ H _ I h) fun us s1 ⟨vs,H1,I1,r1,q1⟩=>hc pins s1 σ H1 vs us Q I1 r1 q1) he hpl
theorem Gf (hc:jW X (.type T) r) (hg:Gl X x) (hm:X.mg x=none) (hv:bootBuiltins x=some (.type T)) (ha:PA X (e::es) t) (hn:x ≠ "__name__" := by decide) (hdb:(x==("__debug__" : Str))=false:=by decide)
  (he:starEach (e::es) X.env=(false,eval e X.env)::starEach es X.env:=by rfl) (hpl:(backTo pos (starEach es X.env)).any (·.1)=false:=by rfl):PE X (.Call (.Name x p) (e::es) [] pos) (tCB r t):=by
 intro pins s σ H Q I h
 refine kR (BK I hg hm hv ?_ hn hdb)
 exact PyProof.Rows.callWith_type1 (mC (ha pos pins s σ H _ I h) fun us s1 ⟨vs,H1,I1,r1,q1⟩=>hc pins s1 σ H1 vs us Q I1 r1 q1) he hpl
end
end L2
namespace HT
open PySem PyProof.Rows
section
open PySem.SeqAt
open PySem.AutoSeq1 (wpAny_loadPart')
open PySem.MeetsSeq PySem.MeetsSeq2 PySem.MeetsSeq3
end
section
variable {prog:Program} {w:World} {A:Around} {E:Value->Shared->Prop} {s:Shared}
theorem W4 {t b:Addr} {vs ws:List Value} {Q:Value->Shared->Prop} (ht:IsTup s.heap t vs.toArray) (hb:IsTup s.heap b ws.toArray) (hv:vs≠[])
  (h1:ws=[]->Q (.ref t) s) (h2:ws≠[]->Q (.ref s.heap.objs.size) { s with heap:=s.heap.push { cls:=.type "tuple", data:=.seq (vs++ws).toArray } })
  (hsz:vs.length+ws.length<=sizeLine):wpAny (model prog w) A (binaryOp .Add (.ref t) (.ref b)) Q E s:=by
 obtain⟨⟨cls,dd,data,sl⟩,ho,hc,n,hd⟩:=id ht
 obtain⟨⟨cls2,dd2,data2,sl2⟩,ho2,hc2,n2,hd2⟩:=id hb
 simp only at hc hd hc2 hd2
 subst hc hd hc2 hd2
 have e:vs.toArray++ws.toArray=(vs++ws).toArray:=by simp
 by_cases hw:ws=[]
 ·exact concat_meets ⟨_,ho,rfl⟩ ⟨_,ho2,rfl⟩ noFill_tuple_add seq_tuple_add PySem.F.slot_tuple_add y8 (yA _ _)
   (tuple_addW1 t b vs.toArray ws.toArray n n2 dd dd2 sl sl2 (by simpa using hv) (by simp[hw])) ⟨ho,ho2,h1 hw⟩
 ·refine concat_meets ⟨_,ho,rfl⟩ ⟨_,ho2,rfl⟩ noFill_tuple_add seq_tuple_add PySem.F.slot_tuple_add y8 (yA _ _)
   (tuple_addW2 t b vs.toArray ws.toArray n n2 dd dd2 sl sl2 (by simpa using hv) (by simpa using hw) (by rw[zC,zC];exact hsz)) ⟨ho,ho2,?_⟩
  rw[e]
  exact h2 hw
def jX (n d:Nat):Option Int->Nat
 |none=>d
 |some v=>if v < 0 then (v+(n:Int)).toNat else min v.toNat n
theorem Tw (n d:Nat):jX n d none=d:=rfl
theorem W5 (n d k:Nat):jX n d (some (k:Int))=min k n:=by
 show (if (k:Int) < 0 then ((k:Int)+(n:Int)).toNat else min (k:Int).toNat n)=min k n
 rw[zw (by omega),kC]
theorem aaQ (n d:Nat) (hd:d<=n) (o:Option Int):jX n d o<=n:=by
 cases o with
 |none=>exact hd
 |some v=>
  show (if v < 0 then (v+(n:Int)).toNat else min v.toNat n)<=n
  by_cases hv:v < 0
  ·rw[zo hv];omega
  ·rw[zw hv];exact Nat.min_le_right _ _
theorem Pg (v:Int) (n d:Nat):(if v < 0 then max (v+(n:Int)) 0 else min v (n:Int))=((jX n d (some v):Nat):Int):=by
 show (if v < 0 then max (v+(n:Int)) 0 else min v (n:Int))=(((if v < 0 then (v+(n:Int)).toNat else min v.toNat n):Nat):Int)
 by_cases hv:v < 0
 ·simp only[zo hv];omega
 ·simp only[zw hv];omega
theorem MJ (lo hi:Option Int) (n:Nat):Builtin.Slice.sliceAdjust lo hi 1 (n:Int)=(((jX n 0 lo:Nat):Int),((jX n n hi:Nat):Int)):=by
 have h1:¬ ((1:Int) < 0):=by omega
 unfold Builtin.Slice.sliceAdjust
 simp only[h1,ZH]
 refine Prod.ext ?_ ?_
 ·cases lo with
  |none=>rfl
  |some v=>exact Pg v n 0
 ·cases hi with
  |none=>rfl
  |some v=>exact Pg v n n
theorem MK (i j:Nat):Builtin.Slice.slicePlaces (i:Int) (j:Int) 1=j - i:=by
 unfold Builtin.Slice.slicePlaces
 have h1:(1:Int) > 0:=by omega
 simp only[h1,QO,Int.ediv_one]
 split<;>omega
theorem BR {v:Value} {o:Option Int} {Q:Option Int->Shared->Prop} (p:IsPart v o) (h:Q o s):wpAny (model prog w) A (Builtin.Slice.slicePartIndex v) Q E s:=by
 cases p with
 |none=>exact slicePart_none h
 |int i t=>exact slicePart_int h
theorem qZ {sl:Addr} {vl vu:Value} {lo hi:Option Int} {n:Nat} {Q:Int×Int×Nat->Shared->Prop} (hs:s.heap.IsSliceOf sl vl vu .none) (pl:IsPart vl lo) (pu:IsPart vu hi)
  (h:Q (((jX n 0 lo:Nat):Int),1,jX n n hi - jX n 0 lo) s):wpAny (model prog w) A (Builtin.Slice.sliceApplied (.ref sl) (pure (n:Int))) Q E s:=by
 obtain⟨os,hos,hcs,hds⟩:=id hs
 unfold Builtin.Slice.sliceApplied Builtin.Slice.sliceFields
 refine zb (zb (qS hos hds (x:=vl) rfl (zb (qS hos hds (x:=vu) rfl (zb (qS hos hds (x:=.none) rfl (ze ?_)))))))
 refine zb (slicePart_none ?_)
 show wpAny _ _ (if ((1:Int)==0)=true then _ else _) _ _ s
 rw[zw (by decide)]
 refine zb (BR pl (zb (BR pu (zb (ze ?_)))))
 show wpAny _ _ (match Builtin.Slice.sliceAdjust lo hi 1 (n:Int) with|(lo,hi)=>pure (lo,(1:Int),Builtin.Slice.slicePlaces lo hi 1)) _ _ s
 rw[MJ lo hi n]
 show wpAny _ _ (pure (((jX n 0 lo:Nat):Int),(1:Int),Builtin.Slice.slicePlaces ((jX n 0 lo:Nat):Int) ((jX n n hi:Nat):Int) 1)) _ _ s
 rw[MK]
 exact ze h
theorem Tz (xs:Array Value) (i k:Nat):((List.range k).filterMap fun (m:Nat)=>xs[((i:Int)+(m:Int) * 1).toNat]?).toArray=((xs.toList.drop i).take k).toArray:=by
 have e:(fun (m:Nat)=>xs[((i:Int)+(m:Int) * 1).toNat]?)=fun m=>xs[i+m]?:=by
  funext m
  have:((i:Int)+(m:Int) * 1).toNat=i+m:=by omega
  rw[this]
 rw[e]
 have:=pick_run xs i k
 rw[List.filterMap_map] at this
 have e2:((fun x=>xs[x]?) ∘ fun x=>i+x)=fun m=>xs[i+m]?:=rfl
 rw[e2] at this
 rw[this]
theorem xr {t sl:Addr} {items:Array Value} {vl vu:Value} {lo hi:Option Int} {Q:Value->Shared->Prop} (ht:IsTup s.heap t items) (hs:s.heap.IsSliceOf sl vl vu .none) (pl:IsPart vl lo) (pu:IsPart vu hi)
  (hw:¬ (jX items.size 0 lo=0/\jX items.size items.size hi=items.size))
  (h:Q (.ref s.heap.objs.size) { s with heap:=s.heap.push { cls:=.type "tuple", data:=.seq ((items.toList.drop (jX items.size 0 lo)).take (jX items.size items.size hi - jX items.size 0 lo)).toArray } })
  (hsz:items.size<=sizeLine):wpAny (model prog w) A (getItem (.ref t) (.ref sl)) Q E s:=by
 have Ph:sizeOk (.seq ((items.toList.drop (jX items.size 0 lo)).take (jX items.size items.size hi - jX items.size 0 lo)).toArray):=by
  show ((items.toList.drop (jX items.size 0 lo)).take (jX items.size items.size hi - jX items.size 0 lo)).toArray.size<=sizeLine
  rw[zC,kL,List.length_drop,qf]
  omega
 have hj:jX items.size items.size hi<=items.size:=aaQ _ _ (zl _) hi
 obtain⟨os,hos,hcs,hds⟩:=id hs
 have hTs:s.TypeIs (.ref sl) "slice" := ⟨os,hos,hcs⟩
 unfold getItem
 try with_reducible refine qo ?_
 first|refine zb (ze ?_)|skip
 refine zb (wpAny_sequenceKey ht.typeIs (by decide) ?_)
 refine zb (QE (name:=Str.ofString "__getitem__") ht.typeIs PyProof.Rows.slot_tuple_getitem
  (qv PyProof.Rows.slot_tuple_getitem ht.typeIs entry_tuple_getitem ?_ (args_tuple_getitem _ _)))
 show wpAny _ _ (Builtin.Tuple.tupleItemsOf (.ref t) >>= _) _ _ s
 refine zb (tupleItemsOf_ ht ?_)
 refine zb (QP hTs ?_)
 rw[zo (by decide)]
 refine zb (qZ hs pl pu ?_)
 have hno:¬ ((((jX items.size 0 lo:Nat):Int)==0&&(1:Int)==1&&(jX items.size items.size hi - jX items.size 0 lo)==items.size)=true):=by
  intro q
  rw[ZN,ZN] at q
  have q1:((jX items.size 0 lo:Nat):Int)=0:=eq_of_beq q.1.1
  have q2:jX items.size items.size hi - jX items.size 0 lo=items.size:=eq_of_beq q.2
  exact hw ⟨by omega,by omega⟩
 show wpAny _ _ (if (((jX items.size 0 lo:Nat):Int)==0&&(1:Int)==1&&(jX items.size items.size hi - jX items.size 0 lo)==items.size)=true then _ else _) _ _ s
 rw[zw hno,Tz]
 first
  |exact zb (m:=Builtin.Tuple.tupleExact _) (Z3 (ze ⟨_,rfl,ze h⟩) Ph)
  |exact zb (m:=Builtin.Tuple.tupleExact _) (Z3 (zb (ze (ze ⟨_,rfl,ze h⟩))) Ph)
  |exact zb (zb (m:=Builtin.Tuple.tupleExact _) (Z3 (ze (ze ⟨_,rfl,ze h⟩)) Ph))
  |exact zb (zb (m:=Builtin.Tuple.tupleExact _) (Z3 (ze ⟨_,rfl,ze h⟩) Ph))
end
end HT
namespace L2
open PySem PySem.Spec PyProof.Rows
abbrev TO:=St->Hp->(Option Int->Hp->Prop)->Prop
def PO (X:Cx) (e:Option Expr) (t:TO):Prop:=
 ∀ (pins:List (Addr×Obj)) (s:Shared) (σ:St) (H:Hp) (Q:Option Int->Hp->Prop),Inv X pins σ H s->t σ H Q →
  wpAny (model X.prog X.w) X.A (evalPart e X.env) (fun u s'=>∃ o H',Inv X pins σ H' s'/\IsPart u o/\Q o H') X.xe s
def W6:TO:=fun _ H Q=>Q none H
def ac1 (t:TE):TO:=fun σ H Q=>t σ H fun x H1=>∃ i,x=.int i/\Q (some i) H1
section
variable {X:Cx} {e:Expr} {te:TE} {lo hi:Option Expr} {tl th:TO} {pos p2:Pos}
theorem W7:PO X none W6:=by
 intro pins s σ H Q I h
 rw[evalPart_none]
 exact ze ⟨none,H,I,.none,h⟩
theorem W8 (h:PE X e te):PO X (some e) (ac1 te):=by
 intro pins s σ H Q I hw
 rw[evalPart_some]
 refine mC (h pins s σ H _ I hw) fun u s1 ⟨x,H1,I1,r1,q1⟩=>?_
 obtain⟨i,rfl,q⟩:=q1
 obtain⟨t,rfl⟩:=r1
 exact⟨some i,H1,I1,.int i t,q⟩
def Zw (X:Cx) (r:V->Option Int->Option Int->Hp->VK->Prop):Prop:=
 ∀ (pins:List (Addr×Obj)) (s:Shared) (σ:St) (H:Hp) (x:V) (v vl vu:Value) (lo hi:Option Int) (sl:Addr) (Q:VK),Inv X pins σ H s->RelV x v->s.heap.IsSliceOf sl vl vu .none->IsPart vl lo->IsPart vu hi->r x lo hi H Q →
  ∃ T id,typeLookup (.type T) "__getitem__" = pure (some (.builtin id))/\s.TypeIs v T/\wpAny (model X.prog X.w) X.A (getItem v (.ref sl)) (EP X pins σ Q) X.xe s
theorem Zw.or {r r':V->Option Int->Option Int->Hp->VK->Prop} (h:Zw X r) (h':Zw X r'):Zw X (fun x lo hi H Q=>r x lo hi H Q\/r' x lo hi H Q):=by
 intro pins s σ H x v vl vu lo hi sl Q I rx hs pl pu q
 rcases q with q|q
 ·exact h pins s σ H x v vl vu lo hi sl Q I rx hs pl pu q
 ·exact h' pins s σ H x v vl vu lo hi sl Q I rx hs pl pu q
def tSl (r:V->Option Int->Option Int->Hp->VK->Prop) (te:TE) (tl th:TO):TE:=fun σ H Q=>te σ H fun x H1=>tl σ H1 fun l H2=>th σ H2 fun u H3=>r x l u H3 Q
theorem TF {r:V->Option Int->Option Int->Hp->VK->Prop} (hr:Zw X r) (he:PE X e te) (hl:PO X lo tl) (hu:PO X hi th):PE X (.Subscript e (.Slice lo hi none p2) pos) (tSl r te tl th):=by
 intro pins s σ H Q I h
 refine Subscript_ (mC (he pins s σ H _ I h) fun v s1 ⟨x,H1,I1,r1,q1⟩=>?_)
 refine wpAny_Slice (mC (hl pins s1 σ H1 _ I1 q1) fun vl s2 ⟨l,H2,I2,pl,q2⟩=>mC (hu pins s2 σ H2 _ I2 q2) fun vu s3 ⟨u,H3,I3,pu,q3⟩=>?_)
 rw[evalPart_none]
 refine ze ?_
 have I4:Inv X pins σ H3 { s3 with heap:=s3.heap.push { cls:=.type "slice", data:=.fields #[vl,vu,.none] } }:=I3.kept (t':=s3.toks) fun b ob q=>zd _ q
 obtain⟨T,id,hT,ht,hg⟩:=hr pins { s3 with heap:=s3.heap.push { cls:=.type "slice", data:=.fields #[vl,vu,.none] } } σ H3 x v vl vu l u s3.heap.objs.size Q I4 r1 (Heap.IsSliceOf.new ..) pl pu q3
 show wpAny (model X.prog X.w) X.A (subscriptTail e (.Slice lo hi none p2) v (.ref s3.heap.objs.size)) (EP X pins σ Q) X.xe { s3 with heap:=s3.heap.push { cls:=.type "slice", data:=.fields #[vl,vu,.none] } }
 exact tail_any (ops:=[.ref s3.heap.objs.size,v]) ht hT hg (by with_unfolding_all rfl)
def JX (xs:List V) (lo hi:Option Int):List V:=(xs.drop (HT.jX xs.length 0 lo)).take (HT.jX xs.length xs.length hi - HT.jX xs.length 0 lo)
theorem zW (xs:List V) (lo hi:Option Int):(JX xs lo hi).length<=xs.length:=by
 unfold JX
 rw[kL,List.length_drop]
 omega
def ae8 (K:PySem.W.Frag):V->Option Int->Option Int->Hp->VK->Prop:=fun x lo hi H Q=>∃ a xs,x=.ref a/\vH K H a xs ∧
 ¬ (HT.jX xs.length 0 lo=0/\HT.jX xs.length xs.length hi=xs.length)/\∀ p,H p=none->Q (.ref p) (upd H p (.tup (JX xs lo hi)))
theorem aaR:Zw X (ae8 X.K):=by
 intro pins s σ H x v vl vu lo hi sl Q I rx hs pl pu h
 obtain⟨a,xs,rfl,hx,hw,q⟩:=h
 cases rx
 obtain⟨its,r,ht,hz⟩:=I.tuple hx
 have hlen:its.toArray.size=xs.length:=by rw[zC];exact r.length.symm
 refine⟨"tuple", _,PyProof.Rows.slot_tuple_getitem.lookup,ht.typeIs,?_⟩
 refine HT.xr ht hs pl pu (by rw[hlen];exact hw) ?_ (by rw[hlen];exact hz)
 rw[hlen]
 refine⟨.ref s.heap.objs.size,_,I.laid (t':=s.toks) (o:=.tup (JX xs lo hi)) (fun b ob q=>zd _ q) (zl _) ?_,rfl,q _ (I.hok.fresh (zl _))⟩
 exact⟨z3 (zW xs lo hi) hz,_,(r.drop (HT.jX xs.length 0 lo)).take (HT.jX xs.length xs.length hi - HT.jX xs.length 0 lo),rP.new _ _⟩
def ac2 (K:PySem.W.Frag):R2:=fun x y H Q=>∃ a b xs ys,x=.ref a/\y=.ref b/\vH K H a xs/\vH K H b ys/\xs≠[]/\xs.length+ys.length<=sizeLine ∧
 (ys=[]->Q (.ref a) H)/\(ys≠[]->∀ p,H p=none->Q (.ref p) (upd H p (.tup (xs++ys))))
theorem Vals.Bl {xs:List V} {us:List Value} (r:Vals xs us):us=[]↔xs=[]:=by
 cases r with
 |nil=>simp
 |cons _ _=>simp
theorem W9:wG X (binaryOp .Add) (ac2 X.K):=by
 intro pins s σ H x y v u Q I rx ry h
 obtain⟨a,b,xs,ys,rfl,rfl,ha,hb,hx,hz,q1,q2⟩:=h
 cases rx
 cases ry
 obtain⟨its,r1,p1,_⟩:=I.tuple ha
 obtain⟨its2,r2,p2,_⟩:=I.tuple hb
 refine HT.W4 p1 p2 (fun z=>hx (r1.Bl.mp z)) (fun z=>⟨.ref a,H,I,rfl,q1 (r2.Bl.mp z)⟩) (fun z=>?_) (by rw[<-r1.length,<-r2.length];exact hz)
 refine⟨.ref s.heap.objs.size,_,I.laid (t':=s.toks) (o:=.tup (xs++ys)) (fun b ob q=>zd _ q) (zl _) ?_,rfl,q2 (fun w=>z (r2.Bl.mpr w)) _ (I.hok.fresh (zl _))⟩
 exact⟨by rw[z0];exact hz,_,r1.append r2,rP.new _ _⟩
end
end L2
namespace L2
open PySem PySem.Spec PyProof.Rows
def ixN (n:Nat) (i:Int):Option Nat:=if 0<=i then (if i < n then some i.toNat else none) else if -(n:Int)<=i then some (i+n).toNat else none
def Ej {α:Type} (xs:List α) (i:Int):Option α:=(ixN xs.length i).bind fun j=>xs[j]?
theorem Xa {n:Nat} {i:Int} {j:Nat} (h:ixN n i=some j):seqIndex? i n=some j/\j < n ∧ -(n:Int)<=i/\i < n:=by
 unfold ixN at h
 by_cases h0:0<=i
 ·rw[zo h0] at h
  by_cases h1:i < n
  ·rw[zo h1] at h
   have e:i.toNat=j:=jI h
   exact⟨by rw[seqIndex_of h0 h1,e],by omega,by omega,h1⟩
  ·rw[zw h1] at h;cases h
 ·rw[zw h0] at h
  by_cases h1 : -(n:Int)<=i
  ·rw[zo h1] at h
   have e:(i+n).toNat=j:=jI h
   exact⟨by rw[seqIndex_neg (by omega) h1,e],by omega,h1,by omega⟩
  ·rw[zw h1] at h;cases h
theorem Hl {α:Type} {xs:List α} {i:Int} {v:α} (h:Ej xs i=some v):∃ j,seqIndex? i xs.length=some j/\xs[j]?=some v/\j < xs.length ∧ -(xs.length:Int)<=i/\i < xs.length:=by
 unfold Ej at h
 cases e:ixN xs.length i with
 |none=>rw[e] at h;cases h
 |some j=>
  rw[e] at h
  obtain⟨h1,h2,h3,h4⟩:=Xa e
  exact⟨j,h1,h,h2,h3,h4⟩
def Pj (b:Expr):Prop:=∀ o i,subscripted b false o i=operate [o,i] (getItem o i)
def Xb (X:Cx) (r:R2):Prop:=
 ∀ (value slice:Expr) (pins:List (Addr×Obj)) (s:Shared) (σ:St) (H:Hp) (x y:V) (v u:Value) (Q:VK),Inv X pins σ H s->RelV x v->RelV y u->r x y H Q →
  subscripted slice false v u=operate [v,u] (getItem v u)->wpAny (model X.prog X.w) X.A (subscriptTail value slice v u) (EP X pins σ Q) X.xe s
def MtR (X:Cx) (id:String) (r:V->List V->Hp->VK->Prop):Prop:=
 ∀ (pins:List (Addr×Obj)) (s:Shared) (σ:St) (H:Hp) (x:V) (xs:List V) (v:Value) (us:List Value) (Q:VK),Inv X pins σ H s->RelV x v->Vals xs us->r x xs H Q →
  wpAny (model X.prog X.w) X.A (call (.builtin id) (v::us)) (EP X pins σ Q) X.xe s
section
variable {X:Cx} {a b:Expr} {ta tb:TE} {pos:Pos}
theorem Xb.or {r r':R2} (h:Xb X r) (h':Xb X r'):Xb X (fun x y H Q=>r x y H Q\/r' x y H Q):=by
 intro value slice pins s σ H x y v u Q I rx ry q hs
 rcases q with q|q
 ·exact h value slice pins s σ H x y v u Q I rx ry q hs
 ·exact h' value slice pins s σ H x y v u Q I rx ry q hs
theorem MtR.or {id:String} {r r':V->List V->Hp->VK->Prop} (h:MtR X id r) (h':MtR X id r'):MtR X id (fun x xs H Q=>r x xs H Q\/r' x xs H Q):=by
 intro pins s σ H x xs v us Q I rx rs q
 rcases q with q|q
 ·exact h pins s σ H x xs v us Q I rx rs q
 ·exact h' pins s σ H x xs v us Q I rx rs q
theorem ac3 {r:R2} (hr:Xb X r) (ha:PE X a ta) (hb:PE X b tb) (hs:Pj b):PE X (.Subscript a b pos) (tOp r ta tb):=by
 intro pins s σ H Q I h
 exact Subscript_ (aaA ha hb I h fun v u s2 x y H2 I2 rx ry q=>hr a b pins s2 σ H2 x y v u Q I2 rx ry q (hs _ _))
def ac4 (K:PySem.W.Frag):R2:=fun x y H Q=>∃ p xs i v,x=.ref p/\y=.int i/\tR K H p xs/\Ej xs i=some v/\Q v H
def ac5 (K:PySem.W.Frag):R2:=fun x y H Q=>∃ p xs i v,x=.ref p/\y=.int i/\vH K H p xs/\Ej xs i=some v/\Q v H
def ac6:R2:=fun x y H Q=>∃ z i c,x=.str z/\y=.int i/\z.length<=sizeLine/\Ej z.cps.toList i=some c/\Q (.str ⟨#[c]⟩) H
theorem Xc:Xb X (ac4 X.K):=by
 intro value slice pins s σ H x y v u Q I rx ry h hs
 obtain⟨p,xs,i,z,rfl,rfl,hq,he,q⟩:=h
 cases rx
 obtain⟨t,rfl⟩:=ry
 obtain⟨its,r,pl,hz⟩:=I.list hq
 obtain⟨j,h1,h2,h3,h4,h5⟩:=Hl he
 obtain⟨w,ew,O9⟩:=r.get h2
 have hl:=r.length
 have hn:=yQ
 have fin:EP X pins σ Q w s:=⟨z,H,I,O9,q⟩
 by_cases h0:0<=i
 ·have hj:i.toNat=j:=by
   rw[seqIndex_of h0 h5] at h1
   exact jI h1
  exact item_listR pl.isList h0 (by omega) (by rw[hj];simpa using ew) fin hs
 ·have hj:(i+(its.toArray.size:Int)).toNat=j:=by
   rw[seqIndex_neg (by omega) h4] at h1
   rw[zC,<-hl]
   exact jI h1
  exact subscriptTail_builtinR (x:=w) pl.isList.typeIs slot_list_getitem.lookup
   (wpAny_getItem_list_neg (Q:=fun r s'=>r=w/\EP X pins σ Q r s') pl.isList (by omega) (by rw[zC]<;>omega) (by omega) (by rw[hj];simpa using ew) ⟨rfl,fin⟩) hs
theorem aaS:Xb X (ac5 X.K):=by
 intro value slice pins s σ H x y v u Q I rx ry h hs
 obtain⟨p,xs,i,z,rfl,rfl,hq,he,q⟩:=h
 cases rx
 obtain⟨t,rfl⟩:=ry
 obtain⟨its,r,pl,hz⟩:=I.tuple hq
 obtain⟨j,h1,h2,h3,h4,h5⟩:=Hl he
 obtain⟨w,ew,O9⟩:=r.get h2
 have hl:=r.length
 have hn:=yQ
 have fin:EP X pins σ Q w s:=⟨z,H,I,O9,q⟩
 exact subscriptTail_builtinR (x:=w) pl.typeIs slot_tuple_getitem.lookup
  (getItem_tuple (j:=j) (Q:=fun r s'=>r=w/\EP X pins σ Q r s') pl (by omega) (by omega) (by rw[zC,<-hl];exact h1) (by simpa using ew) ⟨rfl,fin⟩) hs
theorem aaT:Xb X ac6:=by
 intro value slice pins s σ H x y v u Q I rx ry h hs
 obtain⟨z,i,c,rfl,rfl,hz,he,q⟩:=h
 obtain⟨t,rfl⟩:=rx
 obtain⟨t',rfl⟩:=ry
 obtain⟨j,h1,h2,h3,h4,h5⟩:=Hl he
 have hl:z.cps.toList.length=z.length:=by simp[Str.length]
 rw[hl] at h1 h4 h5
 have hn:=yQ
 exact tail_any (typeIs_str s z t) slot_str_getitem.lookup (getItem_str (c:=c) (by
  have e1:decide (i < -(2 ^ 63:Int))=false:=qc (by omega)
  have e2:decide (i>=2 ^ 63)=false:=qc (by omega)
  rw[e1,e2,Bool.or_false]) (by rw[h1];simpa using h2) ⟨.str ⟨#[c]⟩,H,I.tok _,⟨_,rfl⟩,q⟩) hs
def rIx (K:PySem.W.Frag):R2:=fun x y H Q=>ac4 K x y H Q\/ac5 K x y H Q\/ac6 x y H Q
theorem aaU:Xb X (rIx X.K):=Xc.or (aaS.or aaT)
theorem Inv.lst {pins:List (Addr×Obj)} {σ:St} {H:Hp} {s:Shared} {p:Addr} {xs:List V} (I:Inv X pins σ H s) (h:H p=some (.lst xs)) :
  ∃ (its:List Value) (n:Nat),Vals xs its/\s.heap.get? p=some { cls:=.type "list", data:=.seq its.toArray n }/\xs.length<=sizeLine:=by
 obtain⟨z,its,n,r,e⟩:=I.hok p _ h
 exact⟨its,n,r,e,z⟩
theorem Ho (lo hi:Option Int) (n:Nat):(sliceBounds lo hi none n).1=((HT.jX n 0 lo:Nat):Int)/\(sliceBounds lo hi none n).2.1=((HT.jX n n hi:Nat):Int)/\(sliceBounds lo hi none n).2.2=1:=by
 refine⟨?_,?_,rfl⟩
 ·cases lo with
  |none=>simp[sliceBounds,HT.jX]
  |some i=>
   simp only[sliceBounds,HT.jX,Option.getD_none,show (1:Int) > 0 by decide,QO]
   by_cases h:i < 0
   ·simp only[h,QO]<;>omega
   ·simp only[h,ZH]<;>omega
 ·cases hi with
  |none=>simp[sliceBounds,HT.jX]
  |some i=>
   simp only[sliceBounds,HT.jX,Option.getD_none,show (1:Int) > 0 by decide,QO]
   by_cases h:i < 0
   ·simp only[h,QO]<;>omega
   ·simp only[h,ZH]<;>omega
theorem Ek (its:List Value) (lo hi:Option Int):slicePick its.toArray lo hi none=((its.drop (HT.jX its.length 0 lo)).take (HT.jX its.length its.length hi - HT.jX its.length 0 lo)).toArray:=by
 obtain⟨h1,h2,h3⟩:=Ho lo hi its.toArray.size
 unfold slicePick
 rw[h1,h2,h3]
 simp only[sliceRange_one,pick_run,zC]<;>rfl
def ae9 (K:PySem.W.Frag):V->Option Int->Option Int->Hp->VK->Prop:=fun x lo hi H Q=>∃ a xs,x=.ref a/\tR K H a xs/\∀ p,H p=none->Q (.ref p) (upd H p (.lst (JX xs lo hi)))
theorem Xd:Zw X (ae9 X.K):=by
 intro pins s σ H x v vl vu lo hi sl Q I rx hs pl pu h
 obtain⟨a,xs,rfl,hx,q⟩:=h
 cases rx
 obtain⟨its,r,ht,hz⟩:=I.list hx
 have hlen:=r.length
 refine⟨"list", _,slot_list_getitem.lookup,ht.isList.typeIs,?_⟩
 refine wpAny_getItem_list_slice ht.isList hs pl pu .none (by simp) ?_ (by rw[zC]<;>omega)
 rw[Ek,<-hlen]
 refine⟨.ref s.heap.objs.size,_,I.laid (t':=s.toks) (o:=.lst (JX xs lo hi)) (fun b ob q=>zd _ q) (zl _) ?_,rfl,q _ (I.hok.fresh (zl _))⟩
 exact⟨z3 (zW xs lo hi) hz,_,0,(r.drop (HT.jX xs.length 0 lo)).take (HT.jX xs.length xs.length hi - HT.jX xs.length 0 lo),zt _ rfl⟩
def tH:V->Bool
 |.non=>true
 |.bl _=>true
 |.int _=>true
 |.str _=>true
 |_=>false
def Rb:V->V->Bool
 |.non,.non=>true
 |.bl a,.bl b=>a==b
 |.bl a,.int b=>(if a then 1 else 0)==b
 |.int a,.bl b=>a==(if b then 1 else 0)
 |.int a,.int b=>a==b
 |.str a,.str b=>a==b
 |_,_=>false
theorem aaV {A:Around} {s:Shared} {y x:V} {u v:Value} (ry:RelV y u) (rx:RelV x v) (fy:tH y=true) (fx:tH x=true):SeqAt.EqAt A s u v (Rb y x):=by
 cases y with
 |non=>
  cases ry
  cases x with
  |non=>cases rx;exact SeqAt.EqAt.same _
  |bl b=>cases rx;exact SeqAt.EqAt.none_bool b
  |int b=>obtain⟨t,rfl⟩:=rx;exact SeqAt.EqAt.none_int b t
  |str b=>obtain⟨t,rfl⟩:=rx;exact SeqAt.EqAt.none_str b t
  |_=>exact absurd (show false=true from fx) z5
 |bl a=>
  cases ry
  cases x with
  |non=>cases rx;exact SeqAt.EqAt.bool_none a
  |bl b=>cases rx;exact SeqAt.EqAt.bool_bool a b
  |int b=>obtain⟨t,rfl⟩:=rx;exact SeqAt.EqAt.bool_int a b t
  |str b=>obtain⟨t,rfl⟩:=rx;exact SeqAt.EqAt.bool_str a b t
  |_=>exact absurd (show false=true from fx) z5
 |int a=>
  obtain⟨t',rfl⟩:=ry
  cases x with
  |non=>cases rx;exact SeqAt.EqAt.int_none a t'
  |bl b=>cases rx;exact SeqAt.EqAt.int_bool a t' b
  |int b=>obtain⟨t,rfl⟩:=rx;exact SeqAt.EqAt.int_int a t' b t
  |str b=>obtain⟨t,rfl⟩:=rx;exact SeqAt.EqAt.int_str a t' b t
  |_=>exact absurd (show false=true from fx) z5
 |str a=>
  obtain⟨t',rfl⟩:=ry
  cases x with
  |non=>cases rx;exact SeqAt.EqAt.str_none a t'
  |bl b=>cases rx;exact SeqAt.EqAt.str_bool a t' b
  |int b=>obtain⟨t,rfl⟩:=rx;exact SeqAt.EqAt.str_int a t' b t
  |str b=>obtain⟨t,rfl⟩:=rx;exact SeqAt.EqAt.str_str a t' b t
  |_=>exact absurd (show false=true from fx) z5
 |_=>exact absurd (show false=true from fy) z5
def Xe (x:V) (u:Value):Bool:=match u with
 |.none=>Rb .non x
 |.bool b=>Rb (.bl b) x
 |.int i _=>Rb (.int i) x
 |.str z _=>Rb (.str z) x
 |_=>false
theorem TJ {x y:V} {u:Value} (r:RelV y u) (f:tH y=true):Xe x u=Rb y x:=by
 cases y with
 |non=>cases r;rfl
 |bl b=>cases r;rfl
 |int i=>obtain⟨t,rfl⟩:=r;rfl
 |str z=>obtain⟨t,rfl⟩:=r;rfl
 |_=>exact absurd (show false=true from f) z5
theorem Hq {x:V}:∀ {xs:List V} {us:List Value},Vals xs us->xs.all tH=true->us.any (Xe x)=xs.any fun y=>Rb y x
 |_,_,.nil,_=>rfl
 |y::xs,u::us,.cons r t,f=>by
  rw[kz,ZN] at f
  rw[kb,kb,TJ r f.1,Hq t f.2]
theorem BW {A:Around} {s:Shared} {x:V} {v:Value} (rx:RelV x v) (fx:tH x=true):∀ {xs:List V} {us:List Value},Vals xs us->xs.all tH=true->∀ u∈us,SeqAt.EqAt A s u v (Xe x u)
 |_,_,.nil,_=>fun u hu=>by cases hu
 |y::xs,u::us,.cons r t,f=>fun u' hu=>by
  rw[kz,ZN] at f
  rcases List.mem_cons.mp hu with rfl|hu
  ·rw[TJ r f.1];exact aaV r rx f.1 fx
  ·exact BW rx fx t f.2 u' hu
def inV (x:V) (xs:List V):Bool:=xs.any fun y=>Rb y x
def rIn (K:PySem.W.Frag) (neg:Bool):R2:=fun x y H Q=>∃ p xs,y=.ref p/\(tR K H p xs\/vH K H p xs)/\tH x=true/\xs.all tH=true/\Q (.bl (if neg then !inV x xs else inV x xs)) H
theorem Rc:wG X (compareOp .In) (rIn X.K false):=by
 intro pins s σ H x y v u Q I rx ry h
 obtain⟨p,xs,rfl,hq,fx,fs,q⟩:=h
 cases ry
 rcases hq with hq|hq
 ·obtain⟨its,r,pl,hz⟩:=I.list hq
  refine SeqAt.in_listAt (Xe x) pl.isList (fun w hw=>BW rx fx r fs w (by simpa using hw)) ⟨.bl _,H,I,rfl,?_⟩
  rw[show its.toArray.any (Xe x)=its.any (Xe x) by simp,Hq r fs]
  exact q
 ·obtain⟨its,r,pl,hz⟩:=I.tuple hq
  refine SeqAt.in_tupleAt (Xe x) pl (fun w hw=>BW rx fx r fs w (by simpa using hw)) ⟨.bl _,H,I,rfl,?_⟩
  rw[show its.toArray.any (Xe x)=its.any (Xe x) by simp,Hq r fs]
  exact q
theorem Hr:jW X (.builtin "len") (fun xs H Q=>∃ p ys,xs=[.ref p]/\(tR X.K H p ys\/vH X.K H p ys)/\Q (.int ys.length) H):=by
 intro pins s σ H xs us Q I r h
 obtain⟨p,ys,rfl,hq,q⟩:=h
 obtain⟨u,rfl,rx⟩:=vals1 r
 cases rx
 have hn:=yQ
 rcases hq with hq|hq
 ·obtain⟨its,r',pl,hz⟩:=I.list hq
  have hlen:=r'.length
  exact Calls.call_len_list pl.isList (by simp only[zC]<;>omega) ⟨.int ys.length,H,I.tok _,⟨s.toks+1,by rw[zC,hlen]⟩,q⟩
 ·obtain⟨its,r',pl,hz⟩:=I.tuple hq
  have hlen:=r'.length
  exact len_tuple pl (by simp only[zC]<;>omega) ⟨.int ys.length,H,I.tok _,⟨s.toks+1,by rw[zC,hlen]⟩,q⟩
theorem Ht:jW X (.builtin "len") (fun xs H Q=>∃ z,xs=[.str z]/\z.length<=sizeLine/\Q (.int z.length) H):=by
 intro pins s σ H xs us Q I r h
 obtain⟨z,rfl,hz,q⟩:=h
 obtain⟨u,rfl,t,rfl⟩:=vals1 r
 have hn:=yQ
 exact len_str (by omega) ⟨.int z.length,H,I.tok _,⟨_,rfl⟩,q⟩
theorem jW.or {f:Value} {r r':List V->Hp->VK->Prop} (h:jW X f r) (h':jW X f r'):jW X f (fun xs H Q=>r xs H Q\/r' xs H Q):=by
 intro pins s σ H xs us Q I rs q
 rcases q with q|q
 ·exact h pins s σ H xs us Q I rs q
 ·exact h' pins s σ H xs us Q I rs q
theorem El:jW X (.type "tuple") (fun xs H Q=>∃ p ys,xs=[.ref p]/\((tR X.K H p ys/\∀ l,H l=none->Q (.ref l) (upd H l (.tup ys)))\/(vH X.K H p ys/\Q (.ref p) H))):=by
 intro pins s σ H xs us Q I r h
 obtain⟨p,ys,rfl,h⟩:=h
 obtain⟨u,rfl,rx⟩:=vals1 r
 cases rx
 rcases h with⟨hq,q⟩|⟨hq,q⟩
 ·obtain⟨its,r',pl,hz⟩:=I.list hq
  have hlen:=r'.length
  refine call_tuple_list pl.isList (fun h' kp=>?_) (by simp only[zC]<;>omega)
  have I1:Inv X pins σ H { s with heap:=h' }:=I.kept (t':=s.toks) kp
  have I2:Inv X pins σ (upd H h'.objs.size (.tup ys)) { s with heap:=h'.push { cls:=.type "tuple", data:=.seq its.toArray } }:=
   I1.laid (t':=s.toks) (fun b o e=>zd _ e) (zl _) (show jC X.prog X.w _ _ _ (.tup ys) from⟨hz,its,r',rP.new _ _⟩)
  exact⟨.ref h'.objs.size,_,I2,rfl,q _ (I1.hok.fresh (zl _))⟩
 ·obtain⟨its,r',pl,hz⟩:=I.tuple hq
  exact call_tuple_same pl ⟨.ref p,H,I,rfl,q⟩
def tyV (K:PySem.W.Frag) (T:String) (x:V) (H:Hp):Prop:=match x with
 |.str _=>T = "str"
 |.int _=>T = "int"
 |.ref p=>(T = "list" ∧ ∃ xs,tR K H p xs)\/(T = "tuple" ∧ ∃ o,K.lookup p=some o/\o.cls=.type "tuple" ∧ o.dict=none) ∨
   (T = "dict" ∧ ((∃ kvs,H p=some (.dK kvs))\/∃ kvs,H p=some (.dT kvs)))\/(T = "set" ∧ ∃ S n,H p=some (.set S n))
 |_=>False
theorem aaW {pins:List (Addr×Obj)} {σ:St} {H:Hp} {s:Shared} {T:String} {x:V} {v:Value} (I:Inv X pins σ H s) (r:RelV x v) (ty:tyV X.K T x H) :
  s.TypeIs v T/\∀ a,v=.ref a->∃ ob,s.heap.get? a=some ob/\ob.dict=none:=by
 cases x with
 |str z=>
  obtain⟨t,rfl⟩:=r
  cases (show T = "str" from ty)
  exact⟨typeIs_str s z t,fun _ e=>nomatch e⟩
 |int i=>
  obtain⟨t,rfl⟩:=r
  cases (show T = "int" from ty)
  exact⟨typeIs_int s i t,fun _ e=>nomatch e⟩
 |ref p=>
  cases r
  rcases ty with⟨rfl,xs,hq⟩|⟨rfl,o,hk,hc,hd⟩|⟨rfl,hk⟩|⟨rfl,S,n,hk⟩
  ·obtain⟨its,_,pl,_⟩:=I.list hq
   refine⟨pl.isList.typeIs,fun a e=>?_⟩
   cases e
   obtain⟨o,n,e,c,hd,_⟩:=pl
   exact⟨o,e,hd⟩
  ·refine⟨⟨o,I.kIn p o hk,hc⟩,fun a e=>?_⟩
   cases e
   exact⟨o,I.kIn _ o hk,hd⟩
  ·have z:∃ o,s.heap.get? p=some o/\o.ExactDict:=by
    rcases hk with⟨kvs,hk⟩|⟨kvs,hk⟩
    ·obtain⟨_,_,_,_,o,_,_,e,ex,_⟩:=I.hok p _ hk
     exact⟨o,e,ex⟩
    ·obtain⟨_,_,_,_,o,_,_,e,ex,_⟩:=I.hok p _ hk
     exact⟨o,e,ex⟩
   obtain⟨o,e,ex⟩:=z
   refine⟨⟨o,e,ex.1⟩,fun a e2=>?_⟩
   cases e2
   exact⟨o,e,ex.2.1⟩
  ·obtain⟨o,_,_,_,e,ex,_⟩:=I.hok p _ hk
   refine⟨⟨o,e,ex.1⟩,fun a e2=>?_⟩
   cases e2
   exact⟨o,e,ex.2.1⟩
 |_=>exact False.elim ty
def tBM (K:PySem.W.Frag) (T:String) (r:V->List V->Hp->VK->Prop) (to:TE) (t:TA):TE:=fun σ H Q=>to σ H fun x H1=>tyV K T x H1/\t σ H1 fun xs H2=>r x xs H2 Q
variable {o e:Expr} {es:List Expr} {to:TE} {t:TA} {name:Str} {apos cpos:Pos} {T id:String} {r:V->List V->Hp->VK->Prop}
theorem Zx (pa:PlainAttrs T) (slot:Slot T name id) (hty:typeOf (.builtin id)=pure (.type "method_descriptor")) (hm:MtR X id r) (ho:PE X o to) (ha:PA X (e::es) t)
  (hbase:attributeBase o name X.env (eval o X.env)=eval o X.env:=by rfl)
  (hfew:((backTo cpos (starEach (e::es) X.env)).all (fun x=>!x.1)&&(backToKw cpos (keywordEach [] X.env)).all (fun x=>x.1.isSome)
   && decide ((e::es).length+([]:List Keyword).length+(if ([]:List Keyword).isEmpty then 0 else 1) < 30))=true:=by rfl)
  (hline:(apos.endLine==cpos.line)=true:=by rfl) (hs:starEach (e::es) X.env=(false,eval e X.env)::starEach es X.env:=by rfl) (hplain:(backTo cpos (starEach es X.env)).any (·.1)=false:=by rfl) :
  PE X (.Call (.Attribute o name apos) (e::es) [] cpos) (tBM X.K T r to t):=by
 intro pins s σ H Q I h
 refine wpAny_Call_method_late hbase hfew hline rfl (mC (ho pins s σ H _ I h) fun v s1 ⟨x,H1,I1,r1,ty,q1⟩=>?_)
 obtain⟨h1,h2⟩:=aaW I1 r1 ty
 refine⟨T,id,pa,slot,hty,h1,h2,?_⟩
 have hA:=ha cpos pins s1 σ H1 _ I1 q1
 rw[hs] at hA ⊢
 refine Calls.callWith_builtin (by show (false||(backTo cpos (starEach es X.env)).any (·.1))=false;rw[hplain]<;>rfl) (Calls.evalArgs_plain ?_)
 exact mC hA fun us s2 ⟨vs,H2,I2,r2,q2⟩=>hm pins s2 σ H2 x vs v us Q I2 r1 r2 q2
end
end L2
namespace L2
open PySem PySem.Spec PyProof.Rows
def MtM (X:Cx) (id:String) (r:V->List V->Hp->VK->Prop):Prop:=
 ∀ (pins:List (Addr×Obj)) (s:Shared) (σ:St) (H:Hp) (x:V) (xs:List V) (v:Value) (us:List Value) (Q:VK),Inv X pins σ H s->RelV x v->Vals xs us->r x xs H Q →
  wpAny (model X.prog X.w) X.A (call (.builtin id) (v::us)) (EP X pins σ Q) X.xe s
theorem Vals.one:∀ {x:V} {us:List Value},Vals [x] us->∃ u,us=[u]/\RelV x u
 |_,_,.cons r .nil=>⟨_,rfl,r⟩
theorem Vals.two:∀ {x y:V} {us:List Value},Vals [x,y] us->∃ u v,us=[u,v]/\RelV x u/\RelV y v
 |_,_,_,.cons r (.cons q .nil)=>⟨_,_,rfl,r,q⟩
theorem Vals.zero:∀ {us:List Value},Vals [] us->us=[]
 |_,.nil=>rfl
theorem Vals.eraseIdx:∀ {xs:List V} {us:List Value} (i:Nat),Vals xs us->Vals (xs.eraseIdx i) (us.eraseIdx i)
 |_,_,_,.nil=>.nil
 |_,_,0,.cons _ t=>t
 |_,_,i+1,.cons r t=>.cons r (Vals.eraseIdx i t)
theorem Vals.reverse {xs:List V} {us:List Value} (h:Vals xs us):Vals xs.reverse us.reverse:=by
 induction h with
 |nil=>exact .nil
 |cons r t ih=>rw[List.reverse_cons,List.reverse_cons];exact Vals.append ih (.cons r .nil)
section
variable {X:Cx} {pins:List (Addr×Obj)} {σ:St} {H:Hp} {s:Shared} {l b:Addr} {xs ys zs:List V}
theorem Inv.aaX {its its':List Value} {n:Nat} {f:Array Value->Array Value} {t':Nat} (I:Inv X pins σ H s) (hH:H l=some (.lst xs))
  (e:s.heap.get? l=some { cls:=.type "list", data:=.seq its.toArray n }) (hf:f its.toArray=its'.toArray) (hv:Vals ys its') (hz:ys.length<=sizeLine) :
  Inv X pins σ (upd H l (.lst ys)) { s with heap:=s.heap.update l (Obj.mapSeq f),toks:=t' }:=by
 have q:=PySem.IsL.update e f
 rw[hf] at q
 refine I.write (x:=l) (e:=l) (by rw[hH];exact trivial) (.inl rfl) (fun b' u hb hu=>(Heap.get?_update_other s.heap (Obj.mapSeq f) (KW hb)).trans hu) ⟨_,q⟩ ?_
 exact⟨hz,its',_,hv,q⟩
theorem Inv.fresh (I:Inv X pins σ H s):H s.heap.objs.size=none:=I.hok.fresh (zl _)
theorem Inv.afa (I:Inv X pins σ H s) (hH:H l=some (.lst xs)):xs.length<=sizeLine/\∃ (its:List Value) (n:Nat),Vals xs its/\xs.length=its.length/\s.heap.get? l=some { cls:=.type "list", data:=.seq its.toArray n }:=by
 obtain⟨z,its,n,r,e⟩:=I.hok l _ hH
 exact⟨z,its,n,r,r.length,e⟩
end
section
variable {X:Cx}
def Xf:V->List V->Hp->VK->Prop:=fun x vs H Q=>∃ l xs y,x=.ref l/\vs=[y]/\H l=some (.lst xs)/\xs.length < sizeLine/\Q .non (upd H l (.lst (xs++[y])))
theorem Gg:MtM X "list.append" Xf:=by
 intro pins s σ H x vs v us Q I rx rv h
 obtain⟨l,xs,y,rfl,rfl,hH,hz,q⟩:=h
 cases rx
 obtain⟨u,rfl,ru⟩:=rv.one
 obtain⟨z,its,n,r,hl,e⟩:=I.afa hH
 refine call_meets F.slot_list_append ⟨_,e,rfl⟩ F.entry_list_append (F.args_list_append_2 _ _) (PySem.list_append l its.toArray n u (by rw[zC];omega)) ⟨e,?_⟩
 refine⟨.non,_,I.aaX (its':=its++[u]) hH e (by simp) (r.append (.cons ru .nil)) ?_,rfl,q⟩
 rw[z0,List.length_singleton]
 omega
end
section
variable {prog:Program} {w:World} {A:Around} {E:Value->Shared->Prop} {s:Shared}
end
section
variable {X:Cx}
end
end L2
namespace L2
open PySem PySem.Spec PyProof.Rows
section
variable {κ:Type} [DecidableEq κ]
def yR (kvs:List (κ×V)) (k:κ):Option V:=(kvs.find? fun kv=>decide (kv.1=k)).map (·.2)
def putK (kvs:List (κ×V)) (k:κ) (v:V):List (κ×V):=
 if (kvs.any fun kv=>decide (kv.1=k))=true then kvs.map (fun kv=>if kv.1=k then (kv.1,v) else kv) else kvs++[(k,v)]
def Zy (kvs:List (κ×V)) (k:κ):List (κ×V):=kvs.filter fun kv=>decide (kv.1≠k)
theorem xu {p:κ×V} {r:List (κ×V)} {k:κ} (e:p.1=k):yR (p::r) k=some p.2:=by simp[yR,QY,e]
theorem xG {p:κ×V} {r:List (κ×V)} {k:κ} (e:¬ p.1=k):yR (p::r) k=yR r k:=by simp[yR,QY,e]
theorem JZ (k:κ):∀ kvs:List (κ×V),(kvs.any fun kv=>decide (kv.1=k))=(yR kvs k).isSome
 |[]=>rfl
 |p::r=>by
  rw[kb]
  by_cases e:p.1=k
  ·simp only[xu e,Zl e,Bool.true_or,Option.isSome_some]
  ·rw[xG e,qc e,Bool.false_or];exact JZ k r
theorem oA (kvs:List (κ×V)) (k:κ) (v:V):(putK kvs k v).length<=kvs.length+1:=by
 unfold putK
 split
 ·rw[zi];omega
 ·rw[z0,qk,List.length_nil];omega
theorem yO.Rf {o:Option V} {u:Option Value} (r:yO o u):o.isSome=u.isSome:=by
 cases o with
 |none=>cases u with
  |none=>rfl
  |some _=>exact (show False from r).elim
 |some _=>cases u with
  |none=>exact (show False from r).elim
  |some _=>rfl
theorem yO.getD {o:Option V} {u:Option Value} {d:V} {d':Value} (r:yO o u) (rd:RelV d d'):RelV (o.getD d) (u.getD d'):=by
 cases o with
 |none=>cases u with
  |none=>exact rd
  |some _=>exact (show False from r).elim
 |some _=>cases u with
  |none=>exact (show False from r).elim
  |some _=>exact r
theorem KV.val {kvs:List (κ×V)} {vs:List (κ×Value)} (r:KV kvs vs) (k:κ):yO (yR kvs k) (valueAt vs k):=by
 unfold KV at r
 induction r with
 |nil=>exact True.intro
 |@cons p q ps qs h t ih=>
  obtain⟨h1,h2⟩:=h
  by_cases e:p.1=k
  ·have e':q.1=k:=h1.symm.trans e
   have b:valueAt (q::qs) k=some q.2:=by simp[valueAt,QY,e']
   rw[xu e,b];exact h2
  ·have e':¬ q.1=k:=fun z=>e (h1.trans z)
   have b:valueAt (q::qs) k=valueAt qs k:=by simp[valueAt,QY,e']
   rw[xG e,b];exact ih
theorem KV.any {kvs:List (κ×V)} {vs:List (κ×Value)} (r:KV kvs vs) (k:κ):(kvs.any fun kv=>decide (kv.1=k))=vs.any fun kv=>decide (kv.1=k):=by
 unfold KV at r
 induction r with
 |nil=>rfl
 |cons h t ih=>rw[kb,kb,ih,h.1]
theorem KV.repl {kvs:List (κ×V)} {vs:List (κ×Value)} (r:KV kvs vs) (k:κ) {y:V} {u:Value} (ry:RelV y u) :
  KV (kvs.map fun kv=>if kv.1=k then (kv.1,y) else kv) (vs.map fun kv=>if kv.1=k then (kv.1,u) else kv):=by
 unfold KV at r ⊢
 induction r with
 |nil=>exact .nil
 |@cons p q ps qs h t ih=>
  rw[zk,zk]
  refine .cons ?_ ih
  obtain⟨h1,h2⟩:=h
  by_cases e:p.1=k
  ·rw[zo e,zo (h1.symm.trans e)];exact⟨h1,ry⟩
  ·rw[zw e,zw (fun z=>e (h1.trans z))];exact⟨h1,h2⟩
theorem KV.put {kvs:List (κ×V)} {vs:List (κ×Value)} (r:KV kvs vs) (k:κ) {y:V} {u:Value} (ry:RelV y u):KV (putK kvs k y) (stored vs k u):=by
 unfold putK stored
 rw[r.any k]
 by_cases e:(vs.any fun kv=>decide (kv.1=k))=true
 ·rw[zo e,zo e];exact r.repl k ry
 ·rw[zw e,zw e];exact Paired.snoc r ⟨rfl,ry⟩
theorem KV.drop {kvs:List (κ×V)} {vs:List (κ×Value)} (r:KV kvs vs) (k:κ):KV (Zy kvs k) (without vs k):=by
 unfold KV at r ⊢
 unfold Zy without
 induction r with
 |nil=>exact .nil
 |@cons p q ps qs h t ih=>
  obtain⟨h1,h2⟩:=h
  rw[j3,j3]
  by_cases e:p.1=k
  ·have a:¬ decide (p.1≠k)=true:=by simp[e]
   have b:¬ decide (q.1≠k)=true:=by simp[h1.symm.trans e]
   rw[zw a,zw b];exact ih
  ·have e':¬ q.1=k:=fun z=>e (h1.trans z)
   have a:decide (p.1≠k)=true:=by simp[e]
   have b:decide (q.1≠k)=true:=by simp[e']
   rw[zo a,zo b];exact .cons ⟨h1,h2⟩ ih
theorem KV.keys {kvs:List (κ×V)} {vs:List (κ×Value)} (r:KV kvs vs):kvs.map (·.1)=vs.map (·.1):=by
 unfold KV at r
 induction r with
 |nil=>rfl
 |cons h t ih=>rw[zk,zk,ih,h.1]
theorem KV.length {kvs:List (κ×V)} {vs:List (κ×Value)} (r:KV kvs vs):kvs.length=vs.length:=Paired.length r
end
theorem Gh {P:Program} {w:World} {k:Key} {u:Value} (r:RelV (kV k) u):(bD P w).is k u=true:=by
 cases k with
 |inl i=>obtain⟨t,e⟩:=(show ∃ t,u=Value.int i t from r);subst e;exact JN P w i t
 |inr x=>obtain⟨t,e⟩:=(show ∃ t,u=Value.str x t from r);subst e;exact JQ P w x t
theorem Gi {P:Program} {w:World}:∀ {ks:List Key} {us:List Value},Vals (ks.map kV) us->ItemsAre (bD P w) ks us
 |[],_,r=>by rw[JY] at r;cases r;exact .nil
 |k::ks,_,r=>by
  rw[zk] at r
  cases r with
  |cons h t=>exact .cons (Gh h) (Gi t)
abbrev KT (H:Hp):List (List Key×V)->List (List Key×Addr×Value)->Prop:=Paired fun p q=>p.1=q.1/\H q.2.1=some (.tup (p.1.map kV))/\RelV p.2 q.2.2
theorem KT.val {H:Hp} {kvs:List (List Key×V)} {xs:List (List Key×Addr×Value)} (r:KT H kvs xs) (k:List Key):yO (yR kvs k) ((atKey xs k).map (·.2)):=by
 induction r with
 |nil=>exact True.intro
 |@cons p q ps qs h t ih=>
  obtain⟨h1,_,h2⟩:=h
  by_cases e:p.1=k
  ·have e':q.1=k:=h1.symm.trans e
   have b:atKey (q::qs) k=some q.2:=by simp[atKey,QY,e']
   rw[xu e,b];exact h2
  ·have e':¬ q.1=k:=fun z=>e (h1.trans z)
   have b:atKey (q::qs) k=atKey qs k:=by simp[atKey,QY,e']
   rw[xG e,b];exact ih
theorem KT.repl {H:Hp} {kvs:List (List Key×V)} {xs:List (List Key×Addr×Value)} (r:KT H kvs xs) (k:List Key) {y:V} {u:Value} (ry:RelV y u) :
  KT H (kvs.map fun kv=>if kv.1=k then (kv.1,y) else kv) (xs.map (putAt k u)):=by
 induction r with
 |nil=>exact .nil
 |@cons p q ps qs h t ih=>
  rw[zk,zk]
  refine .cons ?_ ih
  obtain⟨h1,h2,h3⟩:=h
  unfold putAt
  by_cases e:p.1=k
  ·rw[zo e,zo (h1.symm.trans e)];exact⟨h1,h2,ry⟩
  ·rw[zw e,zw (fun z=>e (h1.trans z))];exact⟨h1,h2,h3⟩
theorem KT.put {H:Hp} {kvs:List (List Key×V)} {xs:List (List Key×Addr×Value)} (r:KT H kvs xs) (k:List Key) {b:Addr} {y:V} {u:Value} (hb:H b=some (.tup (k.map kV))) (ry:RelV y u) :
  KT H (putK kvs k y) (storedH xs k b u):=by
 have e:(kvs.any fun kv=>decide (kv.1=k))=(atKey xs k).isSome:=by
  rw[JZ,(r.val k).Rf,Option.isSome_map]
 unfold putK storedH
 rw[e]
 by_cases q:(atKey xs k).isSome=true
 ·rw[zo q,zo q];exact r.repl k ry
 ·rw[zw q,zw q];exact Paired.snoc r ⟨rfl,hb,ry⟩
theorem KT.keeps {H H':Hp} {kvs:List (List Key×V)} {xs:List (List Key×Addr×Value)} (r:KT H kvs xs) (ht:∀ b ys,H b=some (.tup ys)->H' b=some (.tup ys)):KT H' kvs xs:=
 Paired.WD r fun _ _ z=>⟨z.1,ht _ _ z.2.1,z.2.2⟩
section
variable {P:Program} {w:World} {H:Hp} {h:Heap} {a:Addr}
theorem Zz {u:HO} (ok:wZ P w H h) (e:Rd H a u):jC P w H h a u:=e.ok ok
theorem J0 {kvs:List (Key×V)} (ok:wZ P w H h) (e:Rd H a (.dK kvs)):kvs.length<=sizeLine/\(a==sysModules)=false/\∃ vs,KV kvs vs/\h.DictOf (bD P w) a vs:=
 show jC P w H h a (.dK kvs) from Zz ok e
theorem ZC {kvs:List (Key×V)} (ok:wZ P w H h) (e:H a=some (.dK kvs)):kvs.length<=sizeLine/\(a==sysModules)=false/\∃ vs,KV kvs vs/\h.DictOf (bD P w) a vs:=J0 ok (.inl e)
theorem MN {ks:List Key} (ok:wZ P w H h) (e:H a=some (.tup (ks.map kV))):(tupleKind (bD P w)).is h ks a:=by
 obtain⟨_,its,r,o,h1,h2,⟨n,h3⟩,_⟩:=(show jC P w H h a (.tup (ks.map kV)) from ok a _ e)
 exact⟨o,its.toArray,n,h1,h2,h3,by simpa using Gi r⟩
theorem TQ {kvs:List (List Key×V)} (ok:wZ P w H h) (e:Rd H a (.dT kvs)):kvs.length<=sizeLine/\(a==sysModules)=false ∧
  ∃ xs,KT H kvs xs/\h.DictOfH (tupleKind (bD P w)) a xs:=by
 obtain⟨z,y,xs,r,o,es,ep,h1,h2,h3,h4,h5⟩:=(show jC P w H h a (.dT kvs) from Zz ok e)
 refine⟨z,y,xs,r,o,es,ep,h1,h2,h3,h4,fun x hx=>?_,h5⟩
 have all:∀ {l:List (List Key×V)} {m:List (List Key×Addr×Value)},KT H l m->∀ x∈m,(tupleKind (bD P w)).is h x.1 x.2.1:=by
  intro l m q
  induction q with
  |nil=>intro x hx;exact nomatch hx
  |@cons p q ps qs hq t ih=>
   intro x hx
   rcases List.mem_cons.mp hx with e|hx
   ·subst e
    exact MN ok (by rw[<-hq.1];exact hq.2.1)
   ·exact ih x hx
 exact all r x hx
theorem ac7 {kvs:List (List Key×V)} (ok:wZ P w H h) (e:H a=some (.dT kvs)):kvs.length<=sizeLine/\(a==sysModules)=false ∧
  ∃ xs,KT H kvs xs/\h.DictOfH (tupleKind (bD P w)) a xs:=TQ ok (.inl e)
end
def MP (H:Hp) (a:Addr) (y:V) (r:Option V):Prop:=
 (∃ kvs k,Rd H a (.dK kvs)/\y=kV k/\r=yR kvs k)\/∃ kvs k b,Rd H a (.dT kvs)/\y=.ref b/\H b=some (.tup (k.map kV))/\r=yR kvs k
def M4 (H:Hp) (a:Addr) (y v:V) (H':Hp):Prop:=
 (∃ kvs k,H a=some (.dK kvs)/\y=kV k/\kvs.length < sizeLine/\H'=upd H a (.dK (putK kvs k v))) ∨
 ∃ kvs k b,H a=some (.dT kvs)/\y=.ref b/\H b=some (.tup (k.map kV))/\kvs.length < sizeLine/\H'=upd H a (.dT (putK kvs k v))
theorem MP.k {H:Hp} {a:Addr} {kvs:List (Key×V)} {k:Key} (e:H a=some (.dK kvs)):MP H a (kV k) (yR kvs k):=.inl ⟨kvs,k,.inl e,rfl,rfl⟩
theorem MP.t {H:Hp} {a b:Addr} {kvs:List (List Key×V)} {k:List Key} (e:H a=some (.dT kvs)) (eb:H b=some (.tup (k.map kV))):MP H a (.ref b) (yR kvs k):=.inr ⟨kvs,k,b,.inl e,rfl,eb,rfl⟩
theorem M4.k {H:Hp} {a:Addr} {kvs:List (Key×V)} {k:Key} {v:V} (e:H a=some (.dK kvs)) (hl:kvs.length < sizeLine):M4 H a (kV k) v (upd H a (.dK (putK kvs k v))):=.inl ⟨kvs,k,e,rfl,hl,rfl⟩
theorem M4.t {H:Hp} {a b:Addr} {kvs:List (List Key×V)} {k:List Key} {v:V} (e:H a=some (.dT kvs)) (eb:H b=some (.tup (k.map kV))) (hl:kvs.length < sizeLine) :
  M4 H a (.ref b) v (upd H a (.dT (putK kvs k v))):=.inr ⟨kvs,k,b,e,rfl,eb,hl,rfl⟩
section
variable {X:Cx} {pins:List (Addr×Obj)} {σ:St} {H:Hp} {s:Shared} {a:Addr} {y v:V} {u r:Value} {o:Option V} {A:Around} {E:Value->Shared->Prop}
theorem Inv.big (I:Inv X pins σ H s):sysModules < s.heap.objs.size:=by
 have h:mainGlobals < s.heap.objs.size:=(I.mod.glob.keeps I.bk).lt
 exact Nat.lt_trans (by decide) h
theorem Rh {Q:Value->Shared->Prop} (hu:A.units+1 < cLine) (I:Inv X pins σ H s) (g:MP H a y (some v)) (ry:RelV y u) (h:∀ w' s',Inv X pins σ H s'->RelV v w'->Q w' s') :
  wpAny (model X.prog X.w) A (getItem (.ref a) u) Q E s:=by
 rcases g with⟨kvs,k,e,ey,l⟩|⟨kvs,k,b,e,ey,eb,l⟩
 ·subst ey
  obtain⟨z,hd,vs,rel,dd⟩:=J0 I.hok e
  obtain⟨w',hw,O9⟩:=yO.some_of (v:=v) (o:=valueAt vs k) (by rw[l];exact rel.val k)
  exact wpAny_getItem_of (Gh ry) dd.mapOf hw (h w' _ (I.tok _) O9)
 ·subst ey
  cases (show u=Value.ref b from ry)
  obtain⟨z,hd,xs,rel,dd⟩:=TQ I.hok e
  obtain⟨w',hw,O9⟩:=yO.some_of (v:=v) (o:=(atKey xs k).map (·.2)) (by rw[l];exact rel.val k)
  obtain⟨p,hp,hp2⟩:=Option.map_eq_some_iff.mp hw
  refine wpAny_getItem_heap (tupleKind_room_in1 hu) (MN I.hok eb) dd hp ?_
  rw[hp2]
  exact h w' _ (I.tok _) O9
theorem Hu {h':Heap} {t':Nat} {ob:HO} (I:Inv X pins σ H s) (mu:Mut (H a)) (hs:Heap.SameBut a s.heap h') (he:∃ q,h'.get? a=some q) (new:jC X.prog X.w (upd H a ob) h' a ob) :
  Inv X pins σ (upd H a ob) { s with heap:=h',toks:=t' }:=
 I.write (x:=a) (e:=a) mu (.inl rfl) (fun b q hb z=>(hs.2 b hb).trans z) he new
theorem TV {P:Program} {w:World} {H':Hp} {h':Heap} {kvs:List (Key×V)} {vs:List (Key×Value)} (z:kvs.length<=sizeLine) (hd:(a==sysModules)=false) (rel:KV kvs vs) (dd:h'.DictOf (bD P w) a vs) :
  jC P w H' h' a (.dK kvs):=⟨z,hd,vs,rel,dd⟩
theorem Ri {H':Hp} {Q:Unit->Shared->Prop} (hu:A.units+1 < cLine) (I:Inv X pins σ H s) (g:M4 H a y v H') (ry:RelV y u) (rv:RelV v r) (h:∀ s',Inv X pins σ H' s'->Q () s') :
  wpAny (model X.prog X.w) A (setItem (.ref a) u r) Q E s:=by
 rcases g with⟨kvs,k,e,ey,l,eH⟩|⟨kvs,k,b,e,ey,eb,l,eH⟩
 ·subst ey eH
  obtain⟨z,hd,vs,rel,dd⟩:=ZC I.hok e
  have hz:vs.length<=sizeLine:=by rw[<-rel.length];exact z
  have hl:(putK kvs k v).length<=sizeLine:=by have:=oA kvs k v;omega
  refine wpAny_setItem_pairs (hsz:=hz) (Gh ry) dd fun h' dd' hs=>h _ ?_
  have he:∃ q,h'.get? a=some q:=let ⟨q,_,_,hq,_⟩:=dd';⟨q,hq⟩
  exact Hu I (by rw[e];exact True.intro) hs he (TV hl hd (rel.put k rv) dd')
 ·subst ey eH
  cases (show u=Value.ref b from ry)
  obtain⟨z,hd,xs,rel,dd⟩:=ac7 I.hok e
  have hz:xs.length<=sizeLine:=by rw[<-Paired.length rel];exact z
  have hl:(putK kvs k v).length<=sizeLine:=by have:=oA kvs k v;omega
  refine wpAny_setItem_heap (hsz:=hz) (tupleKind_room_in1 hu) (MN I.hok eb) dd fun h' dd' hs=>h _ ?_
  obtain⟨q,es,ep,hq,h2,h3,h4,_,h5⟩:=dd'
  refine Hu I (by rw[e];exact True.intro) hs ⟨q,hq⟩ ⟨hl,hd,_,(rel.put k eb rv).keeps fun c ys ec=>?_,q,es,ep,hq,h2,h3,h4,h5⟩
  rw[aQ (pA ec e (fun z=>nomatch z))]
  exact ec
end
section
variable {X:Cx} {pins:List (Addr×Obj)} {σ:St} {H:Hp} {s:Shared} {a:Addr} {kvs:List (Key×V)} {k:Key} {u:Value} {A:Around} {E:Value->Shared->Prop}
end
def aaZ (i:Expr):Prop:=∀ ov iv,subscripted i false ov iv=operate [ov,iv] (getItem ov iv)
theorem Xg {prog:Program} {w:World} {A:Around} {E:Value->Shared->Prop} {s:Shared} {env:Env} {value slice:Expr} {pos:Pos} {T id:String} {Q:Value->Shared->Prop}
  (hl:typeLookup (.type T) "__getitem__" = pure (some (.builtin id))) (hs:aaZ slice)
  (h:wpAny (model prog w) A (eval value env) (fun o s₁=>wpAny (model prog w) A (eval slice env) (fun i s₂=>s₂.TypeIs o T/\wpAny (model prog w) A (getItem o i) Q E s₂) E s₁) E s) :
  wpAny (model prog w) A (eval (.Subscript value slice pos) env) Q E s:=by
 refine Subscript_ (qB h (fun o s₁ h₁=>qB h₁ (fun i s₂ h₂=>?_) fun _ _ x=>x) fun _ _ x=>x)
 obtain⟨hT,h₂⟩:=h₂
 unfold subscriptTail
 refine zb ?_
 rw[getitemInPython_of_ne hT.not_modules]
 refine zb (wpAny_specialOf hT hl ?_)
 have fin:wpAny (model prog w) A (subscripted slice false o i) (fun r s₃=>wpAny (model prog w) A (letTemporaryGo value o r >>= fun _=>pure r) Q E s₃) E s₂:=by
  rw[hs o i]
  exact wpAny_operating (qB h₂ (fun r s₃ h₃=>zb (wpAny_letTemporaryGo (ze h₃))) fun _ _ x=>x)
 first
  |exact ze (zb fin)
  |exact zb (ze (zb fin))
  |exact zb fin
theorem J1 {X:Cx} {pins:List (Addr×Obj)} {σ:St} {H:Hp} {s:Shared} {a:Addr} {y:V} {o:Option V} (I:Inv X pins σ H s) (g:MP H a y o):s.TypeIs (.ref a) "dict" := by
 rcases g with⟨kvs,k,e,_,_⟩|⟨kvs,k,b,e,_,_,_⟩
 ·obtain⟨_,_,vs,_,dd⟩:=J0 I.hok e
  exact dd.typeIs
 ·obtain⟨_,_,xs,_,dd⟩:=TQ I.hok e
  exact dd.typeIs
def ac8 (td ty:TE):TE:=fun σ H Q=>td σ H fun x H1=>ty σ H1 fun y H2=>∃ a v,x=.ref a/\MP H2 a y (some v)/\Q v H2
def ac9 (td ty tv:TE):TS:=fun D σ H=>tv σ H fun v H1=>td σ H1 fun x H2=>ty σ H2 fun y H3=>∃ a H4,x=.ref a/\M4 H3 a y v H4/\D.nx σ H4
section
variable {X:Cx} {o i e value:Expr} {pos pos' tpos:Pos} {td ty tv:TE}
theorem Xh (hu:X.A.units+1 < cLine) (ho:PE X o td) (hi:PE X i ty) (hs:aaZ i):PE X (.Subscript o i pos) (ac8 td ty):=by
 intro pins s σ H Q I h
 refine Xg PySem.F.slot_dict_getitem.lookup hs (mC (ho pins s σ H _ I h) fun u s1 ⟨x,H1,I1,rx,q1⟩=>mC (hi pins s1 σ H1 _ I1 q1) fun iv s2 ⟨y,H2,I2,ry,a,v,ex,g,q2⟩=>?_)
 subst ex
 obtain rfl:u=Value.ref a:=rx
 exact⟨J1 I2 g,Rh hu I2 g ry fun w' s3 I3 O9=>⟨v,H2,I3,O9,q2⟩⟩
theorem Xi (hu:X.A.units+1 < cLine) (ho:PE X o td) (hi:PE X i ty) (hv:PE X value tv) (hs:swapsWith value (some (.Subscript o i pos')) pos.line X.env=pure false) :
  PS X (.Assign [.Subscript o i pos'] value pos) (ac9 td ty tv):=by
 intro pins s σ H D I h
 refine wpAny_Assign_Subscript (mC (hv pins s σ H _ I h) fun r s1 ⟨v,H1,I1,rv,q1⟩=>mC (ho pins s1 σ H1 _ I1 q1) fun u s2 ⟨x,H2,I2,rx,q2⟩=>mC (hi pins s2 σ H2 _ I2 q2) fun iv s3 ⟨y,H3,I3,ry,a,H4,ex,g,q3⟩=>?_) hs
 subst ex
 obtain rfl:u=Value.ref a:=rx
 exact Ri hu I3 g ry rv fun s4 I4=>⟨σ,H4,I4,q3⟩
end
theorem TX {P:Program} {w:World} {H:Hp} (h:Heap) (hb:sysModules < h.objs.size):jC P w H (h.push { cls:=.type "dict", data:=.dict #[] }) h.objs.size (.dK []):=
 ⟨qA _,beq_eq_false_iff_ne.mpr (KW (zD hb)),[],.nil,Heap.DictOf.new h⟩
section
variable {X:Cx} {pos:Pos}
end
def yS (kvs more:List (Key×V)):List (Key×V):=more.foldl (fun acc kv=>putK acc kv.1 kv.2) kvs
theorem KV.merge:∀ {more:List (Key×V)} {rs:List (Key×Value)} {kvs:List (Key×V)} {vs:List (Key×Value)},KV more rs->KV kvs vs->KV (yS kvs more) (merged vs rs):=by
 intro more rs kvs vs r
 unfold KV at r
 induction r generalizing kvs vs with
 |nil=>intro q;exact q
 |@cons p q ps qs h t ih=>
  intro r0
  have e:KV (putK kvs p.1 p.2) (stored vs q.1 q.2):=by
   have:=r0.put p.1 h.2
   rw[<-h.1];exact this
  exact ih e
theorem vW:∀ (more kvs:List (Key×V)),(yS kvs more).length<=kvs.length+more.length
 |[],kvs=>by show kvs.length<=kvs.length+0;omega
 |p::r,kvs=>by
  have h1:=vW r (putK kvs p.1 p.2)
  have h2:=oA kvs p.1 p.2
  show (yS (putK kvs p.1 p.2) r).length<=_
  rw[qk];omega
section
variable {X:Cx} {pins:List (Addr×Obj)} {σ:St} {H:Hp} {s:Shared} {a:Addr} {y d:V} {u r:Value} {o:Option V} {A:Around} {E:Value->Shared->Prop}
end
section
variable {X:Cx} {o e f:Expr} {apos cpos:Pos} {td ty tx:TE}
end
section
variable {X:Cx} {pins:List (Addr×Obj)} {σ:St} {H:Hp} {s:Shared} {a:Addr} {kvs:List (Key×V)} {A:Around} {E:Value->Shared->Prop}
end
section
variable {X:Cx} {pins:List (Addr×Obj)} {σ:St} {H:Hp} {s:Shared} {a:Addr} {y:V} {u:Value} {A:Around} {E:Value->Shared->Prop}
end
end L2
namespace Att
open PySem PySem.W PySem.Calls PyProof.Rows
theorem Ao {P:Params} {h:Heap}:∀ (ns:List Int) (vs:List Value),WellAll P h vs (ns.map WData.int)->IntsAre vs ns:=by
 intro ns
 induction ns with
 |nil=>
  intro vs w
  rw[JY] at w
  cases w
  exact .nil
 |cons n ns ih=>
  intro vs w
  rw[zk] at w
  cases w with
  |cons a b=>
   cases a
   exact .cons _ _ (ih _ b)
theorem Rj {l:OpenLaw} {n:Nat} (hn:l.most=some n) {P:Params} {h:Heap} {args:List WData} {vals:List Value}
  (hpre:l.row.toRowW.claim.pre args=true) (hwl:WellAll P h vals args) :
  ∃ a vs ns,vals=[Value.ref a]/\args=[WData.list (ns.map WData.int)]/\h.get? a=some { cls:=.type "list", data:=.seq vs.toArray }/\IntsAre vs ns/\ns.length<=n:=by
 have hsh:WShape.hasAll [] args [.list .int]=true:=(pre_splitW hpre).1
 have hc:l.pre.holds [] { args:=args }=true:=(pre_splitW hpre).2
 obtain⟨d,r,rfl,h1,h2⟩:=hasAllW_cons hsh
 obtain rfl:=hasAllW_nil h2
 obtain⟨xs,rfl,h3⟩:=hasW_list h1
 obtain⟨ns,rfl⟩:=items_int h3
 have hlen:ns.length<=n:=by
  unfold OpenLaw.pre at hc
  have h4:(WTm.not (.lt (.lit (.int (n:Int))) (.len (.arg 0)))).holds [] { args:=[.list (ns.map .int)] }=true:=by
   have h4:=(holds_andW hc).1
   rw[hn] at h4
   exact h4
  have h5:=condW_of h4 (w_not (w_lt w_lit (w_len_list (w_arg rfl))))
  rw[zi] at h5
  refine Nat.le_of_not_lt fun q=>?_
  have q':(n:Int) < ((ns.length:Nat):Int):=by omega
  first
   |(rw[Zl q'] at h5;exact absurd h5 (by decide))
   |(simp at h5;omega)
 cases hwl with
 |cons w1 w2=>
  cases w2
  cases w1 with
  |list ho hall=>exact⟨_,_,ns,rfl,rfl,ho,Ao ns _ hall,hlen⟩
theorem Rk (l:OpenLaw) (args:List WData):l.row.toRowW.claim.post args (.bool true) args=true:=
 postW_of (r:=l.row.toRowW) (X:=(true==true))
  (show WShape.has [] (.bool true) .bool=true by first|rfl|decide|simp[WShape.has,WShape.arms,WShape.armsAll])
  (show (WTm.eq .res (.lit (.bool true))).value [] { args:=args,res:=some (.bool true),after:=args }=some (.bool (true==true)) from w_eq_bool (w_res rfl) w_lit) rfl
theorem J2 {l:OpenLaw} {n:Nat} {q:Program} {loose:List Str} {XP:(Str->Option Value)->Heap->Prop} {YP:World->Heap->Prop} {d:DefRec}
  (hn:l.most=some n) (hdf:d.params.defaults=[])
  (call:∀ (w:World) (s₀ s₁:Shared) (mg mb:Str->Option Value) (fa:Addr) (o:Obj) (pm cd doc:Value) (a:Addr) (vs:List Value) (ns:List Int),
   Ground q loose [] XP w s₀ mg mb s₁.heap->YP w s₁.heap →
   s₁.heap.get? fa=some o->o.data=.func (docDef d.name d.params d.body d.scope pm cd doc)->s₁.heap.CodeRec cd d.name->mg d.name=some (.ref fa) →
   s₁.heap.get? a=some { cls:=.type "list", data:=.seq vs.toArray }->IntsAre vs ns->ns.length<=n->s₁.gens=#[] →
   codeAny (model l.prog w) callerA (.call (.ref fa) ⟨[.ref a],[]⟩) (fun r s'=>r=.ok (.ret (.bool true))/\OldK s₁.heap s'.heap/\s'.os=s₁.os/\AllBare s'.gens) s₁) :
  WalkO q loose XP YP l.row.toRowW d [] (fun f vs=>PySem.call f vs):=by
 intro w s₀ s₁ mg mb G Y fa o pm cd doc dV kV ho hd hcd hD hmg hg args vals as hpre hlay hrd hwl hlo
 obtain rfl:dV=.none:=Dflts.none hD hdf
 obtain rfl:kV=.none:=Dflts.noKw hD
 obtain⟨a,vs,ns,rfl,rfl,hobj,hints,hlen⟩:=Rj hn hpre hwl
 refine enter_call (codeAny_mono (call w s₀ s₁ mg mb fa o pm cd doc a vs ns G Y ho (fd_plain hd) hcd hmg hobj hints hlen hg) fun r s' hq=>?_)
 obtain⟨rfl,h2,h3,h4⟩:=hq
 exact⟨.inl ⟨.bool true,.bool true,[],rfl,fun _=>rfl,.bool true,Rk l _,fun _=>⟨List.Pairwise.nil,fun _ hm=>(nomatch hm)⟩⟩,h2,h3,h4⟩
section
variable {prog:Program} {w:World} {A:Around} {E:Value->Shared->Prop} {s:Shared} {K:Frag}
end
end Att
namespace L2
open PySem PySem.Spec PyProof.Rows
theorem Gj:∀ {vs:List Value} {ns:List Int},IntsAre vs ns->Vals (ns.map V.int) vs
 |_,_,.nil=>.nil
 |_,_,.cons n t h=>.cons ⟨t,rfl⟩ (Gj h)
def Only (H:Hp):Prop:=∀ b,H b=none\/∃ o xs,H b=some (.rO o (.lst xs))
theorem TY {P:Program} {w:World} {K:PySem.W.Frag} {mg mb:Str->Option Value} {CX:Pa} {k:Nat} {fa a:Addr} {fd:FuncData} {x:Str} {sp:Sp} {s₁:Shared} {vs:List Value} {ns:List Int}
  (KX:K.In s₁.heap) (hns:s₁.heap.Ns mainGlobals mg) (hb:s₁.heap.Ns builtinsNs mb) (hbb:∀ x:Str,x ≠ "__name__" → mb x=bootBuiltins x) (hlim:s₁.heap.NoLimit) (hg:s₁.gens=#[])
  (ha:s₁.heap.get? a=some { cls:=.type "list", data:=.seq vs.toArray }) (hi:IntsAre vs ns) (hl:ns.length<=sizeLine) (hr:m5 k callerA)
  (F:∀ base:Heap,K.In base->base.Ns mainGlobals mg->dG P w K mg base CX k fa fd [x] sp) (hbind:∀ (s:Shared) (u:Value),BindsTo s fd ⟨[u],[]⟩ [(x,u)])
  (hsp:∀ H:Hp,Only H->tR K H a (ns.map V.int)->sp [.ref a] H (fun v _=>v=.bl true) fun _ _ _=>False)
  (hCX:∀ H e s',CX [] H s₁ (fun _ _ _=>False) e s'->False) :
  codeAny (model P w) callerA (.call (.ref fa) ⟨[.ref a],[]⟩) (fun r s'=>r=.ok (.ret (.bool true))/\OldK s₁.heap s'.heap/\s'.os=s₁.os/\AllBare s'.gens) s₁:=by
 have rv:=Gj hi
 have lenV:=hi.length
 have core:∀ H:Hp,Only H->tR K H a (ns.map V.int)->wZ P w H s₁.heap->(∀ b,H b≠none->b=a)->(H a≠none->K.lookup a=none) →
   codeAny (model P w) callerA (.call (.ref fa) ⟨[.ref a],[]⟩) (fun r s'=>r=.ok (.ret (.bool true))/\OldK s₁.heap s'.heap/\s'.os=s₁.os/\AllBare s'.gens) s₁:=by
  intro H hO hS hok hA hK
  have Pk:∀ {b:Addr} {o:Obj},s₁.heap.get? b=some o->H b=none->(Hh s₁.heap H).get? b=some o:=fun e n=>Tf e n
  have noA:∀ {b:Addr} {o:Obj} {es:Array DictEntry} {ep:Nat},s₁.heap.get? b=some o->o.data=.dict es ep->H b=none:=fun {b o es ep} e d=>by
   cases q:H b with
   |none=>rfl
   |some u=>
    have e':b=a:=hA b (by rw[q];simp)
    subst e'
    rw[ha] at e;cases e
    have d':Data.seq vs.toArray _=Data.dict es ep:=d
    cases d'
  have nsK:∀ {b:Addr} {m:Str->Option Value},s₁.heap.Ns b m->(Hh s₁.heap H).Ns b m:=fun {b m} ⟨o,es,ep,e,d,r⟩=>⟨o,es,ep,Pk e (noA e d),d,r⟩
  have hKb:K.In (Hh s₁.heap H):=fun b o e=>Pk (KX b o e) (by
   cases q:H b with
   |none=>rfl
   |some u=>
    have e':b=a:=hA b (by rw[q];simp)
    subst e'
    rw[hK (by rw[q];simp)] at e;cases e)
  have hM:Mod K mg (Hh s₁.heap H):=⟨hKb,nsK hns,⟨mb,nsK hb,hbb⟩,let ⟨mc,h1,h2⟩:=hlim;⟨mc,nsK h1,h2⟩⟩
  have e0:MF P w K mg (Hh s₁.heap H) callerA [] s₁ H:=⟨rfl,hM,fun b o e=>WK e,Nat.le_of_eq (QW _ _),trivial,fun b hb=>absurd (show b∈([]:List Addr) from hb) (by simp),hok,.of_eq hg⟩
  refine codeAny_mono ((F _ hKb (nsK hns)).run callerA [] s₁ H ⟨[.ref a],[]⟩ [.ref a] [.ref a] _ _ hr e0 (hbind s₁ (.ref a)) (.cons rfl .nil) (hsp H hO hS)) fun r s' h=>?_
  cases r with
  |error e=>exact (hCX H e s' h).elim
  |ok fl=>
   cases fl with
   |next=>exact False.elim h
   |brk=>exact False.elim h
   |cont=>exact False.elim h
   |ret u=>
    obtain⟨v,H',os,bare,un,hok',r',q⟩:=h
    have q':v=.bl true:=q
    subst q'
    obtain rfl:u=Value.bool true:=r'
    refine⟨rfl,OldK.of_keep fun b o e=>?_,os,bare⟩
    cases q:H b with
    |none=>exact un.keep b o e q (by intro z;exact absurd (show b∈([]:List Addr) from z) (by simp)) (by simp)
    |some u=>
     rcases hO b with z|⟨ob,xs,z⟩
     ·rw[q] at z;cases z
     ·have z2:=un.vG b ob _ z
      obtain⟨e1,_⟩:=hok b _ z
      obtain⟨e2,_⟩:=hok' b _ z2
      rw[e] at e1;cases e1
      exact e2
 cases hk:K.lookup a with
 |some o=>
  have e:=KX a o hk
  rw[ha] at e
  cases e
  refine core (fun _=>none) (fun _=>.inl rfl) (.inr ⟨_,vs.toArray,_,hk,rfl,rfl,rfl,by rw[zC,lenV];exact hl,by simpa using rv⟩) (fun b u z=>by have z':(none:Option HO)=some u:=z;cases z') (fun b z=>absurd rfl z) fun z=>absurd rfl z
 |none=>
  refine core (fun b=>if b=a then some (.rO { cls:=.type "list", data:=.seq vs.toArray } (.lst (ns.map V.int))) else none) (fun b=>?_) (.inl (.inr ⟨{ cls:=.type "list", data:=.seq vs.toArray },zo rfl⟩)) (fun b u z=>?_) (fun b z=>?_) fun _=>hk
  ·by_cases hb:b=a
   ·exact .inr ⟨_,_,zo hb⟩
   ·exact .inl (zw hb)
  ·by_cases hb:b=a
   ·have z':=(zo hb).symm.trans z
    cases z'
    subst hb
    exact⟨ha,by rw[zi];exact hl,vs,_,rv,ha⟩
   ·have z':=(zw hb).symm.trans z
    cases z'
  ·by_cases hb:b=a
   ·exact hb
   ·exact absurd (zw hb) z
end L2
namespace L2
open PySem PySem.Spec PyProof.Rows
theorem Xj {l:PySem.W.OpenLaw} {n k:Nat} {q:Program} {loose:List Str} {XP:(Str->Option Value)->Heap->Prop} {YP:World->Heap->Prop} {d:DefRec} {K:Params->PySem.W.Frag} {CX:World->Pa} {sp:World->Sp} {x:Str}
  (hn:l.most=some n) (hn2:n<=sizeLine) (hdf:d.params.defaults=[]) (hr:m5 k callerA)
  (hY:∀ (w:World) (h:Heap),YP w h->(K w.params).In h)
  (F:∀ (w:World) (mg:Str->Option Value) (fa:Addr) (h:Heap),(K w.params).In h->h.Ns mainGlobals mg->mg d.name=some (.ref fa) →
   ∃ fd:FuncData,(∀ (s:Shared) (u:Value),BindsTo s fd ⟨[u],[]⟩ [(x,u)]) ∧
    ∀ base:Heap,(K w.params).In base->base.Ns mainGlobals mg->dG l.prog w (K w.params) mg base (CX w) k fa fd [x] (sp w))
  (hsp:∀ (w:World) (H:Hp) (a:Addr) (ns:List Int),ns.length<=n->Only H->tR (K w.params) H a (ns.map V.int)->sp w [.ref a] H (fun v _=>v=.bl true) fun _ _ _=>False)
  (hCX:∀ (w:World) (H:Hp) (s:Shared) (e:Value) (s':Shared),CX w [] H s (fun _ _ _=>False) e s'->False) :
  PySem.W.WalkO q loose XP YP l.row.toRowW d [] (fun f vs=>PySem.call f vs):=by
 refine Att.J2 hn hdf fun w s₀ s₁ mg mb fa o pm cd doc a vs ns G Y ho hd hcd hmg hobj hints hlen hg=>?_
 have KX:=hY w _ Y
 obtain⟨fd,hb,hF⟩:=F w mg fa _ KX G.T.g hmg
 exact TY KX G.T.g G.T.b G.T.builtins G.T.nolimit hg hobj hints (z3 hlen hn2) hr hF hb (fun H hO hS=>hsp w H a ns hlen hO hS) fun H e s'=>hCX w H s₁ e s'
theorem T3 {l:PySem.W.OpenLaw} {n k:Nat} {q:Program} {loose:List Str} {XP:(Str->Option Value)->Heap->Prop} {YP:World->Heap->Prop} {d:DefRec} {K:Params->PySem.W.Frag} {CX:Pa} {sp:PySem.W.Frag->Sp} {x:Str}
  (hn:l.most=some n) (hn2:n<=sizeLine) (hdf:d.params.defaults=[]) (hr:m5 k callerA)
  (hY:∀ (w:World) (h:Heap),YP w h->(K w.params).In h)
  (F:∀ (w:World) (mg:Str->Option Value) (fa:Addr) (h:Heap),(K w.params).In h->h.Ns mainGlobals mg->mg d.name=some (.ref fa) →
   ∃ fd:FuncData,(∀ (s:Shared) (u:Value),BindsTo s fd ⟨[u],[]⟩ [(x,u)]) ∧
    ∀ base:Heap,(K w.params).In base->base.Ns mainGlobals mg->dG l.prog w (K w.params) mg base CX k fa fd [x] (sp (K w.params)))
  (hsp:∀ (K:PySem.W.Frag) (H:Hp) (a:Addr) (ns:List Int),ns.length<=n->Only H->tR K H a (ns.map V.int)->sp K [.ref a] H (fun v _=>v=.bl true) fun _ _ _=>False)
  (hCX:∀ (H:Hp) (s:Shared) (e:Value) (s':Shared),CX [] H s (fun _ _ _=>False) e s'->False) :
  PySem.W.WalkO q loose XP YP l.row.toRowW d [] (fun f vs=>PySem.call f vs):=
 Xj (K:=K) (CX:=fun _=>CX) (sp:=fun w=>sp (K w.params)) hn hn2 hdf hr hY F (fun w H a ns h1 h2 h3=>hsp (K w.params) H a ns h1 h2 h3) fun _ H s e s'=>hCX H s e s'
end L2
namespace L2
open PySem PySem.Spec PyProof.Rows
def dZ (s:Stmt):Arguments:=match s with
 |.FunctionDef _ a _ _ _ _ _ _ _ _=>a
 |_=>{ posonlyargs:=[],args:=[],vararg:=none,kwonlyargs:=[],kw_defaults:=[],kwarg:=none,defaults:=[] }
def cH (s:Stmt):List Stmt:=match s with
 |.FunctionDef _ _ b _ _ _ _ _ _ _=>b
 |_=>[]
def aK (s:Stmt):Scope:=match s with
 |.FunctionDef _ _ _ _ _ _ sc _ _ _=>sc
 |_=>{ kind:=.function,names:=[],isGenerator:=false,isCoroutine:=false }
abbrev m7:Pa:=fun _ _ _ _ _ _=>False
abbrev E0:XK:=fun _ _ _=>False
theorem ZD {X:Cx}:Passes m7 X E0:=fun _ _ _ _ _ _ _ h=>h.elim
structure yU (K:PySem.W.Frag) (x qual:Str) (st:Stmt) (f:Addr) (fd:FuncData):Prop where
 ex:∃ (oc:Value) (od:Option Addr) (kV doc pm:Value) (an:Option Addr) (cdv ct:Value) (osl:Array (Option Value)),
  fd=PySem.W.fnOf x qual (dZ st) (cH st) (aK st) .none kV doc pm an cdv ct/\K.lookup f=some ⟨oc,od,.func fd,osl⟩/\PySem.W.codeIn K cdv qual=true
 kp:PySem.W.keepIn K (.ref f)=true
section
variable {P:Program} {w:World} {K:PySem.W.Frag} {mg:Str->Option Value} {base:Heap}
theorem yU.ok {x qual:Str} {st:Stmt} {f:Addr} {fd:FuncData} {N ps:List Str} {k:Nat} {sp:Sp} (F:yU K x qual st f fd) (S:dh N ps (aK st)) (len:∀ vs H Q E,sp vs H Q E->vs.length=ps.length)
  (hbody:∀ (cdv:Value) (A:Around) (outer:List Env) (s:Shared) (H:Hp) (vs:List V) (Q:VK) (E:XK),m5 k (A.deeper (envOfC qual (aK st) s.heap.objs.size f cdv))->sp vs H Q E →
   ∃ t,O6 (Ei m7 P w K mg base N qual (aK st) f cdv A outer s H E).S5 (cH st) t/\t { nx:=fun _ H'=>Q .non H',rt:=Q } (start N vs) H):dG P w K mg base m7 (k+1) f fd ps sp:=by
 obtain⟨oc,od,kV,doc,pm,an,cdv,ct,osl,rfl,lk,hcd⟩:=F.ex
 refine ac0 lk hcd S len fun A outer s H vs Q E hr hsp=>?_
 obtain⟨t,h,q⟩:=hbody cdv A outer s H vs Q E hr hsp
 exact⟨t,h.S5,q⟩
theorem yU.binds {x qual:Str} {st:Stmt} {f:Addr} {fd:FuncData} {ps:List Str} (F:yU K x qual st f fd)
  (h:∀ (kV doc pm:Value) (an:Option Addr) (cdv ct:Value) (us:List Value),us.length=ps.length->bindArgs (PySem.W.fnOf x qual (dZ st) (cH st) (aK st) .none kV doc pm an cdv ct) ⟨us,[]⟩=pure (ps.zip us)):Binds K fd ps []:=by
 obtain⟨oc,od,kV,doc,pm,an,cdv,ct,osl,rfl,lk,hcd⟩:=F.ex
 exact .all (h kV doc pm an cdv ct)
theorem jR {x qual:Str} {st:Stmt} {f:Addr} {oc:Value} {od an:Option Addr} {osl:Array (Option Value)} {kV doc pm cdv ct:Value} (l:K.lookup f=some ⟨oc,od,.func (PySem.W.fnOf x qual (dZ st) (cH st) (aK st) .none kV doc pm an cdv ct),osl⟩)
  (c:PySem.W.codeIn K cdv qual=true) (k:PySem.W.keepIn K (.ref f)=true):yU K x qual st f (PySem.W.fnOf x qual (dZ st) (cH st) (aK st) .none kV doc pm an cdv ct):=⟨⟨oc,od,kV,doc,pm,an,cdv,ct,osl,rfl,l,c⟩,k⟩
end
section
variable {X:Cx}
theorem pv (i:Nat) {x:Str} {pos:Pos} (hN:X.N[i]?=some x:=by rfl) (hv:Ww X.env.scope x:=by first|exact kQ rfl|exact Jn (kQ rfl)|exact Jn (Jn rfl)) (hd:(x==("__debug__" : Str))=false:=by decide)
  (hcd:(x==("__classdict__" : Str))=false:=by decide):PE X (.Name x pos) (acF i):=wF hN hv hd hcd
end
def Same (H H':Hp):Prop:=∀ b o,H b=some o->H' b=some o
theorem Same.refl (H:Hp):Same H H:=fun _ _ h=>h
theorem Same.trans {H H1 H2:Hp} (a:Same H H1) (b:Same H1 H2):Same H H2:=fun c o h=>b c o (a c o h)
theorem Same.free {H H':Hp} (e:Same H H') {l:Addr} (h:H' l=Option.none):H l=Option.none:=by
 cases q:H l with
 |none=>rfl
 |some o=>
  rw[e l o q] at h
  cases h
theorem Same.seq {K:PySem.W.Frag} {H H':Hp} {a:Addr} {xs:List V} (e:Same H H') (h:tR K H a xs):tR K H' a xs:=by
 rcases h with (h|⟨o,h⟩)|h
 ·exact .inl (.inl (e _ _ h))
 ·exact .inl (.inr ⟨o,e _ _ h⟩)
 ·exact .inr h
end L2
end
section
namespace P1
open PySem PySem.Spec PyProof.Rows L2
inductive Dt where
 |non|bl (b:Bool)|int (i:Int)|str (x:Str)|tup (xs:List Dt)|lst (xs:List Dt)|emp
inductive Bx where
 |z (d:Dt)|l (ds:List Dt)|o (ds:List Dt)|n (kvs:List (Str×Dt))|m (kvs:List (Str×Dt)) (w:Option Addr)
abbrev Ev:=List (Option Bx)
def FzL (K:PySem.W.Frag) (H:Hp) (a:Addr) (xs:List V):Prop:=
 (∃ o,H a=some (.rO o (.lst xs))) ∨
  ∃ (o:Obj) (its:Array Value) (n:Nat),K.lookup a=some o/\o.cls=.type "list" ∧ o.dict=none/\o.data=.seq its n/\its.size<=sizeLine/\Vals xs its.toList
theorem FzL.sq {K:PySem.W.Frag} {H:Hp} {a:Addr} {xs:List V} (h:FzL K H a xs):tR K H a xs:=by
 rcases h with h|h
 ·exact .inl (.inr h)
 ·exact .inr h
mutual
def Rep (K:PySem.W.Frag) (H:Hp):Dt->V->Prop
 |.non,v=>v=.non
 |.bl b,v=>v=.bl b
 |.int i,v=>v=.int i
 |.str x,v=>v=.str x/\x.length<=sizeLine
 |.tup ds,v=>∃ a vs,v=.ref a/\vH K H a vs/\aJ K H ds vs
 |.lst ds,v=>∃ a vs,v=.ref a/\FzL K H a vs/\aJ K H ds vs
 |.emp,v=>∃ a o,v=.ref a/\H a=some (.rO o (.dK []))
def aJ (K:PySem.W.Frag) (H:Hp):List Dt->List V->Prop
 |[],vs=>vs=[]
 |d::ds,vs=>∃ v r,vs=v::r/\Rep K H d v/\aJ K H ds r
end
structure Kp (H H':Hp):Prop where
 t:∀ a xs,H a=some (.tup xs)->H' a=some (.tup xs)
 f:∀ a o u,H a=some (.rO o u)->H' a=some (.rO o u)
theorem Kp.of {H H':Hp} (s:Same H H'):Kp H H':=⟨fun a _ h=>s a _ h,fun a _ _ h=>s a _ h⟩
theorem Kp.sqT {K:PySem.W.Frag} {H H':Hp} {a:Addr} {xs:List V} (k:Kp H H') (h:vH K H a xs):vH K H' a xs:=by
 rcases h with (h|⟨o,h⟩)|h
 ·exact .inl (.inl (k.t _ _ h))
 ·exact .inl (.inr ⟨o,k.f _ _ _ h⟩)
 ·exact .inr h
theorem Kp.fzL {K:PySem.W.Frag} {H H':Hp} {a:Addr} {xs:List V} (k:Kp H H') (h:FzL K H a xs):FzL K H' a xs:=by
 rcases h with⟨o,h⟩|h
 ·exact .inl ⟨o,k.f _ _ _ h⟩
 ·exact .inr h
theorem Kp.lst {H:Hp} {a:Addr} {xs:List V} {o:HO} (h:H a=some (.lst xs)):Kp H (upd H a o):=by
 refine⟨fun b ys e=>?_,fun b ob u e=>?_⟩
 ·rw[aQ (pA e h (by intro z;cases z))];exact e
 ·rw[aQ (pA e h (by intro z;cases z))];exact e
theorem Kp.dk {H:Hp} {a:Addr} {xs:List (Key×V)} {o:HO} (h:H a=some (.dK xs)):Kp H (upd H a o):=by
 refine⟨fun b ys e=>?_,fun b ob u e=>?_⟩
 ·rw[aQ (pA e h (by intro z;cases z))];exact e
 ·rw[aQ (pA e h (by intro z;cases z))];exact e
mutual
theorem Rep.kp {K:PySem.W.Frag} {H H':Hp} (k:Kp H H'):∀ {d:Dt} {v:V},Rep K H d v->Rep K H' d v
 |.non,_,h=>by simpa only[Rep] using h
 |.bl _,_,h=>by simpa only[Rep] using h
 |.int _,_,h=>by simpa only[Rep] using h
 |.str _,_,h=>by simpa only[Rep] using h
 |.tup ds,_,h=>by
  simp only[Rep] at h ⊢
  obtain⟨a,vs,e,q,r⟩:=h
  exact⟨a,vs,e,k.sqT q,aJ.kp k r⟩
 |.lst ds,_,h=>by
  simp only[Rep] at h ⊢
  obtain⟨a,vs,e,q,r⟩:=h
  exact⟨a,vs,e,k.fzL q,aJ.kp k r⟩
 |.emp,_,h=>by
  simp only[Rep] at h ⊢
  obtain⟨a,o,e,q⟩:=h
  exact⟨a,o,e,k.f _ _ _ q⟩
theorem aJ.kp {K:PySem.W.Frag} {H H':Hp} (k:Kp H H'):∀ {ds:List Dt} {vs:List V},aJ K H ds vs->aJ K H' ds vs
 |[],_,h=>by simpa only[aJ] using h
 |d::ds,_,h=>by
  simp only[aJ] at h ⊢
  obtain⟨v,r,e,q,t⟩:=h
  exact⟨v,r,e,Rep.kp k q,aJ.kp k t⟩
end
theorem aJ.length {K:PySem.W.Frag} {H:Hp}:∀ {ds:List Dt} {vs:List V},aJ K H ds vs->vs.length=ds.length
 |[],_,h=>by simp only[aJ] at h;subst h;rfl
 |d::ds,_,h=>by
  simp only[aJ] at h
  obtain⟨v,r,rfl,_,t⟩:=h
  simp[aJ.length t]
theorem aJ.nil {K:PySem.W.Frag} {H:Hp}:aJ K H [] []:=by simp only[aJ]
theorem aJ.cons {K:PySem.W.Frag} {H:Hp} {d:Dt} {v:V} {ds:List Dt} {vs:List V} (h:Rep K H d v) (t:aJ K H ds vs):aJ K H (d::ds) (v::vs):=by
 simp only[aJ];exact⟨v,vs,rfl,h,t⟩
theorem aJ.append {K:PySem.W.Frag} {H:Hp}:∀ {ds es:List Dt} {vs us:List V},aJ K H ds vs->aJ K H es us->aJ K H (ds++es) (vs++us)
 |[],_,_,_,h,t=>by simp only[aJ] at h;subst h;exact t
 |d::ds,_,_,_,h,t=>by
  simp only[aJ] at h
  obtain⟨v,r,rfl,q,h⟩:=h
  exact aJ.cons q (aJ.append h t)
theorem aJ.drop {K:PySem.W.Frag} {H:Hp}:∀ (n:Nat) {ds:List Dt} {vs:List V},aJ K H ds vs->aJ K H (ds.drop n) (vs.drop n)
 |0,_,_,h=>h
 |n+1,[],_,h=>by simp only[aJ] at h;subst h;exact aJ.nil
 |n+1,d::ds,_,h=>by
  simp only[aJ] at h
  obtain⟨v,r,rfl,q,h⟩:=h
  exact aJ.drop n h
theorem aJ.take {K:PySem.W.Frag} {H:Hp}:∀ (n:Nat) {ds:List Dt} {vs:List V},aJ K H ds vs->aJ K H (ds.take n) (vs.take n)
 |0,_,_,_=>aJ.nil
 |n+1,[],_,h=>by simp only[aJ] at h;subst h;exact aJ.nil
 |n+1,d::ds,_,h=>by
  simp only[aJ] at h
  obtain⟨v,r,rfl,q,h⟩:=h
  exact aJ.cons q (aJ.take n h)
theorem aJ.get {K:PySem.W.Frag} {H:Hp}:∀ {ds:List Dt} {vs:List V} {i:Nat} {d:Dt},aJ K H ds vs->ds[i]?=some d->∃ v,vs[i]?=some v/\Rep K H d v
 |[],_,_,_,_,e=>by simp at e
 |d::ds,_,0,_,h,e=>by
  simp only[aJ] at h
  obtain⟨v,r,rfl,q,h⟩:=h
  simp at e;subst e;exact⟨v,rfl,q⟩
 |d::ds,_,i+1,_,h,e=>by
  simp only[aJ] at h
  obtain⟨v,r,rfl,q,h⟩:=h
  obtain⟨u,e1,e2⟩:=aJ.get h (i:=i) (by simpa using e)
  exact⟨u,by simpa using e1,e2⟩
def gW (K:PySem.W.Frag) (H:Hp) (kvs:List (Str×Dt)) (ks:List (Key×V)):Prop:=ks.map (·.1)=kvs.map (fun p=>(Sum.inr p.1:Key))/\aJ K H (kvs.map (·.2)) (ks.map (·.2))/\∀ p∈kvs,p.1.length<=sizeLine
theorem gW.kp {K:PySem.W.Frag} {H H':Hp} {kvs:List (Str×Dt)} {ks:List (Key×V)} (h:gW K H kvs ks) (k:Kp H H'):gW K H' kvs ks:=⟨h.1,h.2.1.kp k,h.2.2⟩
def bA (K:PySem.W.Frag) (H:Hp):Bx->V->Prop
 |.z d,v=>Rep K H d v
 |.l ds,v=>∃ a vs,v=.ref a/\Rd H a (.lst vs)/\aJ K H ds vs
 |.o ds,v=>∃ a vs,v=.ref a/\H a=some (.lst vs)/\aJ K H ds vs
 |.n kvs,v=>∃ a ks,v=.ref a/\Rd H a (.dK ks)/\gW K H kvs ks
 |.m kvs w,v=>∃ a ks,v=.ref a/\H a=some (.dK ks)/\gW K H kvs ks/\∀ b,w=some b->b=a
theorem bA.same {K:PySem.W.Frag} {H H':Hp} (s:Same H H') {b:Bx} {v:V} (h:bA K H b v):bA K H' b v:=by
 cases b with
 |z d=>exact Rep.kp (.of s) h
 |l ds=>
  obtain⟨a,vs,e,q,r⟩:=h
  refine⟨a,vs,e,?_,r.kp (.of s)⟩
  rcases q with q|⟨o,q⟩
  ·exact .inl (s _ _ q)
  ·exact .inr ⟨o,s _ _ q⟩
 |o ds=>
  obtain⟨a,vs,e,q,r⟩:=h
  exact⟨a,vs,e,s _ _ q,r.kp (.of s)⟩
 |n kvs=>
  obtain⟨a,vs,e,q,r⟩:=h
  refine⟨a,vs,e,?_,r.kp (.of s)⟩
  rcases q with q|⟨o,q⟩
  ·exact .inl (s _ _ q)
  ·exact .inr ⟨o,s _ _ q⟩
 |m kvs _=>
  obtain⟨a,vs,e,q,r⟩:=h
  exact⟨a,vs,e,s _ _ q,r.1.kp (.of s),r.2⟩
def qj:Bx->Option (List Dt)
 |.z (.lst ds)=>some ds
 |.l ds=>some ds
 |.o ds=>some ds
 |_=>none
theorem bA.Em {K:PySem.W.Frag} {H:Hp} {b:Bx} {v:V} {ds:List Dt} (h:bA K H b v) (e:qj b=some ds):∃ a vs,v=.ref a/\tR K H a vs/\aJ K H ds vs:=by
 cases b with
 |z d=>
  cases d<;>first|(cases e;done)|skip
  cases e
  simp only[bA,Rep] at h
  obtain⟨a,vs,e,q,r⟩:=h
  exact⟨a,vs,e,q.sq,r⟩
 |l ds'=>
  cases e
  obtain⟨a,vs,e,q,r⟩:=h
  exact⟨a,vs,e,.inl q,r⟩
 |o ds'=>
  cases e
  obtain⟨a,vs,e,q,r⟩:=h
  exact⟨a,vs,e,.inl (.inl q),r⟩
 |n _=>cases e
 |m _ _=>cases e
abbrev pB (K:PySem.W.Frag) (H:Hp):List Bx->List V->Prop:=Paired (bA K H)
theorem pB.same {K:PySem.W.Frag} {H H':Hp} (s:Same H H') {bs:List Bx} {vs:List V} (h:pB K H bs vs):pB K H' bs vs:=Paired.imp' (fun _ _ q=>bA.same s q) h
def Nw (H:Hp):Bx->V->Prop
 |.o _,v=>∀ a,v=.ref a->H a=none
 |.m _ _,v=>∀ a,v=.ref a->H a=none
 |_,_=>True
theorem Nw.old {H H1:Hp} (s:Same H H1) {b:Bx} {v:V} (h:Nw H1 b v):Nw H b v:=by
 cases b with
 |o ds=>exact fun a e=>s.free (h a e)
 |m ds _=>exact fun a e=>s.free (h a e)
 |_=>trivial
def loose:Bx->Bool
 |.z _=>false
 |_=>true
def ud:Bx->Bool
 |.o _=>true
 |.m _ _=>true
 |_=>false
structure bU (K:PySem.W.Frag) (H0 H:Hp) (σ:L2.St) (ρ:Ev):Prop where
 len:σ.length=ρ.length
 val:∀ (i:Nat) b,ρ[i]?=some (some b)->∃ v,σ[i]?=some (some v)/\bA K H b v
 own:∀ (i j:Nat) c a b,ρ[i]?=some (some c)->ud c=true->σ[i]?=some (some (.ref a))->ρ[j]?=some (some b)->loose b=true->σ[j]?=some (some (.ref a))->i=j
 base:Same H0 H
 new:∀ (i:Nat) c a,ρ[i]?=some (some c)->ud c=true->σ[i]?=some (some (.ref a))->H0 a=none
theorem bU.grow {K:PySem.W.Frag} {H0 H H':Hp} {σ:L2.St} {ρ:Ev} (r:bU K H0 H σ ρ) (s:Same H H'):bU K H0 H' σ ρ:=
 ⟨r.len,fun i b e=>let ⟨v,e1,h⟩:=r.val i b e;⟨v,e1,h.same s⟩,r.own,r.base.trans s,r.new⟩
def tF (K:PySem.W.Frag) (f:Ev->Option Bx):TE:=fun σ H Q=>∃ H0 ρ b,bU K H0 H σ ρ/\f ρ=some b/\∀ v H',Same H H'->Nw H b v->bA K H' b v->Q v H'
def tFA (K:PySem.W.Frag) (f:Ev->Option (List Bx)):TA:=fun σ H Q=>∃ H0 ρ bs,bU K H0 H σ ρ/\f ρ=some bs/\∀ vs H',Same H H'->pB K H' bs vs->Q vs H'
def Xk (K:PySem.W.Frag) (f:Ev->Option Bool):TT:=fun σ H Q=>∃ H0 ρ b,bU K H0 H σ ρ/\f ρ=some b/\∀ H',Same H H'->Q b H'
def PV (X:Cx) (e:Expr) (f:Ev->Option Bx):Prop:=PE X e (tF X.K f)
structure QV (X:Cx) (e:Expr) (f:Ev->Option Bx):Prop where
 run:PV X e f
def PVs (X:Cx) (es:List Expr) (f:Ev->Option (List Bx)):Prop:=PA X es (tFA X.K f)
structure T5 (X:Cx) (es:List Expr) (f:Ev->Option (List Bx)):Prop where
 run:PVs X es f
def PB (X:Cx) (e:Expr) (f:Ev->Option Bool):Prop:=PT X e (Xk X.K f)
structure QB (X:Cx) (e:Expr) (f:Ev->Option Bool):Prop where
 run:PB X e f
theorem M5 {X:Cx} {e:Expr} {t t':TE} (h:PE X e t) (m:∀ σ H Q,t' σ H Q->t σ H Q):PE X e t':=fun pins s σ H Q I q=>h pins s σ H Q I (m σ H Q q)
theorem paM {X:Cx} {e:List Expr} {t t':TA} (h:PA X e t) (m:∀ σ H Q,t' σ H Q->t σ H Q):PA X e t':=fun pos pins s σ H Q I q=>h pos pins s σ H Q I (m σ H Q q)
theorem ptM {X:Cx} {e:Expr} {t t':TT} (h:PT X e t) (m:∀ σ H Q,t' σ H Q->t σ H Q):PT X e t':=fun pins s σ H Q I q=>h pins s σ H Q I (m σ H Q q)
theorem pwM {X:Cx} {e:Expr} {t t':TT} (h:PW X e t) (m:∀ σ H Q,t' σ H Q->t σ H Q):PW X e t':=fun wh pins s σ H Q I q=>h wh pins s σ H Q I (m σ H Q q)
theorem T6 {X:Cx} {e:Stmt} {t t':TS} (h:PS X e t) (m:∀ D σ H,t' D σ H->t D σ H):PS X e t':=fun pins s σ H D I q=>h pins s σ H D I (m D σ H q)
theorem aa0 {X:Cx} {e:List Stmt} {t t':TS} (h:O6 X e t) (m:∀ D σ H,t' D σ H->t D σ H):O6 X e t':=fun pins s σ H D I q=>h pins s σ H D I (m D σ H q)
def rF (K:PySem.W.Frag) (g:Bx->Bx->Option Bx):R2:=fun x y H Q=>∃ a b c,bA K H a x/\bA K H b y/\g a b=some c/\∀ w H',Same H H'->Nw H c w->bA K H' c w->Q w H'
def rFs (K:PySem.W.Frag) (g:List Bx->Option Bx):List V->Hp->VK->Prop:=fun xs H Q=>∃ bs c,pB K H bs xs/\g bs=some c/\∀ w H',Same H H'->Nw H c w->bA K H' c w->Q w H'
abbrev Hv (X:Cx) (f:Value->Value->Sem Value) (g:Bx->Bx->Option Bx):Prop:=wG X f (rF X.K g)
abbrev qt (X:Cx) (f:Value) (g:List Bx->Option Bx):Prop:=jW X f (rFs X.K g)
theorem wG.imp {X:Cx} {f:Value->Value->Sem Value} {r r':R2} (h:wG X f r) (m:∀ x y H Q,r' x y H Q->r x y H Q):wG X f r':=fun pins s σ H x y v u Q I rx ry q=>h pins s σ H x y v u Q I rx ry (m x y H Q q)
theorem UnR.imp {X:Cx} {f:Value->Sem Value} {r r':V->Hp->VK->Prop} (h:UnR X f r) (m:∀ x H Q,r' x H Q->r x H Q):UnR X f r':=fun pins s σ H x v Q I rx q=>h pins s σ H x v Q I rx (m x H Q q)
theorem jW.imp {X:Cx} {f:Value} {r r':List V->Hp->VK->Prop} (h:jW X f r) (m:∀ x H Q,r' x H Q->r x H Q):jW X f r':=fun pins s σ H xs us Q I rx q=>h pins s σ H xs us Q I rx (m xs H Q q)
def b2 (g:Bx->Bx->Option Bx) (fa fb:Ev->Option Bx):Ev->Option Bx:=fun ρ=>(fa ρ).bind fun x=>(fb ρ).bind fun y=>g x y
def b1 (g:Bx->Option Bx) (fa:Ev->Option Bx):Ev->Option Bx:=fun ρ=>(fa ρ).bind g
def bZ (g:List Bx->Option Bx) (fs:Ev->Option (List Bx)):Ev->Option Bx:=fun ρ=>(fs ρ).bind g
theorem bind_some {α β:Type} {o:Option α} {f:α->Option β} {b:β} (h:o.bind f=some b):∃ a,o=some a/\f a=some b:=by
 cases o with
 |none=>cases h
 |some a=>exact⟨a,rfl,h⟩
theorem T7 {K:PySem.W.Frag} {g:Bx->Bx->Option Bx} {fa fb:Ev->Option Bx} (σ:L2.St) (H:Hp) (Q:VK) (h:tF K (b2 g fa fb) σ H Q):tOp (rF K g) (tF K fa) (tF K fb) σ H Q:=by
 obtain⟨H0,ρ,c,E,e,q⟩:=h
 obtain⟨a,ea,e⟩:=bind_some e
 obtain⟨b,eb,e⟩:=bind_some e
 refine⟨H0,ρ,a,E,ea,fun v H1 s1 n1 r1=>⟨H0,ρ,b,E.grow s1,eb,fun u H2 s2 n2 r2=>?_⟩⟩
 exact⟨a,b,c,r1.same s2,r2,e,fun w H3 s3 n3 r3=>q w H3 ((s1.trans s2).trans s3) (n3.old (s1.trans s2)) r3⟩
theorem convs {K:PySem.W.Frag} {g:List Bx->Option Bx} {fs:Ev->Option (List Bx)} (σ:L2.St) (H:Hp) (Q:VK) (h:tF K (bZ g fs) σ H Q):tCB (rFs K g) (tFA K fs) σ H Q:=by
 obtain⟨H0,ρ,c,E,e,q⟩:=h
 obtain⟨a,ea,e⟩:=bind_some e
 exact⟨H0,ρ,a,E,ea,fun v H1 s1 r1=>⟨a,c,r1,e,fun w H3 s3 n3 r3=>q w H3 (s1.trans s3) (n3.old s1) r3⟩⟩
section
variable {X:Cx} {a b c e:Expr} {es:List Expr} {fa fb fc f:Ev->Option Bx} {fs:Ev->Option (List Bx)} {pos:Pos}
theorem bf {op:Operator} {g:Bx->Bx->Option Bx} (ho:Hv X (binaryOp op) g) (ha:QV X a fa) (hb:QV X b fb):QV X (.BinOp a op b pos) (b2 g fa fb):=⟨have ha:=ha.run;have hb:=hb.run;M5 (acR ho ha hb) T7⟩
theorem yV {op:CmpOp} {g:Bx->Bx->Option Bx} (ho:Hv X (compareOp op) g) (ha:QV X a fa) (hb:QV X b fb) (hm:behindInMarks op b=false):QV X (.Compare a [op] [b] pos) (b2 g fa fb):=⟨have ha:=ha.run;have hb:=hb.run;M5 (W2 ho ha hb hm) T7⟩
def T8:Bx->Option Bool
 |.z (.bl b)=>some b
 |_=>none
theorem T9 {K:PySem.W.Frag} {H:Hp} {b:Bx} {v:V} {k:Bool} (h:bA K H b v) (e:T8 b=some k):v=.bl k:=by
 cases b with
 |z d=>
  cases d<;>first|(cases e;done)|skip
  cases e
  simpa only[bA,Rep] using h
 |_=>cases e
theorem ade {K:PySem.W.Frag} {f:Ev->Option Bx} (σ:L2.St) (H:Hp) (Q:Bool->Hp->Prop) (h:Xk K (fun ρ=>(f ρ).bind T8) σ H Q):tF K f σ H (fun x H'=>∃ k,x=.bl k/\Q k H'):=by
 obtain⟨H0,ρ,k,E,e,q⟩:=h
 obtain⟨b,eb,e⟩:=bind_some e
 exact⟨H0,ρ,b,E,eb,fun v H1 s1 n1 r1=>⟨k,T9 r1 e,q H1 s1⟩⟩
theorem d7 {op:CmpOp} {g:Bx->Bx->Option Bx} (ho:Hv X (compareOp op) g) (ha:QV X a fa) (hb:QV X b fb) (hm:behindInMarks op b=false):QB X (.Compare a [op] [b] pos) (fun ρ=>(b2 g fa fb ρ).bind T8):=⟨have ha:=ha.run;have hb:=hb.run;ptM (W3 ho ha hb hm) fun σ H Q h=>T7 σ H _ (ade σ H Q h)⟩
def yW (ρ:Ev) (i:Nat):Option Bx:=match ρ[i]? with
 |some (some (.o ds))=>some (.l ds)
 |some (some (.m kvs _))=>some (.n kvs)
 |some (some b)=>some b
 |_=>none
theorem J3 {K:PySem.W.Frag} {H0 H:Hp} {σ:L2.St} {ρ:Ev} {i:Nat} {b:Bx} (E:bU K H0 H σ ρ) (e:yW ρ i=some b):∃ v,σ[i]?=some (some v)/\bA K H b v:=by
 unfold yW at e
 split at e
 ·rename_i ds h
  cases e
  obtain⟨v,e1,a,vs,e2,q,r⟩:=E.val i _ h
  exact⟨v,e1,a,vs,e2,.inl q,r⟩
 ·rename_i ds h
  cases e
  obtain⟨v,e1,a,vs,e2,q,r⟩:=E.val i _ h
  exact⟨v,e1,a,vs,e2,.inl q,r.1⟩
 ·rename_i b' h
  cases e
  exact E.val i _ h
 ·cases e
theorem xH {ρ:Ev} {i:Nat} {b:Bx} (e:yW ρ i=some b):ud b=false:=by
 unfold yW at e
 split at e
 ·cases e;rfl
 ·cases e;rfl
 ·rename_i b' h1 h2 h3
  cases e
  cases b with
  |o ds=>exact absurd rfl (h1 ds)
  |m ds _=>exact absurd rfl (h2 ds _)
  |_=>rfl
 ·cases e
theorem ak (i:Nat) {x:Str} (hN:X.N[i]?=some x:=by rfl) (hv:Ww X.env.scope x:=by first|exact kQ rfl|exact Jn (kQ rfl)|exact Jn (Jn rfl)) (hd:(x==("__debug__" : Str))=false:=by decide) (hcd:(x==("__classdict__" : Str))=false:=by decide):QV X (.Name x pos) (fun ρ=>yW ρ i):=⟨M5 (wF hN hv hd hcd) fun σ H Q h=>by
 obtain⟨H0,ρ,b,E,e,q⟩:=h
 obtain⟨v,e1,r⟩:=J3 E e
 refine⟨v,e1,q v H (Same.refl H) ?_ r⟩
 cases b with
 |o ds=>have:=xH e;cases this
 |m ds _=>have:=xH e;cases this
 |_=>trivial⟩
def cB (d:Dt):Ev->Option Bx:=fun _=>some (.z d)
theorem Xl {v:V} {d:Dt} (h:PE X e (tC v)) (r:∀ H,Rep X.K H d v):PV X e (cB d):=M5 h fun σ H Q q=>by
 obtain⟨H0,ρ,b,E,e,q⟩:=q
 cases e
 exact q v H (Same.refl H) trivial (r H)
theorem aC {i j}:QV X (.Constant (.int i) j pos) (cB (.int i)):=⟨Xl aan fun H=>by simp only[Rep]⟩
theorem BX {i j}:QV X (.Constant (.bool i) j pos) (cB (.bl i)):=⟨Xl acG fun H=>by simp only[Rep]⟩
theorem Ua {j}:QV X (.Constant .none j pos) (cB .non):=⟨Xl aao fun H=>by simp only[Rep]⟩
theorem Ub {x:Str} {j} (hx:x.length<=sizeLine:=by decide):PV X (.Constant (.str x) j pos) (cB (.str x)):=Xl aap fun H=>by unfold Rep;exact⟨rfl,hx⟩
def Xm:Bx->Option Bool
 |.z .non=>some false
 |.z (.bl b)=>some b
 |.z (.int i)=>some (i != 0)
 |.z (.str x)=>some ((x.length:Int) != 0)
 |.z (.tup ds)=>some (!ds.isEmpty)
 |.z (.lst ds)=>some (!ds.isEmpty)
 |.l ds=>some (!ds.isEmpty)
 |.o ds=>some (!ds.isEmpty)
 |.z .emp=>none
 |.n _=>none
 |.m _ _=>none
theorem aJ.isEmpty {K:PySem.W.Frag} {H:Hp} {ds:List Dt} {vs:List V} (h:aJ K H ds vs):(!ds.isEmpty)=!vs.isEmpty:=by
 have:=h.length
 cases ds<;>cases vs<;>simp_all
theorem Xn {K:PySem.W.Frag} {H:Hp} {b:Bx} {v:V} {k:Bool} (r:bA K H b v) (e:Xm b=some k):aaJ K v H k:=by
 cases b with
 |z d=>
  cases d with
  |non=>cases e;simp only[bA,Rep] at r;subst r;rfl
  |bl b=>cases e;simp only[bA,Rep] at r;subst r;rfl
  |int b=>cases e;simp only[bA,Rep] at r;subst r;rfl
  |str x=>cases e;simp only[bA,Rep] at r;obtain⟨rfl,h⟩:=r;exact⟨h,rfl⟩
  |tup ds=>
   cases e;simp only[bA,Rep] at r
   obtain⟨a,vs,rfl,q,r⟩:=r
   exact .inr (.inl ⟨vs,q,r.isEmpty⟩)
  |lst ds=>
   cases e
   obtain⟨a,vs,rfl,q,r⟩:=r.Em rfl
   exact .inl ⟨vs,q,r.isEmpty⟩
  |emp=>cases e
 |l ds=>
  cases e
  obtain⟨a,vs,rfl,q,r⟩:=r.Em rfl
  exact .inl ⟨vs,q,r.isEmpty⟩
 |o ds=>
  cases e
  obtain⟨a,vs,rfl,q,r⟩:=r.Em rfl
  exact .inl ⟨vs,q,r.isEmpty⟩
 |n _=>cases e
 |m _ _=>cases e
theorem M6 (h:QV X e f) (he:∀ whole,isTrue e X.env whole=(do let v <-whole;standAt e.pos;holding [v] (truthy v)):=by intro _;rfl):QB X e (fun ρ=>(f ρ).bind Xm):=⟨have h:=h.run;ptM (Tt h he) fun σ H Q q=>by
 obtain⟨H0,ρ,k,E,e,q⟩:=q
 obtain⟨b,eb,e⟩:=bind_some e
 exact⟨H0,ρ,b,E,eb,fun v H1 s1 n1 r1=>⟨k,Xn r1 e,q H1 s1⟩⟩⟩
def Rm (p q:Ev->Option Bool):Ev->Option Bool:=fun ρ=>(p ρ).bind fun c=>if c=true then q ρ else some false
def ZF (p q:Ev->Option Bool):Ev->Option Bool:=fun ρ=>(p ρ).bind fun c=>if c=true then some true else q ρ
def Rn (p:Ev->Option Bool):Ev->Option Bool:=fun ρ=>(p ρ).bind fun c=>some (!c)
def PBW (X:Cx) (e:Expr) (f:Ev->Option Bool):Prop:=PW X e (Xk X.K f)
structure QBW (X:Cx) (e:Expr) (f:Ev->Option Bool):Prop where
 run:PBW X e f
variable {p q:Ev->Option Bool} {rest:List Expr}
theorem J4 (ha:QB X a p):QBW X (.BoolOp .And [a] pos) p:=⟨have ha:=ha.run;WT ha⟩
theorem Bm (ha:QB X a p):QBW X (.BoolOp .Or [a] pos) p:=⟨have ha:=ha.run;aaq ha⟩
theorem Xo {K:PySem.W.Frag} (σ:L2.St) (H:Hp) (Q:Bool->Hp->Prop) (h:Xk K (Rm p q) σ H Q):acH (Xk K p) (Xk K q) σ H Q:=by
 obtain⟨H0,ρ,k,E,e,w⟩:=h
 obtain⟨c,ec,e⟩:=bind_some e
 refine⟨H0,ρ,c,E,ec,fun H1 s1=>?_⟩
 cases c with
 |true=>rw[zo rfl] at e ⊢;exact⟨H0,ρ,k,E.grow s1,e,fun H2 s2=>w H2 (s1.trans s2)⟩
 |false=>rw[zw z5] at e ⊢;cases e;exact w H1 s1
theorem aa2 {K:PySem.W.Frag} (σ:L2.St) (H:Hp) (Q:Bool->Hp->Prop) (h:Xk K (ZF p q) σ H Q):tOr (Xk K p) (Xk K q) σ H Q:=by
 obtain⟨H0,ρ,k,E,e,w⟩:=h
 obtain⟨c,ec,e⟩:=bind_some e
 refine⟨H0,ρ,c,E,ec,fun H1 s1=>?_⟩
 cases c with
 |true=>rw[zo rfl] at e ⊢;cases e;exact w H1 s1
 |false=>rw[zw z5] at e ⊢;exact⟨H0,ρ,k,E.grow s1,e,fun H2 s2=>w H2 (s1.trans s2)⟩
theorem Pn (ha:QB X a p) (hb:QBW X (.BoolOp .And (b::rest) pos) q):QBW X (.BoolOp .And (a::b::rest) pos) (Rm p q):=⟨have ha:=ha.run;have hb:=hb.run;pwM (aar ha hb) Xo⟩
theorem Hw (ha:QB X a p) (hb:QBW X (.BoolOp .Or (b::rest) pos) q):QBW X (.BoolOp .Or (a::b::rest) pos) (ZF p q):=⟨have ha:=ha.run;have hb:=hb.run;pwM (acI ha hb) aa2⟩
theorem Ro (h:QBW X e p):QB X e p:=⟨have h:=h.run;h.pt⟩
theorem M7 (ha:QB X a p):QB X (.UnaryOp .Not a pos) (Rn p):=⟨have ha:=ha.run;ptM (aas ha) fun σ H Q h=>by
 obtain⟨H0,ρ,k,E,e,w⟩:=h
 obtain⟨c,ec,e⟩:=bind_some e
 cases e
 exact⟨H0,ρ,c,E,ec,fun H1 s1=>w H1 s1⟩⟩
theorem Hx:PVs X [] (fun _=>some []):=paM BP fun σ H Q h=>by
 obtain⟨H0,ρ,bs,E,e,q⟩:=h
 cases e
 exact q [] H (Same.refl H) .nil
def aq (f:Ev->Option Bx) (fs:Ev->Option (List Bx)):Ev->Option (List Bx):=fun ρ=>(f ρ).bind fun b=>(fs ρ).bind fun bs=>some (b::bs)
theorem BZ (h1:PV X e f) (h2:PVs X es fs) (hs:starEach (e::es) X.env=(false,eval e X.env)::starEach es X.env:=by rfl):PVs X (e::es) (aq f fs):=paM (rR h1 h2 hs) fun σ H Q h=>by
 obtain⟨H0,ρ,bs,E,e,q⟩:=h
 obtain⟨b,eb,e⟩:=bind_some e
 obtain⟨bs',ebs,e⟩:=bind_some e
 cases e
 refine⟨H0,ρ,b,E,eb,fun v H1 s1 n1 r1=>⟨H0,ρ,bs',E.grow s1,ebs,fun vs H2 s2 r2=>?_⟩⟩
 exact q (v::vs) H2 (s1.trans s2) (.cons (r1.same s2) r2)
def ql:Bx->Option Bx
 |.z d=>some (.z d)
 |.o ds=>some (.z (.lst ds))
 |.l _=>none
 |.n _=>none
 |.m _ _=>none
theorem Ca {pins:List (Addr×Obj)} {σ:L2.St} {H:Hp} {s:Shared} {a:Addr} {vs:List V} (I:L2.Inv X pins σ H s) (h:H a=some (.lst vs)):∃ o,L2.Inv X pins σ (upd H a (.rO o (.lst vs))) s:=by
 obtain⟨z,its,n,r,e⟩:=I.hok a _ h
 refine⟨{ cls:=.type "list", data:=.seq its.toArray n },⟨I.ok,I.os,I.bare,⟨I.base.keep,I.base.slot,fun b ob q1 q2 q3=>?_,I.base.there,fun b xs q=>?_,fun b ob u q=>?_,fun b ps q=>?_⟩,I.loc,I.cell,?_,fun x c q=>?_,fun p hp=>?_,?_,I.len⟩⟩
 ·have:=I.base.free b ob q1 q2 q3
  rw[aQ (fH h this).symm];exact this
 ·have:=I.base.tups b xs q
  rw[aQ (pA this h (by intro z;cases z))];exact this
 ·have:=I.base.vG b ob u q
  rw[aQ (pA this h (by intro z;cases z))];exact this
 ·obtain⟨m,this⟩:=I.base.w6 b ps q
  rw[aQ (pA this h (by intro z;cases z))];exact⟨m,this⟩
 ·rw[aQ (fH h I.free).symm];exact I.free
 ·rw[aQ (fH h (I.pR x c q)).symm];exact I.pR x c q
 ·obtain⟨q1,q2,q3⟩:=I.pin p hp
  refine⟨q1,?_,q3⟩
  rw[aQ (fH h q2).symm];exact q2
 ·intro b u q
  by_cases hb:b=a
  ·subst hb
   rw[bK] at q;cases q
   exact⟨e,z,its,n,r,e⟩
  ·rw[aQ hb] at q
   refine (I.hok b u q).stay (fun c v _ w=>w) (fun c w=>?_) fun c xs w=>?_
   ·rw[aQ (pA w h (by intro z;cases z))];exact w
   ·rw[aQ (pA w h (by intro z;cases z))];exact w
theorem fG (h:QV X e f):QV X e (b1 ql f):=⟨by
 have h:=h.run
 intro pins s σ H Q I q
 obtain⟨H0,ρ,b,E,e,q⟩:=q
 obtain⟨x,ex,e⟩:=bind_some e
 cases x with
 |z d=>
  cases e
  exact h pins s σ H Q I ⟨H0,ρ,_,E,ex,fun v H' s' n' r'=>q v H' s' trivial r'⟩
 |l ds=>cases e
 |n ds=>cases e
 |m ds _=>cases e
 |o ds=>
  cases e
  refine mC (h pins s σ H (fun v H'=>Same H H'/\Nw H (.o ds) v/\bA X.K H' (.o ds) v) I ⟨H0,ρ,_,E,ex,fun v H' s' n' r'=>⟨s',n',r'⟩⟩) fun u s1 hq=>?_
  obtain⟨v,H1,I1,rv,s',n',r'⟩:=hq
  obtain⟨a,vs,rfl,ha,rs⟩:=r'
  obtain⟨o,I2⟩:=Ca I1 ha
  refine⟨.ref a,_,I2,rv,q _ _ (fun c ob hc=>?_) trivial ?_⟩
  ·rw[aQ (fH hc (n' a rfl))];exact s' c ob hc
  ·simp only[bA,Rep]
   exact⟨a,vs,rfl,.inl ⟨o,bK⟩,rs.kp (.lst ha)⟩⟩
def Hy:List Bx->Option (List Dt)
 |[]=>some []
 |.z d::r=>(Hy r).bind fun ds=>some (d::ds)
 |_=>none
theorem Cd {K:PySem.W.Frag} {H:Hp}:∀ {bs:List Bx} {vs:List V} {ds:List Dt},pB K H bs vs->Hy bs=some ds->aJ K H ds vs
 |_,_,_,.nil,e=>by cases e;exact aJ.nil
 |b::bs,_,_,.cons h t,e=>by
  cases b with
  |z d=>
   simp only[Hy] at e
   obtain⟨ds',e1,e2⟩:=bind_some e
   cases e2
   exact aJ.cons h (Cd t e1)
  |_=>cases e
theorem Ce:∀ {bs:List Bx} {ds:List Dt},Hy bs=some ds->ds.length=bs.length
 |[],_,e=>by cases e;rfl
 |.z d::r,_,e=>by
  simp only[Hy] at e
  obtain⟨ds',e1,e2⟩:=bind_some e
  cases e2
  simp[Ce e1]
 |.l _::_,_,e=>by cases e
 |.o _::_,_,e=>by cases e
 |.n _::_,_,e=>by cases e
 |.m _ _::_,_,e=>by cases e
def iz (bs:List Bx):Option Bx:=if bs.length<=1000 then (Hy bs).bind fun ds=>some (.z (.tup ds)) else none
def nq (bs:List Bx):Option Bx:=if bs.length<=1000 then (Hy bs).bind fun ds=>some (.o ds) else none
theorem bW {H:Hp} {p:Addr} {o:HO} (h:H p=none):Same H (upd H p o):=fun b u e=>by rw[aQ (fH e h)];exact e
theorem ZG {n:Nat} (h:n<=1000):n<=sizeLine:=z3 h (by decide)
theorem dw {x1} (h:T5 X es fs):QV X (.Tuple es x1 pos) (bZ iz fs):=⟨have h:=h.run;M5 (aaM h) fun σ H Q q=>by
 obtain⟨H0,ρ,c,E,e,q⟩:=q
 obtain⟨bs,ebs,e⟩:=bind_some e
 refine⟨H0,ρ,bs,E,ebs,fun vs H1 s1 r1=>?_⟩
 unfold iz at e
 split at e
 ·rename_i hl
  obtain⟨ds,e1,e⟩:=bind_some e
  cases e
  have r2:=Cd r1 e1
  refine⟨ZG (by rw[r2.length,Ce e1];exact hl),fun p hp=>q _ _ (s1.trans (bW hp)) trivial ?_⟩
  simp only[bA,Rep]
  exact⟨p,vs,rfl,.inl (.inl bK),r2.kp (.of (bW hp))⟩
 ·cases e⟩
theorem iV (h:T5 X es fs):QV X (.List es pos) (bZ nq fs):=⟨have h:=h.run;M5 (aaN h) fun σ H Q q=>by
 obtain⟨H0,ρ,c,E,e,q⟩:=q
 obtain⟨bs,ebs,e⟩:=bind_some e
 refine⟨H0,ρ,bs,E,ebs,fun vs H1 s1 r1=>?_⟩
 unfold nq at e
 split at e
 ·rename_i hl
  obtain⟨ds,e1,e⟩:=bind_some e
  cases e
  have r2:=Cd r1 e1
  refine⟨ZG (by rw[r2.length,Ce e1];exact hl),fun p hp=>q _ _ (s1.trans (bW hp)) (fun a ea=>by cases ea;exact s1.free hp) ?_⟩
  exact⟨p,vs,rfl,bK,r2.kp (.of (bW hp))⟩
 ·cases e⟩
theorem bR {x:Str} {id:String} {g:List Bx->Option Bx} {p:Pos} (hc:qt X (.builtin id) g) (hg:Gl X x) (hm:X.mg x=none) (hv:bootBuiltins x=some (.builtin id)) (ha:T5 X (e::es) fs) (hn:x ≠ "__name__" := by decide) (hdb:(x==("__debug__" : Str))=false:=by decide) (he:starEach (e::es) X.env=(false,eval e X.env)::starEach es X.env:=by rfl) (hpl:(backTo pos (starEach es X.env)).any (·.1)=false:=by rfl):QV X (.Call (.Name x p) (e::es) [] pos) (bZ g fs):=⟨have ha:=ha.run;M5 (JW hc hg hm hv ha hn hdb he hpl) convs⟩
theorem fJ {x:Str} {T:String} {g:List Bx->Option Bx} {p:Pos} (hc:qt X (.type T) g) (hg:Gl X x) (hm:X.mg x=none) (hv:bootBuiltins x=some (.type T)) (ha:T5 X (e::es) fs) (hn:x ≠ "__name__" := by decide) (hdb:(x==("__debug__" : Str))=false:=by decide) (he:starEach (e::es) X.env=(false,eval e X.env)::starEach es X.env:=by rfl) (hpl:(backTo pos (starEach es X.env)).any (·.1)=false:=by rfl):QV X (.Call (.Name x p) (e::es) [] pos) (bZ g fs):=⟨have ha:=ha.run;M5 (Gf hc hg hm hv ha hn hdb he hpl) convs⟩
end
inductive Out where
 |nx (ρ:Ev)|rt (b:Bx)|bk (ρ:Ev)|ct (ρ:Ev)
def Uc (K:PySem.W.Frag) (H0:Hp) (D:Ends):Out->Prop
 |.nx ρ=>∀ σ H,bU K H0 H σ ρ->D.nx σ H
 |.rt b=>∀ v H,Same H0 H->Nw H0 b v->bA K H b v->D.rt v H
 |.bk ρ=>∀ σ H,bU K H0 H σ ρ->D.bk σ H
 |.ct ρ=>∀ σ H,bU K H0 H σ ρ->D.ct σ H
def tG (K:PySem.W.Frag) (g:Ev->Option Out):TS:=fun D σ H=>∃ H0 ρ r,bU K H0 H σ ρ/\g ρ=some r/\Uc K H0 D r
def PG1 (X:Cx) (st:Stmt) (g:Ev->Option Out):Prop:=PS X st (tG X.K g)
structure Rp (X:Cx) (st:Stmt) (g:Ev->Option Out):Prop where
 run:PG1 X st g
def QZ (X:Cx) (st:List Stmt) (g:Ev->Option Out):Prop:=O6 X st (tG X.K g)
structure Rq (X:Cx) (st:List Stmt) (g:Ev->Option Out):Prop where
 run:QZ X st g
def aF (g1 g2:Ev->Option Out):Ev->Option Out:=fun ρ=>(g1 ρ).bind fun r=>match r with
 |.nx ρ'=>g2 ρ'
 |r=>some r
section
variable {X:Cx} {a b c e:Expr} {es:List Expr} {fa fb fc f:Ev->Option Bx} {fs:Ev->Option (List Bx)} {pos:Pos} {st:Stmt} {rest:List Stmt} {g g1 g2:Ev->Option Out}
theorem aU  : Rq X [] (fun ρ=>some (.nx ρ)):=⟨aa0 WW fun D σ H h=>by
 obtain⟨H0,ρ,r,E,e,q⟩:=h
 cases e
 exact q σ H E⟩
theorem au (h1:Rp X st g1) (h2:Rq X rest g2):Rq X (st::rest) (aF g1 g2):=⟨have h1:=h1.run;have h2:=h2.run;aa0 (Ti h1 h2) fun D σ H h=>by
 obtain⟨H0,ρ,r,E,e,q⟩:=h
 obtain⟨r1,e1,e⟩:=bind_some e
 refine⟨H0,ρ,r1,E,e1,?_⟩
 cases r1 with
 |nx ρ'=>exact fun σ' H' E'=>⟨H0,ρ',r,E',e,q⟩
 |rt b=>cases e;exact q
 |bk ρ'=>cases e;exact q
 |ct ρ'=>cases e;exact q⟩
def Ud:Bx->Option Out
 |.l _=>none
 |.n _=>none
 |b=>some (.rt b)
theorem fY (h:QV X e f):Rp X (.Return (some e) pos) (fun ρ=>(f ρ).bind Ud):=⟨have h:=h.run;T6 (Tj h) fun D σ H h=>by
 obtain⟨H0,ρ,r,E,e,q⟩:=h
 obtain⟨b,eb,e⟩:=bind_some e
 refine⟨H0,ρ,b,E,eb,fun v H1 s1 n1 r1=>?_⟩
 cases b with
 |l ds=>cases e
 |z d=>cases e;exact q v H1 (E.base.trans s1) trivial r1
 |o ds=>cases e;exact q v H1 (E.base.trans s1) (n1.old E.base) r1
 |n ds=>cases e
 |m ds _=>cases e;exact q v H1 (E.base.trans s1) (n1.old E.base) r1⟩
def Hz (i:Nat) (ρ:Ev):Option Out:=match ρ[i]? with
 |some (some b)=>Ud b
 |_=>none
theorem Pq (i:Nat) {x:Str} {p:Pos} (hN:X.N[i]?=some x:=by rfl) (hv:Ww X.env.scope x:=by first|exact kQ rfl|exact Jn (kQ rfl)|exact Jn (Jn rfl)) (hd:(x==("__debug__" : Str))=false:=by decide) (hcd:(x==("__classdict__" : Str))=false:=by decide):Rp X (.Return (some (.Name x p)) pos) (Hz i):=⟨T6 (Tj (wF hN hv hd hcd)) fun D σ H h=>by
 obtain⟨H0,ρ,r,E,e,q⟩:=h
 unfold Hz at e
 split at e
 ·rename_i b hb
  obtain⟨v,e1,r1⟩:=E.val i b hb
  refine⟨v,e1,?_⟩
  cases b with
  |l ds=>cases e
  |z d=>cases e;exact q v H E.base trivial r1
  |o ds=>cases e;exact q v H E.base (fun a ea=>E.new i _ a hb rfl (by rw[e1,ea])) r1
  |n ds=>cases e
  |m ds _=>cases e;exact q v H E.base (fun a ea=>E.new i _ a hb rfl (by rw[e1,ea])) r1
 ·cases e⟩
def Bo (p:Ev->Option Bool) (g1 g2:Ev->Option Out):Ev->Option Out:=fun ρ=>(p ρ).bind fun k=>if k=true then g1 ρ else g2 ρ
theorem m9 {p:Ev->Option Bool} {u v:List Stmt} (hc:QB X c p) (ha:Rq X u g1) (hb:Rq X v g2):Rp X (.If c u v pos) (Bo p g1 g2):=⟨have hc:=hc.run;have ha:=ha.run;have hb:=hb.run;T6 (acL hc ha hb) fun D σ H h=>by
 obtain⟨H0,ρ,r,E,e,q⟩:=h
 obtain⟨k,ek,e⟩:=bind_some e
 refine⟨H0,ρ,k,E,ek,fun H1 s1=>?_⟩
 cases k with
 |true=>rw[zo rfl] at e ⊢;exact⟨H0,ρ,r,E.grow s1,e,q⟩
 |false=>rw[zw z5] at e ⊢;exact⟨H0,ρ,r,E.grow s1,e,q⟩⟩
theorem getset {α:Type} {l:List α} {i j:Nat} {x y:α} (h:(l.set i x)[j]?=some y):(j=i/\y=x/\i < l.length)\/(j≠i/\l[j]?=some y):=by
 rw[yo] at h
 by_cases e:i=j
 ·subst e
  rw[zo rfl] at h
  split at h
  ·cases h;exact .inl ⟨rfl,rfl,by assumption⟩
  ·cases h
 ·rw[zw e] at h
  exact .inr ⟨fun z=>e z.symm,h⟩
theorem Cg {α:Type} {l:List α} {i:Nat} (x:α) (h:i < l.length):(l.set i x)[i]?=some x:=by
 rw[yo,zo rfl,zo h]
theorem Ci {α:Type} {l:List α} {i j:Nat} (x:α) (h:j≠i):(l.set i x)[j]?=l[j]?:=by
 rw[yo,zw (KW h)]
theorem bU.set {K:PySem.W.Frag} {H0 H H1:Hp} {σ:L2.St} {ρ:Ev} {i:Nat} {b:Bx} {v:V} (E:bU K H0 H σ ρ) (s:Same H H1) (r:bA K H1 b v) (hl:ud b=true\/loose b=false) (n:Nw H b v):bU K H0 H1 (σ.set i (some v)) (ρ.set i (some b)):=by
 have E1:=E.grow s
 have apart:∀ (j:Nat) (b':Bx) (a:Addr),ρ[j]?=some (some b')->loose b'=true->σ[j]?=some (some (.ref a))->H a≠none:=fun j b' a e1 e2 e3 z=>by
  obtain⟨v',e4,r'⟩:=E.val j b' e1
  rw[e3] at e4;cases e4
  cases b' with
  |z d=>cases e2
  |l ds=>
   obtain⟨a',vs,e5,q,_⟩:=r'
   cases e5
   rcases q with q|⟨o,q⟩<;>(rw[z] at q;cases q)
  |o ds=>
   obtain⟨a',vs,e5,q,_⟩:=r'
   cases e5
   rw[z] at q;cases q
  |n ds=>
   obtain⟨a',vs,e5,q,_⟩:=r'
   cases e5
   rcases q with q|⟨o,q⟩<;>(rw[z] at q;cases q)
  |m ds _=>
   obtain⟨a',vs,e5,q,_⟩:=r'
   cases e5
   rw[z] at q;cases q
 have nw:ud b=true->∀ a,v=.ref a->H a=none:=fun ho=>by
  cases b with
  |o ds=>exact n
  |m ds _=>exact n
  |_=>cases ho
 refine⟨by rw[ky,ky];exact E.len,fun j b' e=>?_,fun j k c a b' e1 ec e2 e3 e4 e5=>?_,E1.base,fun j c a e1 ec e2=>?_⟩
 ·rcases getset e with⟨rfl,e',hi⟩|⟨hne,e'⟩
  ·cases e'
   exact⟨v,Cg _ (by rw[E.len];exact hi),r⟩
  ·rw[Ci _ hne]
   exact E1.val j b' e'
 ·rcases getset e1 with⟨rfl,e',hi⟩|⟨hne,e'⟩
  ·cases e'
   rw[Cg _ (by rw[E.len];exact hi)] at e2
   cases e2
   rcases getset e3 with⟨rfl,e3',_⟩|⟨Xp,e3'⟩
   ·rfl
   ·rw[Ci _ Xp] at e5
    exact absurd (nw ec a rfl) (apart k b' a e3' e4 e5)
  ·rw[Ci _ hne] at e2
   rcases getset e3 with⟨rfl,e3',hi⟩|⟨Xp,e3'⟩
   ·cases e3'
    rw[Cg _ (by rw[E.len];exact hi)] at e5
    cases e5
    have hlo:loose c=true:=by cases c<;>first|rfl|cases ec
    rcases hl with hl|hl
    ·exact absurd (nw hl a rfl) (apart j _ a e' hlo e2)
    ·rw[hl] at e4;cases e4
   ·rw[Ci _ Xp] at e5
    exact E.own j k c a b' e' ec e2 e3' e4 e5
 ·rcases getset e1 with⟨rfl,e',hi⟩|⟨hne,e'⟩
  ·cases e'
   rw[Cg _ (by rw[E.len];exact hi)] at e2
   cases e2
   exact E.base.free (nw ec a rfl)
  ·rw[Ci _ hne] at e2
   exact E.new j c a e' ec e2
def Ue (ρ:Ev) (i:Nat):Bx->Option Ev
 |.l _=>none
 |.n _=>none
 |b=>some (ρ.set i (some b))
theorem Xq {K:PySem.W.Frag} {H0 H H1:Hp} {σ:L2.St} {ρ ρ':Ev} {i:Nat} {b:Bx} {v:V} (E:bU K H0 H σ ρ) (s:Same H H1) (r:bA K H1 b v) (n:Nw H b v) (e:Ue ρ i b=some ρ'):bU K H0 H1 (σ.set i (some v)) ρ':=by
 cases b with
 |l ds=>cases e
 |z d=>cases e;exact E.set s r (.inr rfl) n
 |o d=>cases e;exact E.set s r (.inl rfl) n
 |n ds=>cases e
 |m d _=>cases e;exact E.set s r (.inl rfl) n
theorem bI (i:Nat) {x:Str} {p:Pos} (hN:X.N.Nodup) (he:QV X e f) (hi:X.N[i]?=some x:=by rfl) (hx:Loc X.env.scope x:=by first|exact kQ rfl|exact Jn rfl) (hs:swapsWith e (some (.Name x p)) pos.line X.env=pure false:=by rfl) (hf:X.fn x=true\/X.env.scope.names.lookup x=some .local:=by first|exact .inl rfl|exact .inr rfl):Rp X (.Assign [.Name x p] e pos) (fun ρ=>(f ρ).bind fun b=>(Ue ρ i b).bind fun ρ'=>some (.nx ρ')):=⟨have he:=he.run;T6 (aaw hN hi hx he hs hf) fun D σ H h=>by
 obtain⟨H0,ρ,r,E,e,q⟩:=h
 obtain⟨b,eb,e⟩:=bind_some e
 obtain⟨ρ',eρ,e⟩:=bind_some e
 cases e
 exact⟨H0,ρ,b,E,eb,fun v H1 s1 n1 r1=>q _ _ (Xq E s1 r1 n1 eρ)⟩⟩
def Lo (σ:L2.St) (ρ:Ev) (σ':L2.St) (ρ':Ev):Prop:=∀ (j:Nat) b,loose b=true->ρ'[j]?=some (some b)->ρ[j]?=some (some b)/\σ'[j]?=σ[j]?
theorem Lo.refl {σ:L2.St} {ρ:Ev}:Lo σ ρ σ ρ:=fun _ _ _ e=>⟨e,rfl⟩
theorem Lo.trans {σ σ1 σ2:L2.St} {ρ ρ1 ρ2:Ev} (a:Lo σ ρ σ1 ρ1) (b:Lo σ1 ρ1 σ2 ρ2):Lo σ ρ σ2 ρ2:=fun j c l e=>by
 obtain⟨e1,e2⟩:=b j c l e
 obtain⟨e3,e4⟩:=a j c l e1
 exact⟨e3,e2.trans e4⟩
theorem Lo.set {σ:L2.St} {ρ:Ev} (i:Nat) (v:V) (d:Dt):Lo σ ρ (σ.set i (some v)) (ρ.set i (some (.z d))):=fun j b l e=>by
 rcases getset e with⟨rfl,e',_⟩|⟨hne,e'⟩
 ·cases e';cases l
 ·exact⟨e',Ci _ hne⟩
def tgF (K:PySem.W.Frag) (g:Dt->Ev->Option Ev):TG:=fun v σ H Q=>∃ H0 ρ d ρ',bU K H0 H σ ρ/\Rep K H d v/\g d ρ=some ρ'/\∀ σ',bU K H0 H σ' ρ'->Lo σ ρ σ' ρ'->Q σ' H
def PTg (X:Cx) (t:Expr) (g:Dt->Ev->Option Ev):Prop:=PG X t (tgF X.K g)
structure Wx (X:Cx) (t:Expr) (g:Dt->Ev->Option Ev):Prop where
 run:PTg X t g
theorem aD (i:Nat) {x:Str} (hN:X.N.Nodup) (hi:X.N[i]?=some x:=by rfl) (hx:Loc X.env.scope x:=by first|exact kQ rfl|exact Jn rfl) (hf:X.fn x=true\/X.env.scope.names.lookup x=some .local:=by first|exact .inl rfl|exact .inr rfl):Wx X (.Name x pos) (fun d ρ=>some (ρ.set i (some (.z d)))):=⟨fun pins s σ H v u Q I r h=>by
 obtain⟨H0,ρ,d,ρ',E,rd,e,q⟩:=h
 cases e
 exact O8 hN hi hx hf pins s σ H v u Q I r (q _ (E.set (b:=.z d) (Same.refl H) rd (.inr rfl) trivial) (Lo.set i v d))⟩
def afd (K:PySem.W.Frag) (g:List Dt->Ev->Option Ev):Zt:=fun vs σ H Q=>∃ H0 ρ ds ρ',bU K H0 H σ ρ/\aJ K H ds vs/\g ds ρ=some ρ'/\∀ σ',bU K H0 H σ' ρ'->Lo σ ρ σ' ρ'->Q σ' H
def afe (X:Cx) (t:List Expr) (g:List Dt->Ev->Option Ev):Prop:=L2.QZ X t (afd X.K g)
structure Xr (X:Cx) (t:List Expr) (g:List Dt->Ev->Option Ev):Prop where
 run:afe X t g
def jY:List Dt->Ev->Option Ev
 |[],ρ=>some ρ
 |_,_=>none
def aP (g:Dt->Ev->Option Ev) (gs:List Dt->Ev->Option Ev):List Dt->Ev->Option Ev
 |d::ds,ρ=>(g d ρ).bind (gs ds)
 |_,_=>none
theorem fV  : Xr X [] jY:=⟨fun pins s σ H vs us Q I r h=>by
 obtain⟨H0,ρ,ds,ρ',E,rd,e,q⟩:=h
 cases ds with
 |nil=>cases e;unfold aJ at rd;exact WX pins s σ H vs us Q I r ⟨rd,q _ E Lo.refl⟩
 |cons d ds=>cases e⟩
theorem aH {t:Expr} {ts:List Expr} {gt:Dt->Ev->Option Ev} {gs:List Dt->Ev->Option Ev} (h1:Wx X t gt) (h2:Xr X ts gs) (hs:(assignEach (t::ts) X.env).map (·.2)=assign t X.env::(assignEach ts X.env).map (·.2):=by rfl):Xr X (t::ts) (aP gt gs):=⟨have h1:=h1.run;have h2:=h2.run;fun pins s σ H vs us Q I r h=>by
 obtain⟨H0,ρ,ds,ρ',E,rd,e,q⟩:=h
 cases ds with
 |nil=>cases e
 |cons d ds=>
  unfold aJ at rd
  obtain⟨v,vr,rfl,r1,r2⟩:=rd
  simp only[aP] at e
  obtain⟨ρ1,e1,e⟩:=bind_some e
  exact Tn h1 h2 hs pins s σ H _ us Q I r ⟨v,vr,rfl,H0,ρ,d,ρ1,E,r1,e1,fun σ1 E1 L1=>⟨H0,ρ1,ds,ρ',E1,r2,e,fun σ2 E2 L2=>q σ2 E2 (L1.trans L2)⟩⟩⟩
def jD (n:Nat) (gs:List Dt->Ev->Option Ev):Dt->Ev->Option Ev
 |.tup ds,ρ=>if ds.length=n then gs ds ρ else none
 |_,_=>none
theorem iW {ts:List Expr} {k n:Nat} {gs:List Dt->Ev->Option Ev} (hc:X.calm=true) (h:Xr X ts gs) (hn:(assignEach ts X.env).length=n:=by rfl) (hst:(assignEach ts X.env).findIdx? (·.1)=none:=by rfl):Wx X (.Tuple ts k pos) (jD n gs):=⟨have h:=h.run;fun pins s σ H v u Q I r hw=>by
 obtain⟨H0,ρ,d,ρ',E,rd,e,q⟩:=hw
 cases d with
 |tup ds=>
  simp only[jD] at e
  split at e
  ·rename_i hl
   unfold Rep at rd
   obtain⟨a,vs,rfl,hq,rs⟩:=rd
   exact aau hc h hn hst pins s σ H _ u Q I r ⟨a,vs,rfl,hq,by rw[rs.length];exact hl,H0,ρ,ds,ρ',E,rs,e,q⟩
  ·cases e
 |_=>cases e⟩
theorem qN {tg:Expr} {gt:Dt->Ev->Option Ev} (he:QV X e f) (hg:Wx X tg gt) (hs:swapsWithSole [tg] e pos.line X.env=pure false:=by rfl) (hw:swappedStores [tg] e X.env=pure none:=by rfl) (h1:(assignEach [tg] X.env).map (·.2)=[assign tg X.env]:=by rfl):Rp X (.Assign [tg] e pos) (fun ρ=>(f ρ).bind fun b=>match b with|.z d=>(gt d ρ).bind fun ρ'=>some (.nx ρ')|_=>none):=⟨have he:=he.run;have hg:=hg.run;T6 (aav he hg hs hw h1) fun D σ H h=>by
 obtain⟨H0,ρ,r,E,e,q⟩:=h
 obtain⟨b,eb,e⟩:=bind_some e
 refine⟨H0,ρ,b,E,eb,fun v H1 s1 n1 r1=>?_⟩
 cases b with
 |z d=>
  obtain⟨ρ',eρ,e⟩:=bind_some e
  cases e
  exact⟨H0,ρ,d,ρ',E.grow s1,r1,eρ,fun σ' E' _=>q _ _ E'⟩
 |_=>cases e⟩
def Xu (i j:Nat) (ρ:Ev):List Bx->Option Out
 |[.z d,.z d']=>some (.nx ((ρ.set i (some (.z d))).set j (some (.z d'))))
 |_=>none
theorem Ug (i j:Nat) {x y:Str} {px py pt:Pos} {kt k2 pt2} (hc:X.calm=true) (hN:X.N.Nodup) (ha:T5 X [a,b] fs) (hi:X.N[i]?=some x:=by rfl) (hj:X.N[j]?=some y:=by rfl) (hij:i≠j:=by decide) (hx:X.env.scope.names.lookup x=some .local:=by rfl) (hy:X.env.scope.names.lookup y=some .local:=by rfl) (hw:swappedStores [.Tuple [.Name x px,.Name y py] kt pt] (.Tuple [a,b] k2 pt2) X.env=pure (some [x,y]):=by rfl) (hs:swapsWithSole [.Tuple [.Name x px,.Name y py] kt pt] (.Tuple [a,b] k2 pt2) pos.line X.env=pure false:=by rfl):Rp X (.Assign [.Tuple [.Name x px,.Name y py] kt pt] (.Tuple [a,b] k2 pt2) pos) (fun ρ=>(fs ρ).bind (Xu i j ρ)):=⟨have ha:=ha.run;T6 (aax hc hN hi hj hij hx hy ha hw hs) fun D σ H h=>by
 obtain⟨H0,ρ,r,E,e,q⟩:=h
 obtain⟨bs,eb,e⟩:=bind_some e
 refine⟨H0,ρ,bs,E,eb,fun vs H1 s1 r1=>?_⟩
 unfold Xu at e
 split at e
 ·rename_i d d'
  cases e
  cases r1 with
  |cons p t=>
   cases t with
   |cons p' t'=>
    cases t'
    refine⟨_,_,rfl,q _ _ ?_⟩
    exact ((E.grow s1).set (b:=.z d) (Same.refl H1) p (.inr rfl) trivial).set (b:=.z d') (Same.refl H1) p' (.inr rfl) trivial
 ·cases e⟩
def Xv (ρ:Ev) (i:Nat):Bx->Option Out
 |.z d=>match ρ[i]? with
  |some (some (.o ds))=>if ds.length < sizeLine then some (.nx (ρ.set i (some (.o (ds++[d]))))) else none
  |_=>none
 |_=>none
theorem bU.aa3 {K:PySem.W.Frag} {H0 H:Hp} {σ:L2.St} {ρ:Ev} {i:Nat} {c0 c1:Bx} {a:Addr} {u:HO} (E:bU K H0 H σ ρ) (h:ρ[i]?=some (some c0)) (ho:ud c0=true) (hs:σ[i]?=some (some (.ref a))) (k:Kp H (upd H a u)) (r:bA K (upd H a u) c1 (.ref a)) :
  bU K H0 (upd H a u) σ (ρ.set i (some c1)):=by
 have hi:i < ρ.length:=(List.getElem?_eq_some_iff.mp h).1
 have hb:H0 a=none:=E.new i c0 a h ho hs
 have lo:∀ c,ud c=true->loose c=true:=fun c hc=>by cases c<;>first|rfl|cases hc
 refine⟨by rw[ky];exact E.len,fun j b' e=>?_,fun j k' c a' b' e1 ec e2 e3 e4 e5=>?_,fun c o e=>?_,fun j c a' e1 ec e2=>?_⟩
 ·rcases getset e with⟨rfl,e',_⟩|⟨hne,e'⟩
  ·cases e'
   exact⟨_,hs,r⟩
  ·obtain⟨v,e1,r'⟩:=E.val j b' e'
   refine⟨v,e1,?_⟩
   have away:∀ a',v=.ref a'->loose b'=true->a'≠a:=fun a' ev hl z=>by
    subst z
    exact hne (E.own i j c0 _ _ h ho hs e' hl (by rw[e1,ev])).symm
   cases b' with
   |z d=>exact Rep.kp k r'
   |l ds'=>
    obtain⟨a',vs',rfl,q,rr⟩:=r'
    refine⟨a',vs',rfl,?_,rr.kp k⟩
    have hn:=away a' rfl rfl
    rcases q with q|⟨o,q⟩
    ·exact .inl (by rw[aQ hn];exact q)
    ·exact .inr ⟨o,by rw[aQ hn];exact q⟩
   |o ds'=>
    obtain⟨a',vs',rfl,q,rr⟩:=r'
    have hn:=away a' rfl rfl
    exact⟨a',vs',rfl,by rw[aQ hn];exact q,rr.kp k⟩
   |n ds'=>
    obtain⟨a',vs',rfl,q,rr⟩:=r'
    refine⟨a',vs',rfl,?_,rr.kp k⟩
    have hn:=away a' rfl rfl
    rcases q with q|⟨o,q⟩
    ·exact .inl (by rw[aQ hn];exact q)
    ·exact .inr ⟨o,by rw[aQ hn];exact q⟩
   |m ds'=>
    obtain⟨a',vs',rfl,q,rr⟩:=r'
    have hn:=away a' rfl rfl
    exact⟨a',vs',rfl,by rw[aQ hn];exact q,rr.1.kp k,rr.2⟩
 ·have back:∀ (m:Nat) (b:Bx),(ρ.set i (some c1))[m]?=some (some b)->loose b=true->∃ b0,ρ[m]?=some (some b0)/\loose b0=true/\(ud b=true->ud b0=true):=fun m b e l=>by
   rcases getset e with⟨rfl,e',_⟩|⟨hne,e'⟩
   ·exact⟨_,h,lo _ ho,fun _=>ho⟩
   ·exact⟨b,e',l,fun z=>z⟩
  obtain⟨b0,q1,q2,q3⟩:=back j _ e1 (lo _ ec)
  obtain⟨b1,q4,q5,_⟩:=back k' _ e3 e4
  exact E.own j k' b0 a' b1 q1 (q3 ec) e2 q4 q5 e5
 ·rw[aQ (fH e hb)];exact E.base c o e
 ·rcases getset e1 with⟨rfl,e',_⟩|⟨hne,e'⟩
  ·exact E.new _ c0 a' h ho e2
  ·exact E.new j c a' e' ec e2
theorem bU.aaX {K:PySem.W.Frag} {H0 H:Hp} {σ:L2.St} {ρ:Ev} {i:Nat} {ds es:List Dt} {a:Addr} {vs us:List V} (E:bU K H0 H σ ρ) (h:ρ[i]?=some (some (.o ds))) (hs:σ[i]?=some (some (.ref a))) (ha:H a=some (.lst vs)) (r:aJ K H es us) :
  bU K H0 (upd H a (.lst us)) σ (ρ.set i (some (.o es))):=E.aa3 h rfl hs (.lst ha) ⟨a,us,rfl,bK,r.kp (.lst ha)⟩
theorem uf (i:Nat) {x:Str} {p apos cpos:Pos} (he:QV X e f) (hN:X.N[i]?=some x:=by rfl) (hv:Ww X.env.scope x:=by first|exact kQ rfl|exact Jn (kQ rfl)|exact Jn (Jn rfl)) (hd:(x==("__debug__" : Str))=false:=by decide) (hcd:(x==("__classdict__" : Str))=false:=by decide) (hst:starEach [e] X.env=[(false,eval e X.env)]:=by rfl) (hbase:attributeBase (.Name x p) "append" X.env (eval (.Name x p) X.env)=eval (.Name x p) X.env:=by rfl) (hfew:((backTo cpos (starEach [e] X.env)).all (fun x=>!x.1)&&(backToKw cpos (keywordEach [] X.env)).all (fun x=>x.1.isSome)&&decide ([e].length+([]:List Keyword).length+(if ([]:List Keyword).isEmpty then 0 else 1) < 30))=true:=by rfl) (hline:(apos.endLine==cpos.line)=true:=by rfl) (hs:swapsWith (.Call (.Attribute (.Name x p) "append" apos) [e] [] cpos) none pos.line X.env=pure false:=by rfl):Rp X (.Expr (.Call (.Attribute (.Name x p) "append" apos) [e] [] cpos) pos) (fun ρ=>(f ρ).bind (Xv ρ i)):=⟨have he:=he.run;T6 (O7 (Zx PySem.F.plainAttrs_list PySem.F.slot_list_append PySem.F.type_list_append Gg (wF (i:=i) hN hv hd hcd) (rR he BP (by rw[hst]<;>rfl)) hbase hfew hline (by rw[hst]<;>rfl) rfl) hs) fun D σ H h=>by
  obtain⟨H0,ρ,r,E,e,q⟩:=h
  obtain⟨b,eb,e⟩:=bind_some e
  cases b with
  |z d=>
   simp only[Xv] at e
   split at e
   ·rename_i ds hρ
    split at e
    ·rename_i hl
     cases e
     obtain⟨v,e1,a,vs,rfl,ha,rs⟩:=E.val i _ hρ
     refine⟨_,e1,.inl ⟨rfl,vs,.inl (.inl ha)⟩,H0,ρ,_,E,eb,fun u H1 s1 n1 r1=>?_⟩
     have E1:=E.grow s1
     refine⟨a,vs,u,rfl,rfl,s1 _ _ ha,by rw[rs.length];exact hl,q _ _ ?_⟩
     exact E1.aaX hρ e1 (s1 _ _ ha) ((rs.kp (.of s1)).append (aJ.cons r1 aJ.nil))
    ·cases e
   ·cases e
  |_=>cases e⟩
end
def Its (x:Str):It:=⟨fun i _=>i < x.cps.size,fun i H v H'=>H'=H/\∃ c,x.cps[i]?=some c/\v=.str ⟨#[c]⟩,fun i _=>x.cps.size<=i⟩
def afg (h:Heap) (it:Addr) (x:Str) (i:Nat):Prop:=∃ t,h.IsStrIter it "str_ascii_iterator" x t i\/h.IsStrIter it "str_iterator" x t i
theorem J5 {P:Program} {w:World} {K:PySem.W.Frag} {tg:Expr} (it:Addr) (x:Str):Turn P w K tg (Its x) [it] it (fun i h=>afg h it x i) where
 mem:=by simp
 obj:=fun i h st b hb=>by
  have e:b=it:=by simpa using hb
  subst e
  obtain⟨t,⟨o,e,c,d⟩|⟨o,e,c,d⟩⟩:=st
  ·exact⟨o,e,fun v z=>by rw[d] at z;cases z⟩
  ·exact⟨o,e,fun v z=>by rw[d] at z;cases z⟩
 keep:=fun i h h' st k=>by
  obtain⟨t,⟨o,e,c⟩|⟨o,e,c⟩⟩:=st
  ·exact⟨t,.inl ⟨o,k it (by simp) o e,c⟩⟩
  ·exact⟨t,.inr ⟨o,k it (by simp) o e,c⟩⟩
 item:=by
  intro X hP hw hK hc i pins s σ H E I hf st hg
  subst hP hw hK
  obtain⟨f0,f1,f2,f3,f4,f5⟩:=hf it (by simp)
  have hi:i < x.cps.size:=hg
  have hx:x.cps[i]?=some x.cps[i]:=by simp[hi]
  obtain⟨t,st|st⟩:=st
  ·refine wpAny_pyNext_ascii_item st hx fun h' st' sb=>?_
   have I1:L2.Inv X pins σ H { s with heap:=h',toks:=s.toks+1 }:=I.turned (fun b o hb e=>(sb.2 b hb).trans e) f0 f1 f3 f4 f5
   obtain⟨o,e,c,d⟩:=id st'
   exact⟨_,rfl,FZ (s:={ s with heap:=h',toks:=s.toks+1 }) e c d (by decide) ⟨.str ⟨#[x.cps[i]]⟩,H,I1,⟨_,rfl⟩,⟨rfl,_,hx,rfl⟩,⟨t,.inl st'⟩,fun b hb=>(hf b hb).1⟩⟩
  ·refine wpAny_pyNext_wide_item st hx fun h' st' sb=>?_
   have I1:L2.Inv X pins σ H { s with heap:=h',toks:=s.toks+1 }:=I.turned (fun b o hb e=>(sb.2 b hb).trans e) f0 f1 f3 f4 f5
   obtain⟨o,e,c,d⟩:=id st'
   exact⟨_,rfl,FZ (s:={ s with heap:=h',toks:=s.toks+1 }) e c d (by decide) ⟨.str ⟨#[x.cps[i]]⟩,H,I1,⟨_,rfl⟩,⟨rfl,_,hx,rfl⟩,⟨t,.inr st'⟩,fun b hb=>(hf b hb).1⟩⟩
 done:=by
  intro X hP hw hK hc i pins s σ H E I hf st hg
  subst hP hw hK
  obtain⟨f0,f1,f2,f3,f4,f5⟩:=hf it (by simp)
  have hx:x.cps[i]?=none:=by have:x.cps.size<=i:=hg;simp[this]
  obtain⟨t,st|st⟩:=st
  ·exact wpAny_pyNext_ascii_end (I.ok.hd hc) st hx fun h' eb=>⟨rfl,I.turned (t':=s.toks) (fun b o hb e=>eb b o hb e) f0 f1 f3 f4 f5⟩
  ·exact wpAny_pyNext_wide_end (I.ok.hd hc) st hx fun h' eb=>⟨rfl,I.turned (t':=s.toks) (fun b o hb e=>eb b o hb e) f0 f1 f3 f4 f5⟩
 self:=fun _ _ _ _ _ st h=>by
  obtain⟨t,st|st⟩:=st
  ·exact wpAny_pyIter_striter_ascii st h
  ·exact wpAny_pyIter_striter_wide st h
section
variable {X:Cx} {tg:Expr}
def afh (K:PySem.W.Frag) (tl:TE):TI:=fun σ H R=>tl σ H fun x H1=>(∃ a,x=.ref a/\(∃ xs,tR K H1 a xs)/\R (Itl K a) H1)\/(∃ a,x=.ref a/\(∃ xs,vH K H1 a xs)/\R (Itt K a) H1)\/∃ y,x=.str y/\R (Its y) H1
theorem M8 {l:Expr} {tl:TE} (hl:PE X l tl):PI X tg l (afh X.K tl):=by
 intro pins s σ H R I h
 refine mC (hl pins s σ H _ I h) fun v s1 ⟨x,H1,I1,r1,q1⟩=>?_
 have fp1:∀ (o:Obj) (b:Addr),b∈[s1.heap.objs.size]->tZ X pins H1 b:=fun o b hb=>by
  have e:b=s1.heap.objs.size:=by simpa using hb
  subst e
  exact I1.WY (zl _) (I1.hok.fresh (zl _))
 rcases q1 with⟨a,e,⟨xs,hq⟩,q⟩|⟨a,e,⟨xs,hq⟩,q⟩|⟨y,e,q⟩
 ·subst e
  cases r1
  obtain⟨its,rv,p,hz⟩:=I1.list hq
  refine wpAny_pyIter_list p.isList ?_
  exact⟨s1.heap.objs.size,[s1.heap.objs.size],_,_,H1,rfl,I1.kept (t':=s1.toks) fun b o e=>zd _ e,Q0 a _,⟨_,zt _ rfl,rfl,rfl⟩,fp1 default,q⟩
 ·subst e
  cases r1
  obtain⟨its,rv,p,hz⟩:=I1.tuple hq
  refine yb (show s1.heap.IsTuple a its.toArray from p) ?_
  exact⟨s1.heap.objs.size,[s1.heap.objs.size],_,_,H1,rfl,I1.kept (t':=s1.toks) fun b o e=>zd _ e,Mv a _,⟨_,zt _ rfl,rfl,rfl⟩,fp1 default,q⟩
 ·subst e
  obtain⟨t,rfl⟩:=r1
  cases ha:y.cps.all (· < 128) with
  |true=>
   refine wpAny_pyIter_ascii ha ?_
   exact⟨s1.heap.objs.size,[s1.heap.objs.size],_,_,H1,rfl,I1.kept (t':=s1.toks) fun b o e=>zd _ e,J5 _ y,⟨t,.inl ⟨_,zt _ rfl,rfl,rfl⟩⟩,fp1 default,q⟩
  |false=>
   refine wpAny_pyIter_wide ha ?_
   exact⟨s1.heap.objs.size,[s1.heap.objs.size],_,_,H1,rfl,I1.kept (t':=s1.toks) fun b o e=>zd _ e,J5 _ y,⟨t,.inr ⟨_,zt _ rfl,rfl,rfl⟩⟩,fp1 default,q⟩
end
def Yields (K:PySem.W.Frag) (J:It) (ds:List Dt) (Hs:Hp):Prop:=∀ (i:Nat) (H:Hp),Same Hs H →
 (∀ d,ds[i]?=some d->J.go i H/\∀ x H',J.yld i H x H'->Same H H'/\Rep K H' d x)/\(ds.length<=i->J.stop i H)
theorem Yields.of {K:PySem.W.Frag} {J:It} {ds:List Dt} {Hs:Hp} (h:∀ (i:Nat) (H:Hp),Same Hs H →
  (∀ d,ds[i]?=some d->J.go i H/\∀ x H',J.yld i H x H'->H'=H/\Rep K H d x)/\(ds.length<=i->J.stop i H)):Yields K J ds Hs:=fun i H s=>
 ⟨fun d e=>⟨((h i H s).1 d e).1,fun x H' y=>by
  obtain⟨rfl,r⟩:=((h i H s).1 d e).2 x H' y
  exact⟨Same.refl _,r⟩⟩,(h i H s).2⟩
def signs (x:Str):List Dt:=x.cps.toList.map fun c=>.str ⟨#[c]⟩
theorem Yields.list {K:PySem.W.Frag} {Hs:Hp} {a:Addr} {vs:List V} {ds:List Dt} (h:tR K Hs a vs) (r:aJ K Hs ds vs):Yields K (Itl K a) ds Hs:=.of fun i H s=>by
 have h':=s.seq h
 have r':=r.kp (.of s)
 refine⟨fun d e=>?_,fun e=>⟨vs,h',by rw[r.length];exact e⟩⟩
 obtain⟨v,ev,rv⟩:=r'.get e
 refine⟨⟨vs,v,h',ev⟩,fun x H' y=>?_⟩
 obtain⟨y1,y2⟩:=y
 have:=y2 vs h'
 rw[ev] at this;cases this
 exact⟨y1,rv⟩
theorem Yields.tup {K:PySem.W.Frag} {Hs:Hp} {a:Addr} {vs:List V} {ds:List Dt} (h:vH K Hs a vs) (r:aJ K Hs ds vs):Yields K (Itt K a) ds Hs:=.of fun i H s=>by
 have h':=(Kp.of s).sqT h
 have r':=r.kp (.of s)
 refine⟨fun d e=>?_,fun e=>⟨vs,h',by rw[r.length];exact e⟩⟩
 obtain⟨v,ev,rv⟩:=r'.get e
 refine⟨⟨vs,v,h',ev⟩,fun x H' y=>?_⟩
 obtain⟨y1,y2⟩:=y
 have:=y2 vs h'
 rw[ev] at this;cases this
 exact⟨y1,rv⟩
theorem Yields.str {K:PySem.W.Frag} {Hs:Hp} (x:Str):Yields K (Its x) (signs x) Hs:=.of fun i H s=>by
 refine⟨fun d e=>?_,fun e=>?_⟩
 ·unfold signs at e
  rw[zS] at e
  cases h:x.cps.toList[i]? with
  |none=>rw[h] at e;cases e
  |some c=>
   rw[h] at e;cases e
   have hc:x.cps[i]?=some c:=by simpa using h
   have hi:i < x.cps.size:=by
    have:=(List.getElem?_eq_some_iff.mp h).1
    simpa using this
   refine⟨hi,fun v H' y=>?_⟩
   obtain⟨y1,c',hc',rfl⟩:=y
   rw[hc] at hc';cases hc'
   refine⟨y1,?_⟩
   unfold Rep
   exact⟨rfl,by show (1:Nat)<=sizeLine;decide⟩
 ·have:(signs x).length=x.cps.size:=by simp[signs]
  show x.cps.size<=i
  omega
def J6 (lo:Int) (n:Nat):List Dt:=(List.range n).map fun k=>.int (lo+(k:Nat))
theorem Yields.rng {K:PySem.W.Frag} {Hs:Hp} (lo:Int) (n:Nat):Yields K (Itr lo n) (J6 lo n) Hs:=.of fun i H s=>by
 refine⟨fun d e=>?_,fun e=>?_⟩
 ·unfold J6 at e
  rw[zS] at e
  by_cases hi:i < n
  ·rw[KS hi] at e
   cases e
   refine⟨hi,fun v H' y=>?_⟩
   obtain⟨y1,y2⟩:=y
   refine⟨y1,?_⟩
   unfold Rep
   exact y2
  ·rw[qV (by simp;omega)] at e
   cases e
 ·have:(J6 lo n).length=n:=by simp[J6]
  show n<=i
  omega
def iF (K:PySem.W.Frag) (f:Ev->Option (List Dt)):TI:=fun σ H R=>∃ H0 ρ ds,bU K H0 H σ ρ/\f ρ=some ds/\∀ J H',Same H H' →
 (∀ Hs,Same Hs H'->(∀ a,H a=none->Hs a=H' a)->(∀ a o u,H' a=some (.rO o u)->Hs a=H' a)->(∀ a vs,H' a=some (.tup vs)->Hs a=H' a)->Yields K J ds Hs)->R J H'
def PIF (X:Cx) (tg iter:Expr) (f:Ev->Option (List Dt)):Prop:=PI X tg iter (iF X.K f)
structure QIF (X:Cx) (tg iter:Expr) (f:Ev->Option (List Dt)):Prop where
 run:PIF X tg iter f
def Xw:Bx->Option (List Dt)
 |.z (.lst ds)=>some ds
 |.z (.tup ds)=>some ds
 |.z (.str x)=>some (signs x)
 |.o ds=>some ds
 |_=>none
section
variable {X:Cx} {tg e:Expr} {es:List Expr} {f:Ev->Option Bx} {fs:Ev->Option (List Bx)}
mutual
theorem Rep.part {K:PySem.W.Frag} {H Hs:Hp} (hf:∀ a o u,H a=some (.rO o u)->Hs a=H a) (ht:∀ a vs,H a=some (.tup vs)->Hs a=H a):∀ {d:Dt} {v:V},Rep K H d v->Rep K Hs d v
 |.non,_,h=>by simpa only[Rep] using h
 |.bl _,_,h=>by simpa only[Rep] using h
 |.int _,_,h=>by simpa only[Rep] using h
 |.str _,_,h=>by simpa only[Rep] using h
 |.tup ds,_,h=>by
  simp only[Rep] at h ⊢
  obtain⟨a,vs,e,q,r⟩:=h
  refine⟨a,vs,e,?_,aJ.part hf ht r⟩
  rcases q with (q|⟨o,q⟩)|q
  ·exact .inl (.inl ((ht _ _ q).trans q))
  ·exact .inl (.inr ⟨o,(hf _ _ _ q).trans q⟩)
  ·exact .inr q
 |.lst ds,_,h=>by
  simp only[Rep] at h ⊢
  obtain⟨a,vs,e,q,r⟩:=h
  refine⟨a,vs,e,?_,aJ.part hf ht r⟩
  rcases q with⟨o,q⟩|q
  ·exact .inl ⟨o,(hf _ _ _ q).trans q⟩
  ·exact .inr q
 |.emp,_,h=>by
  simp only[Rep] at h ⊢
  obtain⟨a,o,e,q⟩:=h
  exact⟨a,o,e,(hf _ _ _ q).trans q⟩
theorem aJ.part {K:PySem.W.Frag} {H Hs:Hp} (hf:∀ a o u,H a=some (.rO o u)->Hs a=H a) (ht:∀ a vs,H a=some (.tup vs)->Hs a=H a):∀ {ds:List Dt} {vs:List V},aJ K H ds vs->aJ K Hs ds vs
 |[],_,h=>by simpa only[aJ] using h
 |d::ds,_,h=>by
  simp only[aJ] at h ⊢
  obtain⟨v,r,e,q,t⟩:=h
  exact⟨v,r,e,Rep.part hf ht q,aJ.part hf ht t⟩
end
theorem Pr (h:QV X e f):QIF X tg e (fun ρ=>(f ρ).bind Xw):=⟨have h:=h.run;fun pins s σ H R I q=>by
 refine M8 h pins s σ H R I ?_
 obtain⟨H0,ρ,ds,E,e,q⟩:=q
 obtain⟨b,eb,e⟩:=bind_some e
 refine⟨H0,ρ,b,E,eb,fun v H1 s1 n1 r1=>?_⟩
 cases b with
 |z d=>
  cases d with
  |tup ds'=>
   cases e
   simp only[bA,Rep] at r1
   obtain⟨a,vs,rfl,hq,rs⟩:=r1
   refine .inr (.inl ⟨a,rfl,⟨vs,hq⟩,q _ _ s1 fun Hs hs hn hf ht=>.tup ?_ (rs.part hf ht)⟩)
   rcases hq with (hq|⟨o,hq⟩)|hq
   ·exact .inl (.inl ((ht _ _ hq).trans hq))
   ·exact .inl (.inr ⟨o,(hf _ _ _ hq).trans hq⟩)
   ·exact .inr hq
  |lst ds'=>
   cases e
   simp only[bA,Rep] at r1
   obtain⟨a,vs,rfl,hq,rs⟩:=r1
   refine .inl ⟨a,rfl,⟨vs,hq.sq⟩,q _ _ s1 fun Hs hs hn hf ht=>.list ?_ (rs.part hf ht)⟩
   rcases hq with⟨o,hq⟩|hq
   ·exact .inl (.inr ⟨o,(hf _ _ _ hq).trans hq⟩)
   ·exact .inr hq
  |str x=>
   cases e
   simp only[bA,Rep] at r1
   obtain⟨rfl,_⟩:=r1
   exact .inr (.inr ⟨x,rfl,q _ _ s1 fun Hs hs hn hf ht=>.str x⟩)
  |_=>cases e
 |l ds'=>cases e
 |n ds'=>cases e
 |m ds'=>cases e
 |o ds'=>
  cases e
  obtain⟨a,vs,rfl,hq,rs⟩:=r1
  refine .inl ⟨a,rfl,⟨vs,.inl (.inl hq)⟩,q _ _ s1 fun Hs hs hn hf ht=>.list (.inl (.inl ((hn a (n1 a rfl)).trans hq))) (rs.part hf ht)⟩⟩
def aa4:List Bx->Option (List Dt)
 |[.z (.int j)]=>if -(2 ^ 62)<=j/\j < 2 ^ 62 then some (J6 0 j.toNat) else none
 |_=>none
theorem q8 {p pos:Pos} (hg:Gl X "range") (hm:X.mg "range" = none) (ha:T5 X [e] fs) (hs:starEach [e] X.env=[(false,eval e X.env)]:=by rfl):QIF X tg (.Call (.Name "range" p) [e] [] pos) (fun ρ=>(fs ρ).bind aa4):=⟨have ha:=ha.run;fun pins s σ H R I q=>by
 refine Q5 hg hm ha hs pins s σ H R I ?_
 obtain⟨H0,ρ,ds,E,e,q⟩:=q
 obtain⟨bs,eb,e⟩:=bind_some e
 refine⟨H0,ρ,bs,E,eb,fun vs H1 s1 r1=>?_⟩
 unfold aa4 at e
 split at e
 ·rename_i j
  split at e
  ·rename_i hj
   cases e
   cases r1 with
   |cons p t=>
    cases t
    simp only[bA,Rep] at p
    subst p
    exact⟨j,rfl,hj.1,hj.2,q _ _ s1 fun Hs _ _ _ _=>.rng 0 _⟩
  ·cases e
 ·cases e⟩
def qO (gt:Dt->Ev->Option Ev) (gb:Ev->Option Out):List Dt->Ev->Option Out
 |[],ρ=>some (.nx ρ)
 |d::ds,ρ=>(gt d ρ).bind fun ρ1=>(gb ρ1).bind fun r=>match r with
  |.nx ρ2=>qO gt gb ds ρ2
  |.ct ρ2=>qO gt gb ds ρ2
  |.bk ρ2=>some (.nx ρ2)
  |.rt b=>some (.rt b)
noncomputable def iR (H:Hp) (σ:L2.St) (ρ:Ev):Hp:=fun a=>@ite _ (∃ (i:Nat) (c:Bx),ρ[i]?=some (some c)/\ud c=true/\σ[i]?=some (some (.ref a))) (Classical.propDecidable _) none (H a)
theorem xJ {H:Hp} {σ:L2.St} {ρ:Ev}:Same (iR H σ ρ) H:=fun a o e=>by
 unfold iR at e
 split at e
 ·cases e
 ·exact e
theorem bU.rebase {K:PySem.W.Frag} {H0 Hs H:Hp} {σ:L2.St} {ρ:Ev} (E:bU K Hs H σ ρ) (s:Same H0 Hs):bU K H0 H σ ρ:=⟨E.len,E.val,E.own,s.trans E.base,fun i c a e1 ec e2=>s.free (E.new i c a e1 ec e2)⟩
theorem bU.sans {K:PySem.W.Frag} {H0 H:Hp} {σ:L2.St} {ρ:Ev} (E:bU K H0 H σ ρ):bU K (iR H σ ρ) H σ ρ:=⟨E.len,E.val,E.own,xJ,fun i c a e1 ec e2=>by
 unfold iR
 rw[zo ⟨i,c,e1,ec,e2⟩]⟩
theorem bU.sub {K:PySem.W.Frag} {H0 H:Hp} {σ:L2.St} {ρ:Ev} (E:bU K H0 H σ ρ):Same H0 (iR H σ ρ):=fun a o e=>by
 unfold iR
 split
 ·rename_i h
  obtain⟨i,c,e1,ec,e2⟩:=h
  rw[E.new i c a e1 ec e2] at e;cases e
 ·exact E.base a o e
theorem kY {K:PySem.W.Frag} {H0 H:Hp} {σ:L2.St} {ρ:Ev} (E:bU K H0 H σ ρ) {a:Addr} (h:∀ vs,H a≠some (.lst vs)) (h2:∀ vs,H a≠some (.dK vs)):iR H σ ρ a=H a:=by
 unfold iR
 split
 ·rename_i hh
  obtain⟨i,c,e1,ec,e2⟩:=hh
  obtain⟨v,e3,rc⟩:=E.val i _ e1
  rw[e2] at e3;cases e3
  cases c with
  |o ds=>obtain⟨a',vs,e4,q,_⟩:=rc;cases e4;exact absurd q (h vs)
  |m ds _=>obtain⟨a',vs,e4,q,_⟩:=rc;cases e4;exact absurd q (h2 vs)
  |_=>cases ec
 ·rfl
theorem Uc.rebase {K:PySem.W.Frag} {H0 Hs:Hp} {D:Ends} {r:Out} (s:Same H0 Hs) (h:Uc K H0 D r):Uc K Hs D r:=by
 cases r with
 |nx ρ=>exact fun σ H E=>h σ H (E.rebase s)
 |bk ρ=>exact fun σ H E=>h σ H (E.rebase s)
 |ct ρ=>exact fun σ H E=>h σ H (E.rebase s)
 |rt b=>exact fun v H s' n r=>h v H (s.trans s') (n.old s) r
theorem q9 {gt:Dt->Ev->Option Ev} {gb:Ev->Option Out} {J:It} {ds:List Dt} {H0 H1:Hp} {σ:L2.St} {ρ:Ev} {D:Ends} {r:Out} (E1:bU X.K H0 H1 σ ρ) (Y:Yields X.K J ds (iR H1 σ ρ)) (e:qO gt gb ds ρ=some r) (q:Uc X.K H0 D r) :
  ∃ W:Nat->Nat->L2.St->Hp->Prop,(∃ m,W 0 m σ H1)/\∀ i m σ H,W i m σ H →
   (J.stop i H/\D.nx σ H)\/(J.go i H/\∃ N:L2.St->Hp->Prop,(∀ σ' H',N σ' H'->∃ m',m' < m/\W (i+1) m' σ' H')/\∀ x H',J.yld i H x H'->tgF X.K gt x σ H' fun σ2 H2=>tG X.K gb { D with nx:=N,ct:=N,bk:=D.nx } σ2 H2):=by
 have E2:=E1.sans
 have q2:=q.rebase E1.sub
 generalize iR H1 σ ρ=Hs at Y E2 q2
 refine⟨fun i m σ' H'=>m=ds.length - i/\i<=ds.length/\∃ ρ',bU X.K Hs H' σ' ρ'/\qO gt gb (ds.drop i) ρ'=some r,⟨ds.length,by simp,qA _,ρ,E2,by simpa using e⟩,?_⟩
 rintro i m σ' H' ⟨rfl,hi',ρ',E',e'⟩
 obtain⟨y1,y2⟩:=Y i H' E'.base
 by_cases hlt:i < ds.length
 ·right
  have hd:ds[i]?=some ds[i]:=by simp[hlt]
  obtain⟨go,yl⟩:=y1 _ hd
  rw[yk hlt] at e'
  simp only[qO] at e'
  obtain⟨ρ1,e1,e'⟩:=bind_some e'
  obtain⟨r1,e2,e'⟩:=bind_some e'
  refine⟨go,fun σ2 H2=>∃ ρ2,bU X.K Hs H2 σ2 ρ2/\qO gt gb (ds.drop (i+1)) ρ2=some r,fun σ2 H2 ⟨ρ2,E3,e3⟩=>⟨ds.length - (i+1),by omega,rfl,hlt,ρ2,E3,e3⟩,fun x H2 yy=>?_⟩
  obtain⟨sm,rx⟩:=yl x H2 yy
  refine⟨Hs,ρ',ds[i],ρ1,E'.grow sm,rx,e1,fun σ1 E3 _=>⟨Hs,ρ1,r1,E3,e2,?_⟩⟩
  cases r1 with
  |nx ρ2=>exact fun σ2 H3 E4=>⟨ρ2,E4,e'⟩
  |ct ρ2=>exact fun σ2 H3 E4=>⟨ρ2,E4,e'⟩
  |bk ρ2=>cases e';exact q2
  |rt b=>cases e';exact q2
 ·left
  have hge:ds.length<=i:=by omega
  refine⟨y2 hge,?_⟩
  rw[List.drop_eq_nil_of_le hge] at e'
  cases e'
  exact q2 σ' H' E'
theorem yX {iter:Expr} {body:List Stmt} {fi:Ev->Option (List Dt)} {gt:Dt->Ev->Option Ev} {gb:Ev->Option Out} {pos:Pos} (hp:PassesOwn (model X.prog X.w) X.A X.env X.xe) (hc:X.calm=true) (hi:QIF X tg iter fi) (hg:Wx X tg gt) (hb:Rq X body gb) (hs:∀ x,foldedSetIterable iter X.env x=pure x:=by intro _;rfl):Rp X (.For tg iter body [] pos) (fun ρ=>(fi ρ).bind fun ds=>qO gt gb ds ρ):=⟨have hi:=hi.run;have hg:=hg.run;have hb:=hb.run;T6 (Tq hp hc hi hg hb hs) fun D σ H h=>by
 obtain⟨H0,ρ,r,E,e,q⟩:=h
 obtain⟨ds,ed,e⟩:=bind_some e
 refine⟨H0,ρ,ds,E,ed,fun J H1 s1 y=>?_⟩
 have E1:=E.grow s1
 refine q9 E1 ?_ e q
 refine y _ xJ (fun a ha=>?_) (fun a o u ha=>kY E1 (fun vs z=>by rw[ha] at z;cases z) (fun vs z=>by rw[ha] at z;cases z)) fun a vs ha=>kY E1 (fun vs z=>by rw[ha] at z;cases z) (fun vs z=>by rw[ha] at z;cases z)
 unfold iR
 split
 ·rename_i hh
  obtain⟨i,c,e1,ec,e2⟩:=hh
  obtain⟨v,e3,rc⟩:=E.val i _ e1
  rw[e2] at e3;cases e3
  cases c with
  |o ds=>obtain⟨a',vs,e4,q,_⟩:=rc;cases e4;rw[ha] at q;cases q
  |m ds _=>obtain⟨a',vs,e4,q,_⟩:=rc;cases e4;rw[ha] at q;cases q
  |_=>cases ec
 ·rfl⟩
theorem bU.lend {K:PySem.W.Frag} {H0 H:Hp} {σ:L2.St} {ρ:Ev} {i:Nat} {ds:List Dt} (E:bU K H0 H σ ρ) (h:ρ[i]?=some (some (.o ds))):bU K H0 H σ (ρ.set i (some (.l ds))):=by
 have back:∀ (j:Nat) (b:Bx),(ρ.set i (some (.l ds)))[j]?=some (some b)->(j=i/\b=.l ds)\/(j≠i/\ρ[j]?=some (some b)):=fun j b e=>by
  rcases getset e with⟨rfl,e',_⟩|⟨hne,e'⟩
  ·cases e';exact .inl ⟨rfl,rfl⟩
  ·exact .inr ⟨hne,e'⟩
 refine⟨by rw[ky];exact E.len,fun j b e=>?_,fun j k c a b e1 ec e2 e3 e4 e5=>?_,E.base,fun j c a e1 ec e2=>?_⟩
 ·rcases back j b e with⟨rfl,rfl⟩|⟨hne,e'⟩
  ·obtain⟨v,e1,a,vs,e2,q,r⟩:=E.val _ _ h
   exact⟨v,e1,a,vs,e2,.inl q,r⟩
  ·exact E.val j b e'
 ·rcases back j _ e1 with⟨rfl,z⟩|⟨hne,e'⟩
  ·subst z;cases ec
  ·rcases back k _ e3 with⟨rfl,z⟩|⟨Xp,e3'⟩
   ·exact E.own j _ c a _ e' ec e2 h rfl e5
   ·exact E.own j k c a b e' ec e2 e3' e4 e5
 ·rcases back j _ e1 with⟨rfl,z⟩|⟨hne,e'⟩
  ·subst z;cases ec
  ·exact E.new j c a e' ec e2
def rz (i:Nat) (gt:Dt->Ev->Option Ev) (gb:Ev->Option Out) (ρ:Ev):Option Out:=match ρ[i]? with
 |some (some (.o ds))=>qO gt gb ds (ρ.set i (some (.l ds)))
 |some (some (.l ds))=>qO gt gb ds ρ
 |some (some b)=>(Xw b).bind fun ds=>qO gt gb ds ρ
 |_=>none
theorem Uh {H0 H:Hp} {σ:L2.St} {ρ:Ev} {i:Nat} {ds:List Dt} (E:bU X.K H0 H σ ρ) (h:ρ[i]?=some (some (.l ds))):∃ a vs,σ[i]?=some (some (.ref a))/\tR X.K H a vs/\Yields X.K (Itl X.K a) ds (iR H σ ρ):=by
 obtain⟨v,e1,a,vs,rfl,q,r⟩:=E.val i _ h
 have hk:iR H σ ρ a=H a:=by
  unfold iR
  split
  ·rename_i hh
   obtain⟨j,c,e2,ec,e3⟩:=hh
   have:=E.own j i c a _ e2 ec e3 h rfl e1
   subst this
   rw[h] at e2;cases e2;cases ec
  ·rfl
 refine⟨a,vs,e1,.inl q,.list (.inl ?_) (r.part (fun b o u hb=>kY E (fun vs z=>by rw[hb] at z;cases z) (fun vs z=>by rw[hb] at z;cases z)) fun b ws hb=>kY E (fun vs z=>by rw[hb] at z;cases z) (fun vs z=>by rw[hb] at z;cases z))⟩
 rcases q with q|⟨o,q⟩
 ·exact .inl (hk.trans q)
 ·exact .inr ⟨o,hk.trans q⟩
theorem xK (i:Nat) {x:Str} {p:Pos} {body:List Stmt} {gt:Dt->Ev->Option Ev} {gb:Ev->Option Out} {pos:Pos} (hp:PassesOwn (model X.prog X.w) X.A X.env X.xe) (hc:X.calm=true) (hg:Wx X tg gt) (hb:Rq X body gb) (hN:X.N[i]?=some x:=by rfl) (hv:Ww X.env.scope x:=by first|exact kQ rfl|exact Jn (kQ rfl)|exact Jn (Jn rfl)) (hd:(x==("__debug__" : Str))=false:=by decide) (hcd:(x==("__classdict__" : Str))=false:=by decide) (hs:∀ y,foldedSetIterable (.Name x p) X.env y=pure y:=by intro _;rfl):Rp X (.For tg (.Name x p) body [] pos) (rz i gt gb):=⟨have hg:=hg.run;have hb:=hb.run;T6 (Tq hp hc (M8 (wF (i:=i) hN hv hd hcd)) hg hb hs) fun D σ H h=>by
 obtain⟨H0,ρ,r,E,e,q⟩:=h
 unfold rz at e
 split at e
 ·rename_i ds hρ
  have E1:=E.lend hρ
  have hi:i < ρ.length:=(List.getElem?_eq_some_iff.mp hρ).1
  obtain⟨a,vs,e1,sq,Y⟩:=Uh E1 (Cg _ hi)
  exact⟨_,e1,.inl ⟨a,rfl,⟨vs,sq⟩,q9 E1 Y e q⟩⟩
 ·rename_i ds hρ
  obtain⟨a,vs,e1,sq,Y⟩:=Uh E hρ
  exact⟨_,e1,.inl ⟨a,rfl,⟨vs,sq⟩,q9 E Y e q⟩⟩
 ·rename_i b n1 n2 hρ
  obtain⟨ds,ed,e⟩:=bind_some e
  obtain⟨v,e1,rb⟩:=E.val i _ hρ
  have hf:∀ b o u,H b=some (.rO o u)->iR H σ ρ b=H b:=fun b o u hb=>kY E (fun vs z=>by rw[hb] at z;cases z) (fun vs z=>by rw[hb] at z;cases z)
  have ht:∀ b ws,H b=some (.tup ws)->iR H σ ρ b=H b:=fun b ws hb=>kY E (fun vs z=>by rw[hb] at z;cases z) (fun vs z=>by rw[hb] at z;cases z)
  cases b with
  |z d=>
   cases d with
   |tup ds'=>
    cases ed
    simp only[bA,Rep] at rb
    obtain⟨a,vs,rfl,hq,rs⟩:=rb
    refine⟨_,e1,.inr (.inl ⟨a,rfl,⟨vs,hq⟩,q9 E (.tup ?_ (rs.part hf ht)) e q⟩)⟩
    rcases hq with (hq|⟨o,hq⟩)|hq
    ·exact .inl (.inl ((ht _ _ hq).trans hq))
    ·exact .inl (.inr ⟨o,(hf _ _ _ hq).trans hq⟩)
    ·exact .inr hq
   |lst ds'=>
    cases ed
    simp only[bA,Rep] at rb
    obtain⟨a,vs,rfl,hq,rs⟩:=rb
    refine⟨_,e1,.inl ⟨a,rfl,⟨vs,hq.sq⟩,q9 E (.list ?_ (rs.part hf ht)) e q⟩⟩
    rcases hq with⟨o,hq⟩|hq
    ·exact .inl (.inr ⟨o,(hf _ _ _ hq).trans hq⟩)
    ·exact .inr hq
   |str x=>
    cases ed
    simp only[bA,Rep] at rb
    obtain⟨rfl,_⟩:=rb
    exact⟨_,e1,.inr (.inr ⟨x,rfl,q9 E (.str x) e q⟩)⟩
   |_=>cases ed
  |l ds'=>cases ed
  |o ds'=>exact absurd rfl (n1 ds')
  |n ds'=>cases ed
  |m ds'=>cases ed
 ·cases e⟩
end
def SubL (cells:List (Str×Addr)):List (Str×Addr)->Prop
 |[]=>True
 |(n,c)::r=>cells.lookup n=some c/\SubL cells r
theorem SubL.get {cells:List (Str×Addr)}:∀ {cl:List (Str×Addr)},SubL cells cl->∀ {x:Str} {c:Addr},cl.lookup x=some c->cells.lookup x=some c
 |[],_,_,_,e=>by cases e
 |(n,d)::r,h,x,c,e=>by
  rw[List.lookup_cons] at e
  by_cases hx:x==n
  ·simp only[hx] at e
   cases e
   have:x=n:=by simpa using hx
   rw[this];exact h.1
  ·have hx:(x==n)=false:=by simpa using hx
   simp only[hx] at e
   exact SubL.get h.2 e
structure Cap (X:Cx) (scope:Scope) (cl:List (Str×Addr)) (x:Str) (i:Nat):Prop where
 n:X.N[i]?=some x
 k:X.env.kindOf x=some .cell\/X.env.kindOf x=some .free
 k':(relabel scope X.env).names.lookup x=some .cell\/(relabel scope X.env).names.lookup x=some .free
 c:∃ c,cl.lookup x=some c
def xM (X:Cx) (scope:Scope) (cl:List (Str×Addr)):List Str->List Nat->Prop
 |[],[]=>True
 |x::xs,i::is=>Cap X scope cl x i/\xM X scope cl xs is
 |_,_=>False
theorem xM.get {X:Cx} {scope:Scope} {cl:List (Str×Addr)}:∀ {xs:List Str} {is:List Nat},xM X scope cl xs is->xs.length=is.length/\∀ (j:Nat) (x:Str),xs[j]?=some x->∃ i,is[j]?=some i/\Cap X scope cl x i
 |[],[],_=>⟨rfl,fun j x e=>by simp at e⟩
 |x::xs,i::is,h=>by
  obtain⟨h1,h2⟩:=h
  obtain⟨l,g⟩:=xM.get h2
  refine⟨by simp[l],fun j y e=>?_⟩
  cases j with
  |zero=>simp at e;subst e;exact⟨i,rfl,h1⟩
  |succ j=>obtain⟨k,e1,e2⟩:=g j y (by simpa using e);exact⟨k,by simpa using e1,e2⟩
 |[],_::_,h=>h.elim
 |_::_,[],h=>h.elim
def zX (X:Cx) (N':List Str) (scope:Scope) (cl:List (Str×Addr)) (C:Addr) (s₀:Shared) (H₀:Hp) (fp:List Addr):Cx:=
 { X with N:=N',s₀:=s₀,H₀:=H₀,env:=compEnvC scope cl C X.env,outer:=X.stack,ex:=fp,fn:=fun _=>false,pn:=[],xe:=fun _ _=>False }
def ug (is:List Nat) (σ:L2.St):L2.St:=is.map fun i=>(σ[i]?).bind fun v=>v
def jT (is:List Nat) (ρ:Ev):Ev:=is.map fun i=>yW ρ i
def Wy (n:Nat) (g:Dt->Ev->Option Ev):Prop:=∀ d ρ ρ',g d ρ=some ρ'->ρ'.length=ρ.length/\∀ j,j < n->ρ'[j]?=ρ[j]?
def Xx (n:Nat) (g:List Dt->Ev->Option Ev):Prop:=∀ d ρ ρ',g d ρ=some ρ'->ρ'.length=ρ.length/\∀ j,j < n->ρ'[j]?=ρ[j]?
theorem bH {n i:Nat} (h:n<=i:=by decide):Wy n (fun d ρ=>some (ρ.set i (some (.z d)))):=fun d ρ ρ' e=>by
 cases e
 exact⟨by rw[ky],fun j hj=>Ci _ (by omega)⟩
theorem rT {n:Nat}:Xx n jY:=fun d ρ ρ' e=>by
 cases d with
 |nil=>cases e;exact⟨rfl,fun _ _=>rfl⟩
 |cons=>cases e
theorem bY {n:Nat} {g:Dt->Ev->Option Ev} {gs:List Dt->Ev->Option Ev} (h:Wy n g) (hs:Xx n gs):Xx n (aP g gs):=fun d ρ ρ' e=>by
 cases d with
 |nil=>cases e
 |cons d ds=>
  simp only[aP] at e
  obtain⟨ρ1,e1,e⟩:=bind_some e
  obtain⟨a,b⟩:=h _ _ _ e1
  obtain⟨a',b'⟩:=hs _ _ _ e
  exact⟨a'.trans a,fun j hj=>(b' j hj).trans (b j hj)⟩
theorem wH {n m:Nat} {gs:List Dt->Ev->Option Ev} (hs:Xx n gs):Wy n (jD m gs):=fun d ρ ρ' e=>by
 cases d with
 |tup ds=>
  simp only[jD] at e
  split at e
  ·exact hs _ _ _ e
  ·cases e
 |_=>cases e
def pU (gt:Dt->Ev->Option Ev) (p:Ev->Option Bool) (fe:Ev->Option Bx) (ρ:Ev):List Dt->Option (List Dt)
 |[]=>some []
 |d::ds=>(gt d ρ).bind fun ρ1=>(p ρ1).bind fun k=>if k=true then (fe ρ1).bind fun b=>match b with
   |.z y=>(pU gt p fe ρ ds).bind fun ys=>some (y::ys)
   |_=>none
  else pU gt p fe ρ ds
def Tests (X:Cx) (ifs:List Expr) (p:Ev->Option Bool):Prop:=(ifs=[]/\p=fun _=>some true)\/∃ c,ifs=[c]/\PB X c p
structure yZ (X:Cx) (ifs:List Expr) (p:Ev->Option Bool):Prop where
 run:Tests X ifs p
section
variable {X:Cx} {elt tgt iter:Expr} {ifs:List Expr} {scope:Scope} {cl:List (Str×Addr)} {pos:Pos} {xs ts:List Str} {is:List Nat} {gt:Dt->Ev->Option Ev} {p:Ev->Option Bool} {fe:Ev->Option Bx} {fi:Ev->Option (List Dt)}
theorem Ui {pins:List (Addr×Obj)} {σ:L2.St} {H3:Hp} {s3:Shared} {h1:Heap} {tk:Nat} {fp:List Addr} {m:Str->Option Value} (I3:L2.Inv X pins σ H3 s3) (hkind:scope.kind=.function) (hcell:∀ y∈scope.names,y.2≠.cell)
  (hsub:SubL X.env.cells cl) (hhas:∀ x,((relabel scope X.env).names.lookup x=some .cell\/(relabel scope X.env).names.lookup x=some .free)->∃ c,cl.lookup x=some c) (hcap:xM X scope cl xs is)
  (hf:∀ b∈fp,tZ X pins H3 b) (hfl:∀ b∈fp,b < s3.heap.objs.size) (hns:h1.Ns s3.heap.objs.size m) (hk:∀ b o,s3.heap.get? b=some o->h1.get? b=some o) :
  L2.Inv (zX X (xs++ts) scope cl s3.heap.objs.size s3 H3 fp) [] (ug is σ++List.replicate ts.length none) H3 { s3 with heap:=h1,toks:=tk }:=by
 obtain⟨hl,hc⟩:=hcap.get
 refine⟨⟨I3.ok.mod,hkind,I3.ok.glob,I3.ok.blt,zl _,fun x y c e1 e2=>?_,fun x hx=>hhas x hx,fun x c e=>(by cases e),I3.ok.hd,I3.ok.frames,.inl rfl,fun b hb=>⟨zD (hfl b hb),fun x c e=>?_⟩,I3.bs,z3 I3.ok.WM I3.sz,fun b o e hb=>?_,fun b hb hb'=>?_,I3.stack,I3.O5⟩,
  rfl,I3.bare,Un.kept hk,⟨m,hns,fun j x v e1 e2 _=>?_⟩,fun x c e=>?_,I3.hok.fresh (zl _),fun x c e=>I3.pR x c (hsub.get e),fun q hq=>absurd (show q∈([]:List (Addr×Obj)) from hq) (by simp),I3.hok.kept hk,?_⟩
 ·exact I3.ok.inj x y c (hsub.get e1) (hsub.get e2)
 ·exact (hf b hb).2.2.2.2.1 x c (hsub.get e)
 ·obtain⟨_,_,_,z,_⟩:=hf b hb
  rcases z with z|z
  ·exact I3.ok.Tg b o e z
  ·exact absurd (ZE (zv e) (z3 I3.ok.WM z)) (ka _)
 ·obtain⟨_,n1,n2,_⟩:=hf b hb
  rcases List.mem_cons.mp (I3.Hi b hb') with z|z
  ·exact n1 z
  ·exact n2 z
 ·have hj:j < is.length:=by
   by_cases hj:j < is.length
   ·exact hj
   ·rw[ZZ (by simp[ug];omega)] at e2
    rw[QI] at e2
    split at e2<;>cases e2
  have e1':xs[j]?=some x:=by
   have e1:(xs++ts)[j]?=some x:=e1
   rw[ZA (by omega)] at e1;exact e1
  obtain⟨i,ei,hcp⟩:=hc j x e1'
  have e3:σ[i]?=some (some v):=by
   rw[ZA (by simp[ug];omega)] at e2
   unfold ug at e2
   rw[zS,ei] at e2
   cases q:σ[i]? with
   |none=>rw[Option.map_some,q] at e2;cases e2
   |some o=>
    rw[Option.map_some,q] at e2
    have:o=some v:=by simpa using e2
    rw[this]
  have vis:Ww X.env.scope x:=by
   rcases hcp.k with k|k
   ·exact .inr (.inl k)
   ·exact .inr (.inr k)
  obtain⟨m',hn',hlk⟩:=I3.loc
  obtain⟨u,r,l⟩:=hlk i x v hcp.n e3 vis
  refine⟨u,r,?_⟩
  rcases l with⟨k,_⟩|⟨k,c,ec,ic⟩
  ·rcases hcp.k with k'|k'<;>(rw[k] at k';cases k')
  ·obtain⟨c',ec'⟩:=hcp.c
   have:=hsub.get ec'
   rw[ec] at this;cases this
   refine .inr ⟨hcp.k',c,ec',?_⟩
   obtain⟨o,ho,hd⟩:=ic
   exact⟨o,hk c o ho,hd⟩
 ·obtain⟨v,o,ho,hd⟩:=I3.cell x c (hsub.get e)
  exact⟨v,o,hk c o ho,hd⟩
 ·show (ug is σ++List.replicate ts.length none).length=(xs++ts).length
  simp[ug,hl]
theorem bU.caps {K:PySem.W.Frag} {H0 H:Hp} {σ:L2.St} {ρ:Ev} (E:bU K H0 H σ ρ) (is:List Nat) (n:Nat):bU K H H (ug is σ++List.replicate n none) (jT is ρ++List.replicate n none):=by
 have M9:∀ (j:Nat) c,(jT is ρ++List.replicate n none)[j]?=some (some c)->ud c=false:=fun j c e=>by
  by_cases hj:j < is.length
  ·rw[ZA (by simp[jT];omega)] at e
   unfold jT at e
   rw[zS] at e
   cases q:is[j]? with
   |none=>rw[q] at e;cases e
   |some i=>
    rw[q] at e
    have:yW ρ i=some c:=by simpa using e
    exact xH this
  ·rw[ZZ (by simp[jT];omega),QI] at e
   split at e<;>cases e
 refine⟨by simp[ug,jT],fun j b e=>?_,fun j k c a b e ec=>absurd ec (by rw[M9 j c e];exact z5),Same.refl H,fun j c a e ec=>absurd ec (by rw[M9 j c e];exact z5)⟩
 by_cases hj:j < is.length
 ·rw[ZA (by simp[jT];omega)] at e
  rw[ZA (by simp[ug];omega)]
  unfold jT at e
  unfold ug
  rw[zS] at e ⊢
  cases q:is[j]? with
  |none=>rw[q] at e;cases e
  |some i=>
   rw[q] at e
   have:yW ρ i=some b:=by simpa using e
   obtain⟨v,e1,r⟩:=J3 E this
   exact⟨v,by simp[e1],r⟩
 ·rw[ZZ (by simp[jT];omega),QI] at e
  split at e<;>cases e
theorem bU.forget {K:PySem.W.Frag} {H0 H:Hp} {σ:L2.St} {ρ ρ':Ev} (E:bU K H0 H σ ρ') (hl:ρ'.length=ρ.length) (h:∀ (j:Nat) b,ρ[j]?=some (some b)->ρ'[j]?=some (some b)):bU K H0 H σ ρ:=
 ⟨E.len.trans hl,fun j b e=>E.val j b (h j b e),fun i j c a b e1 ec e2 e3 e4 e5=>E.own i j c a b (h _ _ e1) ec e2 (h _ _ e3) e4 e5,E.base,fun i c a e1 ec e2=>E.new i c a (h _ _ e1) ec e2⟩
def Xy (X:Cx) (el:Addr->Env->Sem Unit) (fe:Ev->Option Bx) (Ac:Hp->Nat->List Dt->HO->Prop) (N:Nat):Prop:=∀ (pins:List (Addr×Obj)) (s:Shared) (σ:L2.St) (H H0:Hp) (ρ:Ev) (D:Addr) (o:HO) (i:Nat) (o1:List Dt) (y:Dt),L2.Inv X pins σ H s->bU X.K H0 H σ ρ->fe ρ=some (.z y)->H D=some o->Ac H i o1 o->i < N →
 wpAny (model X.prog X.w) X.A (el D X.env) (fun _ s'=>∃ H9 o',L2.Inv X pins σ (upd H9 D o') s'/\Same H H9/\Kp H9 (upd H9 D o')/\Ac (upd H9 D o') (i+1) (o1++[y]) o') X.xe s
theorem Gk {comp:Expr} {mk:Sem Value} {o0:Obj} {O0:HO} {Ac:Hp->Nat->List Dt->HO->Prop} {el:Addr->Env->Sem Unit} {N:Nat} {pins:List (Addr×Obj)} {σ:L2.St} {H H2:Hp} {s2:Shared} {it:Addr} {fp:List Addr} {tn:Nat->Heap->Prop} {J:It} {ds out:List Dt} {ρ:Ev} {RR:Value->Addr->Result->Shared->Prop} {E:Value->Shared->Prop}
  (hkind:scope.kind=.function) (hcell:∀ y∈scope.names,y.2≠.cell) (hcalm:X.calm=true)
  (hsub:SubL X.env.cells cl) (hhas:∀ x,((relabel scope X.env).names.lookup x=some .cell\/(relabel scope X.env).names.lookup x=some .free)->∃ c,cl.lookup x=some c) (hcap:xM X scope cl xs is)
  (JL:∀ C s₀ H₀ fp,PTg (zX X (xs++ts) scope cl C s₀ H₀ fp) tgt gt) (hif:∀ C s₀ H₀ fp,Tests (zX X (xs++ts) scope cl C s₀ H₀ fp) ifs p) (helt:∀ C s₀ H₀ fp,Xy (zX X (xs++ts) scope cl C s₀ H₀ fp) el fe Ac N) (htk:Wy is.length gt)
  (I2:L2.Inv X pins σ H2 s2) (Ec:bU X.K H2 H2 (ug is σ++List.replicate ts.length none) (jT is ρ++List.replicate ts.length none)) (T:Turn X.prog X.w X.K tgt J fp it tn) (st:tn 0 s2.heap) (hf:∀ b∈fp,tZ X pins H2 b) (Y:Yields X.K J ds H2)
  (hlen:ds.length<=N) (hout:pU gt p fe (jT is ρ++List.replicate ts.length none) ds=some out)
  (hRR:∀ (D C:Addr) (s':Shared) (H':Hp) (o:HO) (i:Nat),H2 D=none->L2.Inv X pins σ H' s'->tZ X pins H' C->(∃ m,s'.heap.Ns C m)->Same H2 H'->H' D=some o->Ac H' i out o->RR (.ref D) C (.ok .next) s')
  (hmk:∀ {Q:Value->Shared->Prop},Q (.ref s2.heap.objs.size) { s2 with heap:=s2.heap.push o0 }->wpAny (model X.prog X.w) X.A mk Q E s2) (hO0:∀ H,jC X.prog X.w H (s2.heap.push o0) s2.heap.objs.size O0) (hA0:∀ H,Ac H 0 [] O0)
  (hAk:∀ {H H':Hp} {i i':Nat} {o1:List Dt} {o:HO},Kp H H'->i<=i'->Ac H i o1 o->Ac H' i' o1 o)
  (hturn:∀ (it:Value) (D:Addr) (env:Env),compTurn comp 0 it (.ref D) env=(standAt iter.pos >>= fun _=>pyNext it >>= fun r=>match r with
   |none=>pure (.done .next)
   |some v=>letOwnedTupleGo tgt it v >>= fun _=>assign tgt env v >>= fun _=>(forIn ifs true fun c r=>if r=true then isTrue c env (eval c env) >>= fun ok=>pure (ForInStep.yield ok) else pure (ForInStep.yield r)) >>= fun ok=>if ok=true then el D env >>= fun _=>again (.compLoop comp 0 it (.ref D) env) else again (.compLoop comp 0 it (.ref D) env)))
  (hstart:∀ {it acc:Value} {env:Env} {R:Result->Shared->Prop} {s:Shared},codeAny (model X.prog X.w) X.A (.compLoop comp 0 it acc env) R s->wpAny (model X.prog X.w) X.A (pyIter it) (fun it' s'=>codeAny (model X.prog X.w) X.A (.compLoop comp 0 it' acc env) R s') (notedBy (model X.prog X.w) X.A env fun x s'=>R (.error x) s') s->codeAny (model X.prog X.w) X.A (.compStart comp 0 it acc env) R s)
  (hsh:∀ {it acc:Value} {env:Env} {Q:Fin->Shared->Prop} {E:Value->Shared->Prop} {s:Shared},wpAny (model X.prog X.w) X.A ((compTurn comp 0 it acc env).onRaise (fun x=>noteFrame x env >>= fun _=>theTreesLotGoes x)) Q E s->wpAny (model X.prog X.w) (X.A.under (.compLoop comp 0 it acc env)) ((model X.prog X.w).den (.compLoop comp 0 it acc env)) Q E s) :
  wpAny (model X.prog X.w) X.A mk (fun acc s₃=>wpAny (model X.prog X.w) X.A (newFunctionEnv scope X.env.globals cl [] X.env.qual none .none (some X.env)) (fun cenv s₄=>
   codeAny (model X.prog X.w) X.A (.compStart comp 0 (.ref it) acc { cenv with scope:=relabel scope X.env }) (RR acc cenv.locals) s₄) E s₃) E s2:=by
 refine hmk (wpAny_newFunctionEnv hcell (by intro y hy;simp at hy) (fun h₁ hns₁ hsb₁=>?_) hkind)
 have hD:H2 s2.heap.objs.size=none:=I2.hok.fresh (zl _)
 have I3:L2.Inv X pins σ (upd H2 s2.heap.objs.size O0) { s2 with heap:=s2.heap.push o0 }:=
  I2.laid (t':=s2.toks) (fun b o e=>zd _ e) (zl _) (hO0 _)
 have sD:Same H2 (upd H2 s2.heap.objs.size O0):=bW hD
 have adh:∀ b∈fp,b < s2.heap.objs.size:=fun b hb=>let ⟨o,e,_⟩:=T.obj 0 _ st b hb;zv e
 have hf3:∀ b∈fp,tZ X pins (upd H2 s2.heap.objs.size O0) b:=fun b hb=>⟨by rw[aQ (zD (adh b hb))];exact (hf b hb).1,(hf b hb).2⟩
 generalize hs3:({ s2 with heap:=s2.heap.push o0 }:Shared)=s3 at *
 have adi:s3.heap=s2.heap.push o0:=by rw[<-hs3]
 have adk:∀ b∈fp,b < s3.heap.objs.size:=fun b hb=>by rw[adi,ZU];exact QN (adh b hb)
 have hk:∀ b o,s3.heap.get? b=some o->h₁.get? b=some o:=fun b o e=>hsb₁.extBut b o (zD (zv e)) (zd _ e)
 have IC:=Ui (ts:=ts) (tk:=s3.toks+([]:List (Str×Value)).length) I3 hkind hcell hsub hhas hcap hf3 adk hns₁ hk
 have st1:tn 0 h₁:=T.keep 0 _ _ st fun b hb o e=>hk b o (by rw[adi];exact zd _ e)
 generalize hX':zX X (xs++ts) scope cl s3.heap.objs.size s3 (upd H2 s2.heap.objs.size O0) fp=X' at *
 have hXe:X'.env=compEnvC scope cl s3.heap.objs.size X.env:=by rw[<-hX'];rfl
 have hXK:X'.K=X.K:=by rw[<-hX'];rfl
 have hXA:X'.A=X.A:=by rw[<-hX'];rfl
 have hXp:X'.prog=X.prog:=by rw[<-hX'];rfl
 have hXw:X'.w=X.w:=by rw[<-hX'];rfl
 have hXc:X'.calm=true:=by rw[<-hX'];exact hcalm
 have hXx:X'.xe=fun _ _=>False:=by rw[<-hX'];rfl
 have afk:bU X.K H2 (upd H2 s2.heap.objs.size O0) (ug is σ++List.replicate ts.length none) (jT is ρ++List.replicate ts.length none):=Ec.grow sD
 have hl0:(jT is ρ++List.replicate ts.length (none:Option Bx)).length=is.length+ts.length:=by simp[jT]
 have hb0:∀ (j:Nat) b,(jT is ρ++List.replicate ts.length (none:Option Bx))[j]?=some (some b)->j < is.length:=fun j b e=>by
  by_cases hj:j < is.length
  ·exact hj
  ·rw[ZZ (by simp[jT];omega),QI] at e
   split at e<;>cases e
 have afl:PTg X' tgt gt:=by rw[<-hX'];exact JL _ _ _ _
 have afm:Tests X' ifs p:=by rw[<-hX'];exact hif _ _ _ _
 have adn:Xy X' el fe Ac N:=by rw[<-hX'];exact helt _ _ _ _
 have hfC:∀ {H':Hp},(∀ b∈fp,H' b=none)->∀ b∈fp,tZ X' [] H' b:=fun {H'} hn b hb=>by
  obtain⟨f0,f1,f2,f3,f4,f5⟩:=hf3 b hb
  refine⟨hn b hb,?_,?_,.inl (by rw[<-hX'];exact hb),?_,?_⟩
  ·rw[hXe];exact zD (adk b hb)
  ·intro z
   have z:b∈frs X.stack:=by rw[<-hX'] at z;exact z
   rcases List.mem_cons.mp (I3.Hi b z) with q|q
   ·exact f1 q
   ·exact f2 q
  ·intro x c e
   rw[hXe] at e
   exact f4 x c (hsub.get e)
  ·intro q hq
   have:q∈([]:List (Addr×Obj)):=by rw[<-hX'] at hq;simpa [zX] using hq
   cases this
 have afo:∀ (j:Nat) c a,(jT is ρ++List.replicate ts.length (none:Option Bx))[j]?=some (some c)->loose c=true->(ug is σ++List.replicate ts.length none)[j]?=some (some (.ref a))->H2 a≠none:=fun j c a e hl ea z=>by
  obtain⟨v,e1,rc⟩:=Ec.val j _ e
  rw[ea] at e1;cases e1
  cases c with
  |z d=>cases hl
  |l dz=>
   obtain⟨a',vs,e2,q,_⟩:=rc
   cases e2
   rcases q with q|⟨o,q⟩<;>(rw[z] at q;cases q)
  |n dz=>
   obtain⟨a',vs,e2,q,_⟩:=rc
   cases e2
   rcases q with q|⟨o,q⟩<;>(rw[z] at q;cases q)
  |o dz=>
   obtain⟨a',vs,e2,q,_⟩:=rc
   cases e2
   rw[z] at q;cases q
  |m dz _=>
   obtain⟨a',vs,e2,q,_⟩:=rc
   cases e2
   rw[z] at q;cases q
 generalize hρ0:jT is ρ++List.replicate ts.length (none:Option Bx)=ρ0 at *
 have loop:∀ s₃:Shared,s₃={ s3 with heap:=h₁,toks:=s3.toks+([]:List (Str×Value)).length } →
   codeAny (model X.prog X.w) X.A (.compLoop comp 0 (.ref it) (.ref s2.heap.objs.size) (compEnvC scope cl s3.heap.objs.size X.env)) (RR (.ref s2.heap.objs.size) s3.heap.objs.size) s₃:=by
  rintro s₃ rfl
  refine codeAny_loop rfl (fun n s'=>∃ (i:Nat) (σ':L2.St) (H':Hp) (o1 o2:List Dt) (o:HO),n=ds.length - i/\i<=ds.length/\L2.Inv X' [] σ' H' s'/\tn i s'.heap/\(∀ b∈fp,H' b=none)/\bU X.K H2 H' σ' ρ0/\(∀ (j:Nat) c a,ρ0[j]?=some (some c)->loose c=true->σ'[j]?=some (some (.ref a))->H2 a≠none)/\H' s2.heap.objs.size=some o/\Ac H' i o1 o/\pU gt p fe ρ0 (ds.drop i)=some o2/\o1++o2=out) ?_ ds.length
   ⟨0,_,_,[],out,O0,by simp,qA _,IC,st1,fun b hb=>(hf3 b hb).1,afk,afo,bK,hA0 _,by simpa using hout,rfl⟩
  rintro n s4 ⟨i,σ4,H4,o1,o2,o,rfl,hi,I4,st4,fr4,E4,afp,hD4,r4,e4,ho⟩
  refine hsh ?_
  refine wpAny_noted ?_
  rw[hturn]
  obtain⟨y1,y2⟩:=Y i H4 E4.base
  by_cases hlt:i < ds.length
  ·have hd:ds[i]?=some ds[i]:=by simp[hlt]
   obtain⟨go,yl⟩:=y1 _ hd
   rw[yk hlt] at e4
   simp only[pU] at e4
   obtain⟨ρ1,e1,e4⟩:=bind_some e4
   obtain⟨k,ek,e4⟩:=bind_some e4
   obtain⟨hl1,hk1⟩:=htk _ _ _ e1
   have back:∀ {σ5:L2.St} {H5:Hp},bU X.K H2 H5 σ5 ρ1->bU X.K H2 H5 σ5 ρ0:=fun E5=>E5.forget hl1 fun j b e=>by rw[hk1 j (hb0 j b e)];exact e
   refine zb (yz (zb ?_))
   have T4:=T.item X' hXp hXw hXK hXc i [] s4 σ4 H4 (notedBy (model X.prog X.w) X.A (compEnvC scope cl s3.heap.objs.size X.env) fun e s'=>RR (.ref s2.heap.objs.size) s3.heap.objs.size (.error e) s') I4 (hfC fr4) st4 go
   rw[hXA] at T4
   refine mC T4 fun r s5 ⟨u,hr,h5⟩=>?_
   subst hr
   refine zb (mC h5 fun _ s6 ⟨x,H6,I6,r6,y6,st6,fr6⟩=>?_)
   obtain⟨sm,rx⟩:=yl x H6 y6
   have E4:=E4.grow sm
   have hD4:=sm _ _ hD4
   have r4:=hAk (.of sm) (zl _) r4
   have I6':=I6.pinned (hfC fr6) (T.obj _ _ st6)
   have ha:=afl _ s6 σ4 H6 x u (fun σ' H'=>H'=H6/\bU X.K H2 H6 σ' ρ1/\Lo σ4 ρ0 σ' ρ1) I6' r6 ⟨H2,ρ0,ds[i],ρ1,by rw[hXK];exact E4,by rw[hXK];exact rx,e1,fun σ' E' L'=>⟨rfl,by rw[hXK] at E';exact E',L'⟩⟩
   rw[hXA,hXe,hXx] at ha
   simp only[hXp,hXw] at ha
   refine zb (qB ha (fun _ s7 h7=>?_) fun _ _ z=>z.elim)
   obtain⟨σ7,H7,I7,rfl,E7,L7⟩:=h7
   have Xz:∀ (j:Nat) c a,ρ0[j]?=some (some c)->loose c=true->σ7[j]?=some (some (.ref a))->H2 a≠none:=fun j c a e hl ea=>by
    have e':ρ1[j]?=some (some c):=by rw[hk1 j (hb0 j _ e)];exact e
    exact afp j c a e hl (by rw[<-(L7 j _ hl e').2];exact ea)
   have ht:wpAny (model X.prog X.w) X.A (forIn ifs true fun c r=>if r=true then do let ok <-isTrue c (compEnvC scope cl s3.heap.objs.size X.env) (eval c (compEnvC scope cl s3.heap.objs.size X.env));pure (ForInStep.yield ok) else pure (ForInStep.yield r))
     (fun ok s8=>ok=k/\∃ H8,L2.Inv X' ([]++yP fp s6.heap) σ7 H8 s8/\Same H7 H8) (notedBy (model X.prog X.w) X.A (compEnvC scope cl s3.heap.objs.size X.env) fun e s'=>RR (.ref s2.heap.objs.size) s3.heap.objs.size (.error e) s') s7:=by
    rcases afm with⟨rfl,rfl⟩|⟨c,rfl,hc⟩
    ·cases ek
     exact wpAny_tests_nil ⟨rfl,H7,I7,Same.refl H7⟩
    ·refine wpAny_tests_one ?_
     have:=hc _ s7 σ7 H7 (fun b H8=>b=k/\Same H7 H8) I7 ⟨H2,ρ1,k,by rw[hXK];exact E7,ek,fun H8 s8=>⟨rfl,s8⟩⟩
     rw[hXA,hXe,hXx] at this
     simp only[hXp,hXw] at this
     exact qB this (fun b s8 ⟨H8,I8,eb,s8'⟩=>⟨eb,H8,I8,s8'⟩) fun _ _ z=>z.elim
   refine zb (qB ht (fun ok s8 h8=>?_) fun _ _ z=>z)
   obtain⟨rfl,H8,I8,s78⟩:=h8
   have Uj:∀ {σ9:L2.St} {H9:Hp} {s9:Shared},L2.Inv X' ([]++yP fp s6.heap) σ9 H9 s9->L2.Inv X' [] σ9 H9 s9/\tn (i+1) s9.heap/\∀ b∈fp,H9 b=none:=fun {σ9 H9 s9} I9=>by
    refine⟨I9.uc,T.keep _ _ _ st6 fun b hb o e=>(I9.pin (b,o) (qa _ (qa _ (rQ hb e)))).1,fun b hb=>?_⟩
    obtain⟨o,e,d⟩:=T.obj _ _ st6 b hb
    exact (I9.pin (b,o) (qa _ (qa _ (rQ hb e)))).2.1
   cases ok with
   |false=>
    rw[zw z5] at e4
    obtain⟨I9,st9,fr9⟩:=Uj I8
    exact ze ⟨rfl,ds.length - (i+1),by omega,i+1,σ7,H8,o1,o2,o,rfl,hlt,I9,st9,fr9,back (E7.grow s78),Xz,s78 _ _ hD4,hAk (.of s78) (KL _) r4,e4,ho⟩
   |true=>
    rw[zo rfl] at e4
    obtain⟨b,eb,e4⟩:=bind_some e4
    cases b with
    |z y=>
     obtain⟨ys,e5,e4⟩:=bind_some e4
     cases e4
     have he:=adn _ s8 σ7 H8 H2 ρ1 s2.heap.objs.size o i o1 y I8 (by rw[hXK];exact E7.grow s78) eb (s78 _ _ hD4) (hAk (.of s78) (zl _) r4) (ZE hlt hlen)
     rw[hXA,hXe,hXx] at he
     simp only[hXp,hXw] at he
     refine zb (qB he (fun _ s10 h10=>?_) fun _ _ z=>z.elim)
     obtain⟨H9,o',I10,XC,kp,a5⟩:=h10
     have s79:=s78.trans XC
     obtain⟨I11,afr,afs⟩:=Uj I10
     have E9:=back (E7.grow s79)
     refine ze ⟨rfl,ds.length - (i+1),by omega,i+1,σ7,_,o1++[y],ys,o',rfl,hlt,I11,afr,afs,?_,Xz,bK,a5,e5,by simpa using ho⟩
     have M9:∀ (j:Nat) c,ρ0[j]?=some (some c)->ud c=false:=fun j c e=>by
      rw[<-hρ0] at e
      by_cases hj:j < is.length
      ·rw[ZA (by simp[jT];omega)] at e
       unfold jT at e
       rw[zS] at e
       cases q:is[j]? with
       |none=>rw[q] at e;cases e
       |some i=>rw[q] at e;exact xH (by simpa using e)
      ·rw[ZZ (by simp[jT];omega),QI] at e
       split at e<;>cases e
     have EH2:∀ (j:Nat) b,ρ0[j]?=some (some b)->∀ v,σ7[j]?=some (some v)->bA X.K H9 b v->bA X.K (upd H9 s2.heap.objs.size o') b v:=fun j b e v ev rb=>by
      cases b with
      |z d=>exact Rep.kp kp rb
      |o dz=>have:=M9 j _ e;cases this
      |m dz _=>have:=M9 j _ e;cases this
      |n dz=>
       obtain⟨a,vs,rfl,q,rr⟩:=rb
       refine⟨a,vs,rfl,?_,rr.kp kp⟩
       by_cases ha:a=s2.heap.objs.size
       ·subst ha;exact absurd hD (Xz j _ _ e rfl ev)
       ·rcases q with q|⟨o,q⟩
        ·exact .inl (by rw[aQ ha];exact q)
        ·exact .inr ⟨o,by rw[aQ ha];exact q⟩
      |l dz=>
       obtain⟨a,vs,rfl,q,rr⟩:=rb
       refine⟨a,vs,rfl,?_,rr.kp kp⟩
       by_cases ha:a=s2.heap.objs.size
       ·subst ha;exact absurd hD (Xz j _ _ e rfl ev)
       ·rcases q with q|⟨o,q⟩
        ·exact .inl (by rw[aQ ha];exact q)
        ·exact .inr ⟨o,by rw[aQ ha];exact q⟩
     refine⟨E9.len,fun j b e=>?_,fun j k c a b e ec=>absurd ec (by rw[M9 j c e];exact z5),fun c o e=>?_,fun j c a e ec=>absurd ec (by rw[M9 j c e];exact z5)⟩
     ·obtain⟨v,ev,rb⟩:=E9.val j b e
      exact⟨v,ev,EH2 j b e v ev rb⟩
     ·rw[aQ (fH e hD)];exact E9.base c o e
    |l _=>cases e4
    |o _=>cases e4
    |n _=>cases e4
    |m _ _=>cases e4
  ·have hge:ds.length<=i:=by omega
   rw[List.drop_eq_nil_of_le hge] at e4
   cases e4
   refine zb (yz (zb ?_))
   have T4:=T.done X' hXp hXw hXK hXc i [] s4 σ4 H4 (notedBy (model X.prog X.w) X.A (compEnvC scope cl s3.heap.objs.size X.env) fun e s'=>RR (.ref s2.heap.objs.size) s3.heap.objs.size (.error e) s') I4 (hfC fr4) st4 (y2 hge)
   rw[hXA] at T4
   refine mC T4 fun r s5 ⟨hr,I5⟩=>?_
   subst hr
   refine ze ?_
   have IB:L2.Inv X pins σ H4 s5:=I3.call' (ch:=fp) (by have:=I5.os;rw[<-hX'] at this;exact this) (by have:=I5.base;rw[<-hX'] at this;exact this) (by have:=I5.hok;rw[hXp,hXw] at this;exact this) I5.bare fun b hb=>by
    obtain⟨f0,f1,f2,f3,f4,f5⟩:=hf3 b hb
    exact⟨f3,f1,f4,f5⟩
   have hC:H4 s3.heap.objs.size=none:=by have:=I5.free;rw[hXe] at this;exact this
   refine hRR _ _ s5 H4 o i hD IB (I3.WY (zl _) hC) ?_ E4.base hD4 (by rw[jS] at ho;rw[<-ho];exact r4)
   obtain⟨m,hn,_⟩:=I5.loc
   rw[hXe] at hn
   exact⟨m,hn⟩
 exact hstart (loop _ rfl) (T.self _ 0 _ _ _ st1 (loop _ rfl))
def AcL (K:PySem.W.Frag) (H:Hp) (i:Nat) (o1:List Dt) (o:HO):Prop:=∃ us,o=.lst us/\aJ K H o1 us/\o1.length<=i
theorem XD (h:PV X elt fe):Xy X (fun D env=>do let _ <-call (.builtin "list.append") [.ref D,<-eval elt env]) fe (AcL X.K) 100000:=by
 intro pins s σ H H0 ρ D o i o1 y I En ee hD ⟨us,e,r4,hl⟩ hi
 subst e
 refine zb (qB (h pins s σ H (fun v H9=>Same H H9/\Rep X.K H9 y v) I ⟨H0,ρ,_,En,ee,fun v H9 s9 _ r9=>⟨s9,r9⟩⟩) (fun v s9 h9=>?_) fun _ _ z=>z)
 obtain⟨v',H9,I9,rv,XC,r9⟩:=h9
 have hD9:=XC _ _ hD
 refine zb (qB ((Gg (X:=X)) _ s9 σ H9 (.ref D) [v'] (.ref D) [v] (fun w H10=>H10=upd H9 D (.lst (us++[v']))) I9 rfl (.cons rv .nil) ⟨_,us,v',rfl,rfl,hD9,by rw[r4.length];have h0:(100000:Nat) < sizeLine:=(by decide);omega,rfl⟩) (fun w s10 h10=>?_) fun _ _ z=>z)
 obtain⟨w',H10,I10,_,rfl⟩:=h10
 have kp:Kp H9 (upd H9 D (.lst (us++[v']))):=.lst hD9
 exact ze ⟨H9,_,I10,XC,kp,us++[v'],rfl,((r4.kp (.of XC)).append (aJ.cons r9 aJ.nil)).kp kp,by simp;omega⟩
theorem xO {pins:List (Addr×Obj)} {σ:L2.St} {H H2:Hp} {s2:Shared} {it:Addr} {fp:List Addr} {tn:Nat->Heap->Prop} {J:It} {ds out:List Dt} {ρ:Ev} {RR:Value->Addr->Result->Shared->Prop} {E:Value->Shared->Prop}
  (hkind:scope.kind=.function) (hcell:∀ y∈scope.names,y.2≠.cell) (hcalm:X.calm=true)
  (hsub:SubL X.env.cells cl) (hhas:∀ x,((relabel scope X.env).names.lookup x=some .cell\/(relabel scope X.env).names.lookup x=some .free)->∃ c,cl.lookup x=some c) (hcap:xM X scope cl xs is)
  (JL:∀ C s₀ H₀ fp,PTg (zX X (xs++ts) scope cl C s₀ H₀ fp) tgt gt) (hif:∀ C s₀ H₀ fp,Tests (zX X (xs++ts) scope cl C s₀ H₀ fp) ifs p) (helt:∀ C s₀ H₀ fp,PV (zX X (xs++ts) scope cl C s₀ H₀ fp) elt fe) (htk:Wy is.length gt)
  (I2:L2.Inv X pins σ H2 s2) (Ec:bU X.K H2 H2 (ug is σ++List.replicate ts.length none) (jT is ρ++List.replicate ts.length none)) (T:Turn X.prog X.w X.K tgt J fp it tn) (st:tn 0 s2.heap) (hf:∀ b∈fp,tZ X pins H2 b) (Y:Yields X.K J ds H2)
  (hlen:ds.length<=100000) (hout:pU gt p fe (jT is ρ++List.replicate ts.length none) ds=some out)
  (hRR:∀ (D C:Addr) (s':Shared) (H':Hp) (us:List V),H2 D=none->L2.Inv X pins σ H' s'->tZ X pins H' C->(∃ m,s'.heap.Ns C m)->Same H2 H'->H' D=some (.lst us)->aJ X.K H' out us->RR (.ref D) C (.ok .next) s') :
  wpAny (model X.prog X.w) X.A (newList []) (fun acc s₃=>wpAny (model X.prog X.w) X.A (newFunctionEnv scope X.env.globals cl [] X.env.qual none .none (some X.env)) (fun cenv s₄=>
   codeAny (model X.prog X.w) X.A (.compStart (.ListComp elt [⟨tgt,iter,ifs,0⟩] scope pos) 0 (.ref it) acc { cenv with scope:=relabel scope X.env }) (RR acc cenv.locals) s₄) E s₃) E s2:=
 Gk (H:=H) (Ac:=AcL X.K) (O0:=.lst []) (N:=100000) hkind hcell hcalm hsub hhas hcap JL hif (fun C s₀ H₀ fp=>XD (helt C s₀ H₀ fp)) htk I2 Ec T st hf Y hlen hout (fun D C s' H' o i a b c d e f g=>by obtain⟨us,rfl,r,_⟩:=g;exact hRR D C s' H' us a b c d e f r)
  Z3 (fun _=>⟨qA _,[],0,.nil,zt _ rfl⟩) (fun _=>⟨[],rfl,aJ.nil,zl _⟩) (fun k l ⟨us,e,r,z⟩=>⟨us,e,r.kp k,z3 z l⟩) (fun _ _ _=>rfl) codeAny_compStart_list fun h=>h
end
def iC (K:PySem.W.Frag) (f:Ev->Option (List Dt)):TI:=fun σ H R=>∃ H0 ρ ds,bU K H0 H σ ρ/\f ρ=some ds/\∀ J H',Same H H'->Yields K J ds H'->R J H'
def PIC (X:Cx) (tg iter:Expr) (f:Ev->Option (List Dt)):Prop:=PI X tg iter (iC X.K f)
structure QIC (X:Cx) (tg iter:Expr) (f:Ev->Option (List Dt)):Prop where
 run:PIC X tg iter f
def XF:Bx->Option (List Dt)
 |.z (.lst ds)=>some ds
 |.z (.tup ds)=>some ds
 |.z (.str x)=>some (signs x)
 |.o ds=>some ds
 |.l ds=>some ds
 |_=>none
section
variable {X:Cx} {e elt tgt iter:Expr} {es ifs:List Expr} {f:Ev->Option Bx} {fs:Ev->Option (List Bx)} {scope:Scope} {cl:List (Str×Addr)} {pos:Pos} {xs ts:List Str} {is:List Nat} {gt:Dt->Ev->Option Ev} {p:Ev->Option Bool} {fe:Ev->Option Bx} {fi:Ev->Option (List Dt)}
theorem Uk (h:QIF X tgt iter fi):QIC X tgt iter fi:=⟨have h:=h.run;fun pins s σ H R I q=>by
 obtain⟨H0,ρ,ds,E,e,q⟩:=q
 exact h pins s σ H R I ⟨H0,ρ,ds,E,e,fun J H' s' y=>q J H' s' (y H' (Same.refl H') (fun _ _=>rfl) (fun _ _ _ _=>rfl) fun _ _ _=>rfl)⟩⟩
theorem gR (h:QV X e f):QIC X tgt e (fun ρ=>(f ρ).bind XF):=⟨have h:=h.run;fun pins s σ H R I q=>by
 refine M8 h pins s σ H R I ?_
 obtain⟨H0,ρ,ds,E,e,q⟩:=q
 obtain⟨b,eb,e⟩:=bind_some e
 refine⟨H0,ρ,b,E,eb,fun v H1 s1 n1 r1=>?_⟩
 cases b with
 |z d=>
  cases d with
  |tup ds'=>
   cases e
   simp only[bA,Rep] at r1
   obtain⟨a,vs,rfl,hq,rs⟩:=r1
   exact .inr (.inl ⟨a,rfl,⟨vs,hq⟩,q _ _ s1 (.tup hq rs)⟩)
  |lst ds'=>
   cases e
   obtain⟨a,vs,rfl,hq,rs⟩:=r1.Em rfl
   exact .inl ⟨a,rfl,⟨vs,hq⟩,q _ _ s1 (.list hq rs)⟩
  |str x=>
   cases e
   simp only[bA,Rep] at r1
   obtain⟨rfl,_⟩:=r1
   exact .inr (.inr ⟨x,rfl,q _ _ s1 (.str x)⟩)
  |_=>cases e
 |l ds'=>
  cases e
  obtain⟨a,vs,rfl,hq,rs⟩:=r1.Em rfl
  exact .inl ⟨a,rfl,⟨vs,hq⟩,q _ _ s1 (.list hq rs)⟩
 |o ds'=>
  cases e
  obtain⟨a,vs,rfl,hq,rs⟩:=r1.Em rfl
  exact .inl ⟨a,rfl,⟨vs,hq⟩,q _ _ s1 (.list hq rs)⟩
 |n _=>cases e
 |m _ _=>cases e⟩
def fU (fi:Ev->Option (List Dt)) (gt:Dt->Ev->Option Ev) (p:Ev->Option Bool) (fe:Ev->Option Bx) (is:List Nat) (n:Nat):Ev->Option Bx:=fun ρ=>(fi ρ).bind fun ds=>
 if ds.length<=100000 then (pU gt p fe (jT is ρ++List.replicate n none) ds).bind fun out=>some (.o out) else none
structure za (X:Cx) (scope:Scope) (cl:List (Str×Addr)) (xs:List Str) (is:List Nat):Prop where
 clos:closureFor scope X.env=pure cl
 kind:scope.kind=.function
 cell:∀ y∈scope.names,y.2≠.cell
 names:∀ y∈scope.names,y.2=.local->scope.names.lookup y.1=some .local
 sub:SubL X.env.cells cl
 has:∀ x,((relabel scope X.env).names.lookup x=some .cell\/(relabel scope X.env).names.lookup x=some .free)->∃ c,cl.lookup x=some c
 cap:xM X scope cl xs is
theorem mF (ts:List Str) (O:za X scope cl xs is) (hcalm:X.calm=true) (hi:QIC X tgt iter fi) (JL:∀ C s₀ H₀ fp,Wx (zX X (xs++ts) scope cl C s₀ H₀ fp) tgt gt) (hif:∀ C s₀ H₀ fp,yZ (zX X (xs++ts) scope cl C s₀ H₀ fp) ifs p) (helt:∀ C s₀ H₀ fp,QV (zX X (xs++ts) scope cl C s₀ H₀ fp) elt fe) (htk:Wy is.length gt) (hs:∀ x,foldedSetIterable iter X.env x=pure x:=by intro _;rfl):QV X (.ListComp elt [⟨tgt,iter,ifs,0⟩] scope pos) (fU fi gt p fe is ts.length):=⟨have hi:=hi.run;have JL:=fun C s₀ H₀ fp=>(JL C s₀ H₀ fp).run;have hif:=fun C s₀ H₀ fp=>(hif C s₀ H₀ fp).run;have helt:=fun C s₀ H₀ fp=>(helt C s₀ H₀ fp).run;fun pins s σ H Q I h=>by
 obtain⟨H0,ρ,b,E,e,q⟩:=h
 obtain⟨ds,ed,e⟩:=bind_some e
 split at e
 ·rename_i hlen
  obtain⟨out,eo,e⟩:=bind_some e
  cases e
  rw[eval_ListComp]
  refine kN (use:=none) rfl hs O.clos O.kind O.names ?_
  refine mC (hi pins s σ H (fun J H'=>Same H H'/\Yields X.K J ds H') I ⟨H0,ρ,ds,E,ed,fun J H' s' y=>⟨s',y⟩⟩) fun v s1 h1=>mC h1 fun itv s2 h2=>?_
  obtain⟨it,fp,tn,J,H2,rfl,I2,T,st,hf,s12,Y⟩:=h2
  refine xO (RR:=fun acc C=>compPost (model X.prog X.w) X.A X.xe none (EP X pins σ Q) acc C) (ts:=ts) (xs:=xs) (H:=H) O.kind O.cell hcalm O.sub O.has O.cap JL hif helt htk I2 ((E.grow s12).caps is ts.length) T st hf Y hlen eo ?_
  intro D C s' H' us hD I' fC ⟨m,hn⟩ s2' hD' r'
  refine⟨m,hn,fun h' sb=>⟨.ref D,H',?_,rfl,q _ _ (s12.trans s2') (fun a ea=>by cases ea;exact s12.free hD) ⟨D,us,rfl,hD',r'⟩⟩⟩
  obtain⟨f0,f1,f2,f3,f4,f5⟩:=fC
  exact I'.turned (t':=s'.toks) (fun b o hb e=>(sb.2 b hb).trans e) f0 f1 f3 f4 f5
 ·cases e⟩
theorem qu (i:Nat) {y:Str} {py spos:Pos} (ts:List Str) (O:za X scope cl xs is) (hcalm:X.calm=true) (hN:X.N.Nodup) (hi:QIC X tgt iter fi) (JL:∀ C s₀ H₀ fp,Wx (zX X (xs++ts) scope cl C s₀ H₀ fp) tgt gt) (hif:∀ C s₀ H₀ fp,yZ (zX X (xs++ts) scope cl C s₀ H₀ fp) ifs p) (helt:∀ C s₀ H₀ fp,QV (zX X (xs++ts) scope cl C s₀ H₀ fp) elt fe) (htk:Wy is.length gt) (hsw:swapsWith (.ListComp elt [⟨tgt,iter,ifs,0⟩] scope pos) (some (.Name y py)) spos.line X.env=pure true:=by with_unfolding_all rfl) (hy:X.N[i]?=some y:=by rfl) (hx:Loc X.env.scope y:=by first|exact kQ rfl|exact Jn rfl) (hf:X.fn y=true\/X.env.scope.names.lookup y=some .local:=by first|exact .inl rfl|exact .inr rfl) (hs:∀ x,foldedSetIterable iter X.env x=pure x:=by intro _;rfl):Rp X (.Assign [.Name y py] (.ListComp elt [⟨tgt,iter,ifs,0⟩] scope pos) spos) (fun ρ=>(fU fi gt p fe is ts.length ρ).bind fun b=>(Ue ρ i b).bind fun ρ'=>some (.nx ρ')):=⟨have hi:=hi.run;have JL:=fun C s₀ H₀ fp=>(JL C s₀ H₀ fp).run;have hif:=fun C s₀ H₀ fp=>(hif C s₀ H₀ fp).run;have helt:=fun C s₀ H₀ fp=>(helt C s₀ H₀ fp).run;fun pins s σ H D I h=>by
 obtain⟨H0,ρ,r,E,e,q⟩:=h
 obtain⟨b,eb,e⟩:=bind_some e
 obtain⟨ds,ed,eb⟩:=bind_some eb
 split at eb
 ·rename_i hlen
  obtain⟨out,eo,eb⟩:=bind_some eb
  cases eb
  cases e
  rw[exec_Assign_Name_used _ _ _ _ hsw]
  refine zb (yz (zb ?_))
  show wpAny _ X.A (do let _ <-comprehension (.ListComp elt [⟨tgt,iter,ifs,0⟩] scope pos) scope X.env _ (newList []) false (eval iter X.env) (some (assign (.Name y py) X.env))) _ _ s
  refine zb (qB (kN (use:=some (assign (.Name y py) X.env)) (Q:=fun _ s'=>SP X pins D .next s') rfl hs O.clos O.kind O.names ?_) (fun _ s' hq=>ze (ze hq)) fun _ _ e=>e)
  refine mC (hi pins s σ H (fun J H'=>Same H H'/\Yields X.K J ds H') I ⟨H0,ρ,ds,E,ed,fun J H' s' y=>⟨s',y⟩⟩) fun v s1 h1=>mC h1 fun itv s2 h2=>?_
  obtain⟨it,fp,tn,J,H2,rfl,I2,T,st,hf',s12,Y⟩:=h2
  refine xO (RR:=fun acc C=>compPost (model X.prog X.w) X.A X.xe (some (assign (.Name y py) X.env)) (fun _ s'=>SP X pins D .next s') acc C) (ts:=ts) (xs:=xs) (H:=H) O.kind O.cell hcalm O.sub O.has O.cap JL hif helt htk I2 ((E.grow s12).caps is ts.length) T st hf' Y hlen eo ?_
  intro Da C s' H' us hD I' fC ⟨m,hn⟩ s2' hD' r'
  show wpAny _ X.A (assign (.Name y py) X.env (.ref Da)) _ _ s'
  obtain⟨f0,f1,f2,f3,f4,f5⟩:=fC
  obtain⟨oC,es',ep,hoC,hdC,hrest⟩:=id hn
  have I'':L2.Inv X (pins++[(C,oC)]) σ H' s':=I'.Hj fun pp hp=>by
   rcases List.mem_append.mp hp with z|z
   ·exact I'.pin pp (qa _ z)
   ·have:pp=(C,oC):=by simpa using z
    subst this
    exact⟨hoC,f0,f1,f2,fun v z=>by rw[hdC] at z;cases z⟩
  refine mC (L2.O8 hN hy hx hf (pins++[(C,oC)]) s' σ H' (.ref Da) (.ref Da) (fun σ' H''=>σ'=σ.set i (some (.ref Da))/\H''=H') I'' rfl ⟨rfl,rfl⟩) fun _ s'' ⟨σ',H'',J',e1,e2⟩=>?_
  subst e1 e2
  have hC':=(J'.pin (C,oC) (by simp)).1
  refine⟨m,⟨oC,es',ep,hC',hdC,hrest⟩,fun h' sb=>?_⟩
  refine⟨σ.set i (some (.ref Da)),H'',J'.uc.turned (t':=s''.toks) (fun b o hb e=>(sb.2 b hb).trans e) f0 f1 f3 f4 f5,q _ _ ?_⟩
  exact E.set (s12.trans s2') (b:=.o out) ⟨Da,us,rfl,hD',r'⟩ (.inl rfl) fun a ea=>by cases ea;exact s12.free hD
 ·cases eb⟩
def lend:Bx->Bx
 |.o ds=>.l ds
 |.m ds _=>.n ds
 |b=>b
def isO:Bx->Bool
 |.o _=>true
 |.m _ _=>true
 |_=>false
def pW (K:PySem.W.Frag) (n:Nat) (F:List Bx->Option Bx):Sp:=fun vs H Q _=>vs.length=n/\∃ bs r,pB K H bs vs/\bs.all (fun b=>!isO b)=true/\F bs=some r/\∀ v H',Same H H'->Nw H r v->bA K H' r v->Q v H'
def lO (n:Nat) (g:Ev->Option Out):List Bx->Option Bx:=fun bs=>(g (bs.map some++List.replicate (n - bs.length) none)).bind fun r=>match r with
 |.rt b=>some b
 |.nx _=>some (.z .non)
 |_=>none
theorem bU.start {K:PySem.W.Frag} {H:Hp} {N:List Str} {bs:List Bx} {vs:List V} (r:pB K H bs vs) (ho:bs.all (fun b=>!isO b)=true):bU K H H (L2.start N vs) (bs.map some++List.replicate (N.length - bs.length) none):=by
 have hl:bs.length=vs.length:=Paired.length r
 have get:∀ (i:Nat) b,(bs.map some++List.replicate (N.length - bs.length) none)[i]?=some (some b)->bs[i]?=some b:=fun i b e=>by
  by_cases hi:i < bs.length
  ·rw[ZA (by simpa using hi),zS] at e
   cases q:bs[i]? with
   |none=>rw[q] at e;cases e
   |some b'=>rw[q] at e;simpa using e
  ·rw[ZZ (by simp;omega),QI] at e
   split at e<;>cases e
 have M9:∀ (i:Nat) c,(bs.map some++List.replicate (N.length - bs.length) none)[i]?=some (some c)->ud c=true->False:=fun i c e ec=>by
  have:=List.all_eq_true.mp ho _ (ZY (get i _ e))
  cases c with
  |o ds=>cases this
  |m ds _=>cases this
  |_=>cases ec
 refine⟨?_,fun i b e=>?_,fun i j c a b e ec=>(M9 i c e ec).elim,Same.refl H,fun i c a e ec=>(M9 i c e ec).elim⟩
 ·unfold L2.start
  simp[hl]
 ·have e':=get i b e
  have hi:i < bs.length:=(List.getElem?_eq_some_iff.mp e').1
  have:∀ {bs:List Bx} {vs:List V} {i:Nat} {b:Bx},Paired (bA K H) bs vs->bs[i]?=some b->∃ v,vs[i]?=some v/\bA K H b v:=by
   intro bs vs i b r
   induction r generalizing i with
   |nil=>intro e;simp at e
   |cons p t ih=>
    intro e
    cases i with
    |zero=>simp at e;subst e;exact⟨_,rfl,p⟩
    |succ i=>obtain⟨v,e1,e2⟩:=ih (i:=i) (by simpa using e);exact⟨v,by simpa using e1,e2⟩
  obtain⟨v,e1,e2⟩:=this r e'
  refine⟨v,?_,e2⟩
  unfold L2.start
  rw[ZA (by simp;omega),zS,e1]
  rfl
end
section
variable {P:Program} {w:World} {K:PySem.W.Frag} {mg:Str->Option Value} {base:Heap}
theorem afv {x qual:Str} {st:Stmt} {f:Addr} {fd:FuncData} {N ps:List Str} {k:Nat} {g:Ev->Option Out} (F:yU K x qual st f fd) (S:dh N ps (aK st))
  (hbody:∀ (cdv:Value) (A:Around) (outer:List Env) (s:Shared) (H:Hp) (E:XK),m5 k (A.deeper (envOfC qual (aK st) s.heap.objs.size f cdv))->QZ (Ei m7 P w K mg base N qual (aK st) f cdv A outer s H E).S5 (cH st) g) :
  dG P w K mg base m7 (k+1) f fd ps (pW K ps.length (lO N.length g)):=by
 refine F.ok S (fun vs H Q E h=>h.1) fun cdv A outer s H vs Q E hr h=>?_
 obtain⟨hl,bs,r,rb,ho,e,q⟩:=h
 refine⟨_,hbody cdv A outer s H E hr,?_⟩
 obtain⟨r',er,e⟩:=bind_some e
 refine⟨H,_,r',bU.start rb ho,er,?_⟩
 cases r' with
 |rt b=>cases e;exact fun v H' s' n' r'=>q v H' s' n' r'
 |nx ρ=>cases e;exact fun σ H' E'=>q _ H' E'.base trivial (by unfold bA Rep;rfl)
 |bk ρ=>cases e
 |ct ρ=>cases e
end
section
variable {X:Cx} {k:Nat} {f:Addr} {fd:FuncData} {ps:List Str} {F:List Bx->Option Bx} {x:Str} {p pos:Pos} {e:Expr} {es:List Expr} {fs:Ev->Option (List Bx)} {n:Nat}
theorem J7 {K:PySem.W.Frag} {H:Hp}:∀ {bs:List Bx} {vs:List V},pB K H bs vs->pB K H (bs.map lend) vs
 |_,_,.nil=>.nil
 |b::bs,_,.cons h t=>by
  refine .cons ?_ (J7 t)
  cases b with
  |z d=>exact h
  |l ds=>exact h
  |o ds=>obtain⟨a,vs,e,q,r⟩:=h;exact⟨a,vs,e,.inl q,r⟩
  |n ds=>exact h
  |m ds _=>obtain⟨a,vs,e,q,r⟩:=h;exact⟨a,vs,e,.inl q,r.1⟩
theorem Pu:∀ bs:List Bx,(bs.map lend).all (fun b=>!isO b)=true
 |[]=>rfl
 |b::bs=>by
  rw[zk,kz,Pu bs]
  cases b<;>rfl
def fP (n:Nat) (F:List Bx->Option Bx) (fs:Ev->Option (List Bx)):Ev->Option Bx:=fun ρ=>(fs ρ).bind fun bs=>if bs.length=n then F (bs.map lend) else none
theorem bT (G:dG X.prog X.w X.K X.mg X.base m7 k f fd ps (pW X.K n F)) (hr:m5 k X.A) (hg:Gl X x) (hm:X.mg x=some (.ref f)) (hk:PySem.W.keepIn X.K (.ref f)=true) (hb:Binds X.K fd ps []) (ha:T5 X (e::es) fs) (hdb:(x==("__debug__" : Str))=false:=by decide) (he:starEach (e::es) X.env=(false,eval e X.env)::starEach es X.env:=by rfl) (hpl:(backTo pos (starEach es X.env)).any (·.1)=false:=by rfl):QV X (.Call (.Name x p) (e::es) [] pos) (fP n F fs):=⟨have ha:=ha.run;M5 (Pb G hr hg hm hk hb .nil (ZD) ha hdb he hpl) fun σ H Q h=>by
 obtain⟨H0,ρ,r,E,e,q⟩:=h
 obtain⟨bs,eb,e⟩:=bind_some e
 refine⟨H0,ρ,bs,E,eb,fun vs H1 s1 r1=>?_⟩
 split at e
 ·rename_i hn
  rw[jS]
  exact⟨by rw[<-Paired.length r1];exact hn,_,r,J7 r1,Pu bs,e,fun v H2 s2 n2 r2=>q v H2 (s1.trans s2) (n2.old s1) r2⟩
 ·cases e⟩
end
end P1
end
section
namespace P1
open PySem PySem.Spec PyProof.Rows L2 SeqAt
mutual
def vA:Dt->Nat
 |.tup xs=>uh xs+1
 |.lst xs=>uh xs+1
 |_=>1
def uh:List Dt->Nat
 |[]=>0
 |d::ds=>max (vA d) (uh ds)
end
mutual
def vI:Dt->Dt->Option Bool
 |.non,.non=>some true
 |.non,.bl _=>some false|.non,.int _=>some false|.non,.str _=>some false|.non,.tup _=>some false|.non,.lst _=>some false
 |.bl a,.bl b=>some (a==b)
 |.bl a,.int b=>some ((if a then 1 else 0)==b)
 |.bl _,.non=>some false|.bl _,.str _=>some false|.bl _,.tup _=>some false|.bl _,.lst _=>some false
 |.int a,.int b=>some (a==b)
 |.int a,.bl b=>some (a==(if b then 1 else 0))
 |.int _,.non=>some false|.int _,.str _=>some false|.int _,.tup _=>some false|.int _,.lst _=>some false
 |.str a,.str b=>some (a==b)
 |.str _,.non=>some false|.str _,.bl _=>some false|.str _,.int _=>some false|.str _,.tup _=>some false|.str _,.lst _=>some false
 |.tup xs,.tup ys=>nu xs ys
 |.tup _,.non=>some false|.tup _,.bl _=>some false|.tup _,.int _=>some false|.tup _,.str _=>some false|.tup _,.lst _=>some false
 |.lst xs,.lst ys=>nu xs ys
 |.lst _,.non=>some false|.lst _,.bl _=>some false|.lst _,.int _=>some false|.lst _,.str _=>some false|.lst _,.tup _=>some false
 |_,_=>none
def nu:List Dt->List Dt->Option Bool
 |[],[]=>some true
 |[],_::_=>some false
 |_::_,[]=>some false
 |x::xs,y::ys=>match vI x y with
  |some b=>match nu xs ys with
   |some c=>some (b&&c)
   |none=>none
  |none=>none
end
mutual
theorem J8:∀ {d:Dt} {k:Bool},vI d d=some k->k=true
 |.non,_,e=>by cases e;rfl
 |.bl b,_,e=>by cases e;simp
 |.int b,_,e=>by cases e;simp
 |.str b,_,e=>by cases e;simp
 |.tup xs,_,e=>zc (ds:=xs) e
 |.lst xs,_,e=>zc (ds:=xs) e
 |.emp,_,e=>by cases e
theorem zc:∀ {ds:List Dt} {k:Bool},nu ds ds=some k->k=true
 |[],_,e=>by simp only[nu] at e;cases e;rfl
 |d::ds,_,e=>by
  simp only[nu] at e
  cases h:vI d d with
  |none=>rw[h] at e;cases e
  |some b=>
   rw[h] at e
   simp only at e
   cases h2:nu ds ds with
   |none=>rw[h2] at e;cases e
   |some c=>
    rw[h2] at e
    cases e
    rw[J8 h,zc h2]
    rfl
end
theorem Bp (xs ys:List Dt):vI (.tup xs) (.tup ys)=nu xs ys:=rfl
theorem um:∀ {xs ys:List Dt} {k:Bool},nu xs ys=some k->∃ e:Nat->Bool,(∀ (j:Nat) x y,xs[j]?=some x->ys[j]?=some y->vI x y=some (e j))/\k=((List.range (min xs.length ys.length)).all e&&xs.length==ys.length)
 |[],[],k,h=>by simp only[nu] at h;cases h;exact⟨fun _=>true,fun j x y e=>by simp at e,by simp⟩
 |[],y::ys,k,h=>by simp only[nu] at h;cases h;exact⟨fun _=>true,fun j x y e=>by simp at e,by simp⟩
 |x::xs,[],k,h=>by simp only[nu] at h;cases h;exact⟨fun _=>true,fun j x y _ e=>by simp at e,by simp⟩
 |x::xs,y::ys,k,h=>by
  simp only[nu] at h
  cases h1:vI x y with
  |none=>rw[h1] at h;cases h
  |some b=>
   rw[h1] at h
   simp only at h
   cases h2:nu xs ys with
   |none=>rw[h2] at h;cases h
   |some c=>
    rw[h2] at h
    cases h
    obtain⟨e,g,hc⟩:=um h2
    refine⟨fun j=>match j with|0=>b|j+1=>e j,fun j u v eu ev=>?_,?_⟩
    ·cases j with
     |zero=>simp at eu ev;subst eu ev;exact h1
     |succ j=>exact g j u v (by simpa using eu) (by simpa using ev)
    ·have:min (x::xs).length (y::ys).length=min xs.length ys.length+1:=by simp only[qk];omega
     rw[this,List.range_succ_eq_map,kz,List.all_map,hc]
     have hb:((x::xs).length==(y::ys).length)=(xs.length==ys.length):=by
      rw[kP];simp
     rw[hb,Bool.and_assoc]
     rfl
theorem uo:∀ {ds:List Dt} {j:Nat} {d:Dt},ds[j]?=some d->vA d<=uh ds
 |[],_,_,e=>by simp at e
 |d::ds,0,_,e=>by simp at e;subst e;simp only[uh];exact Nat.le_max_left _ _
 |d::ds,j+1,_,e=>by
  simp only[uh]
  exact z3 (uo (ds:=ds) (j:=j) (by simpa using e)) (Nat.le_max_right _ _)
section
variable {X:Cx} {pins:List (Addr×Obj)} {σ:L2.St} {H:Hp} {s:Shared}
theorem Bq (I:L2.Inv X pins σ H s) {a:Addr} {vs:List V} (h:vH X.K H a vs):∃ ob,s.heap.get? a=some ob/\ob.cls=.type "tuple" := by
 obtain⟨its,_,⟨ob,e,c,_⟩,_⟩:=I.tuple h
 exact⟨ob,e,c⟩
theorem Br (I:L2.Inv X pins σ H s) {a:Addr} {vs:List V} (h:tR X.K H a vs):∃ ob,s.heap.get? a=some ob/\ob.cls=.type "list" := by
 obtain⟨its,_,⟨ob,n,e,c,_⟩,_⟩:=I.list h
 exact⟨ob,e,c⟩
theorem Bt (I:L2.Inv X pins σ H s) {a:Addr} {o:Obj} (h:H a=some (.rO o (.dK []))):∃ ob,s.heap.get? a=some ob/\ob.cls=.type "dict" := by
 obtain⟨e,_,_,vs,_,ob,es,ep,e2,ex,_⟩:=I.hok a _ h
 exact⟨ob,e2,ex.1⟩
theorem zf {a:Addr} {n m:String} (h:∃ ob,s.heap.get? a=some ob/\ob.cls=.type n) (q:∃ ob,s.heap.get? a=some ob/\ob.cls=.type m) (hn:n≠m):False:=by
 obtain⟨o,e,c⟩:=h
 obtain⟨o',e',c'⟩:=q
 rw[e] at e';cases e'
 rw[c] at c'
 exact hn (by injection c')
mutual
theorem Rep.inj (I:L2.Inv X pins σ H s):∀ {d e:Dt} {v:V},Rep X.K H d v->Rep X.K H e v->d=e
 |.non,e,v,h,q=>by
  simp only[Rep] at h;subst h
  cases e<;>simp only[Rep] at q<;>first|rfl|(cases q;done)|(obtain⟨a,b,z,_⟩:=q;cases z;done)|(obtain⟨z,_⟩:=q;cases z;done)
 |.bl _,e,v,h,q=>by
  simp only[Rep] at h;subst h
  cases e<;>simp only[Rep] at q<;>first|(cases q;rfl)|(cases q;done)|(obtain⟨a,b,z,_⟩:=q;cases z;done)|(obtain⟨z,_⟩:=q;cases z;done)
 |.int _,e,v,h,q=>by
  simp only[Rep] at h;subst h
  cases e<;>simp only[Rep] at q<;>first|(cases q;rfl)|(cases q;done)|(obtain⟨a,b,z,_⟩:=q;cases z;done)|(obtain⟨z,_⟩:=q;cases z;done)
 |.str x,e,v,h,q=>by
  simp only[Rep] at h
  have hv:v=.str x:=h.1
  subst hv
  cases e with
  |str y=>
   simp only[Rep] at q
   have z:V.str x=V.str y:=q.1
   injection z with z
   rw[z]
  |tup es=>simp only[Rep] at q;obtain⟨a,b,z,_⟩:=q;cases z
  |lst es=>simp only[Rep] at q;obtain⟨a,b,z,_⟩:=q;cases z
  |emp=>simp only[Rep] at q;obtain⟨a,b,z,_⟩:=q;cases z
  |_=>simp only[Rep] at q;cases q
 |.tup ds,e,v,h,q=>by
  simp only[Rep] at h
  obtain⟨a,vs,rfl,sq,r⟩:=h
  cases e with
  |tup es=>
   simp only[Rep] at q
   obtain⟨b,us,z,Nb,r'⟩:=q
   cases z
   have:=I.FW sq Nb
   subst this
   rw[aJ.inj I r r']
  |lst es=>
   simp only[Rep] at q
   obtain⟨b,us,z,Nb,r'⟩:=q
   cases z
   exact (zf (Bq I sq) (Br I Nb.sq) (by decide)).elim
  |emp=>
   simp only[Rep] at q
   obtain⟨b,o,z,Nb⟩:=q
   cases z
   exact (zf (Bq I sq) (Bt I Nb) (by decide)).elim
  |str x=>simp only[Rep] at q;have z:=q.1;cases z
  |_=>simp only[Rep] at q;cases q
 |.lst ds,e,v,h,q=>by
  simp only[Rep] at h
  obtain⟨a,vs,rfl,sq,r⟩:=h
  cases e with
  |lst es=>
   simp only[Rep] at q
   obtain⟨b,us,z,Nb,r'⟩:=q
   cases z
   have:=I.JT sq.sq Nb.sq
   subst this
   rw[aJ.inj I r r']
  |tup es=>
   simp only[Rep] at q
   obtain⟨b,us,z,Nb,r'⟩:=q
   cases z
   exact (zf (Br I sq.sq) (Bq I Nb) (by decide)).elim
  |emp=>
   simp only[Rep] at q
   obtain⟨b,o,z,Nb⟩:=q
   cases z
   exact (zf (Br I sq.sq) (Bt I Nb) (by decide)).elim
  |str x=>simp only[Rep] at q;have z:=q.1;cases z
  |_=>simp only[Rep] at q;cases q
 |.emp,e,v,h,q=>by
  simp only[Rep] at h
  obtain⟨a,o,rfl,sq⟩:=h
  cases e with
  |emp=>rfl
  |tup es=>
   simp only[Rep] at q
   obtain⟨b,us,z,Nb,r'⟩:=q
   cases z
   exact (zf (Bt I sq) (Bq I Nb) (by decide)).elim
  |lst es=>
   simp only[Rep] at q
   obtain⟨b,us,z,Nb,r'⟩:=q
   cases z
   exact (zf (Bt I sq) (Br I Nb.sq) (by decide)).elim
  |str x=>simp only[Rep] at q;have z:=q.1;cases z
  |_=>simp only[Rep] at q;cases q
theorem aJ.inj (I:L2.Inv X pins σ H s):∀ {ds es:List Dt} {vs:List V},aJ X.K H ds vs->aJ X.K H es vs->ds=es
 |[],es,vs,h,q=>by
  simp only[aJ] at h;subst h
  cases es with
  |nil=>rfl
  |cons e es=>simp only[aJ] at q;obtain⟨_,_,z,_⟩:=q;cases z
 |d::ds,es,vs,h,q=>by
  simp only[aJ] at h
  obtain⟨v,r,rfl,h1,h2⟩:=h
  cases es with
  |nil=>simp only[aJ] at q;cases q
  |cons e es=>
   simp only[aJ] at q
   obtain⟨v',r',z,q1,q2⟩:=q
   cases z
   rw[Rep.inj I h1 q1,aJ.inj I h2 q2]
end
theorem Ul (I:L2.Inv X pins σ H s):∀ (n:Nat) {A:Around} {d e:Dt} {x y:V} {u v:Value} {k:Bool},min (vA d) (vA e)<=n->A.units+n < cLine->Rep X.K H d x->Rep X.K H e y->RelV x u->RelV y v->vI d e=some k->EqAt A s u v k:=by
 intro n
 induction n with
 |zero=>
  intro A d e x y u v k hn
  have h1:1<=vA d:=by cases d<;>simp only[vA]<;>omega
  have h2:1<=vA e:=by cases e<;>simp only[vA]<;>omega
  omega
 |succ n ih=>
  intro A d e x y u v k hn hA rd re ru rv ek
  have hu:A.units < cLine:=by omega
  by_cases hxy:u=v/\∃ a,u=.ref a
  ·obtain⟨rfl,a,rfl⟩:=hxy
   have hx:x=.ref a:=by have:=ru.abs;simpa [aat] using this.symm
   have hy:y=.ref a:=by have:=rv.abs;simpa [aat] using this.symm
   subst hx hy
   have:=Rep.inj I rd re
   subst this
   rw[J8 ek]
   exact EqAt.same _
  ·have items:∀ {ds es:List Dt} {vs us:List V} {its its2:List Value} {f:Nat->Bool},min (uh ds) (uh es)<=n->aJ X.K H ds vs->aJ X.K H es us->Vals vs its->Vals us its2->(∀ (j:Nat) x y,ds[j]?=some x->es[j]?=some y->vI x y=some (f j)) →
     ∀ j (h1:j < its.toArray.size) (h2:j < its2.toArray.size),EqAt A.in1 s its.toArray[j] its2.toArray[j] (f j):=by
    intro ds es vs us its its2 f hm r1 r2 w1 w2 hf j h1 h2
    have l1:=w1.length
    have l2:=w2.length
    have l3:=r1.length
    have l4:=r2.length
    have j1:j < its.length:=by simpa using h1
    have j2:j < its2.length:=by simpa using h2
    have d1:ds[j]?=some ds[j]:=by simp
    have d2:es[j]?=some es[j]:=by simp
    obtain⟨a,ea,ra⟩:=r1.get d1
    obtain⟨b,eb,rb⟩:=r2.get d2
    obtain⟨p,ep,rp⟩:=w1.get ea
    obtain⟨q,eq,rq⟩:=w2.get eb
    have e1:its.toArray[j]=p:=by simpa [j1] using ep
    have e2:its2.toArray[j]=q:=by simpa [j2] using eq
    rw[e1,e2]
    have m1:=uo d1
    have m2:=uo d2
    exact ih (by omega) (by rw[units_in1];omega) ra rb rp rq (hf j _ _ d1 d2)
   cases d with
   |non=>
    cases rd;cases ru
    cases e with
    |non=>cases re;cases rv;cases ek;exact EqAt.same _
    |bl b=>cases re;cases rv;cases ek;exact EqAt.none_bool b
    |int b=>cases re;obtain⟨t,rfl⟩:=rv;cases ek;exact EqAt.none_int b t
    |str b=>obtain⟨rfl,_⟩:=re;obtain⟨t,rfl⟩:=rv;cases ek;exact EqAt.none_str b t
    |tup es=>obtain⟨b,us,rfl,sq,_⟩:=re;cases rv;cases ek;obtain⟨_,_,p,_⟩:=I.tuple sq;exact EqAt.none_tuple p hu
    |lst es=>obtain⟨b,us,rfl,sq,_⟩:=re;cases rv;cases ek;obtain⟨_,_,p,_⟩:=I.list sq.sq;exact EqAt.none_list p.isList hu
    |emp=>cases ek
   |bl a=>
    cases rd;cases ru
    cases e with
    |non=>cases re;cases rv;cases ek;exact EqAt.bool_none a
    |bl b=>cases re;cases rv;cases ek;exact EqAt.bool_bool a b
    |int b=>cases re;obtain⟨t,rfl⟩:=rv;cases ek;exact EqAt.bool_int a b t
    |str b=>obtain⟨rfl,_⟩:=re;obtain⟨t,rfl⟩:=rv;cases ek;exact EqAt.bool_str a b t
    |tup es=>obtain⟨b,us,rfl,sq,_⟩:=re;cases rv;cases ek;obtain⟨_,_,p,_⟩:=I.tuple sq;exact EqAt.bool_tuple a p hu
    |lst es=>obtain⟨b,us,rfl,sq,_⟩:=re;cases rv;cases ek;obtain⟨_,_,p,_⟩:=I.list sq.sq;exact EqAt.bool_list a p.isList hu
    |emp=>cases ek
   |int a=>
    cases rd;obtain⟨t',rfl⟩:=ru
    cases e with
    |non=>cases re;cases rv;cases ek;exact EqAt.int_none a t'
    |bl b=>cases re;cases rv;cases ek;exact EqAt.int_bool a t' b
    |int b=>cases re;obtain⟨t,rfl⟩:=rv;cases ek;exact EqAt.int_int a t' b t
    |str b=>obtain⟨rfl,_⟩:=re;obtain⟨t,rfl⟩:=rv;cases ek;exact EqAt.int_str a t' b t
    |tup es=>obtain⟨b,us,rfl,sq,_⟩:=re;cases rv;cases ek;obtain⟨_,_,p,_⟩:=I.tuple sq;exact EqAt.int_tuple a t' p hu
    |lst es=>obtain⟨b,us,rfl,sq,_⟩:=re;cases rv;cases ek;obtain⟨_,_,p,_⟩:=I.list sq.sq;exact EqAt.int_list a t' p.isList hu
    |emp=>cases ek
   |str a=>
    obtain⟨rfl,_⟩:=rd;obtain⟨t',rfl⟩:=ru
    cases e with
    |non=>cases re;cases rv;cases ek;exact EqAt.str_none a t'
    |bl b=>cases re;cases rv;cases ek;exact EqAt.str_bool a t' b
    |int b=>cases re;obtain⟨t,rfl⟩:=rv;cases ek;exact EqAt.str_int a t' b t
    |str b=>obtain⟨rfl,_⟩:=re;obtain⟨t,rfl⟩:=rv;cases ek;exact EqAt.str_str a t' b t
    |tup es=>obtain⟨b,us,rfl,sq,_⟩:=re;cases rv;cases ek;obtain⟨_,_,p,_⟩:=I.tuple sq;exact EqAt.str_tuple a t' p hu
    |lst es=>obtain⟨b,us,rfl,sq,_⟩:=re;cases rv;cases ek;obtain⟨_,_,p,_⟩:=I.list sq.sq;exact EqAt.str_list a t' p.isList hu
    |emp=>cases ek
   |tup ds=>
    obtain⟨a,vs,rfl,sa,ra⟩:=rd;cases ru
    obtain⟨its,wv,p,_⟩:=I.tuple sa
    cases e with
    |non=>cases re;cases rv;cases ek;exact EqAt.tuple_none p hu
    |bl b=>cases re;cases rv;cases ek;exact EqAt.tuple_bool b p hu
    |int b=>cases re;obtain⟨t,rfl⟩:=rv;cases ek;exact EqAt.tuple_int b t p hu
    |str b=>obtain⟨rfl,_⟩:=re;obtain⟨t,rfl⟩:=rv;cases ek;exact EqAt.tuple_str b t p hu
    |lst es=>obtain⟨b,us,rfl,sq,_⟩:=re;cases rv;cases ek;obtain⟨_,_,p2,_⟩:=I.list sq.sq;exact EqAt.tuple_list p p2.isList hu
    |tup es=>
     obtain⟨b,us,rfl,sb,rb⟩:=re;cases rv
     obtain⟨its2,wu,p2,_⟩:=I.tuple sb
     change nu _ _=some _ at ek
     obtain⟨f,hf,rfl⟩:=um ek
     have hne:a≠b:=fun z=>hxy ⟨by rw[z],a,rfl⟩
     have z:=EqAt.of_refs hne (RcAt.tuples (A:=A) (e:=f) p p2 hu (items (by simp only[vA] at hn;omega) ra rb wv wu hf))
     have q1:its.toArray.size=ds.length:=by rw[zC,<-wv.length,ra.length]
     have q2:its2.toArray.size=es.length:=by rw[zC,<-wu.length,rb.length]
     rw[q1,q2] at z
     exact z
    |emp=>cases ek
   |lst ds=>
    obtain⟨a,vs,rfl,sa,ra⟩:=rd;cases ru
    obtain⟨its,wv,p,_⟩:=I.list sa.sq
    cases e with
    |non=>cases re;cases rv;cases ek;exact EqAt.list_none p.isList hu
    |bl b=>cases re;cases rv;cases ek;exact EqAt.list_bool b p.isList hu
    |int b=>cases re;obtain⟨t,rfl⟩:=rv;cases ek;exact EqAt.list_int b t p.isList hu
    |str b=>obtain⟨rfl,_⟩:=re;obtain⟨t,rfl⟩:=rv;cases ek;exact EqAt.list_str b t p.isList hu
    |tup es=>obtain⟨b,us,rfl,sq,_⟩:=re;cases rv;cases ek;obtain⟨_,_,p2,_⟩:=I.tuple sq;exact EqAt.list_tuple p.isList p2 hu
    |lst es=>
     obtain⟨b,us,rfl,sb,rb⟩:=re;cases rv
     obtain⟨its2,wu,p2,_⟩:=I.list sb.sq
     change nu _ _=some _ at ek
     obtain⟨f,hf,rfl⟩:=um ek
     have hne:a≠b:=fun z=>hxy ⟨by rw[z],a,rfl⟩
     have q1:its.toArray.size=ds.length:=by rw[zC,<-wv.length,ra.length]
     have q2:its2.toArray.size=es.length:=by rw[zC,<-wu.length,rb.length]
     by_cases hsz:its.toArray.size=its2.toArray.size
     ·have z:=EqAt.of_refs hne (RcAt.lists (A:=A) (e:=f) p.isList p2.isList hsz hu (items (by simp only[vA] at hn;omega) ra rb wv wu hf))
      have hl:ds.length=es.length:=by omega
      rw[q1] at z
      rw[hl,Nat.min_self,beq_self_eq_true,KG,<-hl]
      exact z
     ·have hl:(ds.length==es.length)=false:=by rw[beq_eq_false_iff_ne];omega
      rw[hl,Bool.and_false]
      exact EqAt.of_refs hne (RcAt.lists_lengths p.isList p2.isList (by simpa using hsz) hu)
    |emp=>cases ek
   |emp=>cases e<;>cases ek
theorem J9 (I:L2.Inv X pins σ H s) {n:Nat} {A:Around} {ds es:List Dt} {vs us:List V} {its its2:List Value} {f:Nat->Bool} (hm:min (uh ds) (uh es)<=n) (hA:A.units+n+1 < cLine) (r1:aJ X.K H ds vs) (r2:aJ X.K H es us) (w1:Vals vs its) (w2:Vals us its2)
  (hf:∀ (j:Nat) x y,ds[j]?=some x->es[j]?=some y->vI x y=some (f j)):∀ j (h1:j < its.toArray.size) (h2:j < its2.toArray.size),EqAt A.in1 s its.toArray[j] its2.toArray[j] (f j):=by
 intro j h1 h2
 have l1:=w1.length
 have l2:=w2.length
 have l3:=r1.length
 have l4:=r2.length
 have j1:j < its.length:=by simpa using h1
 have j2:j < its2.length:=by simpa using h2
 have d1:ds[j]?=some (ds[j]'(by omega)):=by simp
 have d2:es[j]?=some (es[j]'(by omega)):=by simp
 obtain⟨a,ea,ra⟩:=r1.get d1
 obtain⟨b,eb,rb⟩:=r2.get d2
 obtain⟨p,ep,rp⟩:=w1.get ea
 obtain⟨q,eq,rq⟩:=w2.get eb
 have e1:its.toArray[j]=p:=by simpa [j1] using ep
 have e2:its2.toArray[j]=q:=by simpa [j2] using eq
 rw[e1,e2]
 have m1:=uo d1
 have m2:=uo d2
 exact Ul I n (by omega) (by rw[units_in1];omega) ra rb rp rq (hf j _ _ d1 d2)
end
def aa8 (K:PySem.W.Frag) (H:Hp):Dt->V->Prop
 |.lst ds,v=>∃ a vs,v=.ref a/\tR K H a vs/\aJ K H ds vs
 |d,v=>Rep K H d v
def vJ:Bx->Bool
 |.n _=>true
 |.m _ _=>true
 |_=>false
def toD:Bx->Dt
 |.z d=>d
 |.l ds=>.lst ds
 |.o ds=>.lst ds
 |.n _=>.non
 |.m _ _=>.non
theorem bA.toD {K:PySem.W.Frag} {H:Hp} {b:Bx} {v:V} (h:bA K H b v) (hm:vJ b=false):aa8 K H (toD b) v:=by
 cases b with
 |z d=>
  cases d with
  |lst ds=>exact h.Em rfl
  |_=>exact h
 |l ds=>exact h.Em rfl
 |o ds=>exact h.Em rfl
 |n _=>cases hm
 |m _ _=>cases hm
section
variable {X:Cx} {pins:List (Addr×Obj)} {σ:L2.St} {H:Hp} {s:Shared}
theorem Px (I:L2.Inv X pins σ H s) {d e:Dt} {x y:V} {u v:Value} {k:Bool} (hm:min (vA d) (vA e)<=100) (hA:X.A.units+100 < cLine) (rd:aa8 X.K H d x) (re:aa8 X.K H e y) (ru:RelV x u) (rv:RelV y v) (ek:vI d e=some k):RcAt X.A s u v k/\RcNeAt X.A s u v (!k):=by
 have hu:X.A.units < cLine:=by omega
 cases d with
 |non=>
  cases rd;cases ru
  cases e with
  |non=>
   cases re;cases rv
   cases ek
   exact⟨.none_none,.none_none⟩
  |bl x2=>
   cases re;cases rv
   cases ek
   exact⟨.none_bool x2,.none_bool x2⟩
  |int x2=>
   cases re;obtain⟨t2,rfl⟩:=rv
   cases ek
   exact⟨.none_int x2 t2,.none_int x2 t2⟩
  |str x2=>
   obtain⟨rfl,_⟩:=re;obtain⟨t2,rfl⟩:=rv
   cases ek
   exact⟨.none_str x2 t2,.none_str x2 t2⟩
  |tup x2=>
   obtain⟨a2,vs2,rfl,Aq,Nf⟩:=re;cases rv;obtain⟨its2,w2,p2,_⟩:=I.tuple Aq
   cases ek
   exact⟨.none_tuple p2 hu,.none_tuple p2 hu⟩
  |lst x2=>
   obtain⟨a2,vs2,rfl,Aq,Nf⟩:=re;cases rv;obtain⟨its2,w2,p2,_⟩:=I.list Aq
   cases ek
   exact⟨.none_list p2.isList hu,.none_list p2.isList hu⟩
  |emp=>cases ek
 |bl x1=>
  cases rd;cases ru
  cases e with
  |non=>
   cases re;cases rv
   cases ek
   exact⟨.bool_none x1,.bool_none x1⟩
  |bl x2=>
   cases re;cases rv
   cases ek
   exact⟨.bool_bool x1 x2,.bool_bool x1 x2⟩
  |int x2=>
   cases re;obtain⟨t2,rfl⟩:=rv
   cases ek
   exact⟨.bool_int x1 x2 t2,.bool_int x1 x2 t2⟩
  |str x2=>
   obtain⟨rfl,_⟩:=re;obtain⟨t2,rfl⟩:=rv
   cases ek
   exact⟨.bool_str x1 x2 t2,.bool_str x1 x2 t2⟩
  |tup x2=>
   obtain⟨a2,vs2,rfl,Aq,Nf⟩:=re;cases rv;obtain⟨its2,w2,p2,_⟩:=I.tuple Aq
   cases ek
   exact⟨.bool_tuple x1 p2 hu,.bool_tuple x1 p2 hu⟩
  |lst x2=>
   obtain⟨a2,vs2,rfl,Aq,Nf⟩:=re;cases rv;obtain⟨its2,w2,p2,_⟩:=I.list Aq
   cases ek
   exact⟨.bool_list x1 p2.isList hu,.bool_list x1 p2.isList hu⟩
  |emp=>cases ek
 |int x1=>
  cases rd;obtain⟨t1,rfl⟩:=ru
  cases e with
  |non=>
   cases re;cases rv
   cases ek
   exact⟨.int_none x1 t1,.int_none x1 t1⟩
  |bl x2=>
   cases re;cases rv
   cases ek
   exact⟨.int_bool x1 t1 x2,.int_bool x1 t1 x2⟩
  |int x2=>
   cases re;obtain⟨t2,rfl⟩:=rv
   cases ek
   exact⟨.int_int x1 t1 x2 t2,.int_int x1 t1 x2 t2⟩
  |str x2=>
   obtain⟨rfl,_⟩:=re;obtain⟨t2,rfl⟩:=rv
   cases ek
   exact⟨.int_str x1 t1 x2 t2,.int_str x1 t1 x2 t2⟩
  |tup x2=>
   obtain⟨a2,vs2,rfl,Aq,Nf⟩:=re;cases rv;obtain⟨its2,w2,p2,_⟩:=I.tuple Aq
   cases ek
   exact⟨.int_tuple x1 t1 p2 hu,.int_tuple x1 t1 p2 hu⟩
  |lst x2=>
   obtain⟨a2,vs2,rfl,Aq,Nf⟩:=re;cases rv;obtain⟨its2,w2,p2,_⟩:=I.list Aq
   cases ek
   exact⟨.int_list x1 t1 p2.isList hu,.int_list x1 t1 p2.isList hu⟩
  |emp=>cases ek
 |str x1=>
  obtain⟨rfl,_⟩:=rd;obtain⟨t1,rfl⟩:=ru
  cases e with
  |non=>
   cases re;cases rv
   cases ek
   exact⟨.str_none x1 t1,.str_none x1 t1⟩
  |bl x2=>
   cases re;cases rv
   cases ek
   exact⟨.str_bool x1 t1 x2,.str_bool x1 t1 x2⟩
  |int x2=>
   cases re;obtain⟨t2,rfl⟩:=rv
   cases ek
   exact⟨.str_int x1 t1 x2 t2,.str_int x1 t1 x2 t2⟩
  |str x2=>
   obtain⟨rfl,_⟩:=re;obtain⟨t2,rfl⟩:=rv
   cases ek
   exact⟨.str_str x1 t1 x2 t2,.str_str x1 t1 x2 t2⟩
  |tup x2=>
   obtain⟨a2,vs2,rfl,Aq,Nf⟩:=re;cases rv;obtain⟨its2,w2,p2,_⟩:=I.tuple Aq
   cases ek
   exact⟨.str_tuple x1 t1 p2 hu,.str_tuple x1 t1 p2 hu⟩
  |lst x2=>
   obtain⟨a2,vs2,rfl,Aq,Nf⟩:=re;cases rv;obtain⟨its2,w2,p2,_⟩:=I.list Aq
   cases ek
   exact⟨.str_list x1 t1 p2.isList hu,.str_list x1 t1 p2.isList hu⟩
  |emp=>cases ek
 |tup x1=>
  obtain⟨a1,vs1,rfl,sq1,rr1⟩:=rd;cases ru;obtain⟨XH,w1,p1,_⟩:=I.tuple sq1
  cases e with
  |non=>
   cases re;cases rv
   cases ek
   exact⟨.tuple_none p1 hu,.tuple_none p1 hu⟩
  |bl x2=>
   cases re;cases rv
   cases ek
   exact⟨.tuple_bool x2 p1 hu,.tuple_bool x2 p1 hu⟩
  |int x2=>
   cases re;obtain⟨t2,rfl⟩:=rv
   cases ek
   exact⟨.tuple_int x2 t2 p1 hu,.tuple_int x2 t2 p1 hu⟩
  |str x2=>
   obtain⟨rfl,_⟩:=re;obtain⟨t2,rfl⟩:=rv
   cases ek
   exact⟨.tuple_str x2 t2 p1 hu,.tuple_str x2 t2 p1 hu⟩
  |tup x2=>
   obtain⟨a2,vs2,rfl,Aq,Nf⟩:=re;cases rv;obtain⟨its2,w2,p2,_⟩:=I.tuple Aq
   change nu _ _=some _ at ek
   obtain⟨f,hf,rfl⟩:=um ek
   have q1:XH.toArray.size=x1.length:=by rw[zC,<-w1.length,rr1.length]
   have q2:its2.toArray.size=x2.length:=by rw[zC,<-w2.length,Nf.length]
   have it:=J9 I (n:=99) (A:=X.A) (by simp only[vA] at hm;omega) (by omega) rr1 Nf w1 w2 hf
   rw[<-q1,<-q2]
   exact⟨.tuples p1 p2 hu it,.tuples p1 p2 hu it⟩
  |lst x2=>
   obtain⟨a2,vs2,rfl,Aq,Nf⟩:=re;cases rv;obtain⟨its2,w2,p2,_⟩:=I.list Aq
   cases ek
   exact⟨.tuple_list p1 p2.isList hu,.tuple_list p1 p2.isList hu⟩
  |emp=>cases ek
 |lst x1=>
  obtain⟨a1,vs1,rfl,sq1,rr1⟩:=rd;cases ru;obtain⟨XH,w1,p1,_⟩:=I.list sq1
  cases e with
  |non=>
   cases re;cases rv
   cases ek
   exact⟨.list_none p1.isList hu,.list_none p1.isList hu⟩
  |bl x2=>
   cases re;cases rv
   cases ek
   exact⟨.list_bool x2 p1.isList hu,.list_bool x2 p1.isList hu⟩
  |int x2=>
   cases re;obtain⟨t2,rfl⟩:=rv
   cases ek
   exact⟨.list_int x2 t2 p1.isList hu,.list_int x2 t2 p1.isList hu⟩
  |str x2=>
   obtain⟨rfl,_⟩:=re;obtain⟨t2,rfl⟩:=rv
   cases ek
   exact⟨.list_str x2 t2 p1.isList hu,.list_str x2 t2 p1.isList hu⟩
  |tup x2=>
   obtain⟨a2,vs2,rfl,Aq,Nf⟩:=re;cases rv;obtain⟨its2,w2,p2,_⟩:=I.tuple Aq
   cases ek
   exact⟨.list_tuple p1.isList p2 hu,.list_tuple p1.isList p2 hu⟩
  |lst x2=>
   obtain⟨a2,vs2,rfl,Aq,Nf⟩:=re;cases rv;obtain⟨its2,w2,p2,_⟩:=I.list Aq
   change nu _ _=some _ at ek
   obtain⟨f,hf,rfl⟩:=um ek
   have q1:XH.toArray.size=x1.length:=by rw[zC,<-w1.length,rr1.length]
   have q2:its2.toArray.size=x2.length:=by rw[zC,<-w2.length,Nf.length]
   have it:=J9 I (n:=99) (A:=X.A) (by simp only[vA] at hm;omega) (by omega) rr1 Nf w1 w2 hf
   by_cases hsz:XH.toArray.size=its2.toArray.size
   ·have hl:x1.length=x2.length:=by omega
    rw[hl,Nat.min_self,beq_self_eq_true,KG,<-hl,<-q1]
    exact⟨.lists p1.isList p2.isList hsz hu it,.lists p1.isList p2.isList hsz hu it⟩
   ·have hl:(x1.length==x2.length)=false:=by rw[beq_eq_false_iff_ne];omega
    rw[hl,Bool.and_false]
    exact⟨.lists_lengths p1.isList p2.isList (by simpa using hsz) hu,.lists_lengths p1.isList p2.isList (by simpa using hsz) hu⟩
  |emp=>cases ek
 |emp=>cases e<;>cases ek
def eqB (a b:Bx):Option Bx:=if vJ a=true\/vJ b=true then none else if min (vA (toD a)) (vA (toD b))<=100 then (vI (toD a) (toD b)).bind fun k=>some (.z (.bl k)) else none
def Py (a b:Bx):Option Bx:=if vJ a=true\/vJ b=true then none else if min (vA (toD a)) (vA (toD b))<=100 then (vI (toD a) (toD b)).bind fun k=>some (.z (.bl (!k))) else none
theorem of_eq (hu:X.A.units+100 < cLine):Hv X (compareOp .Eq) eqB:=by
 intro pins s σ H x y v u Q I rx ry h
 obtain⟨a,b,c,ra,rb,e,q⟩:=h
 unfold eqB at e
 split at e
 ·cases e
 rename_i hz
 have ha:vJ a=false:=by cases h:vJ a with|false=>rfl|true=>exact absurd (.inl h) hz
 have hb:vJ b=false:=by cases h:vJ b with|false=>rfl|true=>exact absurd (.inr h) hz
 split at e
 ·rename_i hm
  obtain⟨k,ek,e⟩:=bind_some e
  cases e
  exact (Px I hm hu (ra.toD ha) (rb.toD hb) rx ry ek).1 X.prog X.w X.xe _ ⟨.bl k,H,I,rfl,q _ H (Same.refl H) trivial (by unfold bA Rep;rfl)⟩
 ·cases e
theorem zY (hu:X.A.units+100 < cLine):Hv X (compareOp .NotEq) Py:=by
 intro pins s σ H x y v u Q I rx ry h
 obtain⟨a,b,c,ra,rb,e,q⟩:=h
 unfold Py at e
 split at e
 ·cases e
 rename_i hz
 have ha:vJ a=false:=by cases h:vJ a with|false=>rfl|true=>exact absurd (.inl h) hz
 have hb:vJ b=false:=by cases h:vJ b with|false=>rfl|true=>exact absurd (.inr h) hz
 split at e
 ·rename_i hm
  obtain⟨k,ek,e⟩:=bind_some e
  cases e
  exact (Px I hm hu (ra.toD ha) (rb.toD hb) rx ry ek).2 X.prog X.w X.xe _ ⟨.bl (!k),H,I,rfl,q _ H (Same.refl H) trivial (by unfold bA Rep;rfl)⟩
 ·cases e
end
section
variable {X:Cx} {pins:List (Addr×Obj)} {σ:L2.St} {H:Hp} {s:Shared}
theorem Cj {K:PySem.W.Frag} {H:Hp} {i:Int}:bA K H (.z (.int i)) (.int i):=by unfold bA Rep;rfl
theorem aa9 {K:PySem.W.Frag} {H:Hp} {b:Bool}:bA K H (.z (.bl b)) (.bl b):=by unfold bA Rep;rfl
theorem XJ {K:PySem.W.Frag} {H:Hp} {x:Str} (h:x.length<=sizeLine):bA K H (.z (.str x)) (.str x):=by unfold bA Rep;exact⟨rfl,h⟩
theorem JM {K:PySem.W.Frag} {H:Hp} {i:Int} {v:V} (h:bA K H (.z (.int i)) v):v=.int i:=by simpa only[bA,Rep] using h
theorem Ng {K:PySem.W.Frag} {H:Hp} {x:Str} {v:V} (h:bA K H (.z (.str x)) v):v=.str x/\x.length<=sizeLine:=by simpa only[bA,Rep] using h
theorem inT {K:PySem.W.Frag} {H:Hp} {ds:List Dt} {v:V} (h:bA K H (.z (.tup ds)) v):∃ a vs,v=.ref a/\vH K H a vs/\aJ K H ds vs:=by simpa only[bA,Rep] using h
def i2 (g:Int->Int->Option Dt):Bx->Bx->Option Bx
 |.z (.int i),.z (.int j)=>(g i j).bind fun d=>some (.z d)
 |_,_=>none
theorem Gn {f:Value->Value->Sem Value} {r:R2} {g:Int->Int->Option Dt} (ho:wG X f r) (h:∀ i j d H Q,g i j=some d->(∀ v,Rep X.K H d v->Q v H)->r (.int i) (.int j) H Q):Hv X f (i2 g):=wG.imp ho fun x y H Q q=>by
 obtain⟨a,b,c,ra,rb,e,q⟩:=q
 unfold i2 at e
 split at e
 ·rename_i i j
  obtain⟨d,ed,e⟩:=bind_some e
  cases e
  rw[JM ra,JM rb]
  exact h i j d H Q ed fun v rv=>q v H (Same.refl H) trivial rv
 ·cases e
theorem okI {K:PySem.W.Frag} {H:Hp} {i:Int}:Rep K H (.int i) (.int i):=by unfold Rep;rfl
theorem okT {K:PySem.W.Frag} {H:Hp} {b:Bool}:Rep K H (.bl b) (.bl b):=by unfold Rep;rfl
abbrev subB:=i2 fun i j=>some (.int (i - j))
abbrev gtB:=i2 fun i j=>some (.bl (decide (j < i)))
abbrev geB:=i2 fun i j=>some (.bl (decide (j<=i)))
abbrev Ka:=i2 fun i j=>if 0 < j/\j < 1073741824 then some (.int (i / j)) else none
abbrev kZ:=i2 fun i j=>if 0 < j then some (.int (i % j)) else none
abbrev abb:=i2 fun i j=>if 0<=j/\j<=1000/\i.natAbs < 2 ^ 64 then some (.int (i ^ j.toNat)) else none
theorem Ck:Hv X (binaryOp .Sub) subB:=Gn aaE fun i j d H Q e q=>by cases e;exact⟨i,j,rfl,rfl,q _ okI⟩
theorem adv:Hv X (compareOp .Gt) gtB:=Gn acU fun i j d H Q e q=>by cases e;exact⟨i,j,rfl,rfl,q _ okT⟩
theorem adw:Hv X (compareOp .GtE) geB:=Gn acV fun i j d H Q e q=>by cases e;exact⟨i,j,rfl,rfl,q _ okT⟩
theorem HB:Hv X (binaryOp .FloorDiv) Ka:=Gn W0 fun i j d H Q e q=>by
 split at e
 ·rename_i h;cases e;exact⟨i,j,rfl,rfl,h,q _ okI⟩
 ·cases e
theorem dU:Hv X (binaryOp .Mod) kZ:=Gn aaG fun i j d H Q e q=>by
 split at e
 ·rename_i h;cases e;exact⟨i,j,rfl,rfl,h,q _ okI⟩
 ·cases e
theorem abd:Hv X (binaryOp .Pow) abb:=Gn aaH fun i j d H Q e q=>by
 split at e
 ·rename_i h;cases e;exact⟨i,j,rfl,rfl,⟨h.1,by omega,h.2.2⟩,q _ okI⟩
 ·cases e
def Nh:Nat:=1000000
theorem XM:Nh<=sizeLine:=by decide
theorem abe {l b:Addr} {vs us:List V} {Q:VK} (I:L2.Inv X pins σ H s) (hl:tR X.K H l vs) (hb:tR X.K H b us) (hz:vs.length+us.length<=sizeLine) (q:∀ p,H p=none->Q (.ref p) (upd H p (.lst (vs++us)))) :
  wpAny (model X.prog X.w) X.A (binaryOp .Add (.ref l) (.ref b)) (EP X pins σ Q) X.xe s:=by
 obtain⟨its,r1,⟨⟨cls,dd,data,sl⟩,n1,e1,c1,d1,dd1⟩,z1⟩:=I.list hl
 obtain⟨its2,r2,⟨⟨cls2,dd2,data2,sl2⟩,n2,e2,c2,d2,Um⟩,z2⟩:=I.list hb
 simp only at c1 d1 dd1 c2 d2 Um
 subst c1 d1 dd1 c2 d2 Um
 have l1:=r1.length
 have l2:=r2.length
 have e:its.toArray++its2.toArray=(its++its2).toArray:=by simp
 refine concat_meets ⟨_,e1,rfl⟩ ⟨_,e2,rfl⟩ noFill_list_add seq_list_add PySem.F.slot_list_add PySem.F.entry_list_add (PySem.F.args_list_add_2 _ _) (list_addW l b its.toArray its2.toArray n1 n2 none none sl sl2 (by rw[zC,zC];omega)) ⟨e1,e2,?_⟩
 rw[e]
 exact⟨.ref s.heap.objs.size,_,I.laid (t':=s.toks) (o:=.lst (vs++us)) (fun b ob q=>zd _ q) (zl _) ⟨by rw[z0];exact hz,_,0,r1.append r2,zt _ rfl⟩,rfl,q _ (I.hok.fresh (zl _))⟩
theorem abf {l b:Addr} {vs us:List V} {Q:VK} (I:L2.Inv X pins σ H s) (hl:vH X.K H l vs) (hb:vH X.K H b us) (hz:vs.length+us.length<=sizeLine) (q0:vs=[]->Q (.ref b) H) (q1:us=[]->Q (.ref l) H) (q2:∀ p,H p=none->Q (.ref p) (upd H p (.tup (vs++us)))) :
  wpAny (model X.prog X.w) X.A (binaryOp .Add (.ref l) (.ref b)) (EP X pins σ Q) X.xe s:=by
 by_cases hv:vs=[]
 ·obtain⟨its,r1,⟨⟨cls,dd,data,sl⟩,e1,c1,n1,dd1⟩,z1⟩:=I.tuple hl
  obtain⟨its2,r2,⟨⟨cls2,dd2,data2,sl2⟩,e2,c2,n2,Um⟩,z2⟩:=I.tuple hb
  simp only at c1 dd1 c2 Um
  subst c1 dd1 c2 Um
  have:its=[]:=r1.Bl.mpr hv
  exact concat_meets ⟨_,e1,rfl⟩ ⟨_,e2,rfl⟩ noFill_tuple_add seq_tuple_add PySem.F.slot_tuple_add y8 (yA _ _)
   (tuple_addW0 l b its.toArray its2.toArray n1 n2 dd dd2 sl sl2 (by simp[this])) ⟨e1,e2,⟨.ref b,H,I,rfl,q0 hv⟩⟩
 ·exact W9 pins s σ H (.ref l) (.ref b) (.ref l) (.ref b) Q I rfl rfl ⟨l,b,vs,us,rfl,rfl,hl,hb,hv,hz,q1,fun _=>q2⟩
def gZ:Bx->Bx->Option Bx
 |.z (.int i),.z (.int j)=>some (.z (.int (i+j)))
 |.z (.str i),.z (.str j)=>if i.length+j.length<=Nh then some (.z (.str (i++j))) else none
 |.z (.tup xs),.z (.tup ys)=>if xs.length+ys.length<=Nh then some (.z (.tup (xs++ys))) else none
 |a,b=>(qj a).bind fun xs=>(qj b).bind fun ys=>if xs.length+ys.length<=Nh then some (.o (xs++ys)) else none
theorem str_len (i j:Str):(i++j).length=i.length+j.length:=by
 show (i.cps++j.cps).size=_
 rw[KB];rfl
theorem dB:Hv X (binaryOp .Add) gZ:=by
 intro pins s σ H x y v u Q I rx ry h
 obtain⟨a,b,c,ra,rb,e,q⟩:=h
 have hbig:=XM
 unfold gZ at e
 split at e
 ·rename_i i j
  cases e
  exact aaD pins s σ H x y v u Q I rx ry ⟨i,j,JM ra,JM rb,q _ H (Same.refl H) trivial Cj⟩
 ·rename_i i j
  split at e
  ·rename_i hl
   cases e
   exact Mz pins s σ H x y v u Q I rx ry ⟨i,j,(Ng ra).1,(Ng rb).1,by omega,q _ H (Same.refl H) trivial (XJ (by rw[str_len];omega))⟩
  ·cases e
 ·rename_i xs ys
  split at e
  ·rename_i hl
   cases e
   obtain⟨l,vs,rfl,sl,rl⟩:=inT ra
   obtain⟨m,us,rfl,sm,rm⟩:=inT rb
   cases rx
   cases ry
   have h1:=rl.length
   have h2:=rm.length
   refine abf I sl sm (by omega) (fun z=>q _ H (Same.refl H) trivial ?_) (fun z=>q _ H (Same.refl H) trivial ?_) fun p hp=>q _ _ (bW hp) trivial ?_
   ·unfold bA Rep
    refine⟨m,us,rfl,sm,?_⟩
    have:xs=[]:=by subst z;exact List.eq_nil_of_length_eq_zero (by simpa using h1.symm)
    rw[this,ku];exact rm
   ·unfold bA Rep
    refine⟨l,vs,rfl,sl,?_⟩
    have:ys=[]:=by subst z;exact List.eq_nil_of_length_eq_zero (by simpa using h2.symm)
    rw[this,jS];exact rl
   ·unfold bA Rep
    exact⟨p,_,rfl,.inl (.inl bK),(rl.append rm).kp (.of (bW hp))⟩
  ·cases e
 ·obtain⟨xs,ea,e⟩:=bind_some e
  obtain⟨ys,eb,e⟩:=bind_some e
  split at e
  ·rename_i hl
   cases e
   obtain⟨l,vs,rfl,sl,rl⟩:=ra.Em ea
   obtain⟨m,us,rfl,sm,rm⟩:=rb.Em eb
   cases rx
   cases ry
   have h1:=rl.length
   have h2:=rm.length
   refine abe I sl sm (by omega) fun p hp=>q _ _ (bW hp) (fun a ea=>by cases ea;exact hp) ⟨p,_,rfl,bK,(rl.append rm).kp (.of (bW hp))⟩
  ·cases e
def xP:Bx->Bx->Option Bx
 |.z (.int i),.z (.int j)=>if (-(2 ^ 64) < i/\i < 2 ^ 64)\/(-(2 ^ 64) < j/\j < 2 ^ 64) then some (.z (.int (i * j))) else none
 |.z (.str x),.z (.int n)=>if n<=1000 ∧ -1000<=n/\x.length<=1000 then some (.z (.str (Txt.mul x n))) else none
 |_,_=>none
theorem vX (x:Array Nat):∀ (n:Nat) (acc:Array Nat),((List.replicate n x).foldl (·++·) acc).size=acc.size+n * x.size
 |0,acc=>by simp
 |n+1,acc=>by
  rw[List.replicate_succ,z4,vX x n,KB,Nat.succ_mul]
  omega
theorem HD (x:Str) (n:Int):(Txt.mul x n).length<=n.toNat * x.length+x.length:=by
 unfold Txt.mul
 split
 ·exact qA _
 ·split
  ·exact Nat.le_add_left _ _
  ·show ((List.replicate n.toNat x.cps).foldl (·++·) #[]).size<=_
   rw[vX]
   show (#[]:Array Nat).size+n.toNat * x.cps.size<=n.toNat * x.cps.size+x.cps.size
   simp
theorem uq:Hv X (binaryOp .Mult) xP:=by
 intro pins s σ H x y v u Q I rx ry h
 obtain⟨a,b,c,ra,rb,e,q⟩:=h
 unfold xP at e
 split at e
 ·rename_i i j
  split at e
  ·rename_i hl
   cases e
   exact aaF pins s σ H x y v u Q I rx ry ⟨i,j,JM ra,JM rb,hl,q _ H (Same.refl H) trivial Cj⟩
  ·cases e
 ·rename_i x' n
  split at e
  ·rename_i hl
   cases e
   obtain⟨rfl,hx⟩:=Ng ra
   have hy:=JM rb
   subst hy
   obtain⟨t,rfl⟩:=rx
   obtain⟨t',rfl⟩:=ry
   have hs:sizeLine=16777216:=sizeLine_eq
   have hm:n.toNat * x'.length<=1000 * 1000:=Nat.mul_le_mul (by omega) hl.2.2
   refine SB.mul ⟨?_,fun h1 h2=>?_,fun h1 h2=>?_⟩ fun t' k=>⟨.str _,H,I.tok _,⟨_,rfl⟩,q _ H (Same.refl H) trivial (XJ (z3 (HD x' n) (by omega)))⟩
   ·have e1:decide (n < -(2 ^ 63:Int))=false:=qc (by omega)
    have e2:decide (n>=2 ^ 63)=false:=qc (by omega)
    rw[e1,e2];rfl
   ·have hn:0 < n:=by omega
    have:(1000:Int)<=(2 ^ 63 - 1) / n:=(Int.le_ediv_iff_mul_le hn).mpr (by omega)
    omega
   ·show decide (x'.length * n.toNat > sizeLine)=false
    rw[Nat.mul_comm]
    exact qc (by omega)
  ·cases e
 ·cases e
def ZJ (i j:Str):Bool:=!(Builtin.Str.occurrences j i 0 j.length 1).isEmpty
def xQ:Dt->Bool
 |.non=>true
 |.bl _=>true
 |.int _=>true
 |.str _=>true
 |_=>false
def memD (x:Dt) (ys:List Dt):Option Bool:=if xQ x=true/\ys.all xQ=true then some (ys.any fun y=>match vI y x with|some true=>true|_=>false) else none
def uw:Bx->Option (List Dt)
 |.z (.lst ds)=>some ds
 |.z (.tup ds)=>some ds
 |.l ds=>some ds
 |.o ds=>some ds
 |_=>none
def inB:Bx->Bx->Option Bool
 |.z (.str i),.z (.str j)=>some (ZJ i j)
 |.z d,b=>(uw b).bind fun ys=>memD d ys
 |_,_=>none
def inF (a b:Bx):Option Bx:=(inB a b).bind fun k=>some (.z (.bl k))
theorem Kc {K:PySem.W.Frag} {H:Hp} {d:Dt} {v:V} (r:Rep K H d v) (f:xQ d=true):tH v=true:=by
 cases d<;>first|(cases f;done)|skip
 all_goals simp only[Rep] at r
 ·subst r;rfl
 ·subst r;rfl
 ·subst r;rfl
 ·obtain⟨rfl,_⟩:=r;rfl
theorem Gp {K:PySem.W.Frag} {H:Hp}:∀ {ds:List Dt} {vs:List V},aJ K H ds vs->ds.all xQ=true->vs.all tH=true
 |[],_,h,_=>by simp only[aJ] at h;subst h;rfl
 |d::ds,_,h,f=>by
  simp only[aJ] at h
  obtain⟨v,r,rfl,h1,h2⟩:=h
  rw[kz,ZN] at f
  rw[kz,Kc h1 f.1,Gp h2 f.2];rfl
theorem HF (b:Bool):(match some b with|some true=>true|_=>false)=b:=by cases b<;>rfl
theorem XQ {K:PySem.W.Frag} {H:Hp} {d e:Dt} {x y:V} (rd:Rep K H d x) (re:Rep K H e y) (fd:xQ d=true) (fe:xQ e=true):Rb x y=(match vI d e with|some true=>true|_=>false):=by
 cases d<;>first|(cases fd;done)|skip
 all_goals (cases e<;>first|(cases fe;done)|skip)
 all_goals simp only[Rep] at rd re
 all_goals first
  |(subst rd;subst re;simp only[Rb,vI,HF])
  |(obtain⟨rfl,_⟩:=rd;subst re;simp only[Rb,vI,HF])
  |(subst rd;obtain⟨rfl,_⟩:=re;simp only[Rb,vI,HF])
  |(obtain⟨rfl,_⟩:=rd;obtain⟨rfl,_⟩:=re;simp only[Rb,vI,HF])
theorem Pz {K:PySem.W.Frag} {H:Hp} {d:Dt} {x:V} (rd:Rep K H d x) (fd:xQ d=true):∀ {ds:List Dt} {vs:List V},aJ K H ds vs->ds.all xQ=true->inV x vs=ds.any fun y=>match vI y d with|some true=>true|_=>false
 |[],_,h,_=>by simp only[aJ] at h;subst h;rfl
 |e::ds,_,h,f=>by
  simp only[aJ] at h
  obtain⟨v,r,rfl,h1,h2⟩:=h
  rw[kz,ZN] at f
  have:=Pz rd fd h2 f.2
  unfold inV at this ⊢
  rw[kb,kb,XQ h1 rd f.1 fd,this]
theorem xR {K:PySem.W.Frag} {H:Hp} {b:Bx} {v:V} {ds:List Dt} (h:bA K H b v) (e:uw b=some ds):∃ a vs,v=.ref a/\(tR K H a vs\/vH K H a vs)/\aJ K H ds vs:=by
 cases b with
 |z d=>
  cases d<;>first|(cases e;done)|skip
  ·cases e
   obtain⟨a,vs,e,q,r⟩:=inT h
   exact⟨a,vs,e,.inr q,r⟩
  ·cases e
   obtain⟨a,vs,e,q,r⟩:=h.Em rfl
   exact⟨a,vs,e,.inl q,r⟩
 |l ds'=>
  cases e
  obtain⟨a,vs,e,q,r⟩:=h.Em rfl
  exact⟨a,vs,e,.inl q,r⟩
 |o ds'=>
  cases e
  obtain⟨a,vs,e,q,r⟩:=h.Em rfl
  exact⟨a,vs,e,.inl q,r⟩
 |n _=>cases e
 |m _ _=>cases e
theorem Rr {H:Hp} {a b:Bx} {x y:V} {k:Bool} (ra:bA X.K H a x) (rb:bA X.K H b y) (e:inB a b=some k) :
  (∃ i j,x=.str i/\y=.str j/\k=ZJ i j)\/(∃ p xs,y=.ref p/\(tR X.K H p xs\/vH X.K H p xs)/\tH x=true/\xs.all tH=true/\k=inV x xs):=by
 unfold inB at e
 split at e
 ·rename_i i j
  cases e
  exact .inl ⟨i,j,(Ng ra).1,(Ng rb).1,rfl⟩
 ·rename_i d _
  obtain⟨ys,ey,e⟩:=bind_some e
  unfold memD at e
  split at e
  ·rename_i hf
   cases e
   obtain⟨p,vs,rfl,sq,rs⟩:=xR rb ey
   have ra':Rep X.K H d x:=ra
   exact .inr ⟨p,vs,rfl,sq,Kc ra' hf.1,Gp rs hf.2,(Pz ra' hf.1 rs hf.2).symm⟩
  ·cases e
 ·cases e
theorem ZK:Hv X (compareOp .In) inF:=by
 intro pins s σ H x y v u Q I rx ry h
 obtain⟨a,b,c,ra,rb,e,q⟩:=h
 obtain⟨k,ek,e⟩:=bind_some e
 cases e
 rcases Rr ra rb ek with⟨i,j,rfl,rfl,rfl⟩|⟨p,xs,rfl,sq,f1,f2,rfl⟩
 ·exact Q7 pins s σ H _ _ v u Q I rx ry ⟨i,j,rfl,rfl,q _ H (Same.refl H) trivial aa9⟩
 ·exact Rc pins s σ H _ _ v u Q I rx ry ⟨p,xs,rfl,sq,f1,f2,q _ H (Same.refl H) trivial aa9⟩
def Ni:Bx->Bool
 |.z .non=>true
 |_=>false
theorem Rt {K:PySem.W.Frag} {H:Hp} {b:Bx} {v:V} (h:bA K H b v):decide (v=.non)=Ni b:=by
 cases b with
 |z d=>
  cases d<;>simp only[bA,Rep] at h
  ·subst h;rfl
  ·subst h;rfl
  ·subst h;rfl
  ·obtain⟨rfl,_⟩:=h;rfl
  ·obtain⟨_,_,rfl,_⟩:=h;rfl
  ·obtain⟨_,_,rfl,_⟩:=h;rfl
  ·obtain⟨_,_,rfl,_⟩:=h;rfl
 |l ds=>obtain⟨_,_,rfl,_⟩:=h;rfl
 |o ds=>obtain⟨_,_,rfl,_⟩:=h;rfl
 |n ds=>obtain⟨_,_,rfl,_⟩:=h;rfl
 |m ds _=>obtain⟨_,_,rfl,_⟩:=h;rfl
def isB (a:Bx):Bx->Option Bx
 |.z .non=>some (.z (.bl (Ni a)))
 |_=>none
theorem of_is:Hv X (compareOp .Is) isB:=wG.imp aaI fun x y H Q q=>by
 obtain⟨a,b,c,ra,rb,e,q⟩:=q
 unfold isB at e
 split at e
 ·cases e
  simp only[bA,Rep] at rb
  exact⟨rb,by rw[Rt ra];exact q _ H (Same.refl H) trivial aa9⟩
 ·cases e
def lg:Bx->Bx->Option Bx
 |.z (.str x),.z (.int i)=>(Ej x.cps.toList i).bind fun c=>some (.z (.str ⟨#[c]⟩))
 |b,.z (.int i)=>(uw b).bind fun ds=>(Ej ds i).bind fun d=>some (.z d)
 |_,_=>none
theorem XR {K:PySem.W.Frag} {H:Hp} {ds:List Dt} {vs:List V} {i:Int} {d:Dt} (r:aJ K H ds vs) (e:Ej ds i=some d):∃ v,Ej vs i=some v/\Rep K H d v:=by
 unfold Ej at e ⊢
 rw[r.length]
 obtain⟨j,ej,e⟩:=bind_some e
 rw[ej]
 exact r.get e
theorem bM {a b:Expr} {fa fb:Ev->Option Bx} {pos:Pos} (ha:QV X a fa) (hb:QV X b fb) (hs:Pj b:=by intro _ _;with_unfolding_all rfl):QV X (.Subscript a b pos) (b2 lg fa fb):=⟨have ha:=ha.run;have hb:=hb.run;M5 (ac3 aaU ha hb hs) fun σ H Q h=>by
 obtain⟨H0,ρ,c,E,e,q⟩:=h
 obtain⟨a,ea,e⟩:=bind_some e
 obtain⟨b,eb,e⟩:=bind_some e
 refine⟨H0,ρ,a,E,ea,fun v H1 s1 n1 r1=>⟨H0,ρ,b,E.grow s1,eb,fun u H2 s2 n2 r2=>?_⟩⟩
 have r1':=r1.same s2
 unfold lg at e
 split at e
 ·rename_i x i
  obtain⟨c',ec,e⟩:=bind_some e
  cases e
  exact .inr (.inr ⟨_,_,c',(Ng r1').1,JM r2,(Ng r1').2,ec,q _ _ (s1.trans s2) trivial (XJ (by show (1:Nat)<=sizeLine;decide))⟩)
 ·obtain⟨ds,ed,e⟩:=bind_some e
  obtain⟨d,ei,e⟩:=bind_some e
  cases e
  obtain⟨p,vs,rfl,sq,rs⟩:=xR r1' ed
  obtain⟨w,ew,O9⟩:=XR rs ei
  have hi:=JM r2
  rcases sq with sq|sq
  ·exact .inl ⟨p,vs,_,w,rfl,hi,sq,ew,q _ _ (s1.trans s2) trivial O9⟩
  ·exact .inr (.inl ⟨p,vs,_,w,rfl,hi,sq,ew,q _ _ (s1.trans s2) trivial O9⟩)
 ·cases e⟩
end
theorem abg:bootBuiltins "int" = some (.type "int"):=by decide +kernel
theorem iY:bootBuiltins "tuple" = some (.type "tuple"):=by decide +kernel
theorem XS:bootBuiltins "list" = some (.type "list"):=by decide +kernel
theorem qP:bootBuiltins "len" = some (.builtin "len"):=by decide +kernel
theorem abh:bootBuiltins "abs" = some (.builtin "abs"):=by decide +kernel
theorem HJ:bootBuiltins "min" = some (.builtin "min"):=by decide +kernel
theorem ux:bootBuiltins "max" = some (.builtin "max"):=by decide +kernel
theorem vB:bootBuiltins "sorted" = some (.builtin "sorted"):=by decide +kernel
section
variable {X:Cx} {pins:List (Addr×Obj)} {σ:L2.St} {H:Hp} {s:Shared}
def tFO (K:PySem.W.Frag) (f:Ev->Option (Option Int)):TO:=fun σ H Q=>∃ H0 ρ o,bU K H0 H σ ρ/\f ρ=some o/\∀ H',Same H H'->Q o H'
def PVo (X:Cx) (e:Option Expr) (f:Ev->Option (Option Int)):Prop:=PO X e (tFO X.K f)
structure QVo (X:Cx) (e:Option Expr) (f:Ev->Option (Option Int)):Prop where
 run:PVo X e f
theorem poM {e:Option Expr} {t t':TO} (h:PO X e t) (m:∀ σ H Q,t' σ H Q->t σ H Q):PO X e t':=fun pins s σ H Q I q=>h pins s σ H Q I (m σ H Q q)
def wI:Ev->Option (Option Int):=fun _=>some none
theorem uy  : QVo X none wI:=⟨poM W7 fun σ H Q h=>by
 obtain⟨H0,ρ,o,E,e,q⟩:=h
 cases e
 exact q H (Same.refl H)⟩
def abj:Bx->Option (Option Int)
 |.z (.int i)=>some (some i)
 |_=>none
def zZ (f:Ev->Option Bx):Ev->Option (Option Int):=fun ρ=>(f ρ).bind abj
theorem uD {e:Expr} {f:Ev->Option Bx} (h:QV X e f):QVo X (some e) (zZ f):=⟨have h:=h.run;poM (W8 h) fun σ H Q q=>by
 obtain⟨H0,ρ,o,E,e,q⟩:=q
 obtain⟨b,eb,e⟩:=bind_some e
 refine⟨H0,ρ,b,E,eb,fun v H1 s1 n1 r1=>?_⟩
 unfold abj at e
 split at e
 ·rename_i i
  cases e
  exact⟨i,JM r1,q H1 s1⟩
 ·cases e⟩
def cutD (xs:List Dt) (lo hi:Option Int):List Dt:=(xs.drop (HT.jX xs.length 0 lo)).take (HT.jX xs.length xs.length hi - HT.jX xs.length 0 lo)
theorem Kd {K:PySem.W.Frag} {H:Hp} {ds:List Dt} {vs:List V} (r:aJ K H ds vs) (lo hi:Option Int):aJ K H (cutD ds lo hi) (JX vs lo hi):=by
 unfold cutD JX
 rw[r.length]
 exact (r.drop _).take _
theorem Uo (ds:List Dt) {lo hi:Option Int} (h1:HT.jX ds.length 0 lo=0) (h2:HT.jX ds.length ds.length hi=ds.length):cutD ds lo hi=ds:=by
 unfold cutD
 rw[h1,h2]
 simp
theorem xT {t sl:Addr} {items:Array Value} {vl vu:Value} {lo hi:Option Int} {Q:Value->Shared->Prop} {prog:Program} {w:World} {A:Around} {E:Value->Shared->Prop} {s:Shared} (ht:IsTup s.heap t items) (hs:s.heap.IsSliceOf sl vl vu .none) (pl:IsPart vl lo) (pu:IsPart vu hi)
  (h1:HT.jX items.size 0 lo=0) (h2:HT.jX items.size items.size hi=items.size)
  (h:Q (.ref t) s):wpAny (model prog w) A (getItem (.ref t) (.ref sl)) Q E s:=by
 obtain⟨os,hos,hcs,hds⟩:=id hs
 have hTs:s.TypeIs (.ref sl) "slice" := ⟨os,hos,hcs⟩
 unfold getItem
 try with_reducible refine qo ?_
 first|refine zb (ze ?_)|skip
 refine zb (wpAny_sequenceKey ht.typeIs (by decide) ?_)
 refine zb (QE (name:=Str.ofString "__getitem__") ht.typeIs PyProof.Rows.slot_tuple_getitem
  (qv PyProof.Rows.slot_tuple_getitem ht.typeIs entry_tuple_getitem ?_ (args_tuple_getitem _ _)))
 show wpAny _ _ (Builtin.Tuple.tupleItemsOf (.ref t) >>= _) _ _ s
 refine zb (tupleItemsOf_ ht ?_)
 refine zb (QP hTs ?_)
 rw[zo (by decide)]
 refine zb (HT.qZ hs pl pu ?_)
 have hyes:(((HT.jX items.size 0 lo:Nat):Int)==0&&(1:Int)==1&&(HT.jX items.size items.size hi - HT.jX items.size 0 lo)==items.size)=true:=by
  rw[h1,h2];simp
 show wpAny _ _ (if (((HT.jX items.size 0 lo:Nat):Int)==0&&(1:Int)==1&&(HT.jX items.size items.size hi - HT.jX items.size 0 lo)==items.size)=true then _ else _) _ _ s
 rw[zo hyes]
 first
  |refine zb (zb (QP ht.typeIs (ze ?_)))
  |refine zb (QP ht.typeIs (zb (ze ?_)))
  |refine zb (QP ht.typeIs ?_)
 rw[zo (by decide)]
 first
  |exact zb (kD (ze ⟨_,rfl,ze h⟩))
  |exact zb (kD (zb (ze (ze ⟨_,rfl,ze h⟩))))
def slB (b:Bx) (lo hi:Option Int):Option Bx:=match b with
 |.z (.str x)=>some (.z (.str (Txt.slice x lo hi)))
 |.z (.tup ds)=>some (.z (.tup (cutD ds lo hi)))
 |b=>(qj b).bind fun ds=>some (.o (cutD ds lo hi))
def rSl (K:PySem.W.Frag):V->Option Int->Option Int->Hp->VK->Prop:=fun x lo hi H Q=>∃ b c,bA K H b x/\slB b lo hi=some c/\∀ w H',Same H H'->Nw H c w->bA K H' c w->Q w H'
theorem abl:Zw X (rSl X.K):=by
 intro pins s σ H x v vl vu lo hi sl Q I rx hs pl pu h
 obtain⟨b,c,rb,e,q⟩:=h
 unfold slB at e
 split at e
 ·rename_i y
  cases e
  obtain⟨rfl,hy⟩:=Ng rb
  obtain⟨t,rfl⟩:=rx
  refine⟨"str", _,F.slot_str_getitem.lookup,typeIs_str _ _ _,?_⟩
  obtain⟨o,e1,e2,e3⟩:=hs
  have fin:∀ t' k,EP X pins σ Q (.str (Txt.slice y lo hi) t') { s with toks:=k }:=fun t' k=>⟨.str _,H,I.tok _,⟨_,rfl⟩,q _ H (Same.refl H) trivial (XJ (z3 (Txt.slice_le y _ _) hy))⟩
  cases pl with
  |none=>
   cases pu with
   |none=>exact kS (l:=none) (u:=none) (st:=none) ⟨o,e1,e2,e3⟩ rfl (post_val_or_str ⟨z3 (Txt.slice_le y _ _) hy,fin⟩)
   |int j uj=>exact kS (l:=none) (u:=some (j,uj)) (st:=none) ⟨o,e1,e2,e3⟩ rfl (post_val_or_str ⟨z3 (Txt.slice_le y _ _) hy,fin⟩)
  |int i ui=>
   cases pu with
   |none=>exact kS (l:=some (i,ui)) (u:=none) (st:=none) ⟨o,e1,e2,e3⟩ rfl (post_val_or_str ⟨z3 (Txt.slice_le y _ _) hy,fin⟩)
   |int j uj=>exact kS (l:=some (i,ui)) (u:=some (j,uj)) (st:=none) ⟨o,e1,e2,e3⟩ rfl (post_val_or_str ⟨z3 (Txt.slice_le y _ _) hy,fin⟩)
 ·rename_i ds
  cases e
  obtain⟨a,vs,rfl,sq,rs⟩:=inT rb
  by_cases hw:HT.jX vs.length 0 lo=0/\HT.jX vs.length vs.length hi=vs.length
  ·cases rx
   obtain⟨its,r,ht,hz⟩:=I.tuple sq
   have hlen:its.toArray.size=vs.length:=by rw[zC];exact r.length.symm
   refine⟨"tuple", _,PyProof.Rows.slot_tuple_getitem.lookup,ht.typeIs,xT ht hs pl pu (by rw[hlen];exact hw.1) (by rw[hlen];exact hw.2) ⟨.ref a,H,I,rfl,q _ H (Same.refl H) trivial ?_⟩⟩
   rw[Uo ds (by rw[<-rs.length];exact hw.1) (by rw[<-rs.length];exact hw.2)]
   exact rb
  ·refine aaR pins s σ H _ v vl vu lo hi sl Q I rx hs pl pu ⟨a,vs,rfl,sq,hw,fun p hp=>q _ _ (bW hp) trivial ?_⟩
   unfold bA Rep
   exact⟨p,_,rfl,.inl (.inl bK),(Kd rs lo hi).kp (.of (bW hp))⟩
 ·obtain⟨ds,ed,e⟩:=bind_some e
  cases e
  obtain⟨a,vs,rfl,sq,rs⟩:=rb.Em ed
  exact Xd pins s σ H _ v vl vu lo hi sl Q I rx hs pl pu ⟨a,vs,rfl,sq,fun p hp=>q _ _ (bW hp) (fun a ea=>by cases ea;exact hp) ⟨p,_,rfl,bK,(Kd rs lo hi).kp (.of (bW hp))⟩⟩
def PJ (f:Ev->Option Bx) (fl fh:Ev->Option (Option Int)):Ev->Option Bx:=fun ρ=>(f ρ).bind fun b=>(fl ρ).bind fun lo=>(fh ρ).bind fun hi=>slB b lo hi
theorem Ke {e:Expr} {lo hi:Option Expr} {f:Ev->Option Bx} {fl fh:Ev->Option (Option Int)} {p2 pos:Pos} (he:QV X e f) (hl:QVo X lo fl) (hh:QVo X hi fh):QV X (.Subscript e (.Slice lo hi none p2) pos) (PJ f fl fh):=⟨have he:=he.run;have hl:=hl.run;have hh:=hh.run;M5 (TF abl he hl hh) fun σ H Q h=>by
 obtain⟨H0,ρ,c,E,e,q⟩:=h
 obtain⟨b,eb,e⟩:=bind_some e
 obtain⟨lo,el,e⟩:=bind_some e
 obtain⟨hi,eh,e⟩:=bind_some e
 refine⟨H0,ρ,b,E,eb,fun v H1 s1 n1 r1=>⟨H0,ρ,lo,E.grow s1,el,fun H2 s2=>⟨H0,ρ,hi,E.grow (s1.trans s2),eh,fun H3 s3=>?_⟩⟩⟩
 have s13:=(s1.trans s2).trans s3
 exact⟨b,c,(r1.same s2).same s3,e,fun w H4 s4 n4 r4=>q w H4 (s13.trans s4) (n4.old s13) r4⟩⟩
def rU:List Bx->Option Bx
 |[.z (.str x)]=>some (.z (.int x.length))
 |[b]=>(uw b).bind fun ds=>some (.z (.int ds.length))
 |_=>none
theorem rep1 {K:PySem.W.Frag} {H:Hp} {b:Bx} {vs:List V} (r:pB K H [b] vs):∃ v,vs=[v]/\bA K H b v:=by
 cases r with
 |cons p t=>cases t;exact⟨_,rfl,p⟩
theorem qQ:qt X (.builtin "len") rU:=jW.imp (Hr.or Ht) fun xs H Q q=>by
 obtain⟨bs,c,rb,e,q⟩:=q
 unfold rU at e
 split at e
 ·rename_i x
  cases e
  obtain⟨v,rfl,r1⟩:=rep1 rb
  obtain⟨rfl,hx⟩:=Ng r1
  exact .inr ⟨x,rfl,hx,q _ H (Same.refl H) trivial Cj⟩
 ·obtain⟨ds,ed,e⟩:=bind_some e
  cases e
  obtain⟨v,rfl,r1⟩:=rep1 rb
  obtain⟨p,vs,rfl,sq,rs⟩:=xR r1 ed
  exact .inl ⟨p,vs,rfl,sq,by rw[rs.length];exact q _ H (Same.refl H) trivial Cj⟩
 ·cases e
def Uq:List Bx->Option Bx
 |[.z (.int i)]=>some (.z (.int (if i < 0 then -i else i)))
 |_=>none
theorem abm:qt X (.builtin "abs") Uq:=jW.imp Tv fun xs H Q q=>by
 obtain⟨bs,c,rb,e,q⟩:=q
 unfold Uq at e
 split at e
 ·rename_i i
  cases e
  obtain⟨v,rfl,r1⟩:=rep1 rb
  have:=JM r1
  subst this
  exact⟨i,rfl,q _ H (Same.refl H) trivial Cj⟩
 ·cases e
def Ur:List Bx->Option Bx
 |[.z (.int i)]=>some (.z (.int i))
 |[.z (.bl k)]=>some (.z (.int (if k then 1 else 0)))
 |_=>none
theorem abn:qt X (.type "int") Ur:=jW.imp Q8 fun xs H Q q=>by
 obtain⟨bs,c,rb,e,q⟩:=q
 unfold Ur at e
 split at e
 ·rename_i i
  cases e
  obtain⟨v,rfl,r1⟩:=rep1 rb
  have:=JM r1
  subst this
  exact .inl ⟨i,rfl,q _ H (Same.refl H) trivial Cj⟩
 ·rename_i k
  cases e
  obtain⟨v,rfl,r1⟩:=rep1 rb
  simp only[bA,Rep] at r1
  subst r1
  exact .inr ⟨k,rfl,q _ H (Same.refl H) trivial Cj⟩
 ·cases e
def iZ:List Bx->Option Bx
 |[b]=>(uw b).bind fun ds=>some (.z (.tup ds))
 |_=>none
theorem jc:qt X (.type "tuple") iZ:=jW.imp El fun xs H Q q=>by
 obtain⟨bs,c,rb,e,q⟩:=q
 unfold iZ at e
 split at e
 ·obtain⟨ds,ed,e⟩:=bind_some e
  cases e
  obtain⟨v,rfl,r1⟩:=rep1 rb
  obtain⟨p,vs,rfl,sq,rs⟩:=xR r1 ed
  refine⟨p,vs,rfl,?_⟩
  rcases sq with sq|sq
  ·refine .inl ⟨sq,fun l hl=>q _ _ (bW hl) trivial ?_⟩
   unfold bA Rep
   exact⟨l,vs,rfl,.inl (.inl bK),rs.kp (.of (bW hl))⟩
  ·refine .inr ⟨sq,q _ H (Same.refl H) trivial ?_⟩
   unfold bA Rep
   exact⟨p,vs,rfl,sq,rs⟩
 ·cases e
end
end P1
end
section
namespace P1
open PySem PySem.Spec PyProof.Rows L2
def gv (i:Nat):Ev->Option Bx:=fun ρ=>yW ρ i
def wJ (g:Bx->Bx->Option Bx) (fa fb:Ev->Option Bx):Ev->Option Bool:=fun ρ=>(b2 g fa fb ρ).bind T8
def tV (f:Ev->Option Bx):Ev->Option Bool:=fun ρ=>(f ρ).bind Xm
def aG:Ev->Option (List Bx):=fun _=>some []
def lq:Ev->Option Out:=fun ρ=>some (.nx ρ)
def mG (f:Ev->Option Bx):Ev->Option Out:=fun ρ=>(f ρ).bind Ud
def setG (i:Nat) (f:Ev->Option Bx):Ev->Option Out:=fun ρ=>(f ρ).bind fun b=>(Ue ρ i b).bind fun ρ'=>some (.nx ρ')
def Ar (gt:Dt->Ev->Option Ev) (f:Ev->Option Bx):Ev->Option Out:=fun ρ=>(f ρ).bind fun b=>match b with|.z d=>(gt d ρ).bind fun ρ'=>some (.nx ρ')|_=>none
def X3 (i j:Nat) (fs:Ev->Option (List Bx)):Ev->Option Out:=fun ρ=>(fs ρ).bind (Xu i j ρ)
def Eo (i:Nat) (f:Ev->Option Bx):Ev->Option Out:=fun ρ=>(f ρ).bind (Xv ρ i)
def xU (fi:Ev->Option (List Dt)) (gt:Dt->Ev->Option Ev) (gb:Ev->Option Out):Ev->Option Out:=fun ρ=>(fi ρ).bind fun ds=>qO gt gb ds ρ
def itF (f:Ev->Option Bx):Ev->Option (List Dt):=fun ρ=>(f ρ).bind Xw
def Cm (f:Ev->Option Bx):Ev->Option (List Dt):=fun ρ=>(f ρ).bind XF
def S7 (fs:Ev->Option (List Bx)):Ev->Option (List Dt):=fun ρ=>(fs ρ).bind aa4
def gC (i:Nat):Dt->Ev->Option Ev:=fun d ρ=>some (ρ.set i (some (.z d)))
def rA:Ev->Option Bool:=fun _=>some true
theorem d8 {X:Cx}:yZ X [] rA:=⟨.inl ⟨rfl,rfl⟩⟩
theorem jZ {X:Cx} {c:Expr} {p:Ev->Option Bool} (h:QB X c p):yZ X [c] p:=⟨have h:=h.run;.inr ⟨c,rfl,h⟩⟩
theorem abo {X:Cx} {scope:Scope} {cl:List (Str×Addr)}:xM X scope cl [] []:=trivial
theorem X4 {X:Cx} {scope:Scope} {cl:List (Str×Addr)} {x:Str} {i:Nat} {xs:List Str} {is:List Nat} (n:X.N[i]?=some x) (k:X.env.kindOf x=some .cell\/X.env.kindOf x=some .free)
  (k':(relabel scope X.env).names.lookup x=some .cell\/(relabel scope X.env).names.lookup x=some .free) (c:∃ c,cl.lookup x=some c) (r:xM X scope cl xs is):xM X scope cl (x::xs) (i::is):=⟨⟨n,k,k',c⟩,r⟩
theorem mem_of_lookup {names:List (Str×NameKind)} {x:Str} {k:NameKind}:names.lookup x=some k->(x,k)∈names:=ke
theorem abp {X:Cx} {scope:Scope} {cl:List (Str×Addr)} {xs:List Str} {is:List Nat} (clos:closureFor scope X.env=pure cl) (kind:scope.kind=.function) (cell:scope.names.all (fun y=>decide (y.2≠.cell))=true)
  (names:scope.names.all (fun y=>decide (y.2=.local->scope.names.lookup y.1=some .local))=true) (sub:SubL X.env.cells cl)
  (has:(relabel scope X.env).names.all (fun y=>!(y.2==.cell||y.2==.free)||(cl.lookup y.1).isSome)=true) (cap:xM X scope cl xs is):za X scope cl xs is where
 clos:=clos
 kind:=kind
 cell:=fun y hy=>ja (List.all_eq_true.mp cell y hy)
 names:=fun y hy=>ja (List.all_eq_true.mp names y hy)
 sub:=sub
 has:=fun x hx=>by
  have h:∃ k,(relabel scope X.env).names.lookup x=some k/\(k==NameKind.cell||k==NameKind.free)=true:=by
   rcases hx with hx|hx
   ·exact⟨_,hx,rfl⟩
   ·exact⟨_,hx,rfl⟩
  obtain⟨k,e,hk⟩:=h
  have:=List.all_eq_true.mp has _ (mem_of_lookup e)
  simp only[hk,kA,Bool.false_or] at this
  exact Option.isSome_iff_exists.mp this
 cap:=cap
theorem gU {k:Nat} {A:Around} (r:m5 k A):A.units+100 < cLine:=by have:=r.un;omega
theorem abq {F:List Bx->Option Bx} (h:∀ ns:List Int,ns.length<=63->F [.z (.lst (ns.map .int))]=some (.z (.bl true))) (hl:∀ ns:List Int,ns.length<=63->F [.l (ns.map .int)]=some (.z (.bl true))) (K:PySem.W.Frag) (H:Hp) (a:Addr) (ns:List Int) (hn:ns.length<=63) (_:Only H) (hS:tR K H a (ns.map V.int)) :
  pW K 1 F [.ref a] H (fun v _=>v=.bl true) fun _ _ _=>False:=by
 have rs:∀ ms:List Int,aJ K H (ms.map Dt.int) (ms.map V.int):=fun ms=>by
  induction ms with
  |nil=>exact aJ.nil
  |cons m ms ih=>exact aJ.cons (by unfold Rep;rfl) ih
 have fin:∀ v (H':Hp),Same H H'->Nw H (.z (.bl true)) v->bA K H' (.z (.bl true)) v->v=.bl true:=fun v H' _ _ r=>by simpa only[bA,Rep] using r
 rcases hS with hS|hS
 ·exact⟨rfl,[.l (ns.map .int)],_,.cons ⟨a,_,rfl,hS,rs ns⟩ .nil,rfl,hl ns hn,fin⟩
 ·refine⟨rfl,[.z (.lst (ns.map .int))],_,.cons ?_ .nil,rfl,h ns hn,fin⟩
  unfold bA Rep
  exact⟨a,_,rfl,.inr hS,rs ns⟩
theorem afy {P:Program} {w:World} {K:PySem.W.Frag} {mg:Str->Option Value} {base:Heap} {x qual:Str} {st:Stmt} {f:Addr} {fd:FuncData} {N ps:List Str} {k n m:Nat} {g:Ev->Option Out} (F:yU K x qual st f fd) (S:dh N ps (aK st)) (hn:N.length=n) (hm:ps.length=m)
  (hbody:∀ (cdv:Value) (A:Around) (outer:List Env) (s:Shared) (H:Hp) (E:XK),m5 k (A.deeper (envOfC qual (aK st) s.heap.objs.size f cdv))->QZ (Ei m7 P w K mg base N qual (aK st) f cdv A outer s H E).S5 (cH st) g) :
  dG P w K mg base m7 (k+1) f fd ps (pW K m (lO n g)):=by
 subst hn hm
 exact afv F S hbody
section
variable {X:Cx} {e st:Expr} {f fs:Ev->Option Bx} {pos p2:Pos}
section
variable {prog:Program} {w:World} {A:Around} {E:Value->Shared->Prop} {s:Shared}
theorem HN {α β:Type} {f:α->Option β} {g:α->β}:∀ l:List α,(∀ a∈l,f a=some (g a))->l.filterMap f=l.map g
 |[],_=>rfl
 |a::l,h=>by
  rw[kM,h a (zh ..),zk,HN l fun b hb=>h b (zg _ hb)]
end
end
section
variable {X:Cx} {e:Expr} {f:Ev->Option Bx}
def ltA:Bx->Bx->Option Bx
 |.z (.int i),.z (.int j)=>some (.z (.bl (decide (i < j))))
 |.z (.str x),.z (.str y)=>some (.z (.bl (decide (x.cps.toList < y.cps.toList))))
 |_,_=>none
theorem Nj:Hv X (compareOp .Lt) ltA:=by
 intro pins s σ H x y v u Q I rx ry h
 obtain⟨a,b,c,ra,rb,e,q⟩:=h
 unfold ltA at e
 split at e
 ·rename_i i j
  cases e
  exact acT pins s σ H x y v u Q I rx ry ⟨i,j,JM ra,JM rb,q _ H (Same.refl H) trivial (by unfold bA;exact okT)⟩
 ·rename_i i j
  cases e
  obtain⟨rfl,_⟩:=Ng ra
  obtain⟨rfl,_⟩:=Ng rb
  obtain⟨t,rfl⟩:=rx
  obtain⟨t',rfl⟩:=ry
  exact PySem.P.lt_str ⟨.bl _,H,I,rfl,q _ H (Same.refl H) trivial (by unfold bA;exact okT)⟩
 ·cases e
def Cp:List Dt->Option (List Str)
 |[]=>some []
 |.str x::r=>(Cp r).bind fun ys=>some (x::ys)
 |_=>none
theorem zj {K:PySem.W.Frag} {H:Hp}:∀ {ds:List Dt} {vs:List V} {ys:List Str},aJ K H ds vs->Cp ds=some ys->vs=ys.map V.str/\∀ y∈ys,y.length<=sizeLine
 |[],_,_,h,e=>by cases e;simp only[aJ] at h;subst h;exact⟨rfl,fun y hy=>by cases hy⟩
 |.str x::ds,_,_,h,e=>by
  simp only[Cp] at e
  obtain⟨ys,e1,e2⟩:=bind_some e
  cases e2
  simp only[aJ] at h
  obtain⟨v,r,rfl,hd,hr⟩:=h
  obtain⟨rfl,hx⟩:v=.str x/\x.length<=sizeLine:=by simpa only[Rep] using hd
  obtain⟨rfl,h2⟩:=zj hr e1
  refine⟨rfl,fun y hy=>?_⟩
  rcases List.mem_cons.mp hy with rfl|hy
  ·exact hx
  ·exact h2 y hy
 |.non::_,_,_,_,e=>by cases e
 |.bl _::_,_,_,_,e=>by cases e
 |.int _::_,_,_,_,e=>by cases e
 |.tup _::_,_,_,_,e=>by cases e
 |.lst _::_,_,_,_,e=>by cases e
 |.emp::_,_,_,_,e=>by cases e
theorem Cq {K:PySem.W.Frag} {H:Hp}:∀ {ys:List Str},(∀ y∈ys,y.length<=sizeLine)->aJ K H (ys.map Dt.str) (ys.map V.str)
 |[],_=>aJ.nil
 |y::ys,h=>aJ.cons (by unfold Rep;exact⟨rfl,h y (zh ..)⟩) (Cq fun z hz=>h z (zg _ hz))
theorem wK:∀ {ys:List Str} {its:List Value},Vals (ys.map V.str) its->StrsAre its ys
 |[],_,h=>by cases h;exact .nil
 |y::ys,_,h=>by
  cases h with
  |cons r t=>
   obtain⟨tk,rfl⟩:=r
   exact .cons y tk (wK t)
theorem zm:∀ {its:List Value} {ys:List Str},StrsAre its ys->Vals (ys.map V.str) its
 |_,_,.nil=>.nil
 |_,_,.cons y t h=>.cons ⟨t,rfl⟩ (zm h)
theorem HS:jW X (.builtin "sorted") (fun xs H Q=>∃ p ys,xs=[.ref p]/\tR X.K H p (ys.map V.str)/\ys.length < 64/\∀ l zs,H l=none->zs.Perm ys->sortedS zs=true->Q (.ref l) (upd H l (.lst (zs.map V.str)))):=by
 intro pins s σ H xs us Q I r h
 obtain⟨p,ys,rfl,hq,h64,q⟩:=h
 obtain⟨u,rfl,rx⟩:=vals1 r
 cases rx
 obtain⟨its,r',pl,hz⟩:=I.list hq
 have hlen:=r'.length
 rw[zi] at hlen hz
 refine sorted_strs pl.isList (wK r') (by omega) fun out zs hs hp adz=>?_
 obtain⟨n,en⟩:=sortedAll_at s.heap its out
 refine⟨.ref (s.heap.objs.size+1),_,I.laid (t':=s.toks) (a:=s.heap.objs.size+1) (o:=.lst (zs.map V.str)) (fun b o e=>sortedAll_old e) (KL _) ?_,rfl,q _ zs (I.hok.fresh (KL _)) hp adz⟩
 refine⟨by rw[zi,hp.length_eq];exact hz,out.toList,n,zm hs,?_⟩
 rw[en]
def rB (a b:Str):Prop:=ltCps b.cps.toList a.cps.toList=false
theorem xV:∀ (p:Str) (l:List Str),risingS p l=true->(p::l).Pairwise rB
 |p,[],_=>by simp
 |p,x::r,h=>by
  have h':(!ltCps x.cps.toList p.cps.toList&&risingS x r)=true:=h
  rw[ZN] at h'
  have ih:=xV x r h'.2
  have hx:rB p x:=by simpa [rB] using h'.1
  refine List.pairwise_cons.mpr ⟨fun y hy=>?_,ih⟩
  rcases List.mem_cons.mp hy with rfl|hy
  ·exact hx
  ·have hxy:rB x y:=JA ih hy
   unfold rB at hx hxy ⊢
   rw[ltCps_eq] at hx hxy ⊢
   simp only[Q4] at hx hxy ⊢
   exact List.le_trans (α:=Nat) hx hxy
theorem HW {l:List Str} (h:sortedS l=true):l.Pairwise rB:=by
 cases l with
 |nil=>exact .nil
 |cons p l=>exact xV p l h
theorem xW {a b:Str} (h:rB a b) (h':rB b a):a=b:=by
 unfold rB at h h'
 rw[ltCps_eq] at h h'
 simp only[Q4] at h h'
 have:=List.le_antisymm (as:=a.cps.toList) (bs:=b.cps.toList) h h'
 cases a;cases b
 simp only[Str.mk.injEq]
 exact Array.toList_inj.mp this
theorem HX:∀ {l l':List Str},l.Perm l'->l.Pairwise rB->l'.Pairwise rB->l=l'
 |[],l',h,_,_=>by rw[List.nil_perm.mp h]
 |a::l,[],h,_,_=>by cases List.perm_nil.mp h
 |a::l,b::l',h,p,p'=>by
  have e:a=b:=by
   have ha:a∈b::l':=h.mem_iff.mp (zh ..)
   have hb:b∈a::l:=h.mem_iff.mpr (zh ..)
   rcases List.mem_cons.mp ha with h1|h1
   ·exact h1
   ·rcases List.mem_cons.mp hb with h2|h2
    ·exact h2.symm
    ·exact xW (JA p h2) (JA p' h1)
  subst e
  rw[HX ((List.perm_cons a).mp h) (List.pairwise_cons.mp p).2 (List.pairwise_cons.mp p').2]
def Ru (a b:Str):Bool:=!ltCps b.cps.toList a.cps.toList
def ni (ys:List Str):List Str:=ys.mergeSort Ru
theorem jq (ys:List Str):(ni ys).Perm ys:=KP ys Ru
theorem wL (ys:List Str):(ni ys).Pairwise rB:=by
 have h:=kU (le:=Ru) (fun a b c h1 h2=>by
  unfold Ru at *
  rw[ltCps_eq] at *
  simp only[QR,Q4] at *
  exact List.le_trans (α:=Nat) h1 h2) (fun a b=>by
  unfold Ru
  rw[ltCps_eq,ltCps_eq]
  simp only[Bool.or_eq_true,QR,Q4]
  exact List.le_total a.cps.toList b.cps.toList) ys
 exact h.imp fun {a b} hh=>by simpa [Ru,rB] using hh
theorem Us {ys zs:List Str} (hp:zs.Perm ys) (hs:sortedS zs=true):zs=ni ys:=HX (hp.trans (jq ys).symm) (HW hs) (wL ys)
def Cr:List Bx->Option Bx
 |[b]=>(qj b).bind fun ds=>(Cp ds).bind fun ys=>if ys.length < 64 then some (.o ((ni ys).map Dt.str)) else none
 |_=>none
theorem Gq:qt X (.builtin "sorted") Cr:=jW.imp HS fun xs H Q q=>by
 obtain⟨bs,c,rb,e,q⟩:=q
 unfold Cr at e
 split at e
 ·rename_i b
  obtain⟨ds,ed,e⟩:=bind_some e
  obtain⟨ys,ey,e⟩:=bind_some e
  split at e
  ·rename_i h64
   cases e
   obtain⟨v,rfl,r1⟩:=rep1 rb
   obtain⟨p,vs,rfl,sq,rs⟩:=r1.Em ed
   obtain⟨rfl,hy⟩:=zj rs ey
   refine⟨p,ys,rfl,sq,h64,fun l zs hl hp hs=>?_⟩
   rw[Us hp hs]
   refine q _ _ (bW hl) (fun a ea=>by cases ea;exact hl) ⟨l,_,rfl,bK,Cq fun y h=>hy y ((jq ys).mem_iff.mp h)⟩
  ·cases e
 ·cases e
def Kf (x:Str) (b:Bx):Option Bx:=(qj b).bind fun ds=>(Cp ds).bind fun ys=>if (ys.map (·.length)).sum+ys.length * x.length<=100000 then some (.z (.str (Txt.join x ys))) else none
theorem X5:MtR X "str.join" (fun x xs H Q=>∃ y p ys,x=.str y/\xs=[.ref p]/\tR X.K H p (ys.map V.str)/\(ys.map (·.length)).sum+ys.length * y.length<=100000/\Q (.str (Txt.join y ys)) H):=by
 intro pins s σ H x xs v us Q I rx rs h
 obtain⟨y,p,ys,rfl,rfl,sq,hb,q⟩:=h
 obtain⟨t,rfl⟩:=rx
 obtain⟨u,rfl,ru⟩:=vals1 rs
 cases ru
 obtain⟨its,r',pl,hz⟩:=I.list sq
 exact join_list pl.isList (wK r') (by omega) fun t' k=>⟨.str _,H,I.tok _,⟨_,rfl⟩,q⟩
theorem X6 {x:Str} {j:Nat} {p1 apos cpos:Pos} (h:QV X e f) (hx:x.length<=sizeLine:=by decide) (hbase:attributeBase (.Constant (.str x) j p1) "join" X.env (eval (.Constant (.str x) j p1) X.env)=eval (.Constant (.str x) j p1) X.env:=by rfl) (hfew:((backTo cpos (starEach [e] X.env)).all (fun x=>!x.1)&&(backToKw cpos (keywordEach [] X.env)).all (fun x=>x.1.isSome)&&decide ([e].length+([]:List Keyword).length+(if ([]:List Keyword).isEmpty then 0 else 1) < 30))=true:=by rfl) (hline:(apos.endLine==cpos.line)=true:=by rfl) (hs:starEach [e] X.env=(false,eval e X.env)::starEach [] X.env:=by rfl):QV X (.Call (.Attribute (.Constant (.str x) j p1) "join" apos) [e] [] cpos) (b1 (Kf x) f):=⟨have h:=h.run;M5 (Zx (T := "str") F.plainAttrs_str F.slot_str_join F.type_str_join X5 (Ub (hx:=hx)) (BZ h Hx hs) hbase hfew hline hs rfl) fun σ H Q q=>by
  obtain⟨H0,ρ,c,E,e,q⟩:=q
  obtain⟨a,ea,e⟩:=bind_some e
  refine⟨H0,ρ,_,E,rfl,fun v H1 s1 n1 r1=>?_⟩
  obtain⟨rfl,hx'⟩:v=.str x/\x.length<=sizeLine:=by simpa only[bA,Rep] using r1
  refine⟨rfl,H0,ρ,[a],E.grow s1,by simp only[aq,ea,yT],fun vs H2 s2 r2=>?_⟩
  obtain⟨w,rfl,rw1⟩:=rep1 r2
  unfold Kf at e
  obtain⟨ds,ed,e⟩:=bind_some e
  obtain⟨ys,ey,e⟩:=bind_some e
  split at e
  ·rename_i hb
   cases e
   obtain⟨p,ws,rfl,sq,rs⟩:=rw1.Em ed
   obtain⟨rfl,hy⟩:=zj rs ey
   refine⟨x,p,ys,rfl,rfl,sq,hb,q _ _ (s1.trans s2) trivial ?_⟩
   unfold bA Rep
   exact⟨rfl,joinOk_length (joinOk_of (by omega))⟩
  ·cases e⟩
end
section
variable {X:Cx}
def Ep:List Bx->Option Bx
 |[.z (.int a),.z (.int b)]=>some (.z (.int (if b > a then b else a)))
 |_=>none
def Rv:List Bx->Option Bx
 |[.z (.int a),.z (.int b)]=>some (.z (.int (if b < a then b else a)))
 |_=>none
theorem PK {K:PySem.W.Frag} {H:Hp} {a b:Bx} {vs:List V} (h:pB K H [a,b] vs):∃ v w,vs=[v,w]/\bA K H a v/\bA K H b w:=by
 cases h with
 |cons p t=>
  cases t with
  |cons p' t'=>cases t';exact⟨_,_,rfl,p,p'⟩
theorem zp (hc:X.calm=true):qt X (.builtin "max") Ep:=by
 intro pins s σ H xs us Q I r h
 obtain⟨bs,c,rb,e,q⟩:=h
 unfold Ep at e
 split at e
 ·rename_i a b
  cases e
  obtain⟨v,w,rfl,r1,r2⟩:=PK rb
  have hv:=JM r1
  have hw:=JM r2
  subst hv hw
  obtain⟨u,u',rfl,ru,ru'⟩:=Vals.two r
  obtain⟨t,rfl⟩:=ru
  obtain⟨t',rfl⟩:=ru'
  refine max_two_ints (I.ok.hd hc) fun h' tk kp=>?_
  by_cases hb:b > a
  ·rw[zo hb] at q ⊢
   exact⟨.int b,H,I.kept kp,⟨_,rfl⟩,q _ H (Same.refl H) trivial Cj⟩
  ·rw[zw hb] at q ⊢
   exact⟨.int a,H,I.kept kp,⟨_,rfl⟩,q _ H (Same.refl H) trivial Cj⟩
 ·cases e
theorem Ut (hc:X.calm=true):qt X (.builtin "min") Rv:=by
 intro pins s σ H xs us Q I r h
 obtain⟨bs,c,rb,e,q⟩:=h
 unfold Rv at e
 split at e
 ·rename_i a b
  cases e
  obtain⟨v,w,rfl,r1,r2⟩:=PK rb
  have hv:=JM r1
  have hw:=JM r2
  subst hv hw
  obtain⟨u,u',rfl,ru,ru'⟩:=Vals.two r
  obtain⟨t,rfl⟩:=ru
  obtain⟨t',rfl⟩:=ru'
  refine min_two_ints (I.ok.hd hc) fun h' tk kp=>?_
  by_cases hb:b < a
  ·rw[zo hb] at q ⊢
   exact⟨.int b,H,I.kept kp,⟨_,rfl⟩,q _ H (Same.refl H) trivial Cj⟩
  ·rw[zw hb] at q ⊢
   exact⟨.int a,H,I.kept kp,⟨_,rfl⟩,q _ H (Same.refl H) trivial Cj⟩
 ·cases e
end
def Cu (kvs:List (Str×Dt)) (x:Str):Option Dt:=(kvs.find? fun kv=>decide (kv.1=x)).map (·.2)
def zq (kvs:List (Str×Dt)) (x:Str) (d:Dt):List (Str×Dt):=
 if (kvs.any fun kv=>decide (kv.1=x))=true then kvs.map (fun kv=>if kv.1=x then (kv.1,d) else kv) else kvs++[(x,d)]
section
variable {K:PySem.W.Frag} {H:Hp}
theorem gW.nil:gW K H [] []:=⟨rfl,aJ.nil,fun p hp=>by cases hp⟩
theorem gW.inv {p:Str×Dt} {kvs:List (Str×Dt)} {ks:List (Key×V)} (h:gW K H (p::kvs) ks):∃ v r,ks=(Sum.inr p.1,v)::r/\Rep K H p.2 v/\p.1.length<=sizeLine/\gW K H kvs r:=by
 obtain⟨h1,h2,h3⟩:=h
 cases ks with
 |nil=>simp at h1
 |cons q r=>
  simp only[zk,JJ] at h1
  obtain⟨e,h1⟩:=h1
  simp only[zk,aJ] at h2
  obtain⟨v,r',e2,hv,hr⟩:=h2
  simp only[JJ] at e2
  obtain⟨rfl,rfl⟩:=e2
  exact⟨q.2,r,by rw[<-e],hv,h3 p (zh ..),h1,hr,fun x hx=>h3 x (zg _ hx)⟩
theorem gW.cons {p:Str×Dt} {kvs:List (Str×Dt)} {v:V} {r:List (Key×V)} (hv:Rep K H p.2 v) (hp:p.1.length<=sizeLine) (h:gW K H kvs r):gW K H (p::kvs) ((Sum.inr p.1,v)::r):=
 ⟨by simp[h.1],aJ.cons hv h.2.1,fun x hx=>by
  rcases List.mem_cons.mp hx with rfl|hx
  ·exact hp
  ·exact h.2.2 x hx⟩
theorem gW.append {kvs:List (Str×Dt)} {ks:List (Key×V)} {x:Str} {d:Dt} {v:V} (h:gW K H kvs ks) (hv:Rep K H d v) (hx:x.length<=sizeLine):gW K H (kvs++[(x,d)]) (ks++[(Sum.inr x,v)]):=
 ⟨by simp[h.1],by rw[ZO,ZO];exact aJ.append h.2.1 (aJ.cons hv aJ.nil),fun p hp=>by
  rcases List.mem_append.mp hp with hp|hp
  ·exact h.2.2 p hp
  ·cases List.mem_singleton.mp hp;exact hx⟩
theorem gW.len {kvs:List (Str×Dt)} {ks:List (Key×V)} (h:gW K H kvs ks):ks.length=kvs.length:=by
 have:=congrArg List.length h.1
 simpa using this
theorem gW.look:∀ {kvs:List (Str×Dt)} {ks:List (Key×V)} {x:Str} {d:Dt},gW K H kvs ks->Cu kvs x=some d->∃ v,yR ks (Sum.inr x)=some v/\Rep K H d v
 |[],_,_,_,_,e=>by cases e
 |p::kvs,_,x,d,h,e=>by
  obtain⟨v,r,rfl,hv,hpl,hr⟩:=h.inv
  unfold Cu at e
  by_cases hp:p.1=x
  ·rw[List.find?_cons_of_pos (by simpa using hp)] at e
   cases e
   exact⟨v,xu (by rw[hp]),hv⟩
  ·rw[List.find?_cons_of_neg (by simpa using hp)] at e
   obtain⟨w,e1,e2⟩:=gW.look hr e
   exact⟨w,(xG (by simpa using hp)).trans e1,e2⟩
theorem gW.any:∀ {kvs:List (Str×Dt)} {ks:List (Key×V)} {x:Str},gW K H kvs ks->(ks.any fun kv=>decide (kv.1=(Sum.inr x:Key)))=kvs.any fun kv=>decide (kv.1=x)
 |[],ks,_,h=>by
  have:=h.len
  cases ks with
  |nil=>rfl
  |cons _ _=>simp at this
 |p::kvs,_,x,h=>by
  obtain⟨v,r,rfl,hv,hpl,hr⟩:=h.inv
  rw[kb,kb,gW.any hr]
  simp
theorem gW.Uu:∀ {kvs:List (Str×Dt)} {ks:List (Key×V)} {x:Str} {d:Dt} {v:V},gW K H kvs ks->Rep K H d v->gW K H (kvs.map fun kv=>if kv.1=x then (kv.1,d) else kv) (ks.map fun kv=>if kv.1=(Sum.inr x:Key) then (kv.1,v) else kv)
 |[],ks,_,_,_,h,_=>by
  have:=h.len
  cases ks with
  |nil=>exact gW.nil
  |cons _ _=>simp at this
 |p::kvs,_,x,d,v,h,hd=>by
  obtain⟨w,r,rfl,hw,hpl,hr⟩:=h.inv
  rw[zk,zk]
  have ih:=gW.Uu (x:=x) hr hd
  by_cases hp:p.1=x
  ·rw[zo hp,zo (by simp[hp])]
   exact gW.cons (p:=(p.1,d)) hd hpl ih
  ·rw[zw hp,zw (by simpa using hp)]
   exact gW.cons hw hpl ih
theorem gW.put {kvs:List (Str×Dt)} {ks:List (Key×V)} {x:Str} {d:Dt} {v:V} (h:gW K H kvs ks) (hv:Rep K H d v) (hx:x.length<=sizeLine):gW K H (zq kvs x d) (putK ks (Sum.inr x) v):=by
 unfold zq putK
 rw[h.any]
 split
 ·exact h.Uu hv
 ·exact h.append hv hx
end
section
variable {X:Cx} {e ek o:Expr} {f fk fo:Ev->Option Bx} {pos pos':Pos}
def jk:Bx->Bx->Option Bx
 |.n kvs,.z (.str x)=>(Cu kvs x).bind fun d=>some (.z d)
 |_,_=>none
theorem Nk {a b c:Bx} (h:jk a b=some c):∃ kvs x d,a=.n kvs/\b=.z (.str x)/\Cu kvs x=some d/\c=.z d:=by
 unfold jk at h
 split at h
 ·obtain⟨d,ed,h⟩:=bind_some h
  cases h
  exact⟨_,_,d,rfl,rfl,ed,rfl⟩
 ·cases h
theorem fQ (hu:X.A.units+100 < cLine) (ho:QV X o fo) (hk:QV X ek fk) (hs:aaZ ek:=by intro _ _;rfl):QV X (.Subscript o ek pos) (b2 jk fo fk):=⟨have ho:=ho.run;have hk:=hk.run;M5 (Xh (by omega) ho hk hs) fun σ H Q h=>by
 obtain⟨H0,ρ,c,E,e,q⟩:=h
 obtain⟨a,ea,e⟩:=bind_some e
 obtain⟨b,eb,e⟩:=bind_some e
 refine⟨H0,ρ,a,E,ea,fun v H1 s1 n1 r1=>⟨H0,ρ,b,E.grow s1,eb,fun w H2 s2 n2 r2=>?_⟩⟩
 obtain⟨kvs,x,d,rfl,rfl,ed,rfl⟩:=Nk e
 obtain⟨p,ks,rfl,rd,rm⟩:=r1.same s2
 obtain⟨v',ev,rv⟩:=rm.look ed
 obtain⟨rfl,_⟩:w=.str x/\x.length<=sizeLine:=by simpa only[bA,Rep] using r2
 exact⟨p,v',rfl,.inl ⟨ks,Sum.inr x,rd,rfl,ev.symm⟩,q _ _ (s1.trans s2) trivial rv⟩⟩
def Kg (ρ:Ev) (i:Nat):Bx->Bx->Option Out
 |.z d,.z (.str x)=>match ρ[i]? with
  |some (some (.m kvs w))=>if kvs.length < 1000 then some (.nx (ρ.set i (some (.m (zq kvs x d) w)))) else none
  |_=>none
 |_,_=>none
def Uv (i:Nat) (f fk:Ev->Option Bx):Ev->Option Out:=fun ρ=>(f ρ).bind fun b=>(fk ρ).bind fun k=>Kg ρ i b k
theorem Nm {ρ:Ev} {i:Nat} {b k:Bx} {r:Out} (h:Kg ρ i b k=some r):∃ d y kvs w,b=.z d/\k=.z (.str y)/\ρ[i]?=some (some (.m kvs w))/\kvs.length < 1000/\r=.nx (ρ.set i (some (.m (zq kvs y d) w))):=by
 unfold Kg at h
 split at h
 ·split at h
  ·rename_i hρ
   split at h
   ·rename_i hl
    cases h
    exact⟨_,_,_,_,rfl,rfl,hρ,hl,rfl⟩
   ·cases h
  ·cases h
 ·cases h
theorem X7 (i:Nat) {x:Str} {p:Pos} (hu:X.A.units+100 < cLine) (he:QV X e f) (hk:QV X ek fk) (hN:X.N[i]?=some x:=by rfl) (hv:Ww X.env.scope x:=by first|exact kQ rfl|exact Jn (kQ rfl)|exact Jn (Jn rfl)) (hd:(x==("__debug__" : Str))=false:=by decide) (hcd:(x==("__classdict__" : Str))=false:=by decide) (hs:swapsWith e (some (.Subscript (.Name x p) ek pos')) pos.line X.env=pure false:=by rfl):Rp X (.Assign [.Subscript (.Name x p) ek pos'] e pos) (fun ρ=>(f ρ).bind fun b=>(fk ρ).bind fun k=>Kg ρ i b k):=⟨have he:=he.run;have hk:=hk.run;T6 (Xi (by omega) (wF (i:=i) hN hv hd hcd) hk he hs) fun D σ H h=>by
  obtain⟨H0,ρ,r,E,e,q⟩:=h
  obtain⟨b,eb,e⟩:=bind_some e
  obtain⟨k,ek,e⟩:=bind_some e
  refine⟨H0,ρ,b,E,eb,fun v H1 s1 n1 r1=>?_⟩
  obtain⟨d,y,kvs,w0,rfl,rfl,hρ,hl,rfl⟩:=Nm e
  have E1:=E.grow s1
  obtain⟨w,e1,a,ks,rfl,ha,rm,tie⟩:=E1.val i _ hρ
  refine⟨_,e1,H0,ρ,_,E1,ek,fun u H2 s2 n2 r2=>?_⟩
  obtain⟨rfl,hyl⟩:u=.str y/\y.length<=sizeLine:=by simpa only[bA,Rep] using r2
  have E2:=E1.grow s2
  have ha2:=s2 _ _ ha
  have kp:Kp H2 (upd H2 a (.dK (putK ks (Sum.inr y) v))):=.dk ha2
  refine⟨a,_,rfl,M4.k (k:=Sum.inr y) ha2 (by rw[rm.len];exact Nat.lt_trans hl (by decide)),q _ _ ?_⟩
  exact E2.aa3 hρ rfl e1 kp ⟨a,_,rfl,bK,((rm.kp (.of s2)).put (x:=y) (bA.same s2 r1) hyl).kp kp,tie⟩⟩
end
section
variable {X:Cx} {a b c e:Expr} {es:List Expr} {fa fb fc f:Ev->Option Bx} {fs:Ev->Option (List Bx)} {pos:Pos}
theorem Cv {x:Str} {j} (hx:x.length<=sizeLine:=by decide):QV X (.Constant (.str x) j pos) (cB (.str x)):=⟨P1.Ub (hx:=hx)⟩
end
section
variable {X:Cx} {a b c e:Expr} {es:List Expr} {fa fb fc f:Ev->Option Bx} {fs:Ev->Option (List Bx)} {pos:Pos}
variable {p q:Ev->Option Bool} {rest:List Expr}
theorem aj (h1:QV X e f) (h2:T5 X es fs) (hs:starEach (e::es) X.env=(false,eval e X.env)::starEach es X.env:=by rfl):T5 X (e::es) (aq f fs):=⟨P1.BZ (h1:=h1.run) (h2:=h2.run) (hs:=hs)⟩
end
section
variable {X:Cx} {a b c e:Expr} {es:List Expr} {fa fb fc f:Ev->Option Bx} {fs:Ev->Option (List Bx)} {pos:Pos}
variable {p q:Ev->Option Bool} {rest:List Expr}
theorem aA  : T5 X [] (fun _=>some []):=⟨P1.Hx ⟩
end
theorem uF {P:Program} {w:World} {K:PySem.W.Frag} {mg:Str->Option Value} {base:Heap} {x qual:Str} {st:Stmt} {f:Addr} {fd:FuncData} {N ps:List Str} {k n m:Nat} {g:Ev->Option Out} (F:yU K x qual st f fd) (S:dh N ps (aK st)) (hn:N.length=n) (hm:ps.length=m)
  (hbody:∀ (cdv:Value) (A:Around) (outer:List Env) (s:Shared) (H:Hp) (E:XK),m5 k (A.deeper (envOfC qual (aK st) s.heap.objs.size f cdv))->Rq (Ei m7 P w K mg base N qual (aK st) f cdv A outer s H E).S5 (cH st) g) :
  dG P w K mg base m7 (k+1) f fd ps (pW K m (lO n g)):=afy F S hn hm fun cdv A outer s H E hr=>(hbody cdv A outer s H E hr).run
section
variable {prog:Program} {w:World} {A:Around} {E:Value->Shared->Prop} {s:Shared}
theorem z6:∀ (vs:List Value) (ys:List Str),vs.length=ys.length->(∀ (j:Nat) v,vs[j]?=some v->∃ y t,ys[j]?=some y/\v=.str y t)->StrsAre vs ys
 |[],[],_,_=>.nil
 |v::vs,y::ys,hl,h=>by
  obtain⟨y',t,e,rfl⟩:=h 0 v rfl
  cases e
  exact .cons y t (z6 vs ys (by simpa using hl) fun j v hv=>h (j+1) v (by simpa using hv))
theorem Np {kvs:List (Key×Value)} {ys:List Str} (hk:kvs.map (·.1)=ys.map Sum.inr) {acc:Array Value} (h:ItemsOf (fun i v=>∃ k x,kvs[i]?=some (k,x)/\(bD prog w).is k v=true) acc kvs.length):StrsAre acc.toList ys:=by
 have hl:kvs.length=ys.length:=by have:=congrArg List.length hk;simpa using this
 refine z6 _ _ (by rw[qf,h.1,hl]) fun j v hv=>?_
 obtain⟨k,x,e,hi⟩:=h.2 j v (by simpa using hv)
 have e1:(kvs.map (·.1))[j]?=some k:=by rw[zS,e];rfl
 rw[hk,zS] at e1
 cases hy:ys[j]? with
 |none=>rw[hy] at e1;cases e1
 |some y=>
  rw[hy] at e1
  cases e1
  have hi':mD (Sum.inr y) v=true:=hi
  rcases bJ hi' with⟨i,t,e2,e3⟩|⟨z,t,e2,e3⟩
  ·cases e2
  ·cases e2
   exact⟨_,t,rfl,e3⟩
end
section
variable {X:Cx}
theorem PL:∀ {ks:List (Key×V)} {vs:List (Key×Value)},KV ks vs->vs.map (·.1)=ks.map (·.1)
 |_,_,.nil=>rfl
 |_,_,.cons h t=>by rw[zk,zk,PL t,h.1]
end
theorem bU.adA {K:PySem.W.Frag} {H0 H:Hp} {σ:L2.St} {ρ:Ev} (E:bU K H0 H σ ρ) (i:Nat):bU K H0 H σ (ρ.set i none):=by
 have back:∀ (j:Nat) (b:Bx),(ρ.set i none)[j]?=some (some b)->ρ[j]?=some (some b):=fun j b e=>by
  rw[yo] at e
  split at e
  ·split at e<;>cases e
  ·exact e
 refine⟨by rw[ky];exact E.len,fun j b e=>E.val j b (back j b e),fun j k c a b e1 ec e2 e3 e4 e5=>E.own j k c a b (back _ _ e1) ec e2 (back _ _ e3) e4 e5,E.base,fun j c a e1 ec e2=>E.new j c a (back _ _ e1) ec e2⟩
def kill (is:List Nat) (ρ:Ev):Ev:=is.foldl (fun ρ i=>ρ.set i none) ρ
theorem bU.kill {K:PySem.W.Frag} {H0 H:Hp} {σ:L2.St}:∀ (is:List Nat) {ρ:Ev},bU K H0 H σ ρ->bU K H0 H σ (P1.kill is ρ)
 |[],_,E=>E
 |i::is,_,E=>bU.kill is (E.adA i)
def gF (is:List Nat):Ev->Option Out:=fun ρ=>some (.nx (kill is ρ))
theorem Uw {X:Cx} {ss:List Stmt} {g:Ev->Option Out} (is:List Nat) (h:QZ X ss g):QZ X ss (aF g (gF is)):=aa0 h fun D σ H q=>by
 obtain⟨H0,ρ,r,E,e,q⟩:=q
 obtain⟨r1,e1,e⟩:=bind_some e
 refine⟨H0,ρ,r1,E,e1,?_⟩
 cases r1 with
 |nx ρ1=>cases e;exact fun σ' H' E'=>q σ' H' (E'.kill is)
 |rt b=>cases e;exact q
 |bk b=>cases e;exact q
 |ct b=>cases e;exact q
theorem bN {X:Cx} {ss:List Stmt} {g:Ev->Option Out} (is:List Nat) (h:Rq X ss g):Rq X ss (aF g (gF is)):=⟨Uw is h.run⟩
end P1
end
section
namespace S1
open PySem PySem.Spec PyProof.Rows
section
variable (rk:Value->Nat)
def at_ (xs:Array Keyed) (i:Nat):Nat:=match xs[i]? with
 |some p=>rk p.1
 |none=>0
def Up (xs:Array Keyed) (k:Nat):Prop:=∀ i j,i<=j->j < k->at_ rk xs i<=at_ rk xs j
def Down (xs:Array Keyed) (k:Nat):Prop:=∀ i j,i<=j->j < k->at_ rk xs j<=at_ rk xs i
structure Bs (kd:SortKind) (b:Array Keyed) (st:SortSt):Prop where
 pm:(arrOf st).Perm b
 kd:kindOf st=kd
 fl:failedOf st=none
 pd:pendingOf st=#[]
variable {rk} {kd:SortKind} {b:Array Keyed}
theorem Bs.sz {st:SortSt} (h:Bs kd b st):(arrOf st).size=b.size:=h.pm.size_eq
theorem Bs.arr {st:SortSt} {xs:Array Keyed} (h:Bs kd b st) (hp:xs.Perm (arrOf st)):Bs kd b (PyProof.Rows.setArr st xs):=⟨hp.trans h.pm,h.kd,h.fl,h.pd⟩
theorem uG {xs ys:Array Keyed} {i j:Nat} (h:xs[i]?=ys[j]?):at_ rk xs i=at_ rk ys j:=by unfold at_;rw[h]
theorem Ux {xs:Array Keyed} {p d:Nat} (hs:p < xs.size) (hd:d<=p) (k:Nat):at_ rk (bubble xs p d) k=if k=p - d then at_ rk xs p else if p - d < k/\k<=p then at_ rk xs (k - 1) else at_ rk xs k:=by
 have e:=getElem?_bubble hs d hd k
 by_cases q:k=p - d
 ·simp only[zo q] at e ⊢;exact uG e
 ·simp only[zw q] at e ⊢
  by_cases q2:p - d < k/\k<=p
  ·simp only[zo q2] at e ⊢;exact uG e
  ·simp only[zw q2] at e ⊢;exact uG e
theorem Nq {xs:Array Keyed} {i j:Nat} (hj:j<=xs.size) (k:Nat):at_ rk (mirror xs i j ((j - i) / 2)) k=if i<=k/\k < j then at_ rk xs (i+j - 1 - k) else at_ rk xs k:=by
 have e:=getElem?_mirror_all (i:=i) hj k
 by_cases q:i<=k/\k < j
 ·simp only[zo q] at e ⊢;exact uG e
 ·simp only[zw q] at e ⊢;exact uG e
theorem xX {xs:Array Keyed} {i j:Nat} (hj:j<=xs.size) (he:∀ k,i<=k->k < j->at_ rk xs k=at_ rk xs (j - 1)) (k:Nat):at_ rk (mirror xs i j ((j - i) / 2)) k=at_ rk xs k:=by
 rw[Nq hj]
 by_cases q:i<=k/\k < j
 ·rw[zo q,he (i+j - 1 - k) (by omega) (by omega),he k q.1 q.2]
 ·rw[zw q]
end
section
variable {prog:Program} {w:World} {A:Around} {E:Value->Shared->Prop} {s:Shared} {b:Array Keyed} {kd:SortKind} {rk:Value->Nat}
def S8 (prog:Program) (w:World) (A:Around) (s:Shared) (kd:SortKind) (rk:Value->Nat) (b:Array Keyed):Prop:=
 ∀ (E:Value->Shared->Prop) (p q:Keyed) (Q:Bool->Shared->Prop),p∈b.toList->q∈b.toList->Q (decide (rk p.1 < rk q.1)) s->wpAny (model prog w) A (keyLt' kd p.1 q.1) Q E s
theorem Kh {st:SortSt} {i j:Nat} {Q:Option Bool->SortSt->Prop} (hC:S8 prog w A s kd rk b) (B:Bs kd b st) (hi:i < b.size) (hj:j < b.size)
  (h:Q (some (decide (at_ rk (arrOf st) i < at_ rk (arrOf st) j))) st):wpS (model prog w) A E s (ltAt' i j) Q st:=by
 have get:∀ k,k < b.size->∃ p,(arrOf st)[k]?=some p/\p∈b.toList:=fun k hk=>by
  have hk':k < (arrOf st).size:=by rw[B.sz];exact hk
  exact⟨(arrOf st)[k],getElem?_pos _ k hk',(Array.perm_iff_toList_perm.mp B.pm).mem_iff.mp (by simp)⟩
 obtain⟨p,e1,m1⟩:=get i hi
 obtain⟨q,e2,m2⟩:=get j hj
 have h:Q (some (decide (rk p.1 < rk q.1))) st:=by unfold at_ at h;rw[e1,e2] at h;exact h
 rw[ltAt'_eq]
 refine wpS_bind (wpS_get ?_)
 show wpS _ _ _ _ (elem' (arrOf st) i >>= fun x=>elem' (arrOf st) j >>= fun y=>lt' x y) Q st
 rw[elem'_eq,elem'_eq,e1,e2]
 refine wpS_bind (wpS_pure ?_)
 refine wpS_bind (wpS_pure ?_)
 rw[lt'_eq]
 refine wpS_bind (wpS_get ?_)
 rw[B.kd]
 exact wpS_bind (wpS_lift (KF (hC _ p q _ m1 m2 ⟨rfl,wpS_pure h⟩)))
theorem asc {st:SortSt} {a n:Nat} {Q:AscSt->SortSt->Prop} (hC:S8 prog w A s kd rk b) (hn:n<=b.size) (ha:1<=a) (han:a<=n) (B:Bs kd b st) (hs:Up rk (arrOf st) a)
  (h:∀ m,a<=m->m<=n->Up rk (arrOf st) m->(m=n\/at_ rk (arrOf st) m < at_ rk (arrOf st) (m - 1))->Q (none,m) st):wpS (model prog w) A E s (ascLoop a n) Q st:=by
 unfold ascLoop
 refine wpS_forRange (I:=fun x c t=>t=st/\c=(none,x)/\Up rk (arrOf st) x) ?_ ?_ ⟨rfl,rfl,hs⟩
 ·rintro x c t hax hxn ⟨rfl,rfl,up⟩
  refine wpS_bind (Kh hC B (by omega) (by omega) ?_)
  by_cases q:at_ rk (arrOf t) x < at_ rk (arrOf t) (x - 1)
  ·simp only[q,KI,QO]
   exact wpS_pure (h x hax (by omega) up (.inr q))
  ·simp only[q,kX,zr,ZH]
   refine wpS_pure ⟨rfl,rfl,fun i j hij hj=>?_⟩
   by_cases hx:j < x
   ·exact up i j hij hx
   ·have e:j=x:=by omega
    subst e
    by_cases hi:i=j
    ·rw[hi];exact zl _
    ·have:=up i (j - 1) (by omega) (by omega);omega
 ·rintro c t ⟨rfl,rfl,up⟩
  rw[show max a n=n by omega] at up ⊢
  exact h n han (zl _) up (.inl rfl)
theorem t3 {st:SortSt} {m n:Nat} {Q:Option Nat->SortSt->Prop} (hC:S8 prog w A s kd rk b) (hn:n<=b.size) (h1:1<=m) (hmn:m<=n) (B:Bs kd b st) (hs:Down rk (arrOf st) m)
  (h:∀ k t,Bs kd b t->1<=k->k<=n->Up rk (arrOf t) k->Q (some k) t):wpS (model prog w) A E s (tail3 m n) Q st:=by
 unfold tail3
 have hz:m<=(arrOf st).size:=by rw[B.sz];omega
 refine wpS_bind (wpS_reverse ?_)
 have B':Bs kd b (PyProof.Rows.setArr st (mirror (arrOf st) 0 m ((m - 0) / 2))):=B.arr (mirror_perm _ _ _ _)
 refine wpS_bind (asc hC hn h1 hmn B' (fun i j hij hj=>?_) fun k k1 k2 up _=>wpS_pure (h k _ B' (by omega) k2 up))
 show at_ rk (mirror (arrOf st) 0 m ((m - 0) / 2)) i<=at_ rk (mirror (arrOf st) 0 m ((m - 0) / 2)) j
 rw[Nq hz,Nq hz,zo ⟨by omega,by omega⟩,zo ⟨by omega,by omega⟩]
 exact hs _ _ (by omega) (by omega)
theorem dsc {st:SortSt} {m n:Nat} {Q:DescSt->SortSt->Prop} (hC:S8 prog w A s kd rk b) (hn:n<=b.size) (h1:1<=m) (hmn:m<=n) (B:Bs kd b st) (hs:Down rk (arrOf st) m)
  (h:∀ k e t,Bs kd b t->m<=k->k<=n->Down rk (arrOf t) k->e+1<=k->(∀ i,k - (e+1)<=i->i < k->at_ rk (arrOf t) i=at_ rk (arrOf t) (k - 1))->Q (none,k,e) t):wpS (model prog w) A E s (descLoop m n) Q st:=by
 unfold descLoop
 refine wpS_forRange (I:=fun x c t=>∃ e,c=(none,x,e)/\Bs kd b t/\Down rk (arrOf t) x/\e+1<=x/\∀ i,x - (e+1)<=i->i < x->at_ rk (arrOf t) i=at_ rk (arrOf t) (x - 1)) ?_ ?_ ⟨0,rfl,B,hs,by omega,fun i q1 q2=>by rw[show i=m - 1 by omega]⟩
 ·rintro x c t hax hxn ⟨e,rfl,B',dn,he,eq⟩
  have hz:x<=(arrOf t).size:=by rw[B'.sz];omega
  have grow:∀ xs:Array Keyed,(∀ k,at_ rk xs k=at_ rk (arrOf t) k)->at_ rk (arrOf t) x<=at_ rk (arrOf t) (x - 1)->Down rk xs (x+1):=fun xs hk hl i j hij hj=>by
   rw[hk,hk]
   by_cases hx:j < x
   ·exact dn i j hij hx
   ·have ej:j=x:=by omega
    subst ej
    by_cases hi:i=j
    ·rw[hi];exact zl _
    ·have:=dn i (j - 1) (by omega) (by omega);omega
  dsimp only
  refine wpS_bind (Kh hC B' (by omega) (by omega) ?_)
  by_cases q:at_ rk (arrOf t) x < at_ rk (arrOf t) (x - 1)
  ·simp only[q,KI,QO]
   by_cases h0:e > 0
   ·rw[zo h0]
    exact wpS_bind (wpS_reverse (wpS_pure ⟨0,rfl,B'.arr (mirror_perm _ _ _ _),grow _ (xX hz eq) (by omega),by omega,fun i q1 q2=>by rw[show i=x by omega];rfl⟩))
   ·rw[zw h0]
    exact wpS_pure ⟨0,rfl,B',grow _ (fun _=>rfl) (by omega),by omega,fun i q1 q2=>by rw[show i=x by omega];rfl⟩
  ·simp only[q,kX,zr,ZH]
   refine wpS_bind (Kh hC B' (by omega) (by omega) ?_)
   by_cases q2:at_ rk (arrOf t) (x - 1) < at_ rk (arrOf t) x
   ·simp only[q2,KI,QO]
    exact wpS_pure (h x e t B' hax (by omega) dn he eq)
   ·simp only[q2,kX,zr,ZH]
    refine wpS_pure ⟨e+1,rfl,B',grow _ (fun _=>rfl) (by omega),by omega,fun i q3 q4=>?_⟩
    rw[show x+1 - 1=x by omega]
    by_cases hi:i=x
    ·rw[hi]
    ·rw[eq i (by omega) (by omega)];omega
 ·rintro c t ⟨e,rfl,B',dn,he,eq⟩
  rw[show max m n=n by omega] at dn he eq ⊢
  exact h n e t B' hmn (zl _) dn he eq
theorem ZL {st:SortSt} {m n:Nat} {Q:Option Nat->SortSt->Prop} (hC:S8 prog w A s kd rk b) (hn:n<=b.size) (hmn:m+1<=n) (B:Bs kd b st) (hs:Down rk (arrOf st) (m+1))
  (h:∀ k t,Bs kd b t->1<=k->k<=n->Up rk (arrOf t) k->Q (some k) t):wpS (model prog w) A E s (descPart m n) Q st:=by
 unfold descPart
 refine wpS_bind (wpS_lift (kD ⟨rfl,?_⟩))
 refine wpS_bind (dsc hC hn (by omega) hmn B hs fun k e t B' k1 k2 dn he eq=>?_)
 have hz:k<=(arrOf t).size:=by rw[B'.sz];omega
 by_cases h0:e > 0
 ·simp only[zo h0]
  refine wpS_bind (wpS_reverse (t3 hC hn (by omega) k2 (B'.arr (mirror_perm _ _ _ _)) (fun i j hij hj=>?_) h))
  show at_ rk (mirror (arrOf t) _ _ _) j<=at_ rk (mirror (arrOf t) _ _ _) i
  rw[xX hz eq,xX hz eq]
  exact dn i j hij hj
 ·simp only[zw h0]
  exact t3 hC hn (by omega) k2 B' dn h
theorem afA {st:SortSt} {n:Nat} {Q:Option Nat->SortSt->Prop} (hC:S8 prog w A s kd rk b) (hn:n<=b.size) (h1:1<=n) (B:Bs kd b st)
  (h:∀ k t,Bs kd b t->1<=k->k<=n->Up rk (arrOf t) k->Q (some k) t):wpS (model prog w) A E s (countRun' 0 n) Q st:=by
 rw[countRun0_eq]
 refine wpS_bind (asc hC hn (zl 1) h1 B (fun i j hij hj=>by rw[show i=j by omega];exact zl _) fun m m1 m2 up or=>?_)
 by_cases hm:m=n
 ·simp only[zo (show (m==n)=true by simpa using hm)]
  exact wpS_pure (h m st B m1 m2 up)
 ·simp only[zw (show ¬ (m==n)=true by simpa using hm)]
  have lt:=or.resolve_left hm
  have hz:m<=(arrOf st).size:=by rw[B.sz];omega
  by_cases g1:m > 1
  ·rw[zo g1]
   refine wpS_bind (Kh hC B (by omega) (by omega) ?_)
   by_cases q:at_ rk (arrOf st) 0 < at_ rk (arrOf st) (m - 1)
   ·simp only[q,KI,QO]
    exact wpS_pure (h m st B m1 m2 up)
   ·simp only[q,kX,zr,ZH]
    have all:∀ k,0<=k->k < m->at_ rk (arrOf st) k=at_ rk (arrOf st) (m - 1):=fun k _ hk=>by
     have a1:=up 0 k (by omega) hk
     have a2:=up k (m - 1) (by omega) (by omega)
     omega
    refine wpS_bind (wpS_reverse (ZL hC hn (by omega) (B.arr (mirror_perm _ _ _ _)) (fun i j hij hj=>?_) h))
    show at_ rk (mirror (arrOf st) _ _ _) j<=at_ rk (mirror (arrOf st) _ _ _) i
    rw[xX hz all,xX hz all]
    by_cases hj':j < m
    ·rw[all i (by omega) (by omega),all j (by omega) hj'];exact zl _
    ·have ej:j=m:=by omega
     subst ej
     by_cases hi:i=j
     ·rw[hi];exact zl _
     ·rw[all i (by omega) (by omega)];omega
  ·rw[zw g1]
   have e1:m=1:=by omega
   subst e1
   refine ZL hC hn (by omega) B (fun i j hij hj=>?_) h
   by_cases hi:i=j
   ·rw[hi];exact zl _
   ·rw[show i=0 by omega,show j=1 by omega];exact JU lt
theorem bins {st:SortSt} {n k0:Nat} {Q:Bool->SortSt->Prop} (hC:S8 prog w A s kd rk b) (hn:n<=b.size) (hk0:k0<=n) (B:Bs kd b st) (hs:Up rk (arrOf st) k0)
  (h:∀ t,Bs kd b t->Up rk (arrOf t) n->Q true t):wpS (model prog w) A E s (binarySort' 0 n k0) Q st:=by
 rw[binarySort'_eq]
 simp only[JP]
 refine wpS_bind (wpS_mono (wpS_forRange (I:=fun k c t=>c=(none,())/\Bs kd b t/\Up rk (arrOf t) (min k n)) (Q:=fun c t=>c=(none,())/\Bs kd b t/\Up rk (arrOf t) n) ?_ ?_ ?_) ?_)
 ·rintro k c t hak hkn ⟨rfl,B',up⟩
  rw[show min k n=k by omega] at up
  have hk:k < b.size:=by omega
  refine wpS_bind (wpS_mono (wpS_forRange (I:=fun x c t'=>t'=t/\∃ l r,c=(none,l,r)/\l<=r/\r<=k/\r - l<=k - x/\(∀ i,i < l->at_ rk (arrOf t) i<=at_ rk (arrOf t) k)/\(∀ i,r<=i->i < k->at_ rk (arrOf t) k < at_ rk (arrOf t) i))
   (Q:=fun c t'=>t'=t/\∃ l r,c=(none,l,r)/\l<=k/\(∀ i,i < l->at_ rk (arrOf t) i<=at_ rk (arrOf t) k)/\(∀ i,l<=i->i < k->at_ rk (arrOf t) k < at_ rk (arrOf t) i)) ?_ ?_ ?_) ?_)
  ·rintro x c t' _ hx ⟨rfl,l,r,rfl,lr,rk',mm,lo,hi⟩
   dsimp only
   by_cases ge:l>=r
   ·rw[zo ge]
    have e:l=r:=by omega
    subst e
    exact wpS_pure ⟨rfl,l,l,rfl,rk',lo,hi⟩
   ·rw[zw ge]
    refine wpS_bind (Kh hC B' hk (by omega) ?_)
    by_cases q:at_ rk (arrOf t') k < at_ rk (arrOf t') ((l+r) / 2)
    ·simp only[q,KI,QO]
     refine wpS_pure ⟨rfl,l,(l+r) / 2,rfl,by omega,by omega,by omega,lo,fun i q1 q2=>?_⟩
     have:=up ((l+r) / 2) i q1 q2
     omega
    ·simp only[q,kX,zr,ZH]
     refine wpS_pure ⟨rfl,(l+r) / 2+1,r,rfl,by omega,by omega,by omega,fun i q1=>?_,hi⟩
     have:=up i ((l+r) / 2) (by omega) (by omega)
     omega
  ·rintro c t' ⟨rfl,l,r,rfl,lr,rk',mm,lo,hi⟩
   have e:l=r:=by omega
   subst e
   exact⟨rfl,l,l,rfl,rk',lo,hi⟩
  ·exact⟨rfl,0,k,rfl,by omega,by omega,by omega,fun i hi=>by omega,fun i q1 q2=>by omega⟩
  ·rintro c t' ⟨rfl,l,r,rfl,lk,lo,hi⟩
   show wpS _ _ _ _ (moveDown' k l >>= fun _=>pure (ForInStep.yield (none,()))) _ _
   rw[moveDown'_eq]
   refine wpS_bind (wpS_modify (wpS_pure ⟨rfl,B'.arr (bubble_perm _ _ _),?_⟩))
   rw[show min (k+1) n=k+1 by omega]
   have hz:k < (arrOf t').size:=by rw[B'.sz];exact hk
   intro i j hij hj
   show at_ rk (bubble (arrOf t') k (k - l)) i<=at_ rk (bubble (arrOf t') k (k - l)) j
   rw[Ux hz (by omega),Ux hz (by omega),show k - (k - l)=l by omega]
   repeat' split
   all_goals first
    |(exfalso;omega)
    |exact zl _
    |exact lo _ (by omega)
    |exact JU (hi _ (by omega) (by omega))
    |exact up _ _ (by omega) (by omega)
 ·rintro c t ⟨hc,B',up⟩
  refine⟨hc,B',?_⟩
  rwa [show min (max (max k0 1) n) n=n by omega] at up
 ·refine⟨rfl,B,fun i j hij hj=>?_⟩
  by_cases z:k0=0
  ·rw[show i=j by omega];exact zl _
  ·exact hs i j hij (by omega)
 ·rintro c t ⟨rfl,B',up⟩
  exact wpS_pure (h t B' up)
end
section
variable {prog:Program} {w:World} {A:Around} {E:Value->Shared->Prop} {s:Shared} {b:Array Keyed} {kd:SortKind} {rk:Value->Nat}
def Dn (kd:SortKind) (rk:Value->Nat) (b:Array Keyed) (st:SortSt):Prop:=(arrOf st).Perm b/\failedOf st=none/\pendingOf st=#[(0,b.size,0)]/\Up rk (arrOf st) b.size
theorem Bs.dn {st:SortSt} (B:Bs kd b st) (up:Up rk (arrOf st) b.size):Dn kd rk b (setPending st ((pendingOf st).push (0,b.size,0))):=⟨B.pm,B.fl,(by show (pendingOf st).push _=_;rw[B.pd];rfl),up⟩
theorem runs {st:SortSt} {Q:Unit->SortSt->Prop} (hC:S8 prog w A s kd rk b) (B:Bs kd b st) (h2:2<=b.size) (h64:b.size < 64)
  (h:∀ t,(arrOf t).Perm b->failedOf t=none->Up rk (arrOf t) b.size->Q () t):wpS (model prog w) A E s sortRuns' Q st:=by
 rw[sortRuns'_eq]
 refine wpS_bind (wpS_get ?_)
 have mr:minRun' b.size b.size 0=b.size:=by
  obtain⟨f,hf⟩:∃ f,b.size=f+1:=⟨b.size - 1,by omega⟩
  have q:minRun' (f+1) b.size 0=b.size:=(minRun'_succ f b.size 0).trans (zo h64)
  rwa [<-hf] at q
 simp only[B.sz,mr]
 have back:∀ {t:SortSt},Bs kd b t->(pendingOf t).back?=none:=fun B=>by rw[B.pd];rfl
 refine wpS_bind (wpS_mono (wpS_forRange (I:=fun x c t=>(x=0/\c=(none,0)/\Bs kd b t)\/(1<=x/\c=(none,b.size)/\Dn kd rk b t)) (Q:=fun c t=>c=(none,b.size)/\Dn kd rk b t) ?_ ?_ (.inl ⟨rfl,rfl,B⟩)) ?_)
 ·rintro x c t _ hx (⟨rfl,rfl,B'⟩|⟨hx1,rfl,D⟩)
  ·dsimp only
   rw[zw (by omega)]
   simp only[Nat.sub_zero,Nat.min_self,JP]
   refine wpS_bind (afA hC (zl _) (by omega) B' fun m t2 B2 m1 m2 up2=>?_)
   dsimp only
   by_cases lt:m < b.size
   ·rw[zo lt]
    refine wpS_bind (wpS_lift (kD ⟨rfl,wpS_bind (bins hC (zl _) m2 B2 up2 fun t3 B3 up3=>?_)⟩))
    simp only[kA,zr,ZH]
    refine wpS_bind (wpS_get ?_)
    rw[back B3]
    exact wpS_bind (wpS_modify (wpS_pure (.inr ⟨by omega,rfl,B3.dn up3⟩)))
   ·rw[zw lt]
    have e:m=b.size:=by omega
    subst e
    refine wpS_bind (wpS_get ?_)
    rw[back B2]
    exact wpS_bind (wpS_modify (wpS_pure (.inr ⟨by omega,rfl,B2.dn up2⟩)))
  ·dsimp only
   rw[zo (zl _)]
   exact wpS_pure ⟨rfl,D⟩
 ·rintro c t (⟨hx,_,_⟩|⟨_,hc,D⟩)
  ·omega
  ·exact⟨hc,D⟩
 ·rintro c t ⟨rfl,D⟩
  dsimp only
  refine wpS_bind (wpS_mono (wpS_forRange (I:=fun _ c u=>u=t/\c=(none,())) (Q:=fun c u=>u=t/\c=(none,())) ?_ (fun _ _ q=>q) ⟨rfl,rfl⟩) ?_)
  ·rintro x c u _ _ ⟨rfl,rfl⟩
   refine wpS_bind (wpS_get ?_)
   rw[zo (by rw[D.2.2.1];exact zl 1)]
   exact wpS_pure ⟨rfl,rfl⟩
  ·rintro c u ⟨rfl,rfl⟩
   exact wpS_pure (h _ D.1 D.2.1 D.2.2.2)
def Old (a:Addr) (s s':Shared):Prop:=∀ c o,c≠a->s.heap.get? c=some o->s'.heap.get? c=some o
theorem ZM {a:Addr} {vs:List Value} {n:Nat} {P:Fin->Shared->Prop} (ho:s.heap.get? a=some (seqObj "list" vs.toArray n))
  (hK:2<=vs.length->∀ s',Old a s s'->∀ Q:SortKind->Shared->Prop,Q kd s'->wpAny (model prog w) A (keyKind' vs.toArray) Q E s') (hC:∀ s',Old a s s'->S8 prog w A s' kd rk (pairsOf vs)) (h64:vs.length < 64)
  (h:∀ st:SortSt,(arrOf st).Perm (pairsOf vs)->Up rk (arrOf st) (pairsOf vs).size->P (.done (.ret .none)) { s with heap:=sortedHeap s.heap a vs ((arrOf st).map (·.2)) }) :
  wpAny (model prog w) A (Builtin.«list.sort» ⟨[.ref a],[]⟩) P E s:=by
 rw[list_sort_plain]
 have ha:=zv ho
 refine zb (listItems_at ho rfl (zb (listUpdate_at ho rfl ?_)))
 obtain⟨e1,g1⟩:∃ e1,(s.heap.update a (Obj.mapSeq fun _=>#[])).get? a=some (seqObj "list" #[] e1):=⟨_,get?_update_seq ho fun _=>#[]⟩
 refine zb (seqEpoch_at g1 rfl (zb (wpAny_newTuple (zb (wpAny_newList (qo ?_))))))
 have z1:(s.heap.update a (Obj.mapSeq fun _=>#[])).objs.size=s.heap.objs.size:=Heap.size_update ..
 have keep:∀ c,c < s.heap.objs.size->(((s.heap.update a (Obj.mapSeq fun _=>#[])).push (seqObj "tuple" vs.toArray 0)).push (seqObj "list" #[] 0)).get? c=(s.heap.update a (Obj.mapSeq fun _=>#[])).get? c:=fun c hc=>by
  rw[Heap.get?_push_ne _ _ _ (by rw[size_push',z1];exact zD (QN hc)),Heap.get?_push_ne _ _ _ (by rw[z1];exact zD hc)]
 have g6:=(keep a ha).trans g1
 have old:Old a s { s with heap:=((s.heap.update a (Obj.mapSeq fun _=>#[])).push (seqObj "tuple" vs.toArray 0)).push (seqObj "list" #[] 0) }:=fun c o hc e=>by
  show (((s.heap.update a (Obj.mapSeq fun _=>#[])).push (seqObj "tuple" vs.toArray 0)).push (seqObj "list" #[] 0)).get? c=some o
  rw[keep c (zv e),j0 _ _ _ _ hc]
  exact e
 show wpAny _ _ _ _ _ { s with heap:=((s.heap.update a (Obj.mapSeq fun _=>#[])).push (seqObj "tuple" vs.toArray 0)).push (seqObj "list" #[] 0) }
 have hz:vs.toArray.size=vs.length:=by simp
 have lz:∀ st:SortSt,(arrOf st).Perm (pairsOf vs)->((arrOf st).map (·.2)).size<=sizeLine+1:=fun st hp=>by
  have q:((arrOf st).map (·.2)).size=vs.length:=(Array.size_map ..).trans (hp.size_eq.trans (pairsOf_size _))
  rw[q,sizeLine_eq];omega
 by_cases h2:vs.toArray.size < 2
 ·simp only[zo h2]
  refine zb (ze ?_)
  rw[StateT.run_pure]
  refine zb (ze (zb (seqEpoch_at g6 rfl (zb (listUpdate_at g6 rfl ?_ (hsz2:=lz (SortSt.mk' general' (pairsOf vs) #[] 7 none) (Array.Perm.refl _)))))))
  simp only[bne_self_eq_false,zr,ZH]
  refine ze (h (SortSt.mk' general' (pairsOf vs) #[] 7 none) (Array.Perm.refl _) fun i j hij hj=>?_)
  rw[pairsOf_size] at hj
  rw[show i=j by omega]
  exact zl _
 ·simp only[zw h2]
  refine zb (hK (by omega) _ old _ ?_)
  refine zb (qB (runs (hC _ old) (st:=SortSt.mk' kd (pairsOf vs) #[] 7 none) (Q:=fun _ t=>(arrOf t).Perm (pairsOf vs)/\failedOf t=none/\Up rk (arrOf t) (pairsOf vs).size) ⟨Array.Perm.refl _,rfl,rfl,rfl⟩ (by rw[pairsOf_size];omega) (by rw[pairsOf_size];exact h64) fun t q1 q2 q3=>⟨q1,q2,q3⟩) ?_ fun _ _ q=>q)
  rintro⟨⟨⟩,t⟩ s' ⟨rfl,hp,hf,up⟩
  dsimp only
  refine zb (seqEpoch_at g6 rfl (zb (listUpdate_at g6 rfl ?_ (hsz2:=lz t hp))))
  rw[hf]
  simp only[bne_self_eq_false,zr,ZH]
  exact ze (h t hp up)
theorem Rw {x:Value} {vs:List Value} {Q:Value->Shared->Prop} (abu:∀ (E':Value->Shared->Prop) (Q':List Value->Shared->Prop),(∀ h' tk,s.heap.objs.size<=h'.objs.size->(∀ c o,s.heap.get? c=some o->h'.get? c=some o)->Q' vs { s with heap:=h',toks:=tk })->wpAny (model prog w) A.in1 (collect x) Q' E' s)
  (hK:2<=vs.length->∀ (E':Value->Shared->Prop) (A':Around) (s':Shared),(∀ c o,s.heap.get? c=some o->s'.heap.get? c=some o)->∀ Q:SortKind->Shared->Prop,Q kd s'->wpAny (model prog w) A' (keyKind' vs.toArray) Q E' s') (hC:∀ (A':Around) (s':Shared),(∀ c o,s.heap.get? c=some o->s'.heap.get? c=some o)->S8 prog w A' s' kd rk (pairsOf vs)) (h64:vs.length < 64)
  (h:∀ (l:Addr) (h':Heap) (tk n:Nat) (st:SortSt),(arrOf st).Perm (pairsOf vs)->Up rk (arrOf st) (pairsOf vs).size->s.heap.objs.size<=l->(∀ c o,s.heap.get? c=some o->h'.get? c=some o)->h'.get? l=some (seqObj "list" ((arrOf st).map (·.2)) n)->Q (.ref l) { s with heap:=h',toks:=tk }) :
  wpAny (model prog w) A (call (.builtin "sorted") [x]) Q E s:=by
 refine Calls.call_function_entry kind_sorted plain_sorted entry_sorted (args_sorted1 _) ?_;unfold Builtin.«sorted»
 refine zb (m:=checkCount "sorted" 1 1 _) (ze (zb (abu _ _ fun h1 tk hle ext=>zb (wpAny_newList ?_))))
 have hoL:(h1.push (seqObj "list" vs.toArray 0)).get? h1.objs.size=some (seqObj "list" vs.toArray 0):=zt _ rfl
 have old:∀ s':Shared,Old h1.objs.size { s with heap:=h1.push (seqObj "list" vs.toArray 0),toks:=tk } s'->∀ c o,s.heap.get? c=some o->s'.heap.get? c=some o:=fun s' q c o e=>
  q c o (zD (zv (ext c o e))) (zd _ (ext c o e))
 refine zb (qo (qv slot_list_sort ⟨_,hoL,rfl⟩ entry_list_sort (ZM hoL (fun q s' o=>hK q _ _ s' (old s' o)) (fun s' o=>hC _ s' (old s' o)) h64 fun st q1 q2=>⟨_,rfl,ze ⟨_,rfl,?_⟩⟩) (args_list_sort _)))
 obtain⟨n,en⟩:=sortedHeap_at (out:=(arrOf st).map (·.2)) hoL
 refine h h1.objs.size _ tk n st q1 q2 hle (fun c o e=>?_) en
 have hb:=zv (ext c o e)
 rw[sortedHeap_old (zD hb) (by rw[ZU];exact QN hb)]
 exact zd _ (ext c o e)
end
end S1
end
section
namespace S1
open PySem PySem.Spec PyProof.Rows L2
theorem Rx (fb:Bool) (x y:Value):keyLt' (tuples' fb) x y=(do
  let xs <-Builtin.List.listItems x
  let ys <-Builtin.List.listItems y
  for ((p,q),i) in (xs.toList.zip ys.toList).zipIdx do
   if !(<-eqBool p q) then return <-oneLt' (fb&&i==0) p q
  return decide (xs.size < ys.size)):=rfl
def PN:Key->Key->Bool
 |.inl a,.inl b=>decide (a < b)
 |.inr x,.inr y=>decide (x.cps.toList < y.cps.toList)
 |.inl _,.inr _=>true
 |.inr _,.inl _=>false
def PX:Key->Key->Bool
 |.inl _,.inl _=>true
 |.inr _,.inr _=>true
 |_,_=>false
def oM:List Key->List Key->Bool
 |[],[]=>false
 |[],_::_=>true
 |_::_,[]=>false
 |x::xs,y::ys=>if x=y then oM xs ys else PN x y
def X8:List Key->List Key->Prop
 |x::xs,y::ys=>PX x y=true/\X8 xs ys
 |_,_=>True
section
variable {prog:Program} {w:World} {A:Around} {E:Value->Shared->Prop} {s:Shared}
theorem key_eq {x y:Key} {p q:Value} {Q:Bool->Shared->Prop} (hp:mD x p=true) (hq:mD y q=true) (h:Q (decide (x=y)) s):wpAny (model prog w) A (eqBool p q) Q E s:=
 (bD prog w).eqBool (a:=x) (b:=y) hp hq h
theorem abv {fb:Bool} {x y:Key} {p q:Value} {Q:Bool->Shared->Prop} (hs:PX x y=true) (hp:mD x p=true) (hq:mD y q=true) (h:Q (PN x y) s):wpAny (model prog w) A (oneLt' fb p q) Q E s:=by
 rcases bJ hp with⟨i,t,rfl,rfl⟩|⟨z,t,rfl,rfl⟩
 ·rcases bJ hq with⟨j,u,rfl,rfl⟩|⟨z,u,rfl,rfl⟩
  ·cases fb with
   |true=>exact oneLt_int h
   |false=>
    rw[oneLt'_eq]
    simp only[zr,ZH]
    refine zb (show wpAny _ _ (compareOp .Lt (.int i t) (.int j u)) _ _ _ from lt_int ?_)
    exact ym h
  ·cases hs
 ·rcases bJ hq with⟨j,u,rfl,rfl⟩|⟨z',u,rfl,rfl⟩
  ·cases hs
  ·cases fb with
   |true=>exact oneLt_str h
   |false=>
    rw[oneLt'_eq]
    simp only[zr,ZH]
    refine zb (show wpAny _ _ (compareOp .Lt (.str z t) (.str z' u)) _ _ _ from PySem.P.lt_str ?_)
    exact ym h
def Ks (ks:List Key) (its:List Value):Prop:=Paired (fun k v=>mD k v=true) ks its
def dif:List Key->List Key->Option Bool
 |x::xs,y::ys=>if x=y then dif xs ys else some (PN x y)
 |_,_=>none
theorem Uy:∀ ks ls:List Key,oM ks ls=match dif ks ls with|some r=>r|none=>decide (ks.length < ls.length)
 |[],[]=>rfl
 |[],_::_=>by simp[oM,dif]
 |_::_,[]=>rfl
 |x::xs,y::ys=>by
  simp only[oM,dif]
  by_cases e:x=y
  ·rw[zo e,zo e,Uy xs ys]
   simp only[qk,Nat.add_lt_add_iff_right]
  ·rw[zw e,zw e]
def turn (fb:Bool):(Value×Value)×Nat->Option Bool×Unit->Sem (ForInStep (Option Bool×Unit)):=fun x _=>match x with
 |((p,q),i)=>do
  let e <-eqBool p q
  if (!e)=true then do
    let r <-oneLt' (fb&&i==0) p q
    pure (ForInStep.done (some r,()))
   else pure (ForInStep.yield (none,()))
theorem walk (fb:Bool):∀ (ks ls:List Key) (its jts:List Value) (i:Nat) (R:Option Bool×Unit->Shared->Prop),Ks ks its->Ks ls jts->X8 ks ls->R (dif ks ls,()) s->wpAny (model prog w) A (forIn ((its.zip jts).zipIdx i) ((none,()):Option Bool×Unit) (turn fb)) R E s
 |[],_,_,_,_,R,.nil,_,_,h=>ze h
 |_::_,[],_::_,_,_,R,_,.nil,_,h=>ze h
 |x::xs,y::ys,p::its,q::jts,i,R,.cons hp hk,.cons hq hl,hs,h=>by
  rw[yf,List.zipIdx_cons,KO]
  refine zb ?_
  show wpAny _ _ (eqBool p q >>= _) _ _ _
  refine zb (key_eq hp hq ?_)
  by_cases e:x=y
  ·simp only[e,KI,kA,zr,ZH]
   refine ze (walk fb xs ys its jts (i+1) R hk hl hs.2 ?_)
   simp only[dif,zo e] at h
   exact h
  ·simp only[e,kX,Bool.not_false,QO]
   refine zb (abv hs.1 hp hq (ze (ze ?_)))
   simp only[dif,zw e] at h
   exact h
theorem abw {fb:Bool} {a c:Addr} {oa oc:Obj} {its jts:List Value} {n m:Nat} {ks ls:List Key} {Q:Bool->Shared->Prop} (ha:s.heap.get? a=some oa) (da:oa.data=.seq its.toArray n) (hc:s.heap.get? c=some oc) (dc:oc.data=.seq jts.toArray m)
  (hk:Ks ks its) (hl:Ks ls jts) (hs:X8 ks ls) (h:Q (oM ks ls) s):wpAny (model prog w) A (keyLt' (tuples' fb) (.ref a) (.ref c)) Q E s:=by
 rw[Rx]
 refine zb (listItems_at ha da (zb (listItems_at hc dc ?_)))
 have hl1:its.length=ks.length:=(Paired.length hk).symm
 have hl2:jts.length=ls.length:=(Paired.length hl).symm
 refine zb (walk fb ks ls its jts 0 _ hk hl hs ?_)
 rw[Uy] at h
 cases e:dif ks ls with
 |some r=>rw[e] at h;exact ze h
 |none=>
  rw[e] at h
  refine ze ?_
  simpa [hl1,hl2] using h
end
theorem Yb (x:Key):PN x x=false:=by
 cases x with
 |inl a=>simp[PN]
 |inr a=>simp[PN]
theorem Ry {x y z:Key} (h:PN x y=true) (h':PN y z=true):PN x z=true:=by
 cases x<;>cases y<;>cases z<;>simp only[PN,Zp,zr,reduceCtorEq] at h h' ⊢
 ·omega
 ·exact List.lt_trans h h'
theorem Yc {x y:Key} (h:PN x y=false) (h':PN y x=false):x=y:=by
 cases x<;>cases y<;>simp only[PN,Q4,Bool.true_eq_false,reduceCtorEq] at h h'
 ·congr 1;omega
 ·rename_i a b
  have:=List.le_antisymm (as:=a.cps.toList) (bs:=b.cps.toList) h' h
  cases a;cases b
  simp only at this
  rw[Array.toList_inj.mp this]
theorem Cw:∀ xs:List Key,oM xs xs=false
 |[]=>rfl
 |x::xs=>by simp only[oM,QO];exact Cw xs
theorem pX:∀ {xs ys zs:List Key},oM xs ys=true->oM ys zs=true->oM xs zs=true
 |[],[],_,h,_=>by cases h
 |[],_::_,[],_,h'=>by cases h'
 |[],_::_,_::_,_,_=>rfl
 |_::_,[],_,h,_=>by cases h
 |_::_,_::_,[],_,h'=>by cases h'
 |x::xs,y::ys,z::zs,h,h'=>by
  simp only[oM] at h h' ⊢
  by_cases e1:x=y
  ·subst e1
   rw[zo rfl] at h
   by_cases e2:x=z
   ·subst e2
    rw[zo rfl] at h' ⊢
    exact pX h h'
   ·rw[zw e2] at h' ⊢;exact h'
  ·rw[zw e1] at h
   by_cases e2:y=z
   ·subst e2
    rw[zw e1];exact h
   ·rw[zw e2] at h'
    have:=Ry h h'
    rw[zw (fun e=>by subst e;rw[Yb] at this;cases this)]
    exact this
theorem xY:∀ {xs ys:List Key},oM xs ys=false->oM ys xs=false->xs=ys
 |[],[],_,_=>rfl
 |[],_::_,h,_=>by cases h
 |_::_,[],_,h'=>by cases h'
 |x::xs,y::ys,h,h'=>by
  simp only[oM] at h h'
  by_cases e:x=y
  ·subst e
   rw[zo rfl] at h h'
   rw[xY h h']
  ·rw[zw e] at h
   rw[zw (KW e)] at h'
   exact absurd (Yc h h') e
def uH (xs ys:List Key):Bool:=!oM ys xs
theorem wM (a b c:List Key) (h:uH a b=true) (h':uH b c=true):uH a c=true:=by
 unfold uH at *
 simp only[QR] at *
 cases hc:oM c a with
 |false=>rfl
 |true=>
  cases hab:oM a b with
  |true=>rw[pX hc hab] at h';cases h'
  |false=>
   have e:=xY hab h
   subst e
   rw[hc] at h';cases h'
theorem wN (a b:List Key):(uH a b||uH b a)=true:=by
 unfold uH
 cases h:oM b a with
 |false=>rfl
 |true=>
  cases h':oM a b with
  |false=>rfl
  |true=>have:=pX h h';rw[Cw] at this;cases this
theorem zu {a b:List Key} (h:uH a b=true) (h':uH b a=true):a=b:=by
 unfold uH at *
 simp only[QR] at *
 exact xY h' h
theorem qw {α:Type} {le:α->α->Prop} (anti:∀ a b,le a b->le b a->a=b):∀ {l l':List α},l.Perm l'->l.Pairwise le->l'.Pairwise le->l=l'
 |[],l',h,_,_=>by rw[List.nil_perm.mp h]
 |a::l,[],h,_,_=>by cases List.perm_nil.mp h
 |a::l,b::l',h,p,p'=>by
  have e:a=b:=by
   have ha:a∈b::l':=h.mem_iff.mp (zh ..)
   have hb:b∈a::l:=h.mem_iff.mpr (zh ..)
   rcases List.mem_cons.mp ha with h1|h1
   ·exact h1
   ·rcases List.mem_cons.mp hb with h2|h2
    ·exact h2.symm
    ·exact anti a b (JA p h2) (JA p' h1)
  subst e
  rw[qw anti ((List.perm_cons a).mp h) (List.pairwise_cons.mp p).2 (List.pairwise_cons.mp p').2]
def mH (cR:List (List Key)):List (List Key):=cR.mergeSort uH
theorem oF (cR:List (List Key)):(mH cR).Perm cR:=KP ..
theorem uI (cR:List (List Key)):(mH cR).Pairwise (fun a b=>uH a b=true):=kU wM wN cR
theorem rC {cR out:List (List Key)} (hp:out.Perm cR) (hs:out.Pairwise (fun a b=>uH a b=true)):out=mH cR:=qw (fun _ _=>zu) (hp.trans (oF cR).symm) hs (uI cR)
def rank (cR:List (List Key)) (k:List Key):Nat:=cR.countP fun u=>oM u k
theorem Gs {α:Type} {p q:α->Bool}:∀ {l:List α},(∀ x∈l,p x=true->q x=true)->(∃ x∈l,p x=false/\q x=true)->l.countP p < l.countP q
 |[],_,⟨x,hx,_⟩=>by cases hx
 |a::l,h,⟨x,hx,h1,h2⟩=>by
  have le:l.countP p<=l.countP q:=List.countP_mono_left fun y hy=>h y (zg _ hy)
  rw[List.countP_cons,List.countP_cons]
  rcases List.mem_cons.mp hx with rfl|hx
  ·rw[h1,h2];simp;omega
  ·have:=Gs (fun y hy=>h y (zg _ hy)) ⟨x,hx,h1,h2⟩
   have ha:=h a (zh ..)
   cases hp:p a with
   |true=>rw[ha hp];simp;omega
   |false=>simp;omega
theorem P0 {cR:List (List Key)} {a b:List Key} (ha:a∈cR):decide (rank cR a < rank cR b)=oM a b:=by
 cases h:oM a b with
 |true=>
  refine Zl (Gs (fun u _ hu=>pX hu h) ⟨a,ha,Cw a,h⟩)
 |false=>
  refine qc (Nat.not_lt.mpr (List.countP_mono_left fun u _ hu=>?_))
  cases hb:oM b a with
  |true=>exact pX hu hb
  |false=>rw[xY h hb];exact hu
def lW (h:Heap) (ks:List Key) (v:Value):Prop:=∃ (a:Addr) (o:Obj) (its:List Value) (n:Nat),v=.ref a/\h.get? a=some o/\o.cls=.type "tuple" ∧ o.data=.seq its.toArray n/\Ks ks its
theorem lW.keep {h h':Heap} {ks:List Key} {v:Value} (q:lW h ks v) (k:∀ c o,h.get? c=some o->h'.get? c=some o):lW h' ks v:=by
 obtain⟨a,o,its,n,e,g,c,d,p⟩:=q
 exact⟨a,o,its,n,e,k _ _ g,c,d,p⟩
theorem Yd {k l:Key} {v:Value} (h:mD k v=true) (h':mD l v=true):k=l:=by
 rcases bJ h with⟨i,t,rfl,rfl⟩|⟨x,t,rfl,rfl⟩
 ·rcases bJ h' with⟨j,u,rfl,e⟩|⟨y,u,rfl,e⟩
  ·cases e;rfl
  ·cases e
 ·rcases bJ h' with⟨j,u,rfl,e⟩|⟨y,u,rfl,e⟩
  ·cases e
  ·cases e;rfl
theorem Ks.inj:∀ {ks ls:List Key} {its:List Value},Ks ks its->Ks ls its->ks=ls
 |_,_,[],h,h'=>by cases h;cases h';rfl
 |_,_,v::its,h,h'=>by
  cases h with
  |cons p t=>cases h' with
   |cons p' t'=>rw[Yd p p',Ks.inj t t']
theorem lW.inj {h:Heap} {ks ls:List Key} {v:Value} (q:lW h ks v) (q':lW h ls v):ks=ls:=by
 obtain⟨a,o,its,n,rfl,g,c,d,p⟩:=q
 obtain⟨a',o',its',n',e,g',c',d',p'⟩:=q'
 cases e
 rw[g] at g'
 cases g'
 rw[d] at d'
 injection d' with e1 e2
 have e3:its=its':=by simpa using congrArg Array.toList e1
 subst e3
 exact p.inj p'
section
variable {prog:Program} {w:World} {A:Around} {E:Value->Shared->Prop} {s:Shared}
theorem HY {α β:Type} {f:α->Sem β}:∀ (xs:List α) (ys:List β) (Q:List β->Shared->Prop),Paired (fun x y=>∀ (E':Value->Shared->Prop) (Q':β->Shared->Prop),Q' y s->wpAny (model prog w) A (f x) Q' E' s) xs ys->Q ys s->wpAny (model prog w) A (xs.mapM f) Q E s
 |[],_,Q,.nil,h=>by rw[List.mapM_nil];exact ze h
 |x::xs,y::ys,Q,.cons h t,q=>by
  rw[List.mapM_cons]
  exact zb (h _ _ (zb (HY xs ys _ t (ze q))))
theorem Uz (v:Value):firstOfTuple' v=(do
  if (<-typeOf v) != .type "tuple" then return none
  return (<-Builtin.List.listItems v)[0]?):=rfl
theorem Rz {k:Key} {ks:List Key} {v:Value} (q:lW s.heap (k::ks) v):∃ u,mD k u=true/\∀ (E':Value->Shared->Prop) (Q':Option Value->Shared->Prop),Q' (some u) s->wpAny (model prog w) A (firstOfTuple' v) Q' E' s:=by
 obtain⟨a,o,its,n,rfl,g,c,d,p⟩:=q
 cases p with
 |@cons _ u _ its hp t=>
  refine⟨u,hp,fun E' Q' h=>?_⟩
  rw[Uz]
  refine zb (QP (T := "tuple") ⟨o,g,c⟩ ?_)
  rw[zw (by decide)]
  exact zb (listItems_at g d (ze h))
theorem UG {k:Key} {u:Value} (h:mD k u=true) (E':Value->Shared->Prop) (Q':Value->Shared->Prop) (q:Q' (.type (if k.isLeft then "int" else "str")) s):wpAny (model prog w) A (typeOf u) Q' E' s:=by
 rcases bJ h with⟨i,t,rfl,rfl⟩|⟨x,t,rfl,rfl⟩
 ·exact QP (typeIs_int s i t) q
 ·exact QP (typeIs_str s x t) q
theorem Gu {vs:List Value} {cR:List (List Key)} {Q:SortKind->Shared->Prop} (hv:Paired (lW s.heap) cR vs) (hne:∀ k∈cR,k≠[]) (hsh:∀ k∈cR,∀ l∈cR,X8 k l) (h2:1<=vs.length) (h:Q (tuples' true) s):wpAny (model prog w) A (keyKind' vs.toArray) Q E s:=by
 have step:∀ (cR:List (List Key)) (vs:List Value),Paired (lW s.heap) cR vs->(∀ k∈cR,k≠[])->∃ us:List Value,Paired (fun v u=>∀ (E':Value->Shared->Prop) (Q':Option Value->Shared->Prop),Q' (some u) s->wpAny (model prog w) A (firstOfTuple' v) Q' E' s) vs us/\Paired (fun (k:List Key) u=>∃ x r,k=x::r/\mD x u=true) cR us:=by
  intro cR vs hv
  induction hv with
  |nil=>intro _;exact⟨[],.nil,.nil⟩
  |@cons k v cR vs q t ih=>
   intro hne
   obtain⟨us,p1,p2⟩:=ih fun k hk=>hne k (zg _ hk)
   cases k with
   |nil=>exact absurd rfl (hne _ (zh ..))
   |cons x r=>
    obtain⟨u,hu,hw⟩:=Rz (prog:=prog) (w:=w) (A:=A) q
    exact⟨u::us,.cons hw p1,.cons ⟨x,r,rfl,hu⟩ p2⟩
 obtain⟨us,p1,p2⟩:=step cR vs hv hne
 have hlen:us.length=vs.length:=(Paired.length p1).symm
 have lift:∀ {l:List Value} {ws:List Value},Paired (fun v u=>∀ (E':Value->Shared->Prop) (Q':Option Value->Shared->Prop),Q' (some u) s->wpAny (model prog w) A (firstOfTuple' v) Q' E' s) l ws->Paired (fun v u=>∀ (E':Value->Shared->Prop) (Q':Option Value->Shared->Prop),Q' u s->wpAny (model prog w) A (firstOfTuple' v) Q' E' s) l (ws.map some):=fun h=>by
  induction h with
  |nil=>exact .nil
  |cons q t ih=>exact .cons q ih
 rw[keyKind'_eq,List.mapM_toArray,map_eq_pure_bind]
 refine zb (zb (HY vs (us.map some) _ (lift p1) (ze ?_)))
 have hall:(us.map some).toArray.all (·.isSome)=true:=by simp
 rw[zo hall]
 refine zb (kD ?_)
 have hf:(us.map some).toArray.filterMap id=us.toArray:=by simp
 rw[hf,oneTypeOnly'_eq,List.mapM_toArray,map_eq_pure_bind]
 have ty:∀ (cR:List (List Key)) (us:List Value),Paired (fun (k:List Key) u=>∃ x r,k=x::r/\mD x u=true) cR us->∃ ts:List Value,Paired (fun u t=>∀ (E':Value->Shared->Prop) (Q':Value->Shared->Prop),Q' t s->wpAny (model prog w) A (typeOf u) Q' E' s) us ts/\Paired (fun (k:List Key) t=>∃ x r,k=x::r/\t=.type (if x.isLeft then "int" else "str")) cR ts:=by
  intro cR us hp
  induction hp with
  |nil=>exact⟨[],.nil,.nil⟩
  |@cons k u cR us q t ih=>
   obtain⟨ts,q1,q2⟩:=ih
   obtain⟨x,r,rfl,hx⟩:=q
   exact⟨_::ts,.cons (fun E' Q' h=>UG hx E' Q' h) q1,.cons ⟨x,r,rfl,rfl⟩ q2⟩
 obtain⟨ts,q1,q2⟩:=ty cR us p2
 refine zb (zb (zb (HY us ts _ q1 (ze ?_))))
 have lt:ts.length=vs.length:=by rw[<-Paired.length q1,hlen]
 cases q2 with
 |nil=>simp at lt;omega
 |@cons k0 t0 aiX ts' h0 r0=>
  obtain⟨x0,r,rfl,rfl⟩:=h0
  have same:∀ t∈ts',t=Value.type (if x0.isLeft then "int" else "str"):=by
   have aux:∀ (cR:List (List Key)) (ts:List Value),Paired (fun (k:List Key) t=>∃ x r,k=x::r/\t=Value.type (if x.isLeft then "int" else "str")) cR ts->(∀ k∈cR,X8 (x0::r) k)->∀ t∈ts,t=Value.type (if x0.isLeft then "int" else "str"):=by
    intro cR ts hp
    induction hp with
    |nil=>intro _ t ht;cases ht
    |@cons k t cR ts q _ ih=>
     intro hs u hu
     rcases List.mem_cons.mp hu with rfl|hu
     ·obtain⟨x,r',rfl,rfl⟩:=q
      have:=(hs _ (zh ..)).1
      cases x0<;>cases x<;>first|rfl|cases this
     ·exact ih (fun k hk=>hs k (zg _ hk)) u hu
   exact aux _ _ r0 fun k hk=>hsh _ (zh ..) k (zg _ hk)
  have e0:(Value.type (if x0.isLeft then "int" else "str")::ts').toArray[0]?=some (Value.type (if x0.isLeft then "int" else "str")):=by simp
  have e1:((Value.type (if x0.isLeft then "int" else "str")::ts').toArray.all fun x=>x==Value.type (if x0.isLeft then "int" else "str"))=true:=by
   simp only[List.all_toArray,QA]
   intro t ht
   rcases List.mem_cons.mp ht with rfl|ht
   ·simp
   ·rw[same t ht];simp
  rw[e0]
  simp only[e1,QO]
  refine ze (ze ?_)
  have e2:((some (Value.type (if x0.isLeft then "int" else "str"))).any fun x=>x != Value.type "tuple")=true:=by
   cases x0 with
   |inl _=>exact (by decide:((some (Value.type "int")).any fun x=>x != Value.type "tuple")=true)
   |inr _=>exact (by decide:((some (Value.type "str")).any fun x=>x != Value.type "tuple")=true)
  rw[e2]
  exact h
def keyOf (cR:List (List Key)) (vs:List Value) (v:Value):List Key:=match (vs.zip cR).find? (fun p=>p.1==v) with
 |some p=>p.2
 |none=>[]
theorem nA {h:Heap}:∀ {cR:List (List Key)} {vs:List Value},Paired (lW h) cR vs->∀ v∈vs,keyOf cR vs v∈cR/\lW h (keyOf cR vs v) v
 |_,_,.nil,v,hv=>by cases hv
 |k::cR,u::vs,.cons q t,v,hv=>by
  unfold keyOf
  rw[yf,QY]
  by_cases e:u=v
  ·subst e
   simp only[beq_self_eq_true]
   exact⟨zh ..,q⟩
  ·have e':(u==v)=false:=by simpa using e
   simp only[e']
   have hv':v∈vs:=by
    rcases List.mem_cons.mp hv with h|h
    ·exact absurd h.symm e
    ·exact h
   have ih:=nA t v hv'
   exact⟨zg _ ih.1,ih.2⟩
theorem z7 {h:Heap}:∀ {cR:List (List Key)} {vs:List Value},Paired (lW h) cR vs->∀ (K:Value->List Key),(∀ v∈vs,lW h (K v) v)->vs.map K=cR
 |_,_,.nil,_,_=>rfl
 |k::cR,v::vs,.cons q t,K,hK=>by
  rw[zk,(hK v (zh ..)).inj q,z7 t K fun u hu=>hK u (zg _ hu)]
theorem wO {h:Heap}:∀ {vs:List Value} {K:Value->List Key},(∀ v∈vs,lW h (K v) v)->Paired (lW h) (vs.map K) vs
 |[],_,_=>.nil
 |v::vs,K,hK=>.cons (hK v (zh ..)) (wO fun u hu=>hK u (zg _ hu))
theorem Kl {vs:List Value} {cR:List (List Key)} (hv:Paired (lW s.heap) cR vs) (hsh:∀ k∈cR,∀ l∈cR,X8 k l):S8 prog w A s (tuples' true) (fun v=>rank cR (keyOf cR vs v)) (pairsOf vs):=by
 intro E p q Q hp hq h
 rw[pairsOf_toList] at hp hq
 obtain⟨m1,t1⟩:=nA hv p.1 (mem_zip_self hp).2
 obtain⟨m2,t2⟩:=nA hv q.1 (mem_zip_self hq).2
 rw[P0 m1] at h
 have sh:=hsh _ m1 _ m2
 obtain⟨a,o,its,n,e,g,c,d,k⟩:=t1
 obtain⟨a',o',its',n',e',g',c',d',k'⟩:=t2
 rw[e,e']
 exact abw g d g' d' k k' sh h
theorem Km {h:Heap} {vs:List Value} {cR:List (List Key)} (hv:Paired (lW h) cR vs) {xs:Array Keyed} (hp:xs.Perm (pairsOf vs)) (up:Up (fun v=>rank cR (keyOf cR vs v)) xs (pairsOf vs).size):Paired (lW h) (mH cR) (xs.map (·.2)).toList:=by
 have hl:xs.toList.Perm (vs.zip vs):=by rw[<-pairsOf_toList];exact Array.perm_iff_toList_perm.mp hp
 have hm:∀ p∈xs.toList,p.1=p.2/\p.1∈vs:=fun p q=>mem_zip_self (hl.mem_iff.mp q)
 have e:(xs.map (·.2)).toList=xs.toList.map (·.1):=by
  rw[Array.toList_map];exact QQ fun p q=>(hm p q).1.symm
 have pv:(xs.toList.map (·.1)).Perm vs:=by
  have:=hl.map Prod.fst
  rwa [List.map_fst_zip (zl _)] at this
 have key:mH cR=(xs.toList.map (·.1)).map (keyOf cR vs):=by
  refine (rC ?_ ?_).symm
  ·have:=pv.map (keyOf cR vs)
   rwa [z7 hv _ fun v q=>(nA hv v q).2] at this
  ·rw[List.pairwise_iff_getElem]
   intro i j hi hj hij
   have hi':i < xs.size:=by simpa using hi
   have hj':j < xs.size:=by simpa using hj
   have u:=up i j (JU hij) (by rw[<-hp.size_eq];exact hj')
   unfold at_ at u
   rw[getElem?_pos xs i hi',getElem?_pos xs j hj'] at u
   have m2:=(nA hv xs[j].1 (hm xs[j] (by simp)).2).1
   simp only[List.getElem_map,Array.getElem_toList]
   unfold uH
   rw[<-P0 m2,qc (Nat.not_lt.mpr u)]
   rfl
 rw[key,e]
 refine wO fun v q=>(nA hv v ?_).2
 exact pv.mem_iff.mp q
end
end S1
end
section
namespace P1
open PySem PySem.Spec PyProof.Rows L2 S1
section
variable {prog:Program} {w:World} {A:Around} {E:Value->Shared->Prop} {s:Shared}
theorem Nr {l:Addr} {o:Obj} {T:String} {vs:List Value} {n:Nat} {Q:List Value->Shared->Prop} (ho:s.heap.get? l=some o) (hc:o.cls=.type T) (hT:T = "list" ∨ T = "tuple") (hd:o.data=.seq vs.toArray n) (hz:vs.length<=sizeLine)
  (h:∀ h' tk,s.heap.objs.size<=h'.objs.size->(∀ c o,s.heap.get? c=some o->h'.get? c=some o)->Q vs { s with heap:=h',toks:=tk }):wpAny (model prog w) A (collect (.ref l)) Q E s:=by
 unfold collect
 refine zb (wpAny_runValue (js entry_proto_collect' ?_))
 show wpAny _ _ (newList [] >>= fun q=>again (.builtin "list.__iadd__" ⟨[q,.ref l],[]⟩)) _ _ s
 refine zb (wpAny_newList (ze ⟨Code.quiet_builtin _ (by decide +kernel),js entry_list_iadd' ?_⟩))
 show wpAny _ _ (Builtin.List.listExtendWith (.ref s.heap.objs.size) (.ref l) (.ref s.heap.objs.size)) _ _ _
 unfold Builtin.List.listExtendWith
 have g1:(s.heap.push (seqObj "list" #[] 0)).get? l=some o:=zd _ ho
 refine zb (QP (T:=T) ⟨o,g1,hc⟩ ?_)
 have ht:(Value.type T==Value.type "list" || Value.type T==Value.type "tuple")=true:=by rcases hT with rfl|rfl<;>decide
 rw[zo (by rw[Bool.or_assoc,ht];simp)]
 refine zb (listItems_at g1 hd (zb (listItems_at (xs:=#[]) (n:=0) (zt _ rfl) rfl ?_)))
 rw[zw (by simp)]
 have g2:(s.heap.push (seqObj "list" #[] 0)).get? s.heap.objs.size=some (seqObj "list" #[] 0):=zt _ rfl
 refine zb (listUpdate_at (xs:=#[]) (n:=0) g2 rfl (ze ?_) (qA _) (by show (#[]++vs.toArray).size<=sizeLine+1;simp only[KB,zC,List.length_nil];omega))
 show wpAny (model prog w) A (load s.heap.objs.size >>= _) Q E _
 refine zb (wpAny_load (get?_update_seq g2 _) ?_)
 show wpAny _ _ (pure ((#[]:Array Value)++vs.toArray).toList) Q E _
 rw[show ((#[]:Array Value)++vs.toArray).toList=vs by simp]
 refine ze (h _ s.toks ?_ fun c oc e=>?_)
 ·rw[Heap.size_update,size_push'];exact KL _
 ·rw[j0 _ _ _ _ (zD (zv e))]
  exact zd _ e
end
def Ye:Dt->Option Key
 |.int i=>some (.inl i)
 |.str x=>some (.inr x)
 |_=>none
def z8:List Dt->Option (List Key)
 |[]=>some []
 |d::ds=>(Ye d).bind fun k=>(z8 ds).bind fun ks=>some (k::ks)
def Cy:Dt->Option (List Key)
 |.tup ds=>z8 ds
 |_=>none
def rW:List Dt->Option (List (List Key))
 |[]=>some []
 |d::ds=>(Cy d).bind fun k=>(rW ds).bind fun ks=>some (k::ks)
def dK:Key->Dt
 |.inl i=>.int i
 |.inr x=>.str x
def tupK (ks:List Key):Dt:=.tup (ks.map dK)
theorem Yg {d:Dt} {k:Key} (h:Ye d=some k):d=dK k:=by
 cases d<;>cases h<;>rfl
theorem Ko:∀ {ds:List Dt} {ks:List Key},z8 ds=some ks->ds=ks.map dK
 |[],_,h=>by cases h;rfl
 |d::ds,_,h=>by
  obtain⟨k,e1,h⟩:=bind_some h
  obtain⟨ks,e2,h⟩:=bind_some h
  cases h
  rw[zk,Yg e1,Ko e2]
theorem Kq {d:Dt} {ks:List Key} (h:Cy d=some ks):d=tupK ks:=by
 cases d with
 |tup ds=>exact congrArg Dt.tup (Ko h)
 |_=>cases h
theorem zx:∀ {ds:List Dt} {cR:List (List Key)},rW ds=some cR->ds=cR.map tupK
 |[],_,h=>by cases h;rfl
 |d::ds,_,h=>by
  obtain⟨k,e1,h⟩:=bind_some h
  obtain⟨ks,e2,h⟩:=bind_some h
  cases h
  rw[zk,Kq e1,zx e2]
section
variable {X:Cx}
theorem Yh {K:PySem.W.Frag} {H:Hp} {k:Key} {v:V} (h:Rep K H (dK k) v):v=kV k:=by
 cases k with
 |inl i=>exact (show v=.int i by simpa only[dK,Rep] using h)
 |inr x=>exact (show v=.str x/\x.length<=sizeLine by simpa only[dK,Rep] using h).1
theorem Gv {K:PySem.W.Frag} {H:Hp}:∀ {ks:List Key} {vs:List V},aJ K H (ks.map dK) vs->vs=ks.map kV
 |[],_,h=>by simp only[JY,aJ] at h;exact h
 |k::ks,_,h=>by
  simp only[zk,aJ] at h
  obtain⟨v,r,rfl,h1,h2⟩:=h
  rw[Yh h1,Gv h2,zk]
theorem adB (X:Cx) {ks:List Key}:∀ {us:List Value},Vals (ks.map kV) us->Ks ks us:=by
 induction ks with
 |nil=>intro us h;cases h;exact .nil
 |cons k ks ih=>
  intro us h
  cases h with
  |cons r t=>exact .cons (Gh (P:=X.prog) (w:=X.w) r) (ih t)
theorem qx {pins:List (Addr×Obj)} {σ:L2.St} {H:Hp} {s:Shared} (I:Inv X pins σ H s):∀ {cR:List (List Key)} {vs:List V} {its:List Value},aJ X.K H (cR.map tupK) vs->Vals vs its->Paired (lW s.heap) cR its
 |[],_,_,h,r=>by
  simp only[JY,aJ] at h
  subst h;cases r;exact .nil
 |k::cR,_,_,h,r=>by
  simp only[zk,aJ] at h
  obtain⟨v,vs,rfl,h1,h2⟩:=h
  cases r with
  |cons r1 r2=>
   refine .cons ?_ (qx I h2 r2)
   simp only[tupK,Rep] at h1
   obtain⟨a,ws,rfl,sq,rs⟩:=h1
   obtain⟨its,rv,⟨o,g,c,n,d⟩,_⟩:=I.tuple sq
   cases r1
   rw[Gv rs] at rv
   exact⟨a,o,its,n,rfl,g,c,d,adB X rv⟩
theorem zy {pins:List (Addr×Obj)} {σ:L2.St} {H:Hp} {s:Shared} (I:Inv X pins σ H s) {cR:List (List Key)} {vs:List V} {its:List Value} (h:aJ X.K H (cR.map tupK) vs) (r:Vals vs its):∀ {S9:List (List Key)} {out:List Value},Paired (lW s.heap) S9 out->(∀ u∈out,u∈its)->∃ zs,Vals zs out/\aJ X.K H (S9.map tupK) zs
 |_,_,.nil,_=>⟨[],.nil,aJ.nil⟩
 |l::S9,u::out,.cons q t,hm=>by
  obtain⟨zs,z1,z2⟩:=zy I h r t fun x hx=>hm x (zg _ hx)
  have aux:∀ (cR:List (List Key)) (vs:List V) (its:List Value),aJ X.K H (cR.map tupK) vs->Vals vs its->u∈its->∃ v,RelV v u/\Rep X.K H (tupK l) v:=by
   intro cR
   induction cR with
   |nil=>
    intro vs its h r hu
    simp only[JY,aJ] at h
    subst h;cases r;cases hu
   |cons k cR ih=>
    intro vs its h r hu
    simp only[zk,aJ] at h
    obtain⟨v,vs,rfl,h1,h2⟩:=h
    cases r with
    |@cons _ u' _ _ r1 r2=>
     rcases List.mem_cons.mp hu with rfl|hu
     ·have e:k=l:=by
       have:=qx I (cR:=[k]) (vs:=[v]) (its:=[u]) (by simp only[zk,JY];exact aJ.cons h1 aJ.nil) (.cons r1 .nil)
       cases this with
       |cons q' _=>exact q'.inj q
      subst e
      exact⟨v,r1,h1⟩
     ·exact ih vs _ h2 r2 hu
  obtain⟨v,r1,h1⟩:=aux cR vs its h r (hm u (zh ..))
  exact⟨v::zs,.cons r1 z1,by rw[zk];exact aJ.cons h1 z2⟩
def Ia (k l:List Key):Bool:=((k.zip l).all fun p=>PX p.1 p.2)
theorem Cz:∀ {k l:List Key},Ia k l=true->X8 k l
 |[],_,_=>by simp[X8]
 |_::_,[],_=>by simp[X8]
 |x::k,y::l,h=>by
  unfold Ia at h
  rw[yf,kz,ZN] at h
  exact⟨h.1,Cz h.2⟩
def Av (cR:List (List Key)):Bool:=decide (cR.length < 64)&&(cR.all (fun k=>!k.isEmpty)&&cR.all fun k=>cR.all fun l=>Ia k l)
def uJ:List Bx->Option Bx
 |[b]=>(uw b).bind fun ds=>(rW ds).bind fun cR=>if Av cR=true then some (.o ((mH cR).map tupK)) else none
 |_=>none
theorem Bu {K:PySem.W.Frag} {H:Hp} {b:Bx} {v:V} {ds:List Dt} (h:bA K H b v) (e:uw b=some ds):∃ a vs,v=.ref a/\(tR K H a vs\/vH K H a vs)/\aJ K H ds vs:=by
 cases b with
 |z d=>
  cases d<;>first|(cases e;done)|skip
  ·cases e
   simp only[bA,Rep] at h
   obtain⟨a,vs,e,q,r⟩:=h
   exact⟨a,vs,e,.inr q,r⟩
  ·cases e
   simp only[bA,Rep] at h
   obtain⟨a,vs,e,q,r⟩:=h
   exact⟨a,vs,e,.inl q.sq,r⟩
 |l ds'=>cases e;obtain⟨a,vs,e,q,r⟩:=h;exact⟨a,vs,e,.inl (.inl q),r⟩
 |o ds'=>cases e;obtain⟨a,vs,e,q,r⟩:=h;exact⟨a,vs,e,.inl (.inl (.inl q)),r⟩
 |n _=>cases e
 |m _ _=>cases e
theorem Kr:qt X (.builtin "sorted") uJ:=by
 intro pins s σ H xs us Q I rx h
 obtain⟨bs,c,rb,e,q⟩:=h
 unfold uJ at e
 split at e
 ·rename_i b
  obtain⟨ds,ed,e⟩:=bind_some e
  obtain⟨cR,ek,e⟩:=bind_some e
  split at e
  ·rename_i hs
   cases e
   simp only[Av,ZN,Zp,QA,QR] at hs
   obtain⟨h64,hne,hsh⟩:=hs
   obtain⟨v,rfl,r1⟩:=rep1 rb
   obtain⟨p,vs,rfl,sq,rs⟩:=Bu r1 ed
   obtain⟨u,rfl,ru⟩:=vals1 rx
   cases ru
   have eds:=zx ek
   subst eds
   have got:∃ (its:List Value) (o:Obj) (T:String) (n:Nat),Vals vs its/\s.heap.get? p=some o/\o.cls=.type T/\(T = "list" ∨ T = "tuple")/\o.data=.seq its.toArray n/\vs.length<=sizeLine:=by
    rcases sq with sq|sq
    ·obtain⟨its,r',pl,hz⟩:=I.list sq
     obtain⟨o,g,c,n,d⟩:=pl.isList
     exact⟨its,o,_,n,r',g,c,.inl rfl,d,hz⟩
    ·obtain⟨its,r',⟨o,g,c,n,d⟩,hz⟩:=I.tuple sq
     exact⟨its,o,_,n,r',g,c,.inr rfl,d,hz⟩
   obtain⟨its,o,T,n,r',g,hc,hT,hd,hz⟩:=got
   have hlen:its.length=cR.length:=by rw[<-r'.length,rs.length,zi]
   have tv:=qx I rs r'
   refine Rw (kd:=tuples' true) (rk:=fun v=>rank cR (keyOf cR its v)) (vs:=its) (fun E' Q' hq=>Nr g hc hT hd (by rw[<-r'.length];exact hz) hq)
    (fun h2 E' A' s' k Q' hq=>Gu (Paired.imp' (fun _ _ z=>lW.keep z k) tv) (fun k hk=>by have:=hne k hk;cases k with|nil=>cases this|cons _ _=>exact List.cons_ne_nil _ _) (fun k hk l hl=>Cz (hsh k hk l hl)) (by omega) hq)
    (fun A' s' k=>Kl (Paired.imp' (fun _ _ z=>lW.keep z k) tv) fun k hk l hl=>Cz (hsh k hk l hl)) (by omega) fun l h' tk m st hp up hl ext hL=>?_
   have out:=Km tv hp up
   have mem:∀ u∈((arrOf st).map (·.2)).toList,u∈its:=fun u hu=>by
    rw[Array.toList_map] at hu
    obtain⟨pr,hpr,rfl⟩:=List.mem_map.mp hu
    have abx:pr∈its.zip its:=by rw[<-pairsOf_toList];exact (Array.perm_iff_toList_perm.mp hp).mem_iff.mp hpr
    have:=mem_zip_self abx
    rw[<-this.1];exact this.2
   obtain⟨zs,z1,z2⟩:=zy I rs r' out mem
   have hzl:zs.length=cR.length:=by rw[z2.length,zi,(oF cR).length_eq]
   have hH:H l=none:=I.hok.fresh hl
   refine⟨.ref l,_,I.laid (t':=tk) (a:=l) (o:=.lst zs) ext hl ⟨by rw[hzl];exact JU (ZE h64 (by decide)),_,m,z1,?_⟩,rfl,q _ _ (bW hH) (fun a ea=>by cases ea;exact hH) ⟨l,zs,rfl,bK,z2.kp (.of (bW hH))⟩⟩
   rw[hL]
  ·cases e
 ·cases e
end
end P1
end
section
namespace S6
open PySem PySem.Spec PyProof.Rows
theorem RB {M:Model} {A:Around} {E:Value->Shared->Prop} {s:Shared} {src:Source} {n:Nat} {Q:Nat->Shared->Prop} (hn:n≠0) (h:∀ i d,i < n->Q i { s with drawn:=d }):wpAny M A (choose src n) Q E s:=
 fun Γ p hΓ=>⟨hn,h _ _ (Nat.mod_lt _ (Nat.pos_of_ne_zero hn))⟩
theorem Ib {α:Type}:∀ {xs:List α} {i:Nat} (hi:i < xs.length),(xs[i]::xs.eraseIdx i).Perm xs
 |x::xs,0,_=>List.Perm.refl _
 |x::xs,i+1,h=>by
  rw[List.eraseIdx_cons_succ,List.getElem_cons_succ]
  exact (List.Perm.swap _ _ _).trans ((Ib (xs:=xs) (i:=i) (by simpa using h)).cons x)
theorem Yi {M:Model} {A:Around} {E:Value->Shared->Prop} {α:Type}:∀ (n:Nat) (xs:List α) (s:Shared) (Q:List α->Shared->Prop),xs.length=n->(∀ ys d,ys.Perm xs->Q ys { s with drawn:=d })->wpAny M A (drawOrder n xs) Q E s:=by
 intro n
 induction n with
 |zero=>
  intro xs s Q hl h
  cases xs with
  |nil=>
   unfold drawOrder
   exact ze (h [] s.drawn (List.Perm.refl _))
  |cons x xs=>simp at hl
 |succ n ih=>
  intro xs s Q hl h
  cases xs with
  |nil=>simp at hl
  |cons x xs=>
   unfold drawOrder
   refine zb (RB (by simp) fun i d hi=>?_)
   have e:(x::xs)[i]?=some (x::xs)[i]:=by simp[hi]
   rw[e]
   dsimp only
   refine zb (ih ((x::xs).eraseIdx i) _ _ (by rw[List.length_eraseIdx,zo hi];simp at hl ⊢;omega) fun ys d' hp=>ze ?_)
   exact h _ d' ((List.Perm.cons _ hp).trans (Ib hi))
theorem Qa {α:Type} (next:Nat->Nat):∀ (n k:Nat) (xs:List α) (out:Array α),xs.length=n->(pickOrder.go next n k xs out).toList.Perm (out.toList++xs)
 |0,k,[],out,_=>by unfold pickOrder.go;simp
 |n+1,k,x::xs,out,hl=>by
  unfold pickOrder.go
  have hi:next k % (x::xs).length < (x::xs).length:=Nat.mod_lt _ (by simp)
  have e:(x::xs)[next k % (x::xs).length]?=some (x::xs)[next k % (x::xs).length]:=by rw[zz hi]
  rw[e]
  dsimp only
  refine (Qa next n (k+1) _ _ (by rw[List.length_eraseIdx,zo hi];simp at hl ⊢;omega)).trans ?_
  rw[Array.toList_push,KA]
  exact (List.Perm.refl _).append (Ib hi)
theorem RD {α:Type} (next:Nat->Nat) (xs:Array α):(pickOrder next xs).toList.Perm xs.toList:=by
 have:=Qa next xs.size 0 xs.toList #[] (by simp)
 simpa [pickOrder] using this
structure Wk (w:World) (h:Heap) (a:Addr) (es:Array (Int×Value)) (ep:Nat) (t:SetTable):Prop where
 at_:∃ o,h.get? a=some o/\o.cls=.type "set" ∧ o.data=.set es ep t
 fit:t.fits es.size=true
 led:w.params.followText "set-order" = false->t.led=true
 non:1 < es.size->t.plain=false
theorem Wk.keep {w:World} {h h':Heap} {a:Addr} {es:Array (Int×Value)} {ep:Nat} {t:SetTable} (x:Wk w h a es ep t) (k:∀ o,h.get? a=some o->h'.get? a=some o):Wk w h' a es ep t:=
 ⟨let ⟨o,e,r⟩:=x.at_;⟨o,k o e,r⟩,x.fit,x.led,x.non⟩
def It (h:Heap) (it a:Addr) (first:Value) (i n ep:Nat):Prop:=∃ o,h.get? it=some o/\o.cls=.type "set_iterator" ∧ o.data=.fields #[first,.int (i:Int) 0,.ref a,.int (n:Int) 0,.int (ep:Int) 0]
theorem It.keep {h h':Heap} {it a:Addr} {f:Value} {i n ep:Nat} (x:It h it a f i n ep) (k:∀ o,h.get? it=some o->h'.get? it=some o):It h' it a f i n ep:=
 let ⟨o,e,r⟩:=x;⟨o,k o e,r⟩
theorem It.ty {s:Shared} {it a:Addr} {f:Value} {i n ep:Nat} (x:It s.heap it a f i n ep):s.TypeIs (.ref it) "set_iterator" := let ⟨o,e,c,_⟩:=x;⟨o,e,c⟩
theorem lu:Slot "set_iterator" "__next__" "set_iterator.__next__" :=
 .of (owner := "set_iterator") (n := "__next__") (by rw[typeLookup_type,builtinLookup_eq_fast];kernel_rfl) (by decide +kernel) (by decide +kernel) (by decide +kernel)
  (by first|exact .inl (by decide +kernel)|exact .inr (by decide +kernel)) (by rw[isSubtype_type];kernel_rfl)
theorem xZ:Slot "set_iterator" "__iter__" "set_iterator.__iter__" :=
 .of (owner := "set_iterator") (n := "__iter__") (by rw[typeLookup_type,builtinLookup_eq_fast];kernel_rfl) (by decide +kernel) (by decide +kernel) (by decide +kernel)
  (by first|exact .inl (by decide +kernel)|exact .inr (by decide +kernel)) (by rw[isSubtype_type];kernel_rfl)
theorem Er:entryFor table "set_iterator.__next__" = some Builtin.«set_iterator.__next__»:=entryFor_of_tree (by kernel_rfl)
theorem Aw:entryFor table "set.__iter__" = some Builtin.«frozenset.__iter__»:=entryFor_alias (id' := "frozenset.__iter__") (by kernel_rfl) rfl (by decide +kernel) (by kernel_rfl)
theorem Es:entryFor table "set_iterator.__iter__" = some Builtin.«dict_keyiterator.__iter__»:=entryFor_alias (id' := "dict_keyiterator.__iter__") (by kernel_rfl) rfl (by decide +kernel) (by kernel_rfl)
theorem UJ:Manifest.owners.lookup (String.ofList "rotareti_tes".toList.reverse)=some Manifest.sig_set_iterator:=by kernel_rfl
theorem Ie (a:Value):argsOk "set_iterator.__next__" ⟨[a],[]⟩:=by
 unfold argsOk;rw[signature?_of (id := "set_iterator.__next__") (n := "__txen__".toList) (o := "rotareti_tes".toList) (by kernel_rfl) UJ];kernel_rfl
theorem Ig (a:Value):argsOk "set_iterator.__iter__" ⟨[a],[]⟩:=by
 unfold argsOk;rw[signature?_of (id := "set_iterator.__iter__") (n := "__reti__".toList) (o := "rotareti_tes".toList) (by kernel_rfl) UJ];kernel_rfl
section
variable {prog:Program} {w:World} {A:Around} {E:Value->Shared->Prop} {s:Shared} {it a:Addr} {i ep:Nat} {es:Array (Int×Value)} {t:SetTable}
theorem Bv {first:Value} {Q:Option Value->Shared->Prop} (hit:It s.heap it a first i es.size ep) (hw:Wk w s.heap a es ep t)
  (h:wpAny (model prog w) A.in1 (if let .int slot _:=first then (do
    match <-setNext a slot.toNat (i:Int).toNat (ep:Int).toNat with
    |some (x,next)=>
     setField (.ref it) 0 (rawInt next)
     setField (.ref it) 1 (rawInt ((i:Int)+1))
     ret x
    |none=>setField (.ref it) 2 .none;raiseNew (<-newExc (.type "StopIteration") []))
   else (do
    let some places <-seqItems? first|unsupported "internal:set_iterator"
    match places[(i:Int).toNat]? with
    |some (.int place _)=>
     let x <-setNextDrawn a place.toNat (ep:Int).toNat
     setField (.ref it) 1 (rawInt ((i:Int)+1))
     ret x
    |some _=>unsupported "internal:set_iterator"
    |none=>setField (.ref it) 0 (rawInt 0);setField (.ref it) 2 .none;raiseNew (<-newExc (.type "StopIteration") []))) (fun fin s'=>∃ v,fin=.done (.ret v)/\Q (some v) s') (fun e s'=>s'.TypeIs e "StopIteration" ∧ Q none s') s):wpAny (model prog w) A (pyNext (.ref it)) Q E s:=by
 obtain⟨o,ho,hc,hd⟩:=id hit
 obtain⟨oa,hoa,hca,hda⟩:=hw.at_
 unfold pyNext
 refine zb (KF (QE (name:=Str.ofString "__next__") hit.ty lu (qv lu hit.ty Er ?_ (Ie _))))
 unfold Builtin.«set_iterator.__next__»
 refine zb (ze ?_)
 refine zb (wpAny_fieldsOf ho hd ?_)
 show wpAny _ _ (setEntries a >>= _) _ _ s
 refine zb (wpAny_setEntries_of hoa hda hw.fit ?_)
 rw[zw (by simp)]
 refine qB h (fun fin s' hq=>?_) fun e s' hq=>?_
 ·obtain⟨v,rfl,hv⟩:=hq
  exact⟨v,rfl,ze hv⟩
 ·refine zb (kK (T := "StopIteration") (b:=true) hq.1 isSubtype_stop ?_)
  exact ze hq.2
theorem Qc {hp:Heap} {Q:Option Value->Shared->Prop} (hh:A.handled=none) (h:∀ h',(∀ b o,hp.get? b=some o->h'.get? b=some o)->Q none { s with heap:=h' }) :
  wpAny (model prog w) A.in1 (do raiseNew (<-newExc (.type "StopIteration") [])) (fun (fin:Fin) s'=>∃ v,fin=.done (.ret v)/\Q (some v) s') (fun e s'=>s'.TypeIs e "StopIteration" ∧ Q none s') { s with heap:=hp }:=by
 refine zb ?_
 simp only[newExc,newTuple]
 refine zb (Z3 ?_ (by size_fits))
 refine zb (m:=firstArgMember _ _) (wpAny_of_eq (a:=Value.none) (by first|rfl|(simp only[firstArgMember];rfl)) ?_)
 refine Z3 ?_ (by size_fits)
 simp only[raiseNew]
 refine zb (wpAny_handled ?_)
 rw[show A.in1.handled=none from hh]
 refine zb (ze (wpAny_throw ⟨⟨_,zt _ rfl,rfl⟩,?_⟩))
 exact h _ fun b o e=>zd _ (zd _ e)
theorem It.put {h:Heap} {f:Value} {n:Nat} (hit:It h it a f i n ep) (x:Value):It (h.update it (Obj.mapFields (·.setIfInBounds 0 x))) it a x i n ep:=by
 obtain⟨o,ho,hc,hd⟩:=hit
 exact⟨_,kB _ ho (Obj.isFreed_of_fields (ki hd _)),(Obj.cls_mapFields ..).trans hc,by rw[ki hd];simp⟩
theorem It.step {h:Heap} {f:Value} {n:Nat} (hit:It h it a f i n ep):It (h.update it (Obj.mapFields (·.setIfInBounds 1 (rawInt ((i:Int)+1))))) it a f (i+1) n ep:=by
 obtain⟨o,ho,hc,hd⟩:=hit
 exact⟨_,kB _ ho (Obj.isFreed_of_fields (ki hd _)),(Obj.cls_mapFields ..).trans hc,by rw[ki hd];simp[rawInt]⟩
theorem It.field {f:Value} {n k:Nat} {x:Value} {A:Around} {Q:Unit->Shared->Prop} {E:Value->Shared->Prop} (hit:It s.heap it a f i n ep) (hk:k < 5) (h:Q () { s with heap:=s.heap.update it (Obj.mapFields (·.setIfInBounds k x)) }):wpAny (model prog w) A (setField (.ref it) k x) Q E s:=by
 obtain⟨o,ho,hc,hd⟩:=hit
 exact wpAny_setField ho hd (by simpa using hk) h
theorem rD {h:Heap} {f:Obj->Obj} {b:Addr} {o:Obj} (hb:b≠it) (e:h.get? b=some o):(h.update it f).get? b=some o:=by rw[j0 _ _ _ _ hb];exact e
theorem UL {slot next:Nat} {x:Value} {Q:Option Value->Shared->Prop} (hit:It s.heap it a (.int (slot:Int) 0) i es.size ep) (hw:Wk w s.heap a es ep t)
  (hS:∀ {A':Around} {E':Value->Shared->Prop} {Q':Option (Value×Nat)->Shared->Prop},Q' (some (x,next)) s->wpAny (model prog w) A' (setNext a slot i ep) Q' E' s)
  (h:∀ h',It h' it a (.int (next:Int) 0) (i+1) es.size ep->(∀ b o,b≠it->s.heap.get? b=some o->h'.get? b=some o)->Q (some x) { s with heap:=h' }):wpAny (model prog w) A (pyNext (.ref it)) Q E s:=by
 refine Bv hit hw ?_
 show wpAny _ _ (setNext a slot i ep >>= _) _ _ s
 refine zb (hS ?_)
 refine zb (hit.field (by decide) ?_)
 refine zb ((hit.put _).field (s:={ s with heap:=_ }) (by decide) ?_)
 exact ze ⟨x,rfl,h _ ((hit.put _).step) fun b o hb e=>rD hb (rD hb e)⟩
theorem CG {slot:Nat} {Q:Option Value->Shared->Prop} (hh:A.handled=none) (hit:It s.heap it a (.int (slot:Int) 0) i es.size ep) (hw:Wk w s.heap a es ep t)
  (hS:∀ {A':Around} {E':Value->Shared->Prop} {Q':Option (Value×Nat)->Shared->Prop},Q' none s->wpAny (model prog w) A' (setNext a slot i ep) Q' E' s)
  (h:∀ h',(∀ b o,b≠it->s.heap.get? b=some o->h'.get? b=some o)->Q none { s with heap:=h' }):wpAny (model prog w) A (pyNext (.ref it)) Q E s:=by
 refine Bv hit hw ?_
 show wpAny _ _ (setNext a slot i ep >>= _) _ _ s
 refine zb (hS ?_)
 refine zb (hit.field (by decide) (Qc hh fun h' k=>h h' fun b o hb e=>k b o (rD hb e)))
theorem Yj {tp:Addr} {pl:List Nat} {ot:Obj} {c:Nat} {j:Nat} {x:Int×Value} {Q:Option Value->Shared->Prop} (hit:It s.heap it a (.ref tp) i es.size ep) (hw:Wk w s.heap a es ep t)
  (ht:s.heap.get? tp=some ot) (hd:ot.data=.seq (pl.map fun (k:Nat)=>rawInt (k:Int)).toArray c) (hj:pl[i]?=some j) (hx:es[j]?=some x)
  (h:∀ h',It h' it a (.ref tp) (i+1) es.size ep->(∀ b o,b≠it->s.heap.get? b=some o->h'.get? b=some o)->Q (some x.2) { s with heap:=h' }):wpAny (model prog w) A (pyNext (.ref it)) Q E s:=by
 refine Bv hit hw ?_
 show wpAny _ _ (seqItems? (.ref tp) >>= _) _ _ s
 refine zb (m:=seqItems? (.ref tp)) ?_
 unfold seqItems?
 refine zb (wpAny_load ht ?_)
 rw[hd]
 refine ze ?_
 dsimp only
 rw[kC,show ((pl.map fun (k:Nat)=>rawInt (k:Int)).toArray)[i]?=some (rawInt (j:Int)) by simp[hj]]
 show wpAny _ _ (setNextDrawn a j ep >>= _) _ _ s
 obtain⟨oa,hoa,hca,hda⟩:=hw.at_
 refine zb (m:=setNextDrawn a j ep) ?_
 unfold setNextDrawn
 refine zb (Q1 hoa hda hw.fit ?_)
 dsimp only
 rw[zw (by simp),hx]
 refine ze ?_
 refine zb (hit.field (by decide) ?_)
 exact ze ⟨x.2,rfl,h _ hit.step fun b o hb e=>rD hb e⟩
theorem Ku {tp:Addr} {pl:List Nat} {ot:Obj} {c:Nat} {Q:Option Value->Shared->Prop} (hh:A.handled=none) (hit:It s.heap it a (.ref tp) i es.size ep) (hw:Wk w s.heap a es ep t)
  (ht:s.heap.get? tp=some ot) (hd:ot.data=.seq (pl.map fun (k:Nat)=>rawInt (k:Int)).toArray c) (hj:pl[i]?=none)
  (h:∀ h',(∀ b o,b≠it->s.heap.get? b=some o->h'.get? b=some o)->Q none { s with heap:=h' }):wpAny (model prog w) A (pyNext (.ref it)) Q E s:=by
 refine Bv hit hw ?_
 show wpAny _ _ (seqItems? (.ref tp) >>= _) _ _ s
 refine zb (m:=seqItems? (.ref tp)) ?_
 unfold seqItems?
 refine zb (wpAny_load ht ?_)
 rw[hd]
 refine ze ?_
 dsimp only
 rw[kC,show ((pl.map fun (k:Nat)=>rawInt (k:Int)).toArray)[i]?=none by simpa using hj]
 refine zb (hit.field (by decide) ?_)
 refine zb ((hit.put _).field (s:={ s with heap:=_ }) (by decide) (Qc hh fun h' k=>h h' fun b o hb e=>k b o (rD hb (rD hb e))))
end
section
variable {prog:Program} {w:World} {A:Around} {E:Value->Shared->Prop} {s:Shared} {it a:Addr} {i ep:Nat} {es:Array (Int×Value)} {t:SetTable}
theorem vC {Q:Bool->Shared->Prop} (h:Q (w.params.followText "set-order") s):wpAny (model prog w) A setsByText Q E s:=by
 unfold setsByText
 exact zb (wpAny_askSetting (ze h))
theorem Ih {f:Value} {n:Nat} {Q:Value->Shared->Prop} (hit:It s.heap it a f i n ep) (h:Q (.ref it) s):wpAny (model prog w) A (pyIter (.ref it)) Q E s:=by
 refine wpAny_pyIter_slot hit.ty xZ (qv xZ hit.ty Es ?_ (Ig _))
 show wpAny _ _ (ret (.ref it)) _ _ s
 exact ze ⟨_,rfl, "set_iterator", _,hit.ty,lu.lookup,h⟩
def Ii (w:World) (a:Addr) (ep:Nat) (es:Array (Int×Value)):List Value:=(pickOrder (w.params.setOrder a ep) es).toList.map (·.2)
theorem zA:(Ii w a ep es).Perm (es.toList.map (·.2)):=(RD _ _).map _
theorem Gw {slot:Nat} {Q:Option (Value×Nat)->Shared->Prop} (hf:w.params.followText "set-order" = true) (hw:Wk w s.heap a es ep t) (h:Q (((Ii w a ep es)[i]?).map fun v=>(v,slot)) s):wpAny (model prog w) A (setNext a slot i ep) Q E s:=by
 obtain⟨oa,hoa,hca,hda⟩:=hw.at_
 unfold setNext
 refine zb (Q1 hoa hda hw.fit (zb (vC ?_)))
 rw[hf]
 simp only[↓reduceIte,bne_self_eq_false,zr]
 refine zb (m:=setWalk a) ?_
 unfold setWalk
 refine zb (Q1 hoa hda hw.fit (zb (vC ?_)))
 rw[hf]
 simp only[↓reduceIte]
 refine zb (wpAny_askSetting (ze (ze ?_)))
 have e:(pickOrder (w.params.setOrder a ep) es)[i]?.map (fun e=>(e.2,slot))=((Ii w a ep es)[i]?).map fun v=>(v,slot):=by
  unfold Ii
  rw[zS,Option.map_map,Qb]
  rfl
 rw[<-e] at h
 exact h
theorem Nt (hh:A.handled=none) (hf:w.params.followText "set-order" = true) (hne:a≠it) (c:es.size<=sizeLine):Walks prog w A it [it,a] [it] es.size (fun i v=>(Ii w a ep es)[i]?=some v) (fun i h=>It h it a (.int 0 0) i es.size ep/\Wk w h a es ep t) where
 sub:=fun b hb=>by simp at hb;simp[hb]
 frame:=fun _ _ _ st hk=>⟨st.1.keep fun o e=>hk it (by simp) o e,st.2.keep fun o e=>hk a (by simp) o e⟩
 item:=fun i s Q E hi st hQ=>by
  have hl:(Ii w a ep es).length=es.size:=by rw[zA.length_eq];simp
  obtain⟨v,hv⟩:∃ v,(Ii w a ep es)[i]?=some v:=⟨(Ii w a ep es)[i]'(by omega),by rw[zz]⟩
  refine UL (slot:=0) (next:=0) (x:=v) st.1 st.2 (fun {A' E' Q'} hq=>Gw hf st.2 (by rw[hv];exact hq)) fun h' hi' k=>?_
  exact hQ v h' s.toks hv ⟨hi',st.2.keep fun o e=>k a o hne e⟩ fun b o hb e=>k b o (fun x=>hb (by simp[x])) e
 done:=fun s Q E st hQ=>by
  have hl:(Ii w a ep es).length=es.size:=by rw[zA.length_eq];simp
  refine CG (slot:=0) hh st.1 st.2 (fun {A' E' Q'} hq=>Gw hf st.2 (by rw[qV (by omega)];exact hq)) fun h' k=>?_
  exact hQ h' s.toks fun b o hb e=>k b o (fun x=>hb (by simp[x])) e
 self:=fun _ _ _ _ st hQ=>Ih st.1 hQ
def RG (pl:List Nat) (es:Array (Int×Value)):List Value:=pl.filterMap fun j=>es[j]?.map (·.2)
theorem RJ {pl:List Nat} (h:pl.Perm (List.range es.size)):(RG pl es).Perm (es.toList.map (·.2)):=by
 refine (h.filterMap _).trans ?_
 rw[show (List.range es.size).filterMap (fun j=>es[j]?.map (·.2))=((List.range es.size).filterMap fun j=>es[j]?).map (·.2) by rw[List.map_filterMap],filterMap_getElem?_range]
theorem Kv:∀ {pl:List Nat},(∀ j∈pl,j < es.size)->∀ (i:Nat) (j:Nat),pl[i]?=some j->(RG pl es)[i]?=es[j]?.map (·.2)
 |[],_,_,_,h=>by simp at h
 |k::pl,hb,i,j,h=>by
  have hk:=hb k (zh ..)
  have e:RG (k::pl) es=es[k].2::RG pl es:=by simp[RG,hk]
  rw[e]
  cases i with
  |zero=>cases (show k=j by simpa using h);simp[hk]
  |succ i=>rw[ZI];exact Kv (fun j hj=>hb j (zg _ hj)) i j (by simpa using h)
theorem Nu {tp:Addr} {pl:List Nat} (hh:A.handled=none) (hne:a≠it) (htp:tp≠it) (hp:pl.Perm (List.range es.size)):Walks prog w A it [it,a,tp] [it] es.size (fun i v=>(RG pl es)[i]?=some v)
  (fun i h=>It h it a (.ref tp) i es.size ep/\Wk w h a es ep t/\∃ ot c,h.get? tp=some ot/\ot.data=.seq (pl.map fun (k:Nat)=>rawInt (k:Int)).toArray c) where
 sub:=fun b hb=>by simp at hb;simp[hb]
 frame:=fun _ _ _ st hk=>⟨st.1.keep fun o e=>hk it (by simp) o e,st.2.1.keep fun o e=>hk a (by simp) o e,let ⟨ot,c,e,r⟩:=st.2.2;⟨ot,c,hk tp (by simp) ot e,r⟩⟩
 item:=fun i s Q E hi st hQ=>by
  obtain⟨ot,c,e1,e2⟩:=st.2.2
  have hl:pl.length=es.size:=by rw[hp.length_eq];simp
  have hb:∀ j∈pl,j < es.size:=fun j hj=>List.mem_range.mp (hp.mem_iff.mp hj)
  have hj:pl[i]?=some (pl[i]'(by omega)):=by rw[zz]
  have hx:es[pl[i]'(by omega)]?=some (es[pl[i]'(by omega)]'(hb _ (y3 _))):=by rw[ZT]
  refine Yj st.1 st.2.1 e1 e2 hj hx fun h' hi' k=>?_
  exact hQ _ h' s.toks (by rw[Kv hb i _ hj,hx];rfl) ⟨hi',st.2.1.keep fun o e=>k a o hne e,ot,c,k tp ot htp e1,e2⟩ fun b o hb e=>k b o (fun x=>hb (by simp[x])) e
 done:=fun s Q E st hQ=>by
  obtain⟨ot,c,e1,e2⟩:=st.2.2
  have hl:pl.length=es.size:=by rw[hp.length_eq];simp
  refine Ku hh st.1 st.2.1 e1 e2 (by rw[qV (by omega)]) fun h' k=>?_
  exact hQ h' s.toks fun b o hb e=>k b o (fun x=>hb (by simp[x])) e
 self:=fun _ _ _ _ st hQ=>Ih st.1 hQ
end
section
variable {prog:Program} {w:World} {A:Around} {E:Value->Shared->Prop} {s:Shared} {it a:Addr} {i ep:Nat} {es:Array (Int×Value)} {t:SetTable}
def uK (t:SetTable) (i:Nat):Nat:=if i=0 then 0 else t.place.getD 0 0+1
theorem Yk (j:Nat):SetTable.below #[j] 0=0:=by
 show SetTable.below.go #[j] 0 1 0 1=0
 unfold SetTable.below.go
 rw[zo (by decide)]
 show (if #[j].getD 0 0 < 0 then _ else SetTable.below.go #[j] 0 0 0 0)=0
 rw[zw (kq _)]
 rfl
theorem Yl (j:Nat):SetTable.below #[j] (j+1)=1:=by
 show SetTable.below.go #[j] (j+1) 1 0 1=1
 unfold SetTable.below.go
 rw[zo (by decide)]
 show (if j < j+1 then SetTable.below.go #[j] (j+1) 0 1 1 else _)=1
 rw[zo (qi _)]
 rfl
theorem RK {P:Option (Value×Nat)->Prop} {r:Option (Value×Nat)} (hp:t.place.size=es.size) (hn:es.size<=1) (hi:i<=es.size)
  (hr:r=match es[SetTable.below t.place (uK t i)]?,t.place[SetTable.below t.place (uK t i)]? with
   |some (_,x),some j=>some (x,j+1)
   |_,_=>none) (h:P (((es.toList.map (·.2))[i]?).map fun v=>(v,uK t (i+1)))):P r:=by
 subst hr
 by_cases h0:es.size=0
 ·have e:es=#[]:=Array.eq_empty_of_size_eq_zero h0
  subst e
  simpa using h
 ·have h1:es.size=1:=by omega
  obtain⟨x,rfl⟩:=Array.size_eq_one_iff.mp h1
  obtain⟨j,hj⟩:=Array.size_eq_one_iff.mp (hp.trans h1)
  have hi:i=0\/i=1:=by omega
  rcases hi with rfl|rfl
  ·have e1:uK t 0=0:=rfl
   have e2:uK t (0+1)=j+1:=by unfold uK;rw[hj];rfl
   rw[e2] at h
   rw[e1,hj,Yk]
   exact h
  ·have e2:uK t 1=j+1:=by unfold uK;rw[hj];rfl
   rw[e2,hj,Yl]
   exact h
theorem CJ {Q:Option (Value×Nat)->Shared->Prop} (hf:w.params.followText "set-order" = false) (hw:Wk w s.heap a es ep t) (hn:es.size<=1) (hi:i<=es.size) (h:Q (((es.toList.map (·.2))[i]?).map fun v=>(v,uK t (i+1))) s):wpAny (model prog w) A (setNext a (uK t i) i ep) Q E s:=by
 obtain⟨oa,hoa,hca,hda⟩:=hw.at_
 have hp:t.place.size=es.size:=by
  have:=hw.fit
  simp only[SetTable.fits,ZN,beq_iff_eq] at this
  exact this.1
 unfold setNext
 refine zb (Q1 hoa hda hw.fit (zb (vC ?_)))
 rw[hf]
 simp only[zr,↓reduceIte]
 split
 ·rename_i hc
  have hc:(!t.plain&&decide (es.size > 1))=true:=hc
  simp at hc
  omega
 ·have hl:wpAny (model prog w) A (if (!t.led&&!es.isEmpty)=true then unsupported "set:maker-not-led" else pure PUnit.unit) (fun _ s'=>s'=s) E s:=by
   rw[hw.led hf]
   exact ze rfl
  refine zb (qB hl (fun _ s' e=>?_) fun _ _ x=>x)
  subst e
  refine ze ?_
  exact RK (P:=fun r=>Q r s') hp hn hi rfl h
theorem Kw (hh:A.handled=none) (hf:w.params.followText "set-order" = false) (hn:es.size<=1) (hne:a≠it):Walks prog w A it [it,a] [it] es.size (fun i v=>(es.toList.map (·.2))[i]?=some v) (fun i h=>It h it a (.int (uK t i:Nat) 0) i es.size ep/\Wk w h a es ep t) where
 sub:=fun b hb=>by simp at hb;simp[hb]
 frame:=fun _ _ _ st hk=>⟨st.1.keep fun o e=>hk it (by simp) o e,st.2.keep fun o e=>hk a (by simp) o e⟩
 item:=fun i s Q E hi st hQ=>by
  obtain⟨v,hv⟩:∃ v,(es.toList.map (·.2))[i]?=some v:=⟨(es.toList.map (·.2))[i]'(by simpa using hi),by rw[zz]⟩
  refine UL (x:=v) st.1 st.2 (fun {A' E' Q'} hq=>CJ hf st.2 hn (JU hi) (by rw[hv];exact hq)) fun h' hi' k=>?_
  exact hQ v h' s.toks hv ⟨hi',st.2.keep fun o e=>k a o hne e⟩ fun b o hb e=>k b o (fun x=>hb (by simp[x])) e
 done:=fun s Q E st hQ=>by
  refine CG hh st.1 st.2 (fun {A' E' Q'} hq=>CJ hf st.2 hn (zl _) (by rw[qV (by simp)];exact hq)) fun h' k=>?_
  exact hQ h' s.toks fun b o hb e=>k b o (fun x=>hb (by simp[x])) e
 self:=fun _ _ _ _ st hQ=>Ih st.1 hQ
end
section
variable {prog:Program} {w:World} {A:Around} {E:Value->Shared->Prop} {s:Shared} {it a:Addr} {i ep:Nat} {es:Array (Int×Value)} {t:SetTable}
theorem UW (hw:Wk w s.heap a es ep t) (hc:es.size<=sizeLine) {Q:Value->Shared->Prop}
  (h:∀ (it:Addr) (h':Heap) (d:Drawn) (fp:List Addr) (St:Nat->Heap->Prop) (ord:List Value),ord.Perm (es.toList.map (·.2))->(∀ A':Around,A'.handled=none->Walks prog w A' it fp [it] es.size (fun i v=>ord[i]?=some v) St)->St 0 h'->s.heap.objs.size<=it->it < h'.objs.size →
   (∀ b∈fp,b=a\/s.heap.objs.size<=b)->(∀ b∈fp,b < h'.objs.size)->(∀ b o,s.heap.get? b=some o->h'.get? b=some o)->Q (.ref it) { s with heap:=h',drawn:=d }):wpAny (model prog w) A (pyIter (.ref a)) Q E s:=by
 obtain⟨oa,hoa,hca,hda⟩:=id hw.at_
 have hT:s.TypeIs (.ref a) "set" := ⟨oa,hoa,hca⟩
 have hlt:a < s.heap.objs.size:=zv hoa
 refine wpAny_pyIter_slot hT F.slot_set_iter (qv F.slot_set_iter hT Aw ?_ (F.args_set_iter_1 _))
 show wpAny _ _ (Builtin.Frozenset.sizeOf a >>= _) _ _ s
 refine zb (m:=Builtin.Frozenset.sizeOf a) (zb (wpAny_setEntries_of hoa hda hw.fit (ze ?_)))
 have hd:wpAny (model prog w) A.in1 (setDrawn a) (fun b s'=>s'=s/\b=(!(w.params.followText "set-order")&&(!t.plain&&decide (es.size > 1)))) E s:=by
  unfold setDrawn
  exact zb (Q1 hoa hda hw.fit (zb (vC (ze ⟨rfl,rfl⟩))))
 refine zb (qB hd (fun b s' e=>?_) fun _ _ x=>x)
 obtain⟨rfl,rfl⟩:=e
 dsimp only
 by_cases hf:w.params.followText "set-order" = true
 ·rw[hf]
  simp only[kA,Bool.false_and,zr,ZH]
  refine zb (ze ?_)
  refine zb (m:=setEpoch a) (wpAny_setEpoch_of hoa hda hw.fit ?_)
  refine zb (Z3 (ze ⟨_,rfl, "set_iterator", _,⟨_,zt _ rfl,rfl⟩,lu.lookup,?_⟩))
  have:=h s'.heap.objs.size (s'.heap.push { cls:=.type "set_iterator", data:=.fields #[.int 0 0,.int 0 0,.ref a,.int es.size 0,.int ep 0] }) s'.drawn [s'.heap.objs.size,a] _ _ zA (fun A' hh=>Nt hh hf (t:=t) (ep:=ep) (zD hlt) hc)
   ⟨⟨_,zt _ rfl,rfl,rfl⟩,hw.keep fun o e=>zd _ e⟩ (zl _) (by rw[ZU];exact qi _) (fun b hb=>by simp at hb;rcases hb with rfl|rfl;exact .inr (zl _);exact .inl rfl)
   (fun b hb=>by simp at hb;rw[ZU];rcases hb with rfl|rfl;exact qi _;exact QN hlt) fun b o e=>zd _ e
  exact this
 ·have hf:w.params.followText "set-order" = false:=by simpa using hf
  rw[hf]
  simp only[Bool.not_false,Bool.true_and]
  by_cases hn:es.size<=1
  ·rw[zw (by simp;omega)]
   refine zb (ze ?_)
   refine zb (m:=setEpoch a) (wpAny_setEpoch_of hoa hda hw.fit ?_)
   refine zb (Z3 (ze ⟨_,rfl, "set_iterator", _,⟨_,zt _ rfl,rfl⟩,lu.lookup,?_⟩))
   have:=h s'.heap.objs.size (s'.heap.push { cls:=.type "set_iterator", data:=.fields #[.int 0 0,.int 0 0,.ref a,.int es.size 0,.int ep 0] }) s'.drawn [s'.heap.objs.size,a] _ _ (List.Perm.refl _) (fun A' hh=>Kw hh hf hn (t:=t) (ep:=ep) (zD hlt))
    ⟨⟨_,zt _ rfl,rfl,rfl⟩,hw.keep fun o e=>zd _ e⟩ (zl _) (by rw[ZU];exact qi _) (fun b hb=>by simp at hb;rcases hb with rfl|rfl;exact .inr (zl _);exact .inl rfl)
    (fun b hb=>by simp at hb;rw[ZU];rcases hb with rfl|rfl;exact qi _;exact QN hlt) fun b o e=>zd _ e
   exact this
  ·rw[zo (by rw[hw.non (by omega)];simp;omega)]
   refine zb (Yi _ _ _ _ (by simp) fun pl d hp=>?_)
   refine zb (wpAny_newTuple ?_ (by rw[zi,hp.length_eq,Kn];exact hc))
   refine zb (m:=setEpoch a) (wpAny_setEpoch_of (zd _ hoa) hda hw.fit ?_)
   refine zb (Z3 (ze ⟨_,rfl, "set_iterator", _,⟨_,zt _ rfl,rfl⟩,lu.lookup,?_⟩))
   generalize hG:s'.heap.push { cls:=.type "tuple", data:=.seq (pl.map fun (k:Nat)=>rawInt (k:Int)).toArray }=G
   have sG:G.objs.size=s'.heap.objs.size+1:=by rw[<-hG,ZU]
   have gG:G.get? s'.heap.objs.size=some { cls:=.type "tuple", data:=.seq (pl.map fun (k:Nat)=>rawInt (k:Int)).toArray }:=by rw[<-hG];exact zt _ rfl
   have kG:∀ b o,s'.heap.get? b=some o->G.get? b=some o:=fun b o e=>by rw[<-hG];exact zd _ e
   have ltG:a < G.objs.size:=by rw[sG];exact QN hlt
   have:=h G.objs.size (G.push { cls:=.type "set_iterator", data:=.fields #[.ref s'.heap.objs.size,.int 0 0,.ref a,.int es.size 0,.int ep 0] }) d [G.objs.size,a,s'.heap.objs.size] _ _ (RJ hp) (fun A' hh=>Nu hh (t:=t) (ep:=ep) (tp:=s'.heap.objs.size) (zD ltG) (by rw[sG];exact zD (qi _)) hp)
    ⟨⟨_,zt _ rfl,rfl,rfl⟩,hw.keep fun o e=>zd _ (kG _ _ e),_,0,zd _ gG,rfl⟩ (by rw[sG];exact KL _) (by rw[ZU];exact qi _)
    (fun b hb=>by simp at hb;rcases hb with rfl|rfl|rfl;exact .inr (by rw[sG];exact KL _);exact .inl rfl;exact .inr (zl _))
    (fun b hb=>by
     simp at hb
     rw[ZU]
     rcases hb with rfl|rfl|rfl
     ·exact qi _
     ·exact QN ltG
     ·exact QN (by rw[sG];exact qi _)) fun b o e=>zd _ (kG _ _ e)
   exact this
end
end S6
end
section
namespace S6
open PySem PySem.Spec PyProof.Rows P1
section
variable {prog:Program} {w:World} {A:Around} {E:Value->Shared->Prop} {s:Shared} {it a:Addr} {i ep:Nat} {es:Array (Int×Value)} {t:SetTable}
theorem RM {ord:List Value} {acc:Array Value} {n:Nat} (hn:ord.length=n) (h:ItemsOf (fun i v=>ord[i]?=some v) acc n):acc.toList=ord:=by
 apply List.ext_getElem?
 intro j
 by_cases hj:j < n
 ·have hl:j < acc.size:=by rw[h.1];exact hj
  have e:acc.toList[j]?=some acc[j]:=by simp[hl]
  rw[e,h.2 j acc[j] (by simp[hl])]
 ·rw[qV (by rw[qf,h.1];omega),qV (by omega)]
theorem Ky {Q:List Value->Shared->Prop} (hh:A.handled=none) (hw:Wk w s.heap a es ep t) (hc:es.size<=sizeLine)
  (hQ:∀ ord h' d tk,ord.Perm (es.toList.map (·.2))->s.heap.objs.size<=h'.objs.size->(∀ b o,s.heap.get? b=some o->h'.get? b=some o)->Q ord { s with heap:=h',drawn:=d,toks:=tk }) :
  wpAny (model prog w) A (collect (.ref a)) Q E s:=by
 obtain⟨oa,hoa,hca,hda⟩:=id hw.at_
 have hT:s.TypeIs (.ref a) "set" := ⟨oa,hoa,hca⟩
 have hlt:a < s.heap.objs.size:=zv hoa
 unfold collect
 refine zb (wpAny_runValue (js F.entry_proto_collect ?_))
 rw[Around.under_plainId F.plain_proto_collect _]
 show wpAny _ A.in1 (newList [] >>= fun q=>again (.builtin "list.__iadd__" ⟨[q,.ref a],[]⟩)) _ _ s
 refine zb (Z3 (ze ⟨plainId_quiet F.plain_list_iadd _,js F.entry_list_iadd ?_⟩))
 rw[Around.under_plainId F.plain_list_iadd _]
 show wpAny _ A.in1 (Builtin.List.listExtendWith (.ref s.heap.objs.size) (.ref a) (.ref s.heap.objs.size)) _ _ _
 unfold Builtin.List.listExtendWith
 generalize hH:(s.heap.push { cls:=.type "list", data:=.seq ([]:List Value).toArray })=H
 have kH:∀ b o,s.heap.get? b=some o->H.get? b=some o:=fun b o e=>by rw[<-hH];exact zd _ e
 have sH:H.objs.size=s.heap.objs.size+1:=by rw[<-hH,ZU]
 have gH:H.get? s.heap.objs.size=some (seqObj "list" #[] 0):=by rw[<-hH];exact zt _ rfl
 have hw1:Wk w H a es ep t:=hw.keep fun o e=>kH a o e
 refine zb (QP (T := "set") ⟨oa,kH _ _ hoa,hca⟩ ?_)
 have h1:Builtin.List.listSameRef (.ref s.heap.objs.size) (.ref a)=false:=by simp[Builtin.List.listSameRef];exact Kb hlt
 simp only[h1,show (Value.type "set" == Value.type "list")=false by decide,show (Value.type "set" == Value.type "tuple")=false by decide,Bool.or_false,zr,ZH]
 refine zb (UW (s:={ s with heap:=H }) hw1 hc fun it G d fp St ord hp W st0 hit hit2 hfp aiY kG=>?_)
 refine zb (qo ?_)
 unfold Builtin.List.listLengthHint
 have hT2:Shared.TypeIs { s with heap:=G,drawn:=d } (.ref a) "set" := ⟨oa,kG _ _ (kH _ _ hoa),hca⟩
 refine zb (wpAny_specialOf (T := "set") hT2 F.slot_set_len.lookup ?_)
 wp_delta
 refine zb (kK (T := "set") (b:=true) hT2 (by rw[isSubtype_type];kernel_rfl) ?_)
 show wpAny _ A.in1 (typeOf (Value.ref a) >>= _) _ _ _
 refine zb (QP (T := "set") hT2 (ze ?_))
 rw[zo (by decide)]
 show wpAny _ A.in1 (Builtin.List.listTouch (Value.ref s.heap.objs.size) >>= fun _=>again (Code.builtin "list.extend.loop" ⟨[Value.ref s.heap.objs.size,Value.ref it,Value.ref s.heap.objs.size],[]⟩)) _ _ _
 have hS:G.get? s.heap.objs.size=some (seqObj "list" #[] 0):=kG _ _ gH
 unfold Builtin.List.listTouch
 refine zb (zb (listUpdate_at hS rfl (listUpdate_at (get?_update_seq hS _) rfl ?_ (by show _<=_;decide) (by show _<=_;decide)) (by show _<=_;decide) (by show _<=_;decide)))
 have hSf:s.heap.objs.size∉fp:=fun hm=>by
  rcases hfp _ hm with e|e
  ·exact Kb hlt e
  ·have e:H.objs.size<=s.heap.objs.size:=e
   rw[sH] at e
   exact absurd e (Nat.not_succ_le_self _)
 have hS3:=get?_update_seq (get?_update_seq hS (fun x=>x.push Value.none)) (fun x=>x.pop)
 generalize hU:(G.update s.heap.objs.size (Obj.mapSeq fun x=>x.push Value.none)).update s.heap.objs.size (Obj.mapSeq fun x=>x.pop)=U at hS3
 have keep:∀ b,b≠s.heap.objs.size->U.get? b=G.get? b:=fun b hb=>by rw[<-hU,j0 _ _ _ _ hb,j0 _ _ _ _ hb]
 have st1:St 0 U:=(W A hh).frame 0 G U st0 fun b hb o e=>by rw[keep b fun x=>hSf (x▸hb)];exact e
 show wpAny _ A.in1 (again _) _ _ { s with heap:=U,drawn:=d }
 have ho:ord.length=es.size:=by rw[hp.length_eq];simp
 refine ze ⟨plainId_quiet F.plain_extend_loop _,codeAny_extend_loopS (W A.in1 hh).toS hc s.heap.objs.size hSf _ es.size 0 { s with heap:=U,drawn:=d } #[] _ rfl (qA _) st1 hS3 (ItemsOf.nil _) fun s' acc' c' mv hS' hacc=>?_⟩
 show wpAny _ A (load s.heap.objs.size >>= _) _ _ s'
 refine zb (wpAny_load hS' (ze ?_))
 show Q acc'.toList s'
 rw[RM ho hacc]
 have key:=hQ ord s'.heap s'.drawn s'.toks hp (JU (zv hS')) fun b ob e=>by
  have hb:=zv e
  refine mv.heap b ob (fun hm=>?_) ((keep b (zD hb)).trans (kG _ _ (kH _ _ e)))
  simp only[Q2,jv,or_false] at hm
  rcases hm with hm|hm
  ·exact zD hb hm
  ·have:H.objs.size<=it:=hit
   rw[sH,<-hm] at this
   exact absurd hb (Nat.not_lt.mpr (Nat.le_of_succ_le this))
 have e1:s'.gens=s.gens:=mv.gens
 have e2:s'.os=s.os:=mv.os
 rw[<-e1,<-e2] at key
 exact key
end
theorem Bw {α:Type} [DecidableEq α]:∀ {xs ys:List α},xs.Nodup->ys.Nodup->(∀ z,z∈xs↔z∈ys)->xs.Perm ys
 |[],ys,_,_,h=>by
  have:ys=[]:=List.eq_nil_iff_forall_not_mem.mpr fun z hz=>by simpa using (h z).mpr hz
  subst this;exact .refl _
 |x::xs,ys,hx,hy,h=>by
  have hm:x∈ys:=(h x).mp (zh ..)
  have hc:=List.nodup_cons.mp hx
  refine ((Bw hc.2 (hy.erase x) fun z=>?_).cons x).trans (List.perm_cons_erase hm).symm
  rw[hy.mem_erase_iff]
  constructor
  ·intro hz
   exact⟨fun e=>hc.1 (e▸hz),(h z).mp (zg _ hz)⟩
  ·intro ⟨hn,hz⟩
   rcases List.mem_cons.mp ((h z).mpr hz) with e|e
   ·exact absurd e hn
   ·exact e
theorem z9 {α β:Type} {R:α->β->Prop}:∀ {l l':List β},l'.Perm l->∀ {ys:List α},Paired R ys l->∃ ys',ys'.Perm ys/\Paired R ys' l':=by
 intro l l' hp
 replace hp:=hp.symm
 induction hp with
 |nil=>intro ys h;exact⟨ys,.refl _,h⟩
 |cons x _ ih=>intro ys h;cases h with|cons r t=>obtain⟨zs,z1,z2⟩:=ih t;exact⟨_::zs,z1.cons _,.cons r z2⟩
 |swap x y l=>intro ys h;cases h with|cons r t=>cases t with|cons r' t'=>exact⟨_,List.Perm.swap _ _ _,.cons r' (.cons r t')⟩
 |trans _ _ ih1 ih2=>intro ys h;obtain⟨zs,z1,z2⟩:=ih1 h;obtain⟨us,u1,u2⟩:=ih2 z2;exact⟨us,u1.trans z1,u2⟩
theorem Nv {α β:Type} {R:α->β->Prop} {xs:List α} {us:List β} {ys:List α} {vs:List β} (h:Paired R xs us) (k:Paired R ys vs):Paired R (xs++ys) (us++vs):=by
 induction h with
 |nil=>exact k
 |cons r _ ih=>exact .cons r ih
section
variable {prog:Program} {w:World} {A:Around} {E:Value->Shared->Prop} {s:Shared} {a:Addr}
def afC (prog:Program) (w:World) (y:Str) (e:Int×Value):Prop:=∃ tk,e=((strKind prog w).hash y,.str y tk)
structure aby (prog:Program) (w:World) (ys:List Str) (es:Array (Int×Value)) (t:SetTable):Prop where
 rel:Paired (afC prog w) ys es.toList
 nd:ys.Nodup
 fit:t.fits es.size=true
 led:w.params.followText "set-order" = false->t.led=true
 non:0 < es.size->t.plain=false
def Tx (prog:Program) (w:World) (h:Heap) (a:Addr) (ys:List Str):Prop:=∃ o es ep t,h.get? a=some o/\o.ExactSet/\o.data=.set es ep t/\aby prog w ys es t
theorem Tx.keep {h h':Heap} {ys:List Str} (x:Tx prog w h a ys) (k:∀ o,h.get? a=some o->h'.get? a=some o):Tx prog w h' a ys:=
 let ⟨o,es,ep,t,e,r⟩:=x;⟨o,es,ep,t,k o e,r⟩
theorem aby.size {ys:List Str} {es:Array (Int×Value)} {t:SetTable} (x:aby prog w ys es t):es.size=ys.length:=by rw[x.rel.length];simp
end
def blank (w:World):Obj:={ cls:=.type "set", dict:=none,data:=.set #[] 0 (.fresh 0 0 (!w.params.followText "set-order")) }
structure Adds (prog:Program) (w:World) (S:Addr) (wr:List Addr) {κ:Type} (C:Heap->List κ->Prop) (P:Nat->Value->Prop) (val:Nat->κ) (n:Nat):Prop where
 keep:∀ h h' ys,C h ys->(∀ b o,b∉wr->h.get? b=some o->h'.get? b=some o)->C h' ys
 add:∀ (A:Around) (E:Value->Shared->Prop) (s:Shared) (i:Nat) (v:Value) (ys:List κ) (Q:Bool->Shared->Prop),A.units < cLine->i < n->P i v->C s.heap ys->ys.length<=i →
  (∀ b h' tk ys',Heap.SameBut S s.heap h'->C h' ys'->(∀ z,z∈ys'↔z∈ys\/z=val i)->ys'.length<=i+1->s.toks<=tk->Q b { s with heap:=h',toks:=tk })->wpAny (model prog w) A (setAdd S v) Q E s
section
variable {prog:Program} {w:World} {A:Around} {R:Result->Shared->Prop} {I:Addr} {fp wr:List Addr} {n:Nat} {P:Nat->Value->Prop} {St:Nat->Shared->Prop} {κ:Type} {C:Heap->List κ->Prop} {val:Nat->κ}
theorem U0 (W:WalksS prog w A.in1 I fp wr (fun a b=>b=a) n P St) (S:Addr) (hSf:S∉fp) (ad:Adds prog w S wr C P val n) (hU:A.units+1 < cLine) :
  ∀ (k i:Nat) (s:Shared) (ys:List κ),n - i=k->i<=n->St i s->C s.heap ys->(∀ z,z∈ys↔∃ j,j < i/\z=val j)->ys.length<=i →
   (∀ s' ys',Moved (S::wr) (fun a b=>b=a) s s'->C s'.heap ys'->(∀ z,z∈ys'↔∃ j,j < n/\z=val j)->R (.ok (.ret .none)) s') →
   codeAny (model prog w) A (.builtin "set.update.loop" ⟨[.ref S,.ref I],[]⟩) R s:=by
 have sub:∀ b,b∈wr->b∈S::wr:=fun b q=>zg _ q
 intro k
 induction k with
 |zero=>
  intro i s ys hk hi st hc hm hl hR
  have:i=n:=by omega
  subst this
  refine js F.entry_set_update_loop ?_
  rw[Around.under_plainId YA _]
  show wpAny _ A.in1 (pyNext (.ref I) >>= _) _ _ s
  refine zb (W.done s _ _ st fun s' mv=>?_)
  show wpAny _ A.in1 (ret Value.none) _ _ s'
  exact ze (hR s' ys (mv.mono sub) (ad.keep _ _ _ hc mv.heap) hm)
 |succ k ih=>
  intro i s ys hk hi st hc hm hl hR
  have hlt:i < n:=by omega
  refine js F.entry_set_update_loop ?_
  rw[Around.under_plainId YA _]
  show wpAny _ A.in1 (pyNext (.ref I) >>= _) _ _ s
  refine zb (W.item i s _ _ hlt st fun v s' hP st' mv=>?_)
  show wpAny _ A.in1 (holding [v] (setAdd S v) >>= _) _ _ s'
  refine zb (qo (ad.add _ _ s' i v ys _ hU hlt hP (ad.keep _ _ _ hc mv.heap) hl fun b h' tk ys' sb hc' hm' hl' htk=>?_))
  refine ze ⟨plainId_quiet YA _,ih (i+1) _ ys' (by omega) hlt (W.frame _ s' _ _ st' htk fun b hb o e=>?_) hc' (fun z=>?_) hl' fun s'' ys'' afD hc'' hm''=>?_⟩
  ·rw[sb.2 b fun q=>hSf (q▸hb)];exact e
  ·rw[hm' z,hm z]
   constructor
   ·rintro (⟨j,hj,e⟩|e)
    ·exact⟨j,by omega,e⟩
    ·exact⟨i,by omega,e⟩
   ·rintro⟨j,hj,e⟩
    by_cases q:j=i
    ·exact .inr (q▸e)
    ·exact .inl ⟨j,by omega,e⟩
  ·refine hR s'' ys'' (Moved.trans W.gtrans ((mv.mono sub).then_heap htk fun b o hb e=>?_) afD) hc'' hm''
   rw[sb.2 b fun q=>hb (by rw[q];exact zh)];exact e
end
section
variable {prog:Program} {w:World} {A:Around} {E:Value->Shared->Prop} {s:Shared}
theorem Nx (x:Value) {Q₁:Value->Shared->Prop} (h:Q₁ (.ref s.heap.objs.size) { s with heap:=s.heap.push (blank w) }) :
  codeAny (model prog w) A (.call (.builtin "set.__new__") ⟨[.type "set", x],[]⟩) (wants Q₁ E) s:=by
 refine codeAny_of_tree ?_
 show wpAny _ A.in1 (do checkBuiltinCall "set.__new__" ⟨[.type "set", x],[]⟩;again (.builtin "set.__new__" ⟨[.type "set", x],[]⟩)) _ _ s
 refine zb (wpAny_of_eq (F.newCall_set_1 x) (ze ⟨plainId_quiet F.plain_set_new _,js F.entry_set_new ?_⟩))
 rw[Around.under_plainId F.plain_set_new _]
 unfold Builtin.«set.__new__» Builtin.Frozenset.newClass
 have hsub:=sub_set_self
 obtain⟨hp,g,d,tk,os⟩:=s
 dsimp only
 wp_walk
 refine wpAny_askSetting (ze ?_)
 dsimp only
 simp only[newObj]
 refine zb (wpAny_alloc (ze ?_))
 exact ze h
theorem sub_tuple_set:isSubtype (.type "tuple") (.type "set")=pure false:=by rw[isSubtype_type];kernel_rfl
theorem sub_tuple_frozenset:isSubtype (.type "tuple") (.type "frozenset")=pure false:=by rw[isSubtype_type];kernel_rfl
theorem U3 (hU:A.units+60 < cLine) {T:String} {l:Addr} {o:Obj} {κ:Type} {C:Heap->List κ->Prop} {P:Nat->Value->Prop} {val:Nat->κ} {n:Nat} {Q:Value->Shared->Prop} (hh:A.handled=none) (ho:s.heap.get? l=some o) (hcl:o.cls=.type T) (hT:T = "list" ∨ T = "tuple")
  (hit:∀ (A':Around) (E':Value->Shared->Prop) (Q':Value->Shared->Prop) (h0:Heap),A'.handled=none->(∀ b ob,s.heap.get? b=some ob->h0.get? b=some ob) →
   (∀ (h':Heap) (St:Nat->Heap->Prop),(∀ A',A'.handled=none->Walks prog w A' h0.objs.size [h0.objs.size,l] [h0.objs.size] n P St)->St 0 h'->(∀ b ob,h0.get? b=some ob->h'.get? b=some ob)->Q' (.ref h0.objs.size) { s with heap:=h' })->wpAny (model prog w) A' (pyIter (.ref l)) Q' E' { s with heap:=h0 })
  (ad:Adds prog w s.heap.objs.size [s.heap.objs.size+1] C P val n) (hc0:∀ h',h'.get? s.heap.objs.size=some (blank w)->(∀ b ob,s.heap.get? b=some ob->h'.get? b=some ob)->C h' [])
  (h:∀ (h':Heap) (tk:Nat) (ys:List κ),C h' ys->(∀ z,z∈ys↔∃ j,j < n/\z=val j)->(∀ b ob,s.heap.get? b=some ob->h'.get? b=some ob)->Q (.ref s.heap.objs.size) { s with heap:=h',toks:=tk }) :
  wpAny (model prog w) A (call (.type "set") [.ref l]) Q E s:=by
 obtain⟨c,tl,hmro⟩:=F.called_set.mro
 have hmade:=F.called_set.made
 have hsub:=F.called_set.sub
 have hlS:l < s.heap.objs.size:=zv ho
 refine wpAny_call (codeAny_of_tree ?_)
 show wpAny _ _ (callAny (.type "set") _) _ _ _
 refine ze ⟨Code.quiet_builtin _ (by decide +kernel),js F.entry_type_call ?_⟩
 rw[Around.under_plain (weight_type_call_type "set" [.ref l] []) rfl]
 have h1:=F.called_set.notType
 have h2:=F.called_set.canCreate
 have hct:=F.typeCall_set_1 (.ref l)
 repeat (any_goals (first|assumption|wp_step))
 refine codeAny_mono (Nx (.ref l) (E:=E) (Q₁:=fun obj s₁=>obj=.ref s.heap.objs.size/\s₁={ s with heap:=s.heap.push (blank w) }) ⟨rfl,rfl⟩) fun r s₁ hr=>?_
 cases r with
 |error e=>exact hr
 |ok fl=>
  cases fl with
  |ret obj=>
   obtain⟨rfl,rfl⟩:=hr
   generalize hH:s.heap.push (blank w)=H
   have sH:H.objs.size=s.heap.objs.size+1:=by rw[<-hH,ZU]
   have hS:H.get? s.heap.objs.size=some (blank w):=by rw[<-hH];exact zt _ rfl
   have kH:∀ b ob,s.heap.get? b=some ob->H.get? b=some ob:=fun b ob e=>by rw[<-hH];exact zd _ e
   have hTS:Shared.TypeIs { s with heap:=H } (.ref s.heap.objs.size) "set" := ⟨_,hS,rfl⟩
   have hli:=F.called_set.init.lookup
   have hbi:=F.called_set.init.bind (.ref s.heap.objs.size)
   repeat (any_goals (first|assumption|wp_step))
   refine codeAny_mono (codeAny_call_builtin (R:=wants (fun r s₂=>r=.none/\∃ h' tk ys,s₂={ s with heap:=h',toks:=tk }/\C h' ys/\(∀ z,z∈ys↔∃ j,j < n/\z=val j)/\(∀ b ob,s.heap.get? b=some ob->h'.get? b=some ob)) E) F.called_set.init.plain F.entry_set_init (check_set_init_1 hTS ?_)) fun r₂ s₂ hr₂=>?_
   ·have hT2:Shared.TypeIs { s with heap:=H } (.ref l) T:=⟨o,kH _ _ ho,hcl⟩
    have i1:isSubtype (.type T) (.type "set")=pure false:=by rcases hT with rfl|rfl;exact F.sub_list_set;exact sub_tuple_set
    have i2:isSubtype (.type T) (.type "frozenset")=pure false:=by rcases hT with rfl|rfl;exact F.sub_list_frozenset;exact sub_tuple_frozenset
    have i3:(Value.type T==Value.type "dict")=false:=by rcases hT with rfl|rfl<;>decide
    show wpAny _ _ (Builtin.«set.__init__» ⟨[.ref s.heap.objs.size,.ref l],[]⟩) _ _ _
    have hup:∀ A':Around,A'.handled=none->A'.units+4 < cLine->wpAny (model prog w) A' (Builtin.Frozenset.updateFrom "set.__init__" s.heap.objs.size (.ref l)) (fun _ s₂=>∃ h' tk ys,s₂={ s with heap:=h',toks:=tk }/\C h' ys/\(∀ z,z∈ys↔∃ j,j < n/\z=val j)/\(∀ b ob,s.heap.get? b=some ob->h'.get? b=some ob)) E { s with heap:=H }:=by
     intro A' hA hA4
     unfold Builtin.Frozenset.updateFrom Builtin.Frozenset.isAnySet
     refine zb (zb (kK hT2 i1 ?_))
     refine kK hT2 i2 ?_
     simp only[zr,ZH]
     refine zb (QP hT2 ?_)
     simp only[i3,zr,ZH]
     refine zb (hit A' _ _ H hA kH fun G St W st0 kG=>?_)
     rw[sH] at W
     rw[sH]
     have hSf:s.heap.objs.size∉[s.heap.objs.size+1,l]:=fun q=>by
      simp only[Q2,jv,or_false] at q
      rcases q with q|q
      ·exact zD (qi _) q
      ·exact Kb hlS q
     refine zb (wpAny_runValue (U0 (W A'.in1 hA).toS s.heap.objs.size hSf ad (by omega) (n - 0) 0 _ [] rfl (qA _) st0 (hc0 G (kG _ _ hS) fun b ob e=>kG _ _ (kH _ _ e)) (fun z=>⟨fun q=>(by cases q),fun ⟨j,q,_⟩=>absurd q (kq _)⟩) (zl _) fun s' ys mv c1 c2=>?_))
     refine ze ⟨s'.heap,s'.toks,ys,?_,c1,c2,fun b ob e=>?_⟩
     ·have e1:s'.gens=s.gens:=mv.gens
      have e2:s'.os=s.os:=mv.os
      have e3:s'.drawn=s.drawn:=mv.drawn
      rw[<-e1,<-e2,<-e3]
     ·have hb:=zv e
      refine mv.heap b ob (fun q=>?_) (kG _ _ (kH _ _ e))
      simp only[Q2,jv,or_false] at q
      rcases q with q|q
      ·exact zD hb q
      ·exact zD (QN hb) q
    have hb:(blank w).data=.set #[] 0 (.fresh 0 0 (!w.params.followText "set-order")):=rfl
    unfold Builtin.«set.__init__» noKeywords
    generalize hUF:Builtin.Frozenset.updateFrom=UF at hup ⊢
    unfold blank at hS
    wp_walk
    refine qB (hup _ (by simp[hh]) (by simp;omega)) (fun u s₂ q=>?_) fun _ _ q=>q
    obtain⟨h',tk,ys,rfl,q⟩:=q
    show wpAny _ _ (ret Value.none) _ _ _
    exact ze ⟨rfl,h',tk,ys,rfl,q⟩
   ·cases r₂ with
    |error e=>exact hr₂
    |ok fl₂=>
     cases fl₂ with
     |ret r=>
      obtain⟨rfl,h',tk,ys,rfl,c1,c2,c3⟩:=hr₂
      repeat (any_goals (first|assumption|wp_step))
      exact h _ _ _ c1 c2 c3
     |_=>exact False.elim hr₂
  |_=>exact False.elim hr
end
end S6
end
section
namespace S6
open PySem
def Ny (xs:Array Nat):Prop:=∀ i j,i < j->j < xs.size->xs.getD i 0 < xs.getD j 0
theorem getD_in {xs:Array Nat} {k a b:Nat} (h:k < xs.size):xs.getD k a=xs.getD k b:=by simp[Array.getD,h]
theorem Ym {xs:Array Nat} {k a j:Nat} (h:xs[k]?=some j):k < xs.size/\xs.getD k a=j:=by
 have hk:k < xs.size:=by
  by_cases q:k < xs.size
  ·exact q
  ·rw[ko (by omega)] at h;cases h
 refine⟨hk,?_⟩
 rw[ZT hk] at h
 cases h
 simp[Array.getD,hk]
theorem Yn {xs:Array Nat} {k a j:Nat} (hk:k < xs.size) (h:xs.getD k a=j):xs[k]?=some j:=by
 rw[ZT hk]
 simp[Array.getD,hk] at h
 rw[h]
theorem CK (xs:Array Nat) (j:Nat) (hr:Ny xs):∀ (fuel lo hi:Nat),lo<=hi->hi<=xs.size->hi - lo<=fuel->(∀ k,k < lo->xs.getD k 0 < j)->(∀ k,hi<=k->k < xs.size->j<=xs.getD k 0) →
  SetTable.below.go xs j fuel lo hi<=xs.size/\(∀ k,k < SetTable.below.go xs j fuel lo hi->xs.getD k 0 < j)/\∀ k,SetTable.below.go xs j fuel lo hi<=k->k < xs.size->j<=xs.getD k 0
 |0,lo,hi,h1,h2,h3,h4,h5=>by
  have e:lo=hi:=by omega
  subst e
  unfold SetTable.below.go
  exact⟨h2,h4,h5⟩
 |fuel+1,lo,hi,h1,h2,h3,h4,h5=>by
  unfold SetTable.below.go
  by_cases hl:lo < hi
  ·rw[zo hl]
   dsimp only
   have hm:(lo+hi) / 2 < xs.size:=by omega
   rw[getD_in (b:=0) hm]
   by_cases q:xs.getD ((lo+hi) / 2) 0 < j
   ·rw[zo q]
    refine CK xs j hr fuel _ hi (by omega) h2 (by omega) (fun k hk=>?_) h5
    by_cases e:k=(lo+hi) / 2
    ·rw[e];exact q
    ·exact Nat.lt_trans (hr k _ (by omega) hm) q
   ·rw[zw q]
    refine CK xs j hr fuel lo _ (by omega) (by omega) (by omega) h4 fun k hk hs=>?_
    by_cases e:k=(lo+hi) / 2
    ·rw[e];omega
    ·have:=hr _ k (by omega:(lo+hi) / 2 < k) hs;omega
  ·rw[zw hl]
   have e:lo=hi:=by omega
   subst e
   exact⟨h2,h4,h5⟩
theorem below_at {xs:Array Nat} (hr:Ny xs) (j:Nat):SetTable.below xs j<=xs.size/\(∀ k,k < SetTable.below xs j->xs.getD k 0 < j)/\∀ k,SetTable.below xs j<=k->k < xs.size->j<=xs.getD k 0:=
 CK xs j hr xs.size 0 xs.size (qA _) (zl _) (by omega) (fun k h=>absurd h (kq _)) fun k h h'=>absurd h' (by omega)
theorem CN {xs:Array Nat} (hr:Ny xs) {i j:Nat} (h:xs[i]?=some j):SetTable.below xs j=i:=by
 obtain⟨h1,h2,h3⟩:=below_at hr j
 obtain⟨hi,e⟩:=Ym (a:=0) h
 rcases yn (SetTable.below xs j) i with q|q|q
 ·have:=h3 _ (zl _) (by omega)
  have:=hr _ _ q hi
  omega
 ·exact q
 ·have:=h2 _ q;omega
theorem Qd (j:Nat):SetTable.has #[] j=false:=by
 unfold SetTable.has
 simp
structure Tb (t:SetTable):Prop where
 mask:t.mask=7\/t.mask=31\/t.mask=127
 Yo:t.dummies=#[]
 rise:Ny t.place
 bd:∀ j:Nat,j∈t.place->j<=t.mask
 full:t.place.size<=t.mask
theorem zB {t:SetTable} (h:Tb t) {i j:Nat} (e:t.place[i]?=some j):t.slot j=.live i:=by
 unfold SetTable.slot
 simp only[CN h.rise e,e,beq_self_eq_true,QO]
theorem RN {t:SetTable} (h:Tb t) {j:Nat} (e:j∉t.place):t.slot j=.empty:=by
 unfold SetTable.slot
 have:(t.place[SetTable.below t.place j]?==some j)=false:=by
  cases q:t.place[SetTable.below t.place j]? with
  |none=>rfl
  |some x=>
   by_cases hx:x=j
   ·subst hx;exact absurd (Array.mem_of_getElem? q) e
   ·simp[hx]
 simp only[this,zr,ZH,h.Yo,Qd]
def Et (mask:Nat) (p:SetTable.Probe):SetTable.Probe:=
 if p.more > 0 then { p with j:=p.j+1,more:=p.more - 1 } else
 { p with j:=(SetTable.leap mask p.i p.perturb).1,more:=SetTable.runEnd mask (SetTable.leap mask p.i p.perturb).1 - (SetTable.leap mask p.i p.perturb).1,i:=(SetTable.leap mask p.i p.perturb).1,perturb:=(SetTable.leap mask p.i p.perturb).2 }
theorem U4 (t:SetTable) (p:SetTable.Probe):t.advance p=Et t.mask p:=rfl
def at0 (mask i perturb:Nat):SetTable.Probe:={ j:=i,more:=SetTable.runEnd mask i - i,i,perturb,dummy:=none }
def jl (mask:Nat) (h:Int):Nat->SetTable.Probe
 |0=>at0 mask (SetTable.bits h % (mask+1)) (SetTable.bits h)
 |n+1=>Et mask (jl mask h n)
theorem Qe (mask:Nat) (h:Int):∀ n,(jl mask h n).dummy=none
 |0=>rfl
 |n+1=>by
  have:=Qe mask h n
  unfold jl Et
  split<;>exact this
theorem Kz {t:SetTable} (ht:Tb t) (hashAt:Nat->Int) (h:Int):∀ (d fuel n:Nat),d < fuel->(∀ m,n<=m->m < n+d->∃ i,t.place[i]?=some (jl t.mask h m).j/\hashAt i≠h) →
  ((jl t.mask h (n+d)).j∉t.place->SetTable.probe.go t hashAt h fuel (jl t.mask h n)=some (.empty (jl t.mask h (n+d)).j none)) ∧
  ∀ i,t.place[i]?=some (jl t.mask h (n+d)).j->hashAt i=h->SetTable.probe.go t hashAt h fuel (jl t.mask h n)=some (.candidate (jl t.mask h (n+d)).j i (jl t.mask h (n+d+1)))
 |0,fuel+1,n,_,_=>by
  refine⟨fun e=>?_,fun i e1 e2=>?_⟩
  ·unfold SetTable.probe.go
   rw[Nat.add_zero] at e ⊢
   rw[RN ht e]
   simp only[Qe]
  ·unfold SetTable.probe.go
   rw[Nat.add_zero] at e1 ⊢
   rw[zB ht e1]
   simp only[e2,beq_self_eq_true,QO,U4]
   rfl
 |d+1,fuel+1,n,hd,hp=>by
  obtain⟨i,e1,e2⟩:=hp n (zl _) (by omega)
  have ih:=Kz ht hashAt h d fuel (n+1) (by omega) fun m h1 h2=>hp m (by omega) (by omega)
  have e:SetTable.probe.go t hashAt h (fuel+1) (jl t.mask h n)=SetTable.probe.go t hashAt h fuel (jl t.mask h (n+1)):=by
   conv=>lhs;unfold SetTable.probe.go
   rw[zB ht e1]
   simp only[beq_iff_eq,e2,ZH,U4]
   rfl
  rw[e,show n+(d+1)=n+1+d by omega]
  exact ih
theorem Nz:∀ (xs ys:List Nat),xs.Nodup->(∀ x,x∈xs->x∈ys)->xs.length<=ys.length
 |[],_,_,_=>qA _
 |x::xs,ys,hn,hs=>by
  have hc:=List.nodup_cons.mp hn
  have hm:=hs x (zh ..)
  have:=Nz xs (ys.erase x) hc.2 fun z hz=>(List.mem_erase_of_ne (fun e:z=x=>hc.1 (by rw[<-e];exact hz))).mpr (hs z (zg _ hz))
  have:=List.length_erase_of_mem hm
  have:0 < ys.length:=List.length_pos_of_mem hm
  simp only[qk]
  omega
def nx (M i:Nat):Nat:=(i * 5+1) % M
def KC (M:Nat):Nat->Nat->Nat
 |0,i=>i
 |k+1,i=>KC M k (nx M i)
theorem BJ (M:Nat):∀ (a b i:Nat),KC M (a+b) i=KC M b (KC M a i)
 |0,b,i=>by rw[JP];rfl
 |a+1,b,i=>by rw[Nat.succ_add];exact BJ M a b _
theorem afE:(∀ r,r < 8->∃ k,k < 8/\KC 8 k 0=r)/\KC 8 8 0=0:=by decide +kernel
theorem adD:(∀ r,r < 32->∃ k,k < 32/\KC 32 k 0=r)/\KC 32 32 0=0:=by decide +kernel
theorem abz:(∀ r,r < 128->∃ k,k < 128/\KC 128 k 0=r)/\KC 128 128 0=0:=by decide +kernel
theorem cyc {M:Nat} (h:(∀ r,r < M->∃ k,k < M/\KC M k 0=r)/\KC M M 0=0) {i r:Nat} (hi:i < M) (hr:r < M):∃ k,k < M/\KC M k i=r:=by
 obtain⟨a,ha,rfl⟩:=h.1 i hi
 obtain⟨b,hb,rfl⟩:=h.1 r hr
 by_cases q:a<=b
 ·exact⟨b - a,by omega,by rw[<-BJ,show a+(b - a)=b by omega]⟩
 ·exact⟨M - a+b,by omega,by rw[<-BJ,show a+(M - a+b)=M+b by omega,BJ,h.2]⟩
theorem afG {mask:Nat} (h:mask=7\/mask=31\/mask=127) {i r:Nat} (hi:i < mask+1) (hr:r < mask+1):∃ k,k < mask+1/\KC (mask+1) k i=r:=by
 rcases h with rfl|rfl|rfl
 ·exact cyc afE hi hr
 ·exact cyc adD hi hr
 ·exact cyc abz hi hr
def lp (mask:Nat) (h:Int):Nat->Nat×Nat
 |0=>(SetTable.bits h % (mask+1),SetTable.bits h)
 |l+1=>SetTable.leap mask (lp mask h l).1 (lp mask h l).2
theorem CP (mask i:Nat):i<=SetTable.runEnd mask i/\SetTable.runEnd mask i<=i+9:=by unfold SetTable.runEnd;split<;>omega
theorem U5 {mask i:Nat} (h:i<=mask):SetTable.runEnd mask i<=mask:=by unfold SetTable.runEnd;split<;>omega
theorem yc {mask:Nat} {h:Int} {s i p:Nat} (e:jl mask h s=at0 mask i p):∀ k,k<=SetTable.runEnd mask i - i->jl mask h (s+k)={ at0 mask i p with j:=i+k,more:=SetTable.runEnd mask i - i - k }
 |0,_=>by rw[Nat.add_zero,e];rfl
 |k+1,hk=>by
  have ih:=yc e k (by omega)
  show Et mask (jl mask h (s+k))=_
  rw[ih]
  unfold Et
  rw[zo (by dsimp only;omega)]
  rfl
theorem KD {mask:Nat} {h:Int} {s i p:Nat} (e:jl mask h s=at0 mask i p):jl mask h (s+(SetTable.runEnd mask i - i)+1)=at0 mask (SetTable.leap mask i p).1 (SetTable.leap mask i p).2:=by
 show Et mask (jl mask h (s+(SetTable.runEnd mask i - i)))=_
 rw[yc e _ (zl _)]
 unfold Et
 rw[zw (by dsimp only;omega)]
 rfl
theorem U6 (mask:Nat) (h:Int):∀ l,∃ s,s<=10 * l/\jl mask h s=at0 mask (lp mask h l).1 (lp mask h l).2
 |0=>⟨0,by omega,rfl⟩
 |l+1=>by
  obtain⟨s,hs,e⟩:=U6 mask h l
  have:=CP mask (lp mask h l).1
  exact⟨_,by omega,KD e⟩
theorem adE (mask:Nat) (h:Int):∀ l,(lp mask h l).1 < mask+1
 |0=>Nat.mod_lt _ (Nat.succ_pos _)
 |l+1=>Nat.mod_lt _ (Nat.succ_pos _)
theorem KH (mask:Nat) (h:Int):∀ l,(lp mask h l).2 * 32 ^ l<=SetTable.bits h
 |0=>by simp[lp]
 |l+1=>by
  have ih:=KH mask h l
  show (lp mask h l).2 / 32 * 32 ^ (l+1)<=_
  have h1:(lp mask h l).2 / 32 * 32<=(lp mask h l).2:=Nat.div_mul_le_self _ _
  have h2:=Nat.mul_le_mul_right (32 ^ l) h1
  rw[Nat.pow_succ,Nat.mul_comm (32 ^ l) 32,<-Nat.mul_assoc]
  exact z3 h2 ih
theorem Yp (h:Int):SetTable.bits h < 18446744073709551616:=by
 unfold SetTable.bits
 have h1:h % 18446744073709551616 < 18446744073709551616:=Int.emod_lt_of_pos _ (by decide)
 have h2:0<=h % 18446744073709551616:=Int.emod_nonneg _ (by decide)
 show (h % 18446744073709551616).toNat < _
 omega
theorem Qf (mask:Nat) (h:Int):∀ k,(lp mask h (12+k)).2 < 32
 |0=>by
  have h1:=KH mask h 12
  have h2:=Yp h
  rw[show (32:Nat) ^ 12=1152921504606846976 from rfl] at h1
  show (lp mask h 12).2 < 32
  omega
 |k+1=>by
  have:=Qf mask h k
  show (lp mask h (12+k)).2 / 32 < 32
  omega
theorem adF (mask:Nat) (h:Int):∀ k,(lp mask h (12+k)).1=KC (mask+1) k (lp mask h 12).1:=by
 have step:∀ k,(lp mask h (12+k+1)).1=nx (mask+1) (lp mask h (12+k)).1:=fun k=>by
  have:=Qf mask h k
  show ((lp mask h (12+k)).1 * 5+1+(lp mask h (12+k)).2 / 32) % (mask+1)=_
  rw[show (lp mask h (12+k)).2 / 32=0 by omega]
  rfl
 have comm:∀ k i,KC (mask+1) k (nx (mask+1) i)=nx (mask+1) (KC (mask+1) k i):=fun k=>by
  induction k with
  |zero=>intro i;rfl
  |succ k ih=>intro i;exact ih _
 intro k
 induction k with
 |zero=>rfl
 |succ k ih=>
  rw[show 12+(k+1)=12+k+1 by omega,step,ih]
  exact (comm k _).symm
theorem U7 {mask:Nat} (hm:mask=7\/mask=31\/mask=127) (h:Int) {r:Nat} (hr:r < mask+1):∃ l,l < mask+13/\(lp mask h l).1=r:=by
 obtain⟨k,hk,e⟩:=afG hm (adE mask h 12) hr
 exact⟨12+k,by omega,by rw[adF,e]⟩
theorem gap {t:SetTable} (h:Tb t):∃ r,r < t.mask+1/\r∉t.place:=by
 by_cases q:∃ r,r < t.mask+1/\r∉t.place
 ·exact q
 ·exfalso
  have:=Nz (List.range (t.mask+1)) t.place.toList y0 fun x hx=>by
   rw[ya] at hx
   by_cases q':x∈t.place
   ·exact Array.mem_toList_iff.mpr q'
   ·exact absurd ⟨x,hx,q'⟩ q
  rw[Kn,qf] at this
  have:=h.full
  omega
theorem U8 {t:SetTable} (ht:Tb t) (h:Int):∃ n,n < 10 * SetTable.turns t.mask/\(jl t.mask h n).j∉t.place:=by
 obtain⟨r,hr,hn⟩:=gap ht
 obtain⟨l,hl,e⟩:=U7 ht.mask h hr
 obtain⟨s,hs,e'⟩:=U6 t.mask h l
 refine⟨s,by unfold SetTable.turns;omega,?_⟩
 rw[e']
 show (lp t.mask h l).1∉_
 rw[e];exact hn
theorem NP {t:SetTable} (ht:Tb t) (h:Int):∃ n,n < 10 * SetTable.turns t.mask/\(jl t.mask h n).j∉t.place/\∀ m,m < n->(jl t.mask h m).j∈t.place:=by
 obtain⟨n,hn,hf⟩:=U8 ht h
 have:∀ k,(∃ n,n<=k/\(jl t.mask h n).j∉t.place/\∀ m,m < n->(jl t.mask h m).j∈t.place)\/∀ m,m<=k->(jl t.mask h m).j∈t.place:=fun k=>by
  induction k with
  |zero=>
   by_cases q:(jl t.mask h 0).j∈t.place
   ·exact .inr fun m hm=>by rw[show m=0 by omega];exact q
   ·exact .inl ⟨0,zl _,q,fun m hm=>absurd hm (kq _)⟩
  |succ k ih=>
   rcases ih with⟨n,h1,h2⟩|ih
   ·exact .inl ⟨n,by omega,h2⟩
   ·by_cases q:(jl t.mask h (k+1)).j∈t.place
    ·exact .inr fun m hm=>by
      by_cases e:m=k+1
      ·rw[e];exact q
      ·exact ih m (by omega)
    ·exact .inl ⟨k+1,zl _,q,fun m hm=>ih m (by omega)⟩
 rcases this n with⟨m,h1,h2,h3⟩|q
 ·exact⟨m,by omega,h2,h3⟩
 ·exact absurd (q n (zl _)) hf
theorem gD {α:Type} (xs:Array α) (k:Nat) (a:α):xs.getD k a=xs[k]?.getD a:=by
 by_cases h:k < xs.size
 ·rw[ZT h];simp[Array.getD,h]
 ·rw[ko (by omega)];simp[Array.getD,h]
structure Tok (t:SetTable) (es:Array (Int×Value)):Prop extends Tb t where
 size:t.place.size=es.size
 reach:∀ (i j:Nat) e,t.place[i]?=some j->es[i]?=some e->∃ n,n < 10 * SetTable.turns t.mask/\(jl t.mask e.1 n).j=j/\∀ m,m < n->(jl t.mask e.1 m).j∈t.place
theorem yd {α:Type} (xs:Array α) (p:Nat) (x:α):(SetTable.insertAt xs p x).toList=xs.toList.take p++x::xs.toList.drop p:=by
 unfold SetTable.insertAt
 simp[Array.toList_extract,List.take_of_length_le]
theorem Bk {α:Type} {xs:Array α} {p:Nat} (hp:p<=xs.size) (x:α) (i:Nat):(SetTable.insertAt xs p x)[i]?=if i < p then xs[i]? else if i=p then some x else xs[i - 1]?:=by
 rw[<-Qb,yd,List.getElem?_append]
 have hl:(xs.toList.take p).length=p:=by rw[kL,qf];omega
 rw[hl]
 by_cases h1:i < p
 ·rw[zo h1,zo h1,List.getElem?_take,zo h1,Qb]
 ·rw[zw h1,zw h1]
  by_cases h2:i=p
  ·rw[zo h2,h2,Nat.sub_self];rfl
  ·rw[zw h2,show i - p=(i - p - 1)+1 by omega,ZI,List.getElem?_drop,Qb,show p+(i - p - 1)=i - 1 by omega]
theorem uL {α:Type} (xs:Array α) (p:Nat) (x:α):(SetTable.insertAt xs p x).size=xs.size+1:=by
 rw[<-qf,yd,z0,qk,kL,List.length_drop,qf]
 omega
theorem Qg {α:Type} {xs:Array α} {p:Nat} {x y:α}:y∈SetTable.insertAt xs p x↔y∈xs\/y=x:=by
 rw[<-Array.mem_toList_iff,yd,List.mem_append,Q2,<-Array.mem_toList_iff]
 constructor
 ·rintro (h|h|h)
  ·exact .inl (List.mem_of_mem_take h)
  ·exact .inr h
  ·exact .inl (List.mem_of_mem_drop h)
 ·rintro (h|h)
  ·rw[<-List.take_append_drop p xs.toList,List.mem_append] at h
   rcases h with h|h
   ·exact .inl h
   ·exact .inr (.inr h)
  ·exact .inr (.inl h)
theorem U9 {xs:Array Nat} (hr:Ny xs) {j:Nat} (hj:j∉xs):Ny (SetTable.insertAt xs (SetTable.below xs j) j):=by
 obtain⟨h1,h2,h3⟩:=below_at hr j
 intro a b hab hb
 rw[uL] at hb
 have ga:∀ i,i < xs.size+1->(SetTable.insertAt xs (SetTable.below xs j) j).getD i 0=if i < SetTable.below xs j then xs.getD i 0 else if i=SetTable.below xs j then j else xs.getD (i - 1) 0:=fun i hi=>by
  rw[gD,Bk h1]
  by_cases q1:i < SetTable.below xs j
  ·rw[zo q1,zo q1,<-gD]
  ·rw[zw q1,zw q1]
   by_cases q2:i=SetTable.below xs j
   ·rw[zo q2,zo q2];rfl
   ·rw[zw q2,zw q2,<-gD]
 have gt:∀ k,SetTable.below xs j<=k->k < xs.size->j < xs.getD k 0:=fun k hk hs=>by
  have q:=h3 k hk hs
  rcases Nat.lt_or_eq_of_le q with q|q
  ·exact q
  ·exact absurd (Array.mem_of_getElem? (Yn hs q.symm)) hj
 rw[ga a (by omega),ga b hb]
 by_cases a1:a < SetTable.below xs j
 ·rw[zo a1]
  by_cases b1:b < SetTable.below xs j
  ·rw[zo b1];exact hr a b hab (by omega)
  ·rw[zw b1]
   have:=h2 a a1
   by_cases b2:b=SetTable.below xs j
   ·rw[zo b2];exact this
   ·rw[zw b2];exact Nat.lt_trans this (gt _ (by omega) (by omega))
 ·rw[zw a1]
  by_cases a2:a=SetTable.below xs j
  ·rw[zo a2,zw (by omega),zw (by omega)]
   exact gt _ (by omega) (by omega)
  ·rw[zw a2,zw (by omega),zw (by omega)]
   exact hr _ _ (by omega) (by omega)
theorem Yq {t:SetTable} {es:Array (Int×Value)} (h:Tok t es) {hh:Int} {x:Value} {n:Nat} (hn:n < 10 * SetTable.turns t.mask) (hf:(jl t.mask hh n).j∉t.place) (hp:∀ m,m < n->(jl t.mask hh m).j∈t.place) (hj:(jl t.mask hh n).j<=t.mask) (hs:es.size+1<=t.mask) :
  Tok (t.put (jl t.mask hh n).j).1 (SetTable.insertAt es (t.put (jl t.mask hh n).j).2 (hh,x))/\(t.put (jl t.mask hh n).j).1.led=t.led/\(t.put (jl t.mask hh n).j).1.plain=t.plain/\(t.put (jl t.mask hh n).j).1.mask=t.mask:=by
 have hd:=h.Yo
 have he:t.put (jl t.mask hh n).j=({ t with place:=SetTable.insertAt t.place (SetTable.below t.place (jl t.mask hh n).j) (jl t.mask hh n).j,dummies:=#[] },SetTable.below t.place (jl t.mask hh n).j):=by
  unfold SetTable.put
  rw[hd]
  simp only[Qd,zr,ZH]
 rw[he]
 have hz:=h.size
 have hb:=(below_at h.rise (jl t.mask hh n).j).1
 refine⟨{ mask:=h.mask,Yo:=rfl,rise:=U9 h.rise hf,bd:=fun j hj'=>?_,full:=?_,size:=?_,reach:=fun i j e h1 h2=>?_ },rfl,rfl,rfl⟩
 ·rcases Qg.mp hj' with q|q
  ·exact h.bd j q
  ·rw[q];exact hj
 ·show (SetTable.insertAt _ _ _).size<=t.mask
  rw[uL];omega
 ·show (SetTable.insertAt _ _ _).size=_
  rw[uL,uL,hz]
 ·have h1:(SetTable.insertAt t.place (SetTable.below t.place (jl t.mask hh n).j) (jl t.mask hh n).j)[i]?=some j:=h1
  rw[Bk hb] at h1
  rw[Bk (by rw[<-hz];exact hb)] at h2
  have up:∀ e':Int×Value,(∃ n,n < 10 * SetTable.turns t.mask/\(jl t.mask e'.1 n).j=j/\∀ m,m < n->(jl t.mask e'.1 m).j∈t.place)->∃ n',n' < 10 * SetTable.turns t.mask/\(jl t.mask e'.1 n').j=j/\∀ m,m < n'->(jl t.mask e'.1 m).j∈SetTable.insertAt t.place (SetTable.below t.place (jl t.mask hh n).j) (jl t.mask hh n).j:=
   fun e' ⟨n,a,b,c⟩=>⟨n,a,b,fun m hm=>Qg.mpr (.inl (c m hm))⟩
  by_cases q1:i < SetTable.below t.place (jl t.mask hh n).j
  ·rw[zo q1] at h1 h2
   exact up e (h.reach i j e h1 h2)
  ·rw[zw q1] at h1 h2
   by_cases q2:i=SetTable.below t.place (jl t.mask hh n).j
   ·rw[zo q2] at h1 h2
    cases h1;cases h2
    exact up (hh,x) ⟨n,hn,rfl,hp⟩
   ·rw[zw q2] at h1 h2
    exact up e (h.reach (i - 1) j e h1 h2)
theorem Va {mask:Nat} (h:Int):∀ n,(jl mask h n).j+(jl mask h n).more<=mask
 |0=>by
  have h1:SetTable.bits h % (mask+1) < mask+1:=Nat.mod_lt _ (Nat.succ_pos _)
  have:=U5 (mask:=mask) (i:=SetTable.bits h % (mask+1)) (by omega)
  have:=CP mask (SetTable.bits h % (mask+1))
  show SetTable.bits h % (mask+1)+(SetTable.runEnd mask (SetTable.bits h % (mask+1)) - SetTable.bits h % (mask+1))<=mask
  omega
 |n+1=>by
  have ih:=Va (mask:=mask) h n
  show (Et mask (jl mask h n)).j+(Et mask (jl mask h n)).more<=mask
  unfold Et
  split
  ·dsimp only;omega
  ·dsimp only
   generalize hl:(SetTable.leap mask (jl mask h n).i (jl mask h n).perturb).1=i
   have h1:i < mask+1:=by rw[<-hl];exact Nat.mod_lt _ (Nat.succ_pos _)
   have:=U5 (mask:=mask) (i:=i) (by omega)
   have:=CP mask i
   omega
theorem NQ {mask:Nat} (h:Int) (n:Nat):(jl mask h n).j<=mask:=by have:=Va (mask:=mask) h n;omega
def NT (owner:Array (Option Nat)) (j:Nat):Prop:=(owner.getD j (some 0)).isNone=false
theorem Gx {mask:Nat} {h:Int} {owner:Array (Option Nat)}:∀ (fuel l s j:Nat),jl mask h s=at0 mask (lp mask h l).1 (lp mask h l).2->s<=10 * l->(∀ m,m < s->NT owner (jl mask h m).j) →
  SetTable.layClean.free mask owner fuel (lp mask h l).1 (lp mask h l).2=some j->∃ n,n < 10 * (l+fuel)/\(jl mask h n).j=j/\(owner.getD j (some 0)).isNone=true/\∀ m,m < n->NT owner (jl mask h m).j
 |0,l,s,j,_,_,_,e=>by unfold SetTable.layClean.free at e;cases e
 |fuel+1,l,s,j,hs,hl,ho,e=>by
  have hr:=CP mask (lp mask h l).1
  unfold SetTable.layClean.free at e
  cases hf:(List.range (SetTable.runEnd mask (lp mask h l).1+1 - (lp mask h l).1)).find? fun k=>(owner.getD ((lp mask h l).1+k) (some 0)).isNone with
  |some k=>
   rw[hf] at e
   cases e
   obtain⟨h1,h2,h3⟩:=List.find?_range_eq_some.mp hf
   rw[ya] at h2
   refine⟨s+k,by omega,?_,h1,fun m hm=>?_⟩
   ·rw[yc hs k (by omega)]
   ·by_cases q:m < s
    ·exact ho m q
    ·have h4:=h3 (m - s) (by omega)
     rw[show m=s+(m - s) by omega,yc hs (m - s) (by omega)]
     simpa [NT] using h4
  |none=>
   rw[hf] at e
   have h3:=List.find?_range_eq_none.mp hf
   obtain⟨n,a,b⟩:=Gx fuel (l+1) _ j (KD hs) (by omega) (fun m hm=>by
    by_cases q:m < s
    ·exact ho m q
    ·have h4:=h3 (m - s) (by omega)
     rw[show m=s+(m - s) by omega,yc hs (m - s) (by omega)]
     simpa [NT] using h4) e
   exact⟨n,by omega,b⟩
theorem Gy {mask:Nat} {h:Int} {owner:Array (Option Nat)}:∀ (fuel l:Nat),SetTable.layClean.free mask owner fuel (lp mask h l).1 (lp mask h l).2=none->∀ l',l<=l'->l' < l+fuel->NT owner (lp mask h l').1
 |0,l,_,l',h1,h2=>by omega
 |fuel+1,l,e,l',h1,h2=>by
  have hr:=CP mask (lp mask h l).1
  unfold SetTable.layClean.free at e
  cases hf:(List.range (SetTable.runEnd mask (lp mask h l).1+1 - (lp mask h l).1)).find? fun k=>(owner.getD ((lp mask h l).1+k) (some 0)).isNone with
  |some k=>rw[hf] at e;cases e
  |none=>
   rw[hf] at e
   have h3:=List.find?_range_eq_none.mp hf
   by_cases q:l'=l
   ·subst q
    have h4:=h3 0 (by omega)
    simpa [NT] using h4
   ·exact Gy fuel (l+1) e l' (by omega) (by omega)
structure Ow (mask:Nat) (hs:List Int) (owner:Array (Option Nat)):Prop where
 size:owner.size=mask+1
 lt:∀ (j idx:Nat),owner[j]?=some (some idx)->idx < hs.length
 all:∀ (idx:Nat) h,hs[idx]?=some h->∃ j,owner[j]?=some (some idx)/\∃ n,n < 10 * SetTable.turns mask/\(jl mask h n).j=j/\∀ m,m < n->NT owner (jl mask h m).j
 inj:∀ (j j' idx:Nat),owner[j]?=some (some idx)->owner[j']?=some (some idx)->j=j'
theorem Vb {mask:Nat} {hs:List Int} {owner:Array (Option Nat)} (o:Ow mask hs owner) {j:Nat} (hj:j<=mask):NT owner j↔∃ idx,owner[j]?=some (some idx):=by
 unfold NT
 have hlt:j < owner.size:=by rw[o.size];omega
 rw[gD,ZT hlt]
 cases owner[j] with
 |none=>simp
 |some i=>simp
theorem RQ {f:Nat->Nat}:∀ {xs:List Nat},xs.Nodup->(∀ x∈xs,∀ y∈xs,f x=f y->x=y)->(xs.map f).Nodup:=fun {xs} hn hi=>
 List.pairwise_map.mpr (kc (fun ha hb hne e=>hne (hi _ ha _ hb e)) hn)
theorem Yr {mask:Nat} {hs:List Int} {owner:Array (Option Nat)} (o:Ow mask hs owner) (hl:hs.length<=mask):∃ r,r < mask+1/\¬ NT owner r:=by
 by_cases q:∃ r,r < mask+1/\¬ NT owner r
 ·exact q
 ·exfalso
  have all:∀ r,r < mask+1->∃ idx,owner[r]?=some (some idx):=fun r hr=>by
   by_cases q':NT owner r
   ·exact (Vb o (by omega)).mp q'
   ·exact absurd ⟨r,hr,q'⟩ q
  have f:∀ r,r < mask+1->owner[r]?=some (some ((owner[r]?.getD none).getD 0)):=fun r hr=>by
   obtain⟨idx,e⟩:=all r hr
   rw[e];rfl
  have:=Nz ((List.range (mask+1)).map fun r=>(owner[r]?.getD none).getD 0) (List.range hs.length) (RQ y0 fun x hx y hy e=>by
   rw[ya] at hx hy
   have e1:=f x hx
   have e2:=f y hy
   rw[e] at e1
   exact o.inj x y _ e1 e2) fun x hx=>by
    obtain⟨r,hr,rfl⟩:=List.mem_map.mp hx
    rw[ya] at hr
    exact List.mem_range.mpr (o.lt r _ (f r hr))
  rw[zi,Kn,Kn] at this
  omega
theorem Ys {mask:Nat} (hm:mask=7\/mask=31\/mask=127) {hs:List Int} {owner:Array (Option Nat)} (o:Ow mask hs owner) (hl:hs.length<=mask) (h:Int) :
  ∃ j,SetTable.layClean.free mask owner (SetTable.turns mask) (SetTable.bits h % (mask+1)) (SetTable.bits h)=some j/\Ow mask (hs++[h]) (owner.setIfInBounds j (some hs.length)):=by
 obtain⟨r,hr,hn⟩:=Yr o hl
 cases hf:SetTable.layClean.free mask owner (SetTable.turns mask) (SetTable.bits h % (mask+1)) (SetTable.bits h) with
 |none=>
  obtain⟨l,hl',e⟩:=U7 hm h hr
  have:=Gy (h:=h) (owner:=owner) (SetTable.turns mask) 0 hf l (qA _) (by unfold SetTable.turns;omega)
  rw[e] at this
  exact absurd this hn
 |some j=>
  obtain⟨n,h1,h2,h3,h4⟩:=Gx (h:=h) (owner:=owner) (SetTable.turns mask) 0 0 j rfl (zl _) (fun m hm=>absurd hm (kq _)) hf
  rw[JP] at h1
  have hj:j<=mask:=by rw[<-h2];exact NQ h n
  have hjs:j < owner.size:=by rw[o.size];omega
  have get:∀ k:Nat,(owner.setIfInBounds j (some hs.length))[k]?=if k=j then some (some hs.length) else owner[k]?:=fun k=>by
   rw[Array.getElem?_setIfInBounds]
   by_cases q:k=j
   ·rw[zo q,zo q.symm,zo hjs]
   ·rw[zw q,zw (fun e=>q e.symm)]
  have old:∀ k idx:Nat,owner[k]?=some (some idx)->k≠j:=fun k idx e q=>by
   subst q
   rw[gD,e] at h3
   cases h3
  have up:∀ k,NT owner k->NT (owner.setIfInBounds j (some hs.length)) k:=fun k q=>by
   unfold NT at q ⊢
   rw[gD] at q ⊢
   rw[get]
   by_cases e:k=j
   ·rw[zo e];rfl
   ·rw[zw e];exact q
  refine⟨j,rfl,⟨by rw[Array.size_setIfInBounds];exact o.size,fun k idx e=>?_,fun idx g e=>?_,fun a b idx e1 e2=>?_⟩⟩
  ·rw[get] at e
   rw[z0]
   by_cases q:k=j
   ·rw[zo q] at e;cases e;simp
   ·rw[zw q] at e;have:=o.lt k idx e;simp;omega
  ·by_cases q:idx < hs.length
   ·rw[ZA q] at e
    obtain⟨k,e1,n',a,b,c⟩:=o.all idx g e
    exact⟨k,by rw[get,zw (old k idx e1)];exact e1,n',a,b,fun m hm=>up _ (c m hm)⟩
   ·rw[ZZ (by omega)] at e
    have:idx - hs.length=0:=by
     by_cases q':idx - hs.length=0
     ·exact q'
     ·rw[qV (by simp;omega)] at e;cases e
    rw[this] at e
    cases e
    have:idx=hs.length:=by omega
    subst this
    exact⟨j,by rw[get,zo rfl],n,h1,h2,fun m hm=>up _ (h4 m hm)⟩
  ·rw[get] at e1 e2
   by_cases q1:a=j
   ·by_cases q2:b=j
    ·rw[q1,q2]
    ·rw[zo q1] at e1;rw[zw q2] at e2
     cases e1
     have:=o.lt b _ e2;omega
   ·by_cases q2:b=j
    ·rw[zw q1] at e1;rw[zo q2] at e2
     cases e2
     have:=o.lt a _ e1;omega
    ·rw[zw q1] at e1;rw[zw q2] at e2
     exact o.inj a b idx e1 e2
theorem abA (mask:Nat):Ow mask [] (Array.replicate (mask+1) none):=by
 have no:∀ (j idx:Nat),(Array.replicate (mask+1) (none:Option Nat))[j]?≠some (some idx):=fun j idx e=>by
  rw[Array.getElem?_replicate] at e
  split at e<;>cases e
 exact⟨Array.size_replicate,fun j idx e=>absurd e (no j idx),fun idx h e=>by simp at e,fun j j' idx e=>absurd e (no j idx)⟩
theorem abB {mask:Nat} (hm:mask=7\/mask=31\/mask=127) (hs:List Int) (hl:hs.length<=mask):∃ owner,SetTable.layClean mask hs.toArray=some owner/\Ow mask hs owner:=by
 have key:∀ (ys xs:List Int) (owner:Array (Option Nat)),Ow mask xs owner->xs.length+ys.length<=mask->∃ Vc,ys.foldl (fun (acc:Option (Array (Option Nat)×Nat)) h=>do
   let (owner,k) <-acc
   let j <-SetTable.layClean.free mask owner (SetTable.turns mask) (SetTable.bits h % (mask+1)) (SetTable.bits h)
   pure (owner.setIfInBounds j (some k),k+1)) (some (owner,xs.length))=some (Vc,xs.length+ys.length)/\Ow mask (xs++ys) Vc:=by
  intro ys
  induction ys with
  |nil=>intro xs owner o _;exact⟨owner,rfl,by rw[jS];exact o⟩
  |cons y ys ih=>
   intro xs owner o hl
   rw[qk] at hl
   obtain⟨j,e,o'⟩:=Ys hm o (by omega) y
   obtain⟨ow,e2,o2⟩:=ih (xs++[y]) _ o' (by simp;omega)
   refine⟨ow,?_,by rw[KA] at o2;exact o2⟩
   rw[z4]
   simp only[Option.bind_eq_bind,yT,e,pure]
   rw[show (xs++[y]).length=xs.length+1 by simp] at e2
   rw[qk,show xs.length+(ys.length+1)=xs.length+1+ys.length by omega]
   exact e2
 obtain⟨ow,e,o⟩:=key hs [] _ (abA mask) (by simpa using hl)
 refine⟨ow,?_,by simpa using o⟩
 unfold SetTable.layClean
 rw[List.foldl_toArray]
 exact congrArg (Option.map (·.1)) e
theorem HN {α β:Type} {f:α->Option β} {g:α->β}:∀ {xs:List α},(∀ x∈xs,f x=some (g x))->xs.filterMap f=xs.map g
 |[],_=>rfl
 |x::xs,h=>by
  rw[kM,h x (zh ..),zk,HN fun y hy=>h y (zg _ hy)]
theorem Yt {xs:List Nat} (h:xs.Pairwise (· < ·)):Ny xs.toArray:=by
 intro i j hij hj
 have hj':j < xs.length:=by simpa using hj
 rw[gD,gD,List.getElem?_toArray,List.getElem?_toArray,zz hj',zz (by omega)]
 exact List.pairwise_iff_getElem.mp h i j (by omega) hj' hij
theorem RT {t:SetTable} {es:Array (Int×Value)} {wanted:Nat} (hm:SetTable.sizeAbove wanted - 1=7\/SetTable.sizeAbove wanted - 1=31\/SetTable.sizeAbove wanted - 1=127) (hl:es.size<=SetTable.sizeAbove wanted - 1) :
  ∃ t' order,t.relaid (es.map (·.1)) wanted=some (t',order)/\(order.filterMap (es[·]?)).toList.Perm es.toList/\Tok t' (order.filterMap (es[·]?))/\t'.led=t.led/\t'.plain=t.plain/\t'.mask=SetTable.sizeAbove wanted - 1:=by
 generalize hM:SetTable.sizeAbove wanted - 1=mask at hm hl ⊢
 have hs:(es.toList.map (·.1)).length=es.size:=by simp
 obtain⟨ow,e,o⟩:=abB hm (es.toList.map (·.1)) (by omega)
 have ea:es.map (·.1)=(es.toList.map (·.1)).toArray:=by
  apply Array.ext'
  simp
 let L:List (Nat×Nat):=(List.range (mask+1)).filterMap fun j=>(ow.getD j none).map fun k=>(j,k)
 have hL:∀ j k,(j,k)∈L↔ow[j]?=some (some k):=fun j k=>by
  show (j,k)∈List.filterMap _ _↔_
  rw[List.mem_filterMap]
  constructor
  ·rintro⟨a,ha,q⟩
   rw[gD] at q
   cases h1:ow[a]? with
   |none=>rw[h1] at q;cases q
   |some x=>
    rw[h1] at q
    cases x with
    |none=>cases q
    |some y=>cases q;exact h1
  ·intro q
   refine⟨j,List.mem_range.mpr ?_,?_⟩
   ·by_cases h:j < ow.size
    ·rw[<-o.size];exact h
    ·rw[ko (by omega)] at q;cases q
   ·rw[gD,q];rfl
 have pL:L.Pairwise fun a b=>a.1 < b.1:=by
  refine List.pairwise_filterMap.mpr (List.pairwise_lt_range.imp fun {a b} hab x hx y hy=>?_)
  cases h1:ow.getD a none with
  |none=>rw[h1] at hx;cases hx
  |some u=>
   cases h2:ow.getD b none with
   |none=>rw[h2] at hy;cases hy
   |some v=>rw[h1] at hx;rw[h2] at hy;cases hx;cases hy;exact hab
 have ndO:(L.map (·.2)).Nodup:=by
  refine List.pairwise_map.mpr (kc (fun {a b} ha hb hab e=>?_) pL)
  have h1:=(hL a.1 a.2).mp ha
  have h2:=(hL b.1 b.2).mp hb
  rw[e] at h1
  have:=o.inj _ _ _ h1 h2
  omega
 have pO:(L.map (·.2)).Perm (List.range es.size):=Bw ndO y0 fun z=>by
  rw[Ki,ya]
  constructor
  ·rintro⟨a,ha,rfl⟩
   have:=o.lt _ _ ((hL a.1 a.2).mp ha)
   omega
  ·intro hz
   obtain⟨j,h1,_⟩:=o.all z ((es.toList.map (·.1))[z]'(by omega)) (zz (by omega))
   exact⟨(j,z),(hL j z).mpr h1,rfl⟩
 let g:Nat->Int×Value:=fun k=>es.getD k (0,.none)
 have hg:∀ k,k < es.size->es[k]?=some (g k):=fun k hk=>by
  show _=some (es.getD k _)
  rw[gD,ZT hk];rfl
 have fO:(L.map (·.2)).filterMap (fun k=>es[k]?)=(L.map (·.2)).map g:=HN fun k hk=>hg k (List.mem_range.mp (pO.mem_iff.mp hk))
 have eL:((L.map (·.2)).toArray.filterMap (fun k=>es[k]?)).toList=L.map fun p=>g p.2:=by
  rw[Array.toList_filterMap,fO,Zs];rfl
 refine⟨{ mask:=mask,place:=(L.map (·.1)).toArray,dummies:=#[],finger:=t.finger,led:=t.led,moves:=t.movedTo mask,plain:=t.plain },(L.map (·.2)).toArray,?_,?_,?_,rfl,rfl,rfl⟩
 ·unfold SetTable.relaid SetTable.laid
  rw[hM,ea,e]
  rfl
 ·rw[Array.toList_filterMap,fO]
  refine (pO.map g).trans ?_
  have:(List.range es.size).map g=es.toList:=by
   apply List.ext_getElem?
   intro i
   rw[zS]
   by_cases h:i < es.size
   ·rw[KS h,Qb,hg i h];rfl
   ·rw[qV (by simp;omega),qV (by simp;omega)];rfl
  rw[this]
 ·have sz:L.length=es.size:=by
   have:=pO.length_eq
   rw[zi,Kn] at this
   exact this
  refine { mask:=hm,Yo:=rfl,rise:=Yt (List.pairwise_map.mpr pL),bd:=fun j hj=>?_,full:=?_,size:=?_,reach:=fun i j x h1 h2=>?_ }
  ·have hj:j∈L.map (·.1):=by simpa using hj
   obtain⟨a,ha,rfl⟩:=List.mem_map.mp hj
   have q:=(hL a.1 a.2).mp ha
   have:a.1 < ow.size:=by
    by_cases h:a.1 < ow.size
    ·exact h
    ·rw[ko (by omega)] at q;cases q
   have:=o.size
   show a.1<=mask
   omega
  ·show (L.map (·.1)).toArray.size<=mask
   simp only[zC,zi]
   omega
  ·rw[<-qf (xs:=Array.filterMap _ _),eL]
   simp
  ·have h1:(L.map (·.1)).toArray[i]?=some j:=h1
   rw[List.getElem?_toArray,zS] at h1
   rw[<-Qb,eL,zS] at h2
   cases hi:L[i]? with
   |none=>rw[hi] at h1;cases h1
   |some p=>
    rw[hi] at h1 h2
    cases h1;cases h2
    have hp:(p.1,p.2)∈L:=ZY hi
    have q:=(hL p.1 p.2).mp hp
    have hk:p.2 < es.size:=List.mem_range.mp (pO.mem_iff.mp (List.mem_map.mpr ⟨p,hp,rfl⟩))
    have hh:(es.toList.map (·.1))[p.2]?=some (g p.2).1:=by
     rw[zS,Qb,hg _ hk];rfl
    obtain⟨j',q1,n,a,b,c⟩:=o.all _ _ hh
    have:j'=p.1:=o.inj _ _ _ q1 q
    subst this
    refine⟨n,a,b,fun m hm'=>?_⟩
    obtain⟨k,q2⟩:=(Vb o (NQ _ _)).mp (c m hm')
    show _∈(L.map (·.1)).toArray
    rw[List.mem_toArray]
    exact List.mem_map.mpr ⟨(_,k),(hL _ _).mpr q2,rfl⟩
end S6
end
section
namespace S6
open PySem PySem.Spec PyProof.Rows P1 L2
section
variable {prog:Program} {w:World} {A:Around} {E:Value->Shared->Prop} {s:Shared} {a:Addr}
abbrev cD (prog:Program) (w:World) (ks:List Key):Int:=tupleKeyHash (bD prog w) ks
def TE (prog:Program) (w:World) (h:Heap) (z:List Key×Addr) (e:Int×Value):Prop:=e=(cD prog w z.1,.ref z.2)/\IsTupleKey (bD prog w) h z.1 z.2
structure Yu (prog:Program) (w:World) (h:Heap) (zs:List (List Key×Addr)) (es:Array (Int×Value)) (t:SetTable):Prop where
 rel:Paired (TE prog w h) zs es.toList
 nd:(zs.map (·.1)).Nodup
 tok:Tok t es
 load:es.size * 5 < t.mask * 3
 led:w.params.followText "set-order" = false->t.led=true
 non:0 < es.size->t.plain=false
def Tu (prog:Program) (w:World) (h:Heap) (a:Addr) (zs:List (List Key×Addr)):Prop:=∃ o es ep t,h.get? a=some o/\o.ExactSet/\o.data=.set es ep t/\Yu prog w h zs es t
theorem Qh {h h':Heap} {ks:List Key} {b:Addr} (x:IsTupleKey (bD prog w) h ks b) (k:∀ o,h.get? b=some o->o.cls=.type "tuple" → h'.get? b=some o):IsTupleKey (bD prog w) h' ks b:=
 let ⟨o,its,n,e,c,r⟩:=x;⟨o,its,n,k o e c,c,r⟩
theorem CQ {h h':Heap} {zs:List (List Key×Addr)} {l:List (Int×Value)} (k:∀ b o,h.get? b=some o->o.cls=.type "tuple" → h'.get? b=some o) (r:Paired (TE prog w h) zs l):Paired (TE prog w h') zs l:=by
 induction r with
 |nil=>exact .nil
 |cons q _ ih=>exact .cons ⟨q.1,Qh q.2 fun o e c=>k _ o e c⟩ ih
theorem Tu.keep {h h':Heap} {zs:List (List Key×Addr)} (x:Tu prog w h a zs) (k:∀ b o,h.get? b=some o->h'.get? b=some o):Tu prog w h' a zs:=
 let ⟨o,es,ep,t,e,r,d,q⟩:=x;⟨o,es,ep,t,k a o e,r,d,⟨CQ (fun b o e _=>k b o e) q.rel,q.nd,q.tok,q.load,q.led,q.non⟩⟩
theorem Yu.size {h:Heap} {zs:List (List Key×Addr)} {es:Array (Int×Value)} {t:SetTable} (x:Yu prog w h zs es t):es.size=zs.length:=by rw[x.rel.length];simp
theorem Tok.fits {t:SetTable} {es:Array (Int×Value)} (h:Tok t es):t.fits es.size=true:=by
 unfold SetTable.fits SetTable.fill
 have h1:=h.full
 have h2:=h.size
 rw[h.Yo]
 simp[h2]
 omega
theorem Tok.odd {t:SetTable} {es:Array (Int×Value)} (h:Tok t es):t.gaveWay=false:=by
 unfold SetTable.gaveWay
 rcases h.mask with e|e|e<;>rw[e]<;>rfl
theorem Gz {d:Nat} {ks:List Key} {b:Addr} {Q:Bool->Shared->Prop} (hk:IsTupleKey (bD prog w) s.heap ks b) (h:Q false s):wpAny (model prog w) A (ofAClassStatement (d+1) (.ref b)) Q E s:=by
 have hT:=hk.typeIs
 obtain⟨o,items,n,ho,_,hd,hi⟩:=hk
 unfold ofAClassStatement
 refine zb (QP hT ?_)
 dsimp only
 refine zb (ze ?_)
 simp only[kA,zr,ZH]
 refine zb (QU ho hd ?_)
 dsimp only
 refine zb ?_
 rw[<-yi]
 refine yB _ (fun rest r s'=>r.1=none/\s'=s/\∀ v∈rest,carriedByValue v=true) _ ?_ ?_ _ _ ⟨rfl,rfl,hi.byValue⟩
 ·rintro v rest r s' ⟨hr,rfl,hall⟩
  have hv:ofAClassStatement d v=pure false:=by
   have:=hall v zh
   cases v with
   |ref a=>simp[carriedByValue] at this
   |_=>unfold ofAClassStatement;rfl
  rw[hv]
  refine zb (ze ?_)
  simp only[zr,ZH]
  exact ze ⟨rfl,rfl,fun u hu'=>hall u (zg _ hu')⟩
 ·rintro⟨r1,r2⟩ s' ⟨hr,rfl,_⟩
  simp only at hr
  subst hr
  exact ze h
theorem abC {ks:List Key} {b:Addr} {Q:Bool->Shared->Prop} (hk:IsTupleKey (bD prog w) s.heap ks b) (vs:List Value) (hv:∀ v∈vs,∃ c ls,v=.ref c/\IsTupleKey (bD prog w) s.heap ls c) (h:Q false s):wpAny (model prog w) A (searchCouldBeSeen (.ref b) vs) Q E s:=by
 unfold searchCouldBeSeen
 refine zb ?_
 refine yB _ (fun rest r s'=>r.1=none/\s'=s/\∀ v∈rest,∃ c ls,v=.ref c/\IsTupleKey (bD prog w) s.heap ls c) _ ?_ ?_ _ _ ⟨rfl,rfl,hv⟩
 ·rintro v rest r s' ⟨hr,rfl,hall⟩
  obtain⟨c,ls,rfl,hc⟩:=hall v zh
  have rest':∀ v∈rest,∃ c ls,v=.ref c/\IsTupleKey (bD prog w) s'.heap ls c:=fun u hu=>hall u (zg _ hu)
  dsimp only
  split
  ·exact ze ⟨rfl,rfl,rest'⟩
  ·refine zb (wpAny_eqIsQuiet_tuple hk ?_)
   simp only[kA,zr,ZH]
   refine zb (wpAny_eqIsQuiet_tuple hc ?_)
   simp only[kA,zr,ZH]
   refine zb (Gz hk ?_)
   simp only[zr,ZH]
   refine zb (Gz hc ?_)
   simp only[zr,ZH]
   exact ze ⟨rfl,rfl,rest'⟩
 ·rintro⟨r1,r2⟩ s' ⟨hr,rfl,_⟩
  simp only at hr
  subst hr
  exact ze h
theorem Ij {h:Heap}:∀ {zs:List (List Key×Addr)} {l:List (Int×Value)},Paired (TE prog w h) zs l->∀ {i:Nat} {e},l[i]?=some e->∃ z,zs[i]?=some z/\TE prog w h z e
 |_,_,.nil,i,e,q=>by simp at q
 |_,_,.cons r _,0,e,q=>by simp at q;subst q;exact⟨_,rfl,r⟩
 |_,_,.cons _ t,i+1,e,q=>by
  rw[ZI] at q
  obtain⟨z,z1,z2⟩:=Ij t q
  exact⟨z,by rw[ZI];exact z1,z2⟩
theorem yg {h:Heap}:∀ {zs:List (List Key×Addr)} {l:List (Int×Value)},Paired (TE prog w h) zs l->∀ {i:Nat} {z},zs[i]?=some z->∃ e,l[i]?=some e/\TE prog w h z e
 |_,_,.nil,i,e,q=>by simp at q
 |_,_,.cons r _,0,e,q=>by simp at q;subst q;exact⟨_,rfl,r⟩
 |_,_,.cons _ t,i+1,e,q=>by
  rw[ZI] at q
  obtain⟨z,z1,z2⟩:=yg t q
  exact⟨z,by rw[ZI];exact z1,z2⟩
theorem least (p:Nat->Prop):∀ (k n:Nat),p (n+k)->∃ d,d<=k/\p (n+d)/\∀ m,n<=m->m < n+d->¬ p m
 |0,n,h=>⟨0,zl _,h,fun m h1 h2=>absurd h2 (by omega)⟩
 |k+1,n,h=>by
  by_cases q:p n
  ·exact⟨0,qA _,q,fun m h1 h2=>absurd h2 (by omega)⟩
  ·obtain⟨d,h1,h2,h3⟩:=least p k (n+1) (by rw[show n+1+k=n+(k+1) by omega];exact h)
   refine⟨d+1,by omega,by rw[show n+(d+1)=n+1+d by omega];exact h2,fun m a b=>?_⟩
   by_cases e:m=n
   ·rw[e];exact q
   ·exact h3 m (by omega) (by omega)
theorem search {o:Obj} {es:Array (Int×Value)} {ep:Nat} {t:SetTable} {zs:List (List Key×Addr)} {ks:List Key} {b:Addr} (hu:A.units < cLine) (ho:s.heap.get? a=some o) (hd:o.data=.set es ep t) (x:Yu prog w s.heap zs es t) (hk:IsTupleKey (bD prog w) s.heap ks b)
  {N:Nat} (hN:N < 10 * SetTable.turns t.mask) (hf:(jl t.mask (cD prog w ks) N).j∉t.place) (hp:∀ m,m < N->(jl t.mask (cD prog w ks) m).j∈t.place) {Q:SetFound->Shared->Prop}
  (h1:ks∈zs.map (·.1)->Q (.there none) s) (h2:ks∉zs.map (·.1)->Q (.free (jl t.mask (cD prog w ks) N).j false) s) :
  ∀ (k n fuel:Nat) (stand:Option SetTable.Probe),n+k=N->k < fuel->stand.getD (t.probeStart (cD prog w ks))=jl t.mask (cD prog w ks) n->(∀ m,m < n->∀ i:Nat,t.place[i]?=some (jl t.mask (cD prog w ks) m).j->∀ z:List Key×Addr,zs[i]?=some z->z.1≠ks) →
   wpAny (model prog w) A (setSearchFrom a (.ref b) (cD prog w ks) true fuel stand) Q E s:=by
 have get:∀ {i:Nat} {e},es[i]?=some e->∃ z,zs[i]?=some z/\TE prog w s.heap z e:=fun {i e} q=>Ij x.rel (by rw[Qb];exact q)
 have fit:=x.tok.fits
 intro k
 induction k using Nat.strongRecOn with
 |ind k ih=>
  intro n fuel stand hn hfu hst hb
  cases fuel with
  |zero=>omega
  |succ fuel=>
  unfold setSearchFrom
  refine zb (Q1 ho hd fit ?_)
  dsimp only
  rw[zw (by rw[x.tok.odd];decide)]
  refine zb (ze ?_)
  rw[hst]
  obtain⟨d,d1,d2,d3⟩:=least (fun m=>m=N\/∃ i:Nat,t.place[i]?=some (jl t.mask (cD prog w ks) m).j/\∃ e:Int×Value,es[i]?=some e/\e.1=cD prog w ks) k n (.inl hn)
  have live:∀ m,m < N->∃ i:Nat,t.place[i]?=some (jl t.mask (cD prog w ks) m).j/\∃ e,es[i]?=some e:=fun m hm=>by
   obtain⟨i,hi,e⟩:=Array.getElem_of_mem (hp m hm)
   have hi':i < es.size:=by rw[<-x.tok.size];exact hi
   exact⟨i,by rw[ZT hi,e],es[i],ZT hi'⟩
  have pr:=Kz x.tok.toTb (fun i=>(es[i]?.map (·.1)).getD 0) (cD prog w ks) d (10 * SetTable.turns t.mask) n (by omega) fun m a1 a2=>by
   have q:=d3 m a1 a2
   obtain⟨i,e1,e,e2⟩:=live m (by omega)
   refine⟨i,e1,fun q'=>q (.inr ⟨i,e1,e,e2,?_⟩)⟩
   simpa [e2] using q'
  have prb:t.probe (fun i=>(es[i]?.map (·.1)).getD 0) (cD prog w ks) (jl t.mask (cD prog w ks) n)=SetTable.probe.go t (fun i=>(es[i]?.map (·.1)).getD 0) (cD prog w ks) (10 * SetTable.turns t.mask) (jl t.mask (cD prog w ks) n):=rfl
  by_cases hE:n+d=N
  ·have p1:=pr.1 (by rw[hE];exact hf)
   rw[hE] at p1
   show wpAny _ _ (match t.probe (fun i=>(es[i]?.map (·.1)).getD 0) (cD prog w ks) (jl t.mask (cD prog w ks) n) with|some met=>_|_=>_) _ _ _
   rw[prb,p1]
   dsimp only
   refine ze (h2 fun hm=>?_)
   obtain⟨z,hz,ez⟩:=List.mem_map.mp hm
   obtain⟨i,hi,e⟩:=qq hz
   obtain⟨ee,e1,e2⟩:=yg x.rel (show zs[i]?=some z by rw[zz hi,e])
   rw[Qb] at e1
   have hi':i < t.place.size:=by rw[x.tok.size,x.size];exact hi
   obtain⟨n0,b1,b2,b3⟩:=x.tok.reach i _ ee (ZT hi') e1
   rw[e2.1,ez] at b2 b3
   have lt:n0 < N:=by
    rcases yn n0 N with q|q|q
    ·exact q
    ·exfalso;rw[<-q] at hf;rw[b2] at hf;exact hf (Array.getElem_mem hi')
    ·exact absurd (b3 N q) hf
   by_cases q:n0 < n
   ·exact hb n0 q i (by rw[b2];exact ZT hi') z (by rw[zz hi,e]) ez
   ·exact d3 n0 (by omega) (by omega) (.inr ⟨i,by rw[b2];exact ZT hi',ee,e1,by rw[e2.1,ez]⟩)
  ·rcases d2 with q|⟨i,i1,e,i2,i3⟩
   ·exact absurd q hE
   ·have p2:=pr.2 i i1 (by simpa [i2] using i3)
    show wpAny _ _ (match t.probe (fun i=>(es[i]?.map (·.1)).getD 0) (cD prog w ks) (jl t.mask (cD prog w ks) n) with|some met=>_|_=>_) _ _ _
    rw[prb,p2]
    dsimp only
    obtain⟨z,z1,z2⟩:=get i2
    have hv:∀ v∈((es.filter (·.1==cD prog w ks)).toList.map (·.2)),∃ c ls,v=.ref c/\IsTupleKey (bD prog w) s.heap ls c:=fun v hv=>by
     obtain⟨u,hu',rfl⟩:=List.mem_map.mp hv
     rw[Array.toList_filter,JE] at hu'
     obtain⟨jj,hj,ej⟩:=qq hu'.1
     obtain⟨y,y1,y2⟩:=Ij x.rel (show es.toList[jj]?=some u by rw[zz hj,ej])
     exact⟨y.2,y.1,by rw[y2.1],y2.2⟩
    have go:wpAny (model prog w) A (do
      let some (_,y):=es[i]?|unsupported "internal:set-entry"
      let equal <-holding [y] (eqBool y (.ref b))
      let (es',_,t') <-setState a
      if (true&&equal)=true then return SetFound.there none
      let some same:=t'.sameMemory t.moves t.mask|unsupported "set.changed-during-lookup:is-the-new-block-at-the-old-address"
      let still <-match (if same then t'.slot (jl t.mask (cD prog w ks) (n+d)).j else .empty) with
       |.live i'=>match es'[i']? with
        |some (_,y')=>do pure (if <-isSame y' y then some i' else none)
        |none=>pure none
       |_=>pure none
      match still with
      |none=>rule "set.search.anew"; setSearchFrom a (.ref b) (cD prog w ks) true fuel none
      |some i'=>if equal then return .there (some i') else setSearchFrom a (.ref b) (cD prog w ks) true fuel (some (jl t.mask (cD prog w ks) (n+d+1)))) Q E s:=by
     rw[i2,z2.1]
     dsimp only
     refine zb (qo (wpAny_eqBool_tuple hu z2.2 hk ?_))
     refine zb (Q1 ho hd fit ?_)
     dsimp only
     by_cases hq:z.1=ks
     ·rw[Zl hq]
      simp only[Bool.and_self,QO]
      exact ze (h1 (List.mem_map.mpr ⟨z,ZY z1,hq⟩))
     ·rw[qc hq]
      simp only[Bool.and_false,zr,ZH]
      have sm:t.sameMemory t.moves t.mask=some true:=by unfold SetTable.sameMemory;simp
      rw[sm]
      dsimp only
      simp only[QO]
      rw[zB x.tok.toTb i1]
      dsimp only
      rw[i2,z2.1]
      dsimp only
      refine zb (wpAny_isSame_ref_self (zb (ze ?_)))
      simp only[QO]
      refine ih (N - (n+d+1)) (by omega) (n+d+1) fuel _ (by omega) (by omega) rfl fun m hm i' j1 y y1=>?_
      by_cases c1:m < n
      ·exact hb m c1 i' j1 y y1
      ·by_cases c2:m=n+d
       ·subst c2
        have:i'=i:=by
         have s1:=CN x.tok.rise j1
         have s2:=CN x.tok.rise i1
         omega
        subst this
        rw[z1] at y1
        cases y1
        exact hq
       ·have q:=d3 m (by omega) (by omega)
        intro e'
        obtain⟨ee,e1,e2⟩:=yg x.rel y1
        rw[Qb] at e1
        exact q (.inr ⟨i',j1,ee,e1,by rw[e2.1,e']⟩)
    split
    ·refine zb (abC hk _ hv ?_)
     simp only[zr,ZH]
     exact go
    ·exact go
end
section
variable {prog:Program} {w:World} {A:Around} {E:Value->Shared->Prop} {s:Shared} {a:Addr}
def Txs (ks:List Key):Prop:=∃ x:Str,(Sum.inr x:Key)∈ks
theorem Vd {ks:List Key} {b:Addr} {Q:Bool->Shared->Prop} (hk:IsTupleKey (bD prog w) s.heap ks b) (hx:Txs ks) (h:Q false s):wpAny (model prog w) A (hashByValue 8 (.ref b)) Q E s:=by
 have hT:=hk.typeIs
 obtain⟨o,items,n,ho,_,hd,hi⟩:=hk
 unfold hashByValue
 refine zb (wpAny_specialOf hT F.slot_tuple_hash.lookup ?_)
 dsimp only
 refine zb (QU ho hd ?_)
 show wpAny _ _ (forIn items _ _ >>= _) _ _ s
 refine zb ?_
 rw[<-yi]
 refine yB _ (fun rest r s'=>r.1=none/\s'=s/\∃ left,ItemsAre (bD prog w) left rest/\Txs left) _ ?_ ?_ _ _ ⟨rfl,rfl,ks,hi,hx⟩
 ·rintro v rest r s' ⟨hr,rfl,left,hl,x,hx⟩
  cases hl with
  |@cons k _ ks' _ h1 hl'=>
   rcases bJ h1 with⟨i,t,rfl,rfl⟩|⟨y,t,rfl,rfl⟩
   ·have e:hashByValue 7 (.int i t)=pure true:=by unfold hashByValue;rfl
    rw[e]
    refine zb (ze ?_)
    simp only[kA,zr,ZH]
    refine ze ⟨rfl,rfl,ks',hl',x,?_⟩
    rcases List.mem_cons.mp hx with q|q
    ·cases q
    ·exact q
   ·have e:hashByValue 7 (.str y t)=pure false:=by unfold hashByValue;rfl
    rw[e]
    refine zb (ze ?_)
    simp only[Bool.not_false,QO]
    exact ze (ze h)
 ·rintro⟨r1,r2⟩ s' ⟨hr,rfl,left,hl,x,hx⟩
  cases hl
  cases hx
theorem RV {t:SetTable} {es:Array (Int×Value)} (h:Tok t es):Tok { t with plain:=false } es:={ mask:=h.mask,Yo:=h.Yo,rise:=h.rise,bd:=h.bd,full:=h.full,size:=h.size,reach:=h.reach }
theorem Yv {zs:List (List Key×Addr)} {ks:List Key} {b:Addr} {Q:Bool->Shared->Prop} (hu:A.units < cLine) (hS:Tu prog w s.heap a zs) (hk:IsTupleKey (bD prog w) s.heap ks b) (hx:Txs ks) (hroom:zs.length+1<=70)
  (h:∀ r h' zs',Heap.SameBut a s.heap h'->Tu prog w h' a zs'->(∀ z,z∈zs'↔z∈zs\/(z=(ks,b)/\ks∉zs.map (·.1)))->zs'.length<=zs.length+1->Q r { s with heap:=h' }):wpAny (model prog w) A (setAddHashed a (.ref b) (cD prog w ks)) Q E s:=by
 obtain⟨o,es,ep,t,ho,hex,hd,x⟩:=id hS
 have hsz:=x.size
 have fit:=x.tok.fits
 have hld:=x.load
 have hcl:o.cls≠.type "tuple" := by rw[hex.1];decide
 obtain⟨N,n1,n2,n3⟩:=NP x.tok.toTb (cD prog w ks)
 have hturn:10 * SetTable.turns t.mask < 100000:=by
  unfold SetTable.turns
  rcases x.tok.mask with e|e|e<;>rw[e]<;>decide
 unfold setAddHashed setAddHashedIn
 refine qo (zb (Q1 ho hd fit ?_))
 dsimp only
 have hb:byScan (.ref b) es=false:=by unfold byScan;rfl
 rw[hb]
 simp only[zr,ZH]
 unfold setSearch
 refine zb (search hu ho hd x hk n1 n2 n3 (fun hm=>?_) (fun hm=>?_) N 0 100000 none (by omega) (by omega) rfl fun m hm=>absurd hm (kq _))
 ·dsimp only
  exact ze (h _ s.heap zs (Heap.SameBut.refl a s.heap) hS (fun z=>⟨.inl,fun q=>q.elim id fun q=>absurd hm q.2⟩) (KL _))
 ·dsimp only
  refine zb (Q1 ho hd fit ?_)
  dsimp only
  have hj:=NQ (mask:=t.mask) (cD prog w ks) N
  have hm7:es.size+1<=t.mask:=by rcases x.tok.mask with e|e|e<;>rw[e] at hld ⊢<;>omega
  obtain⟨pt,pl,pp,pm⟩:=Yq (x:=.ref b) x.tok n1 n2 n3 hj hm7
  generalize hP:t.put (jl t.mask (cD prog w ks) N).j=P at pt pl pp pm ⊢
  obtain⟨t1,p⟩:=P
  dsimp only at pt pl pp pm ⊢
  have hil:(SetTable.insertAt es p (cD prog w ks,.ref b)).toList.Perm (es.toList++[(cD prog w ks,.ref b)]):=by
   rw[yd]
   refine (List.perm_middle).trans ?_
   rw[List.take_append_drop]
   exact (List.perm_append_singleton _ _).symm
  have r0:Paired (TE prog w s.heap) (zs++[(ks,b)]) (es.toList++[(cD prog w ks,.ref b)]):=Nv x.rel (.cons ⟨rfl,hk⟩ .nil)
  obtain⟨zs1,q1,r1⟩:=z9 hil r0
  have nd1:(zs1.map (·.1)).Nodup:=(q1.map (·.1)).nodup_iff.mpr (by
   rw[ZO]
   exact List.nodup_append.mpr ⟨x.nd,by simp,fun u hu' v hv=>by simp at hv;subst hv;exact fun e=>hm (e▸hu')⟩)
  have m1:∀ z,z∈zs1↔z∈zs\/(z=(ks,b)/\ks∉zs.map (·.1)):=fun z=>by
   rw[q1.mem_iff,List.mem_append,List.mem_singleton]
   exact⟨fun q=>q.imp id fun e=>⟨e,hm⟩,fun q=>q.imp id fun e=>e.1⟩
  have l1:zs1.length=zs.length+1:=by rw[q1.length_eq];simp
  have s1:(SetTable.insertAt es p (cD prog w ks,Value.ref b)).size=es.size+1:=uL _ _ _
  have up:∀ (hp:Heap) (ob:Obj) (e1 e2:Array (Int×Value)) (n1:Nat) (u1 u2:SetTable),hp.get? a=some ob->ob.data=.set e1 n1 u1->(hp.update a (Obj.putSet e2 u2)).get? a=some { ob with data:=.set e2 (n1+1) u2 }:=fun hp ob e1 e2 n1 u1 u2 g q=>by
   have:=kB (Obj.putSet e2 u2) g (by rw[putSet_of e2 u2 q];rfl)
   rw[putSet_of e2 u2 q] at this;exact this
  have kp:∀ {h':Heap},Heap.SameBut a s.heap h'->∀ c oc,s.heap.get? c=some oc->oc.cls=.type "tuple" → h'.get? c=some oc:=fun sb c oc e ec=>by
   rw[sb.2 c fun q=>by subst q;rw[ho] at e;cases e;exact hcl ec];exact e
  have fin:∀ t2:SetTable,Tok t2 (SetTable.insertAt es p (cD prog w ks,.ref b))->t2.led=t1.led->t2.plain=false->t2.mask=t1.mask->wpAny (model prog w) A (do
    storeSet a (SetTable.insertAt es p (cD prog w ks,.ref b)) t2
    if (!false&&t2.tooFull)=true then setRelay a (SetTable.grown (es.size+1))
    pure true) Q E s:=by
   intro t2 k2 l2 p2 m2
   have g1:=up s.heap o es (SetTable.insertAt es p (cD prog w ks,.ref b)) ep t t2 ho hd
   refine zb (wpAny_storeSet_of ho hd ?_ (fits_of_scanBound (by rw[s1];have:scanBound=4096:=rfl;omega)))
   have sb1:Heap.SameBut a s.heap (s.heap.update a (Obj.putSet (SetTable.insertAt es p (cD prog w ks,.ref b)) t2)):=KU ..
   have hfill:t2.fill=es.size+1:=by unfold SetTable.fill;rw[k2.Yo,k2.size,s1];rfl
   have adG:w.params.followText "set-order" = false->t2.led=true:=fun q=>l2.trans (pl.trans (x.led q))
   by_cases yh:t2.tooFull=true
   ·rw[yh]
    simp only[Bool.not_false,Bool.and_self,QO]
    have hf:t2.fill * 5>=t2.mask * 3:=by unfold SetTable.tooFull at yh;simpa using yh
    rw[hfill,m2,pm] at hf
    have hg:SetTable.grown (es.size+1)=(es.size+1) * 4:=by unfold SetTable.grown;rw[zw (by omega)]
    have cas:(es.size=4/\t.mask=7)\/(es.size=18/\t.mask=31):=by
     rcases x.tok.mask with e|e|e<;>rw[e] at hf hld
     ·exact .inl ⟨by omega,e⟩
     ·exact .inr ⟨by omega,e⟩
     ·omega
    have hsa:(es.size=4->SetTable.sizeAbove (SetTable.grown (es.size+1))=32)/\(es.size=18->SetTable.sizeAbove (SetTable.grown (es.size+1))=128):=by
     rw[hg]
     exact⟨fun e=>by rw[e];decide,fun e=>by rw[e];decide⟩
    have hms:SetTable.sizeAbove (SetTable.grown (es.size+1)) - 1=31/\es.size=4\/SetTable.sizeAbove (SetTable.grown (es.size+1)) - 1=127/\es.size=18:=by
     rcases cas with⟨e,_⟩|⟨e,_⟩
     ·exact .inl ⟨by rw[hsa.1 e],e⟩
     ·exact .inr ⟨by rw[hsa.2 e],e⟩
    obtain⟨t3,order,e3,pr3,k3,l3,p3,m3⟩:=RT (t:=t2) (es:=SetTable.insertAt es p (cD prog w ks,.ref b)) (wanted:=SetTable.grown (es.size+1)) (by rcases hms with⟨e,_⟩|⟨e,_⟩<;>rw[e]<;>simp) (by rw[s1];rcases hms with⟨e,e'⟩|⟨e,e'⟩<;>rw[e,e']<;>decide)
    unfold setRelay
    refine zb (zb (Q1 g1 rfl k2.fits ?_))
    dsimp only
    have hsl:¬ (SetTable.sizeAbove (SetTable.grown (es.size+1)) > sizeLine):=by
     rcases cas with⟨e,_⟩|⟨e,_⟩
     ·rw[hsa.1 e];decide
     ·rw[hsa.2 e];decide
    rw[zw hsl]
    have sz3:(order.filterMap (fun i=>(SetTable.insertAt es p (cD prog w ks,Value.ref b))[i]?)).size=(SetTable.insertAt es p (cD prog w ks,Value.ref b)).size:=by
     rw[<-qf,pr3.length_eq,qf]
    rw[e3]
    refine zb ?_
    show wpAny _ _ (if ((order.filterMap (fun i=>(SetTable.insertAt es p (cD prog w ks,Value.ref b))[i]?)).size != (SetTable.insertAt es p (cD prog w ks,Value.ref b)).size)=true then _ else pure (order.filterMap (fun i=>(SetTable.insertAt es p (cD prog w ks,Value.ref b))[i]?),t3)) _ _ _
    rw[zw (by rw[sz3];simp)]
    refine ze ?_
    dsimp only
    refine wpAny_storeSet_of g1 rfl ?_ (fits_of_scanBound (by rw[sz3,s1];have:scanBound=4096:=rfl;omega))
    have g2:=up _ _ (SetTable.insertAt es p (cD prog w ks,.ref b)) (order.filterMap (fun i=>(SetTable.insertAt es p (cD prog w ks,Value.ref b))[i]?)) _ t2 t3 g1 rfl
    have sb2:Heap.SameBut a s.heap ((s.heap.update a (Obj.putSet (SetTable.insertAt es p (cD prog w ks,.ref b)) t2)).update a (Obj.putSet (order.filterMap (fun i=>(SetTable.insertAt es p (cD prog w ks,Value.ref b))[i]?)) t3)):=sb1.trans (KU ..)
    obtain⟨zs2,q2,r2⟩:=z9 pr3 r1
    refine ze (h _ _ zs2 sb2 ⟨_,_,_,t3,g2,hex,rfl,⟨CQ (kp sb2) r2,(q2.map (·.1)).nodup_iff.mpr nd1,k3,?_,fun q=>l3.trans (adG q),fun _=>p3.trans p2⟩⟩ (fun z=>by rw[q2.mem_iff];exact m1 z) (by rw[q2.length_eq];omega))
    rw[sz3,s1,m3]
    rcases hms with⟨e,e'⟩|⟨e,e'⟩<;>rw[e,e']<;>decide
   ·have yh:t2.tooFull=false:=by simpa using yh
    rw[yh]
    simp only[Bool.and_false,zr,ZH]
    refine zb (ze ?_)
    refine ze (h _ _ zs1 sb1 ⟨_,_,_,t2,g1,hex,rfl,⟨CQ (kp sb1) r1,nd1,k2,?_,adG,fun _=>p2⟩⟩ m1 (by omega))
    unfold SetTable.tooFull at yh
    rw[hfill] at yh
    rw[s1]
    simpa using yh
  split
  ·refine zb (Vd hk hx ?_)
   simp only[zr,ZH]
   exact fin { t1 with plain:=false } (RV pt) rfl rfl rfl
  ·rename_i hp
   refine zb (ze ?_)
   simp only[QO]
   exact fin t1 pt rfl (by simpa using hp) rfl
end
end S6
end
section
namespace S1
open PySem PySem.Spec PyProof.Rows L2
section
variable {prog:Program} {w:World} {A:Around} {E:Value->Shared->Prop} {s:Shared}
theorem NZ {x:Value} (G:List Value->Prop) (kd:SortKind) (rk:List Value->Value->Nat) {Q:Value->Shared->Prop} (abu:∀ (E':Value->Shared->Prop) (Q':List Value->Shared->Prop),(∀ vs h' d tk,G vs->s.heap.objs.size<=h'.objs.size->(∀ c o,s.heap.get? c=some o->h'.get? c=some o)->Q' vs { s with heap:=h',drawn:=d,toks:=tk })->wpAny (model prog w) A.in1 (collect x) Q' E' s)
  (hK:∀ vs,G vs->2<=vs.length->∀ (E':Value->Shared->Prop) (A':Around) (s':Shared),(∀ c o,s.heap.get? c=some o->s'.heap.get? c=some o)->∀ Q:SortKind->Shared->Prop,Q kd s'->wpAny (model prog w) A' (keyKind' vs.toArray) Q E' s') (hC:∀ vs,G vs->∀ (A':Around) (s':Shared),(∀ c o,s.heap.get? c=some o->s'.heap.get? c=some o)->S8 prog w A' s' kd (rk vs) (pairsOf vs)) (h64:∀ vs,G vs->vs.length < 64)
  (h:∀ vs,G vs->∀ (l:Addr) (h':Heap) (d:Drawn) (tk n:Nat) (st:SortSt),(arrOf st).Perm (pairsOf vs)->Up (rk vs) (arrOf st) (pairsOf vs).size->s.heap.objs.size<=l->(∀ c o,s.heap.get? c=some o->h'.get? c=some o)->h'.get? l=some (seqObj "list" ((arrOf st).map (·.2)) n)->Q (.ref l) { s with heap:=h',drawn:=d,toks:=tk }) :
  wpAny (model prog w) A (call (.builtin "sorted") [x]) Q E s:=by
 refine Calls.call_function_entry kind_sorted plain_sorted entry_sorted (args_sorted1 _) ?_;unfold Builtin.«sorted»
 refine zb (m:=checkCount "sorted" 1 1 _) (ze (zb (abu _ _ fun vs h1 d tk hG hle ext=>?_)))
 have ai2:=h64 vs hG
 refine zb (wpAny_newList ?_)
 have hoL:(h1.push (seqObj "list" vs.toArray 0)).get? h1.objs.size=some (seqObj "list" vs.toArray 0):=zt _ rfl
 have old:∀ s':Shared,Old h1.objs.size { s with heap:=h1.push (seqObj "list" vs.toArray 0),drawn:=d,toks:=tk } s'->∀ c o,s.heap.get? c=some o->s'.heap.get? c=some o:=fun s' q c o e=>
  q c o (zD (zv (ext c o e))) (zd _ (ext c o e))
 refine zb (qo (qv slot_list_sort ⟨_,hoL,rfl⟩ entry_list_sort (ZM hoL (fun q s' o=>hK vs hG q _ _ s' (old s' o)) (fun s' o=>hC vs hG _ s' (old s' o)) (h64 vs hG) fun st q1 q2=>⟨_,rfl,ze ⟨_,rfl,?_⟩⟩) (args_list_sort _)))
 obtain⟨n,en⟩:=sortedHeap_at (out:=(arrOf st).map (·.2)) hoL
 refine h vs hG h1.objs.size _ d tk n st q1 q2 hle (fun c o e=>?_) en
 have hb:=zv (ext c o e)
 rw[sortedHeap_old (zD hb) (by rw[ZU];exact QN hb)]
 exact zd _ (ext c o e)
end
end S1
end
section
namespace P1
open PySem PySem.Spec PyProof.Rows L2 S6
section
variable {X:Cx}
theorem RW {pins:List (Addr×Obj)} {σ:L2.St} {H:Hp} {s:Shared} {d:Drawn} (I:Inv X pins σ H s):Inv X pins σ H { s with drawn:=d }:=⟨I.ok,I.os,I.bare,I.base,I.loc,I.cell,I.free,I.pR,I.pin,I.hok,I.len⟩
variable {x:Str} {e:Expr} {f:Ev->Option Bx} {fs:Ev->Option (List Str)} {p pos:Pos}
end
section
variable {X:Cx}
end
section
variable {X:Cx} {elt tgt iter:Expr} {ifs:List Expr} {scope:Scope} {cl:List (Str×Addr)} {pos:Pos} {xs ts:List Str} {is:List Nat} {gt:Dt->Ev->Option Ev} {p:Ev->Option Bool} {fe:Ev->Option Bx} {fi:Ev->Option (List Dt)}
end
section
variable {X:Cx} {elt tgt iter:Expr} {ifs:List Expr} {scope:Scope} {cl:List (Str×Addr)} {pos:Pos} {xs:List Str} {is:List Nat} {gt:Dt->Ev->Option Ev} {p:Ev->Option Bool} {fe:Ev->Option Bx} {fi:Ev->Option (List Dt)}
variable {e:Expr} {f:Ev->Option Bx} {fs:Ev->Option (List Str)} {p':Pos}
end
end P1
end
section
namespace P1
open PySem PySem.Spec PyProof.Rows L2 S1 S6
section
variable {X:Cx}
def Ts (prog:Program) (w:World) (h:Heap) (a:Addr) (zs:List (List Key×Addr)):Prop:=∃ o es ep t,h.get? a=some o/\o.ExactSet/\o.data=.set es ep t/\es.toList=zs.map (fun z=>(cD prog w z.1,(.ref z.2:Value)))/\t.fits es.size=true/\(w.params.followText "set-order" = false->t.led=true)/\(0 < es.size->t.plain=false)
theorem KJ {prog:Program} {w:World} {h:Heap}:∀ {zs:List (List Key×Addr)} {l:List (Int×Value)},Paired (TE prog w h) zs l->l=zs.map (fun z=>(cD prog w z.1,(.ref z.2:Value)))
 |_,_,.nil=>rfl
 |_,_,.cons r t=>by rw[zk,<-KJ t,r.1]
theorem Ts.of {prog:Program} {w:World} {h:Heap} {a:Addr} {zs:List (List Key×Addr)} (x:Tu prog w h a zs):Ts prog w h a zs:=
 let ⟨o,es,ep,t,e,r,d,q⟩:=x;⟨o,es,ep,t,e,r,d,KJ q.rel,q.tok.fits,q.led,q.non⟩
theorem Ts.keep {prog:Program} {w:World} {h h':Heap} {a:Addr} {zs:List (List Key×Addr)} (x:Ts prog w h a zs) (k:∀ o,h.get? a=some o->h'.get? a=some o):Ts prog w h' a zs:=
 let ⟨o,es,ep,t,e,r⟩:=x;⟨o,es,ep,t,k o e,r⟩
def hoU (X:Cx) (a:Addr) (zs:List (List Key×Addr)):HO:=.ext fun h=>Ts X.prog X.w h a zs
theorem Ve (X:Cx) {ks:List Key} {us:List Value} (h:Ks ks us):ItemsAre (bD X.prog X.w) ks us:=by
 induction h with
 |nil=>exact .nil
 |cons r _ ih=>exact .cons r ih
theorem Vf (X:Cx) {ks:List Key} {us:List Value} (h:ItemsAre (bD X.prog X.w) ks us):Ks ks us:=by
 induction h with
 |nil=>exact .nil
 |cons r _ ih=>exact .cons r ih
theorem KN (X:Cx) {h:Heap} {ks:List Key} {v:Value} (q:lW h ks v):∃ b,v=.ref b/\IsTupleKey (bD X.prog X.w) h ks b:=by
 obtain⟨a,o,its,n,e,g,c,d,p⟩:=q
 exact⟨a,e,o,its.toArray,n,g,c,d,by simpa using Ve X p⟩
theorem Vg (X:Cx) {h:Heap} {ks:List Key} {b:Addr} (q:IsTupleKey (bD X.prog X.w) h ks b):lW h ks (.ref b):=by
 obtain⟨o,its,n,g,c,d,p⟩:=q
 exact⟨b,o,its.toList,n,rfl,g,c,by simpa using d,Vf X p⟩
def adI (X:Cx):List V->Hp->VK->Prop:=fun xs H Q=>∃ v b ds cR,xs=[v]/\bA X.K H b v/\uw b=some ds/\rW ds=some cR/\cR.length<=64/\(∀ k∈cR,Txs k) ∧
 ∀ a zs H',Same H H'->H' a=some (hoU X a zs)->(∀ k,k∈zs.map (·.1)↔k∈cR)->(zs.map (·.1)).Nodup->(∀ z∈zs,Rep X.K H' (tupK z.1) (.ref z.2))->Q (.ref a) H'
def CU (X:Cx) (S:Addr) (its:List Value) (h:Heap) (ys:List (List Key)):Prop:=∃ zs,zs.map (·.1)=ys/\Tu X.prog X.w h S zs/\∀ z∈zs,(.ref z.2:Value)∈its
theorem yj {h:Heap}:∀ {cR:List (List Key)} {vs:List Value},Paired (lW h) cR vs->∀ {i:Nat} {v:Value},vs[i]?=some v->∃ k,cR[i]?=some k/\lW h k v
 |_,_,.nil,i,v,q=>by simp at q
 |_,_,.cons r _,0,v,q=>by simp at q;subst q;exact⟨_,rfl,r⟩
 |_,_,.cons _ t,i+1,v,q=>by
  rw[ZI] at q
  obtain⟨z,z1,z2⟩:=yj t q
  exact⟨z,by rw[ZI];exact z1,z2⟩
theorem KQ {h0:Heap} {S:Addr} {cR:List (List Key)} {its:List Value} (hs:Paired (lW h0) cR its) (hl:cR.length<=64) (hx:∀ k∈cR,Txs k) (hS:h0.objs.size=S):Adds X.prog X.w S [S+1] (fun h zs=>(∀ b o,h0.get? b=some o->h.get? b=some o)/\CU X S its h zs) (fun i v=>its.toArray[i]?=some v) (fun i=>cR.getD i []) its.length where
 keep:=fun h h' ys t k=>by
  obtain⟨t0,zs,e,t,m⟩:=t
  have k':∀ b o,(b=S\/b < S)->h.get? b=some o->h'.get? b=some o:=fun b o hb e=>k b o (by
   simp only[Q2,jv,or_false]
   rcases hb with rfl|hb
   ·exact zD (qi _)
   ·exact zD (QN hb)) e
  have old:∀ b o,h0.get? b=some o->h'.get? b=some o:=fun b o e=>k' b o (.inr (by rw[<-hS];exact zv e)) (t0 b o e)
  refine⟨old,zs,e,?_,m⟩
  obtain⟨o,es,ep,tt,g,r,d,q⟩:=t
  refine⟨o,es,ep,tt,k' S o (.inl rfl) g,r,d,⟨?_,q.nd,q.tok,q.load,q.led,q.non⟩⟩
  have key:∀ {zs:List (List Key×Addr)} {l:List (Int×Value)},Paired (TE X.prog X.w h) zs l->(∀ z∈zs,(.ref z.2:Value)∈its)->Paired (TE X.prog X.w h') zs l:=by
   intro zs l r
   induction r with
   |nil=>intro _;exact .nil
   |cons q _ ih=>
    intro m
    refine .cons ⟨q.1,Qh q.2 fun o e c=>?_⟩ (ih fun z hz=>m z (zg _ hz))
    obtain⟨i,hi,ei⟩:=qq (m _ (zh ..))
    obtain⟨kk,_,tv⟩:=yj hs (show its[i]?=some _ by rw[zz hi,ei])
    obtain⟨b,eb,⟨ob,_,_,gb,_⟩⟩:=KN X tv
    cases eb
    exact k' _ o (.inr (by rw[<-hS];exact zv gb)) e
  exact key q.rel m
 add:=fun A E s i v ys Q hu hi hP hC hz h=>by
  obtain⟨t0,zs,e,t,m⟩:=hC
  have hP:its[i]?=some v:=by simpa using hP
  obtain⟨ks,e1,tv⟩:=yj hs hP
  have tv':=tv.keep t0
  obtain⟨b,rfl,hk⟩:=KN X tv'
  have hv:cR.getD i []=ks:=by simp[List.getD,e1]
  have hlen:its.length=cR.length:=hs.length.symm
  have hyl:zs.length=ys.length:=by rw[<-e,zi]
  unfold setAdd
  refine qo (zb (wpAny_pyHash_tuple hu hk ?_))
  refine Yv (s:={ s with toks:=s.toks+(ks.length+1) }) hu t hk (hx ks (ZY e1)) (by omega) fun r h' zs' sb t' mm l=>?_
  refine h r h' _ (zs'.map (·.1)) sb ⟨fun c o g=>?_,zs',rfl,t',fun z hz=>?_⟩ (fun z=>?_) (by rw[zi];omega) (yY _ _)
  ·rw[sb.2 c fun q=>by subst q;have:=zv g;rw[hS] at this;exact ka _ this];exact t0 c o g
  ·rcases (mm z).mp hz with q|⟨q,_⟩
   ·exact m z q
   ·subst q;exact ZY hP
  ·rw[hv,<-e,Ki,Ki]
   constructor
   ·rintro⟨y,hy,rfl⟩
    rcases (mm y).mp hy with q|⟨q,_⟩
    ·exact .inl ⟨y,q,rfl⟩
    ·exact .inr (congrArg Prod.fst q)
   ·rintro (⟨y,hy,ey⟩|ez)
    ·exact⟨y,(mm y).mpr (.inl hy),ey⟩
    ·rw[ez]
     by_cases q:ks∈zs.map (·.1)
     ·obtain⟨y,hy,ey⟩:=List.mem_map.mp q
      exact⟨y,(mm y).mpr (.inl hy),ey⟩
     ·exact⟨(ks,b),(mm _).mpr (.inr ⟨rfl,q⟩),rfl⟩
theorem Yw (hc:X.calm=true) (hu:X.A.units+100 < cLine):jW X (.type "set") (adI X):=by
 intro pins s σ H xs us Q I r h
 obtain⟨v,b,ds,cR,rfl,rb,ed,ek,hl,hx,q⟩:=h
 obtain⟨u,rfl,ru⟩:=vals1 r
 obtain⟨p,vs,rfl,sq,rs⟩:=Bu rb ed
 have eds:=zx ek
 subst eds
 cases ru
 have hh:=I.ok.hd hc
 have fin:∀ (h':Heap) (tk:Nat) (ys:List (List Key)) (its:List Value),Vals vs its->((∀ b o,s.heap.get? b=some o->h'.get? b=some o)/\CU X s.heap.objs.size its h' ys)->(∀ z,z∈ys↔∃ j,j < its.length/\z=cR.getD j [])->(∀ b ob,s.heap.get? b=some ob->h'.get? b=some ob)->EP X pins σ Q (.ref s.heap.objs.size) { s with heap:=h',toks:=tk }:=by
  intro h' tk ys its rv cu hm k
  obtain⟨_,zs,e,t,m⟩:=cu
  have hfr:=I.hok.fresh (zl s.heap.objs.size)
  have hlen:its.length=cR.length:=by rw[<-rv.length,rs.length,zi]
  have tv:=qx I rs rv
  refine⟨.ref s.heap.objs.size,_,I.laid (t':=tk) (a:=s.heap.objs.size) (o:=hoU X s.heap.objs.size zs) k (zl _) ?_,rfl,q _ zs _ (bW hfr) bK (fun z=>?_) ?_ fun z hz=>?_⟩
  ·obtain⟨o,es,ep,t',ho,_⟩:=id t
   exact⟨Ts.of t,⟨o,ho⟩,fun h1 h2 t1 k1=>Ts.keep t1 k1⟩
  ·rw[e,hm z]
   constructor
   ·rintro⟨j,hj,rfl⟩
    rw[hlen] at hj
    simp[List.getD,hj]
   ·intro hz
    obtain⟨j,hj,e⟩:=qq hz
    exact⟨j,by rw[hlen];exact hj,by simp[List.getD,hj,e]⟩
  ·obtain⟨o,es,ep,t',ho,_,_,x⟩:=t
   exact x.nd
  ·obtain⟨o,es,ep,t',ho,_,_,x⟩:=t
   obtain⟨i,hi,ei⟩:=qq hz
   obtain⟨ee,_,te⟩:=yg x.rel (show zs[i]?=some z by rw[zz hi,ei])
   have tz:=Vg X te.2
   have hz':=m z hz
   obtain⟨j,hj,ej⟩:=qq hz'
   obtain⟨kk,_,tv1⟩:=yj tv (show its[j]?=some (.ref z.2) by rw[zz hj,ej])
   have ek:kk=z.1:=(tv1.keep k).inj tz
   obtain⟨w1,r1,r2⟩:=zy I rs rv (S9:=[kk]) (out:=[.ref z.2]) (.cons tv1 .nil) (fun u hu=>by cases List.mem_singleton.mp hu;exact hz')
   cases r1 with
   |@cons w0 _ _ _ r0 r1=>
    cases r1
    simp only[zk,JY,aJ] at r2
    obtain⟨v0,r',ev,q0,_⟩:=r2
    simp only[JJ] at ev
    rw[<-ev.1] at q0
    have hw:w0=V.ref z.2:=by
     have q1:=q0
     simp only[tupK,Rep] at q1
     obtain⟨a0,ws,e0,_⟩:=q1
     subst e0
     cases r0;rfl
    rw[<-ek,<-hw]
    exact q0.kp (.of (bW hfr))
 have Vh:∀ h':Heap,h'.get? s.heap.objs.size=some (blank X.w)->∀ its:List Value,CU X s.heap.objs.size its h' []:=fun h' e its=>
  ⟨[],rfl,⟨_,#[],0,_,e,⟨rfl,rfl,rfl⟩,rfl,⟨.nil,K2,{ mask:=.inl rfl,Yo:=rfl,rise:=fun i j _ hj=>absurd hj (kq _),bd:=fun j hj=>by simp[SetTable.fresh] at hj,full:=qA _,size:=rfl,reach:=fun i j e h1=>by simp[SetTable.fresh] at h1 },(show 0 * 5 < 7 * 3 by decide),fun q=>by simp[SetTable.fresh,q],fun q=>absurd q (ka _)⟩⟩,fun z hz=>by cases hz⟩
 rcases sq with sq|sq
 ·obtain⟨its,r',pl,hz⟩:=I.list sq
  obtain⟨o,g,c,n,d⟩:=pl.isList
  refine U3 (by omega) (T := "list") hh g c (.inl rfl) (P:=fun i v=>its.toArray[i]?=some v) (n:=its.length) (fun A' E' Q' h0 hA k0 hq=>?_) (KQ (qx I rs r') hl hx rfl) (fun h' e k=>⟨k,Vh h' e its⟩) fun h' tk zs tx hm k=>fin h' tk zs its r' tx hm k
  refine wpAny_pyIter_list (items:=its.toArray) ⟨o,k0 _ _ g,c,n,d⟩ ?_
  have hne:p≠h0.objs.size:=zD (zv (k0 _ _ g))
  refine hq _ (fun i h=>h.IsListIter h0.objs.size p i/\h.IsList p its.toArray) (fun A' hA=>by have:=Walks.list (prog:=X.prog) (w:=X.w) hA h0.objs.size p hne its.toArray;rw[zC] at this;exact this) ⟨⟨_,zt _ rfl,rfl,rfl⟩,⟨o,zd _ (k0 _ _ g),c,n,d⟩⟩ fun b ob e=>zd _ e
 ·obtain⟨its,r',pl,hz⟩:=I.tuple sq
  obtain⟨o,g,c,n,d⟩:=id pl
  refine U3 (by omega) (T := "tuple") hh g c (.inr rfl) (P:=fun i v=>its.toArray[i]?=some v) (n:=its.length) (fun A' E' Q' h0 hA k0 hq=>?_) (KQ (qx I rs r') hl hx rfl) (fun h' e k=>⟨k,Vh h' e its⟩) fun h' tk zs tx hm k=>fin h' tk zs its r' tx hm k
  refine yb (items:=its.toArray) ⟨o,k0 _ _ g,c,n,d⟩ ?_
  have hne:p≠h0.objs.size:=zD (zv (k0 _ _ g))
  refine hq _ (fun i h=>h.IsTupleIter h0.objs.size p i/\h.IsTuple p its.toArray) (fun A' hA=>by have:=Walks.tuple (prog:=X.prog) (w:=X.w) hA h0.objs.size p hne its.toArray;rw[zC] at this;exact this) ⟨⟨_,zt _ rfl,rfl,rfl⟩,⟨o,zd _ (k0 _ _ g),c,n,d⟩⟩ fun b ob e=>zd _ e
theorem abD {pins:List (Addr×Obj)} {σ:L2.St} {H:Hp} {s:Shared} (I:Inv X pins σ H s) {a:Addr} {zs:List (List Key×Addr)} (h:H a=some (hoU X a zs)):Ts X.prog X.w s.heap a zs:=(I.hok _ _ h).1
def adJ (X:Cx):List V->Hp->VK->Prop:=fun xs H Q=>∃ a zs,xs=[.ref a]/\H a=some (hoU X a zs)/\Av (zs.map (·.1))=true/\(∀ z∈zs,Rep X.K H (tupK z.1) (.ref z.2))/\∀ l H' us,Same H H'->H l=none->H' l=some (.lst us)->aJ X.K H' ((mH (zs.map (·.1))).map tupK) us->Q (.ref l) H'
theorem Yx (hc:X.calm=true):jW X (.builtin "sorted") (adJ X):=by
 intro pins s σ H xs us Q I r h
 obtain⟨a,zs,rfl,ha,hs,hrep,q⟩:=h
 obtain⟨u,rfl,ru⟩:=vals1 r
 cases ru
 simp only[Av,ZN,Zp,QA,QR] at hs
 obtain⟨h64,hne,hsh⟩:=hs
 rw[zi] at h64
 obtain⟨o,es,ep,t,ho,hex,hd,hl',ft,afJ,adK⟩:=abD I ha
 have hz:es.size=zs.length:=by rw[<-qf,hl',zi]
 have wk:Wk X.w s.heap a es ep t:=⟨⟨o,ho,hex.1,hd⟩,ft,afJ,fun q=>adK (by omega)⟩
 have rs0:aJ X.K H ((zs.map (·.1)).map tupK) (zs.map fun z=>(V.ref z.2))/\Vals (zs.map fun z=>(V.ref z.2)) (zs.map fun z=>(.ref z.2:Value)):=by
  clear hl' ha q h64 hne hsh hz wk adK
  induction zs with
  |nil=>exact⟨aJ.nil,.nil⟩
  |cons z zs ih=>
   obtain⟨i1,i2⟩:=ih fun y hy=>hrep y (zg _ hy)
   exact⟨aJ.cons (hrep z (zh ..)) i1,.cons rfl i2⟩
 have tv0:=qx I rs0.1 rs0.2
 have tz:∀ z∈zs,lW s.heap z.1 (.ref z.2):=fun z hz'=>by
  have:=qx I (cR:=[z.1]) (vs:=[V.ref z.2]) (its:=[.ref z.2]) (aJ.cons (hrep z hz') aJ.nil) (.cons rfl .nil)
  cases this with
  |cons q' _=>exact q'
 refine NZ (fun vs=>∃ ys:List (List Key×Addr),ys.Perm zs/\vs=ys.map fun z=>(.ref z.2:Value)) (tuples' true) (fun vs v=>rank (vs.map fun u=>keyOf (zs.map (·.1)) (zs.map fun z=>(.ref z.2:Value)) u) (keyOf (vs.map fun u=>keyOf (zs.map (·.1)) (zs.map fun z=>(.ref z.2:Value)) u) vs v))
  (fun E' Q' hq=>Ky (by exact I.ok.hd hc) wk (by rw[hz,sizeLine_eq];omega) fun ord h1 d tk hp hle ext=>hq ord h1 d tk ?_ hle ext) ?_ ?_ ?_ ?_
 ·rw[hl',Zs] at hp
  have:∀ {ord vs:List Value},ord.Perm vs->∀ zs:List (List Key×Addr),vs=zs.map (fun z=>(.ref z.2:Value))->∃ ys:List (List Key×Addr),ys.Perm zs/\ord=ys.map fun z=>(.ref z.2:Value):=by
   intro ord vs hp
   induction hp with
   |nil=>intro zs e;cases zs with|nil=>exact⟨[],.refl _,rfl⟩|cons _ _=>cases e
   |cons y _ ih=>
    intro zs e
    cases zs with
    |nil=>cases e
    |cons z zs=>
     rw[zk] at e
     injection e with e1 e2
     obtain⟨ys,p1,p2⟩:=ih zs e2
     exact⟨z::ys,p1.cons _,by rw[zk,e1,p2]⟩
   |swap y1 y2 l=>
    intro zs e
    match zs,e with
    |z1::z2::zs,e=>
     simp only[zk,JJ] at e
     exact⟨z2::z1::zs,List.Perm.swap _ _ _,by simp only[zk];rw[e.1,e.2.1,e.2.2]⟩
    |[_],e=>simp at e
    |[],e=>cases e
   |trans _ _ ih1 ih2=>
    intro zs e
    obtain⟨ys,p1,p2⟩:=ih2 zs e
    obtain⟨us,q1,q2⟩:=ih1 ys p2
    exact⟨us,q1.trans p1,q2⟩
  exact this hp zs rfl
 all_goals
  intro vs hG
  obtain⟨ys,py,rfl⟩:=hG
  have hm:∀ v∈(ys.map fun z=>(.ref z.2:Value)),v∈(zs.map fun z=>(.ref z.2:Value)):=fun v hv=>((py.map _).mem_iff).mp hv
  have tvK:∀ v∈(ys.map fun z=>(.ref z.2:Value)),lW s.heap (keyOf (zs.map (·.1)) (zs.map fun z=>(.ref z.2:Value)) v) v:=fun v hv=>(nA tv0 v (hm v hv)).2
  have tv:=wO tvK
  have eks:(ys.map fun z=>(.ref z.2:Value)).map (fun u=>keyOf (zs.map (·.1)) (zs.map fun z=>(.ref z.2:Value)) u)=ys.map (·.1):=by
   rw[Zs]
   refine QQ fun z hz=>?_
   have hz':=py.mem_iff.mp hz
   exact (tvK (.ref z.2) (List.mem_map.mpr ⟨z,hz,rfl⟩)).inj (tz z hz')
  have mk:∀ k∈(ys.map fun z=>(.ref z.2:Value)).map (fun u=>keyOf (zs.map (·.1)) (zs.map fun z=>(.ref z.2:Value)) u),k∈zs.map (·.1):=fun k hk=>by
   rw[eks] at hk;exact ((py.map _).mem_iff).mp hk
 ·intro h2 E' A' s' k Q' hq
  exact Gu (Paired.imp' (fun _ _ z=>lW.keep z k) tv) (fun k hk=>by have:=hne k (mk k hk);cases k with|nil=>cases this|cons _ _=>exact List.cons_ne_nil _ _) (fun k hk l hl=>Cz (hsh k (mk k hk) l (mk l hl))) (by omega) hq
 ·intro A' s' k
  exact Kl (Paired.imp' (fun _ _ z=>lW.keep z k) tv) fun k hk l hl=>Cz (hsh k (mk k hk) l (mk l hl))
 ·rw[zi,py.length_eq];exact h64
 ·intro l h' d tk n st hp up hl ext hL
  have out:=Km tv hp up
  have mem:∀ u∈((arrOf st).map (·.2)).toList,u∈(ys.map fun z=>(.ref z.2:Value)):=fun u hu=>by
   rw[Array.toList_map] at hu
   obtain⟨pr,hpr,rfl⟩:=List.mem_map.mp hu
   have abx:pr∈(ys.map fun z=>(.ref z.2:Value)).zip (ys.map fun z=>(.ref z.2:Value)):=by rw[<-pairsOf_toList];exact (Array.perm_iff_toList_perm.mp hp).mem_iff.mp hpr
   have:=mem_zip_self abx
   rw[<-this.1];exact this.2
  have hH:H l=none:=I.hok.fresh hl
  have back:∀ {S9:List (List Key)} {out:List Value},Paired (lW s.heap) S9 out->(∀ u∈out,u∈(ys.map fun z=>(.ref z.2:Value)))->∃ ws,Vals ws out/\aJ X.K H (S9.map tupK) ws:=by
   intro S9 out pr
   induction pr with
   |nil=>intro _;exact⟨[],.nil,aJ.nil⟩
   |cons q0 _ ih=>
    intro hm'
    obtain⟨ws,w1,w2⟩:=ih fun u hu=>hm' u (zg _ hu)
    obtain⟨z,hz,ez⟩:=List.mem_map.mp (hm' _ (zh ..))
    subst ez
    have hz':=py.mem_iff.mp hz
    have ek:=q0.inj (tz z hz')
    refine⟨.ref z.2::ws,.cons rfl w1,?_⟩
    rw[zk,ek]
    exact aJ.cons (hrep z hz') w2
  obtain⟨ws,w1,w2⟩:=back out mem
  rw[eks] at w2
  have es:mH (ys.map (·.1))=mH (zs.map (·.1)):=rC ((oF _).trans (py.map _)) (uI _)
  rw[es] at w2
  have hzl:ws.length=zs.length:=by rw[w2.length,zi,(oF _).length_eq,zi]
  refine⟨.ref l,_,RW (d:=d) (I.laid (t':=tk) (a:=l) (o:=.lst ws) ext hl ⟨by rw[hzl,sizeLine_eq];omega,_,n,w1,?_⟩),rfl,q _ _ ws (bW hH) hH bK (w2.kp (.of (bW hH)))⟩
  rw[hL]
end
def Eu {α:Type} [DecidableEq α]:List α->List α
 |[]=>[]
 |y::ys=>if y∈ys then Eu ys else y::Eu ys
section
variable {α:Type} [DecidableEq α]
theorem pC:∀ {ys:List α} {z:α},z∈Eu ys↔z∈ys
 |[],z=>by simp[Eu]
 |y::ys,z=>by
  unfold Eu
  split
  ·rename_i h
   rw[pC,Q2]
   exact⟨.inr,fun q=>q.elim (fun e=>e▸h) id⟩
  ·rw[Q2,Q2,pC]
theorem zF:∀ (ys:List α),(Eu ys).Nodup
 |[]=>K2
 |y::ys=>by
  unfold Eu
  split
  ·exact zF ys
  ·rename_i h
   exact List.nodup_cons.mpr ⟨fun q=>h (pC.mp q),zF ys⟩
theorem yp:∀ (ys:List α),(Eu ys).length<=ys.length
 |[]=>zl _
 |y::ys=>by
  have:=yp ys
  unfold Eu
  split<;>simp<;>omega
theorem Ik {β:Type} [DecidableEq β] {f:α->β} (hi:∀ a b,f a=f b->a=b):∀ (ys:List α),Eu (ys.map f)=(Eu ys).map f
 |[]=>rfl
 |y::ys=>by
  have hm:f y∈ys.map f↔y∈ys:=⟨fun q=>by obtain⟨z,hz,e⟩:=List.mem_map.mp q;rw[<-hi _ _ e];exact hz,fun q=>List.mem_map.mpr ⟨y,q,rfl⟩⟩
  rw[zk]
  unfold Eu
  by_cases q:y∈ys
  ·rw[zo q,zo (hm.mpr q),Ik hi ys]
  ·rw[zw q,zw fun h=>q (hm.mp h),zk,Ik hi ys]
end
section
variable {X:Cx}
def KR (ks:List Key):Bool:=ks.any fun k=>k.isRight
theorem abE {ks:List Key} (h:KR ks=true):Txs ks:=by
 unfold KR at h
 rw[kf] at h
 obtain⟨k,hk,e⟩:=h
 cases k with
 |inl i=>cases e
 |inr x=>exact⟨x,hk⟩
def tU (X:Cx) (f:Ev->Option (List (List Key))):L2.TE:=fun σ H Q=>∃ H0 ρ cR,bU X.K H0 H σ ρ/\f ρ=some cR/\∀ a zs H',Same H H'->H' a=some (hoU X a zs)->(∀ k,k∈zs.map (·.1)↔k∈cR)->(zs.map (·.1)).Nodup->(∀ z∈zs,Rep X.K H' (tupK z.1) (.ref z.2))->Q (.ref a) H'
def PVU (X:Cx) (e:Expr) (f:Ev->Option (List (List Key))):Prop:=PE X e (tU X f)
structure QVU (X:Cx) (e:Expr) (f:Ev->Option (List (List Key))):Prop where
 run:PVU X e f
def ZP (b:Bx):Option (List (List Key)):=(uw b).bind fun ds=>(rW ds).bind fun cR=>if cR.length<=64/\cR.all KR=true then some cR else none
def N5 (f:Ev->Option Bx):Ev->Option (List (List Key)):=fun ρ=>(f ρ).bind ZP
def CT (fs:Ev->Option (List (List Key))):Ev->Option Bx:=fun ρ=>(fs ρ).bind fun cR=>if Av cR=true then some (.o ((mH (Eu cR)).map tupK)) else none
variable {e:Expr} {f:Ev->Option Bx} {fs:Ev->Option (List (List Key))} {p pos:Pos}
theorem Qi (hc:X.calm=true) (hu:X.A.units+100 < cLine) (hg:Gl X "set") (hm:X.mg "set" = none) (ha:QV X e f) (he:starEach (e::[]) X.env=(false,eval e X.env)::starEach [] X.env:=by rfl):QVU X (.Call (.Name "set" p) [e] [] pos) (N5 f):=by
 refine⟨M5 (Gf (T := "set") (Yw hc hu) hg hm rfl (rR ha.run BP he) (he:=he)) fun σ H Q h=>?_⟩
 obtain⟨H0,ρ,cR,E,ef,q⟩:=h
 obtain⟨b,eb,ef⟩:=bind_some ef
 obtain⟨ds,ed,ef⟩:=bind_some ef
 obtain⟨ks',ek,ef⟩:=bind_some ef
 split at ef
 ·rename_i hl
  cases ef
  rw[QA] at hl
  exact⟨H0,ρ,b,E,eb,fun v H1 s1 n1 r1=>⟨v,b,ds,cR,rfl,r1,ed,ek,hl.1,fun k hk=>abE (hl.2 k hk),fun a zs H2 s2 e2 m nd hz=>q a zs H2 (s1.trans s2) e2 m nd hz⟩⟩
 ·cases ef
theorem Vi {cR S9:List (List Key)} (h:Av cR=true) (hl:S9.length<=cR.length) (hm:∀ k∈S9,k∈cR):Av S9=true:=by
 simp only[Av,ZN,Zp,QA,QR] at h ⊢
 exact⟨by omega,fun k hk=>h.2.1 k (hm k hk),fun k hk l hl'=>h.2.2 k (hm k hk) l (hm l hl')⟩
theorem Qj (hc:X.calm=true) (hg:Gl X "sorted") (hm:X.mg "sorted" = none) (ha:QVU X e fs) (he:starEach (e::[]) X.env=(false,eval e X.env)::starEach [] X.env:=by rfl):QV X (.Call (.Name "sorted" p) [e] [] pos) (CT fs):=by
 refine⟨M5 (JW (id := "sorted") (Yx hc) hg hm rfl (rR ha.run BP he) (he:=he)) fun σ H Q h=>?_⟩
 obtain⟨H0,ρ,b,E,ef,q⟩:=h
 obtain⟨cR,ey,ef⟩:=bind_some ef
 split at ef
 ·rename_i hl
  cases ef
  refine⟨H0,ρ,cR,E,ey,fun a zs H1 s1 e1 m nd hy=>⟨a,zs,rfl,e1,?_,hy,fun l H2 us s2 hfr e2 rp=>?_⟩⟩
  ·have e3:=(Bw nd (zF cR) fun z=>by rw[m z,pC]).length_eq
   have:=yp cR
   exact Vi hl (by omega) fun k hk=>(m k).mp hk
  ·have pm:=Bw nd (zF cR) fun z=>by rw[m z,pC]
   have es:mH (zs.map (·.1))=mH (Eu cR):=rC ((oF _).trans pm) (uI _)
   rw[es] at rp
   exact q _ H2 (s1.trans s2) (fun a ea=>by cases ea;exact s1.free hfr) ⟨l,us,rfl,e2,rp⟩
 ·cases ef
end
end P1
end
section
namespace P1
open PySem PySem.Spec PyProof.Rows L2
def Aa:Bx->Bx->Option Bx
 |.z (.str k),.z d=>some (.z (.tup [.str k,d]))
 |_,_=>none
theorem N6 {a b:Bx} {y:Dt} (h:Aa a b=some (.z y)):∃ k d,a=.z (.str k)/\b=.z d/\y=.tup [.str k,d]:=by
 unfold Aa at h
 split at h
 ·cases h;exact⟨_,_,rfl,rfl,rfl⟩
 ·cases h
def abF (kvs:List (Str×Dt)):Dt->List (Str×Dt)
 |.tup [.str k,d]=>zq kvs k d
 |_=>kvs
def dictOf (out:List Dt):List (Str×Dt):=out.foldl abF []
theorem KY (out:List Dt) (k:Str) (d:Dt):dictOf (out++[.tup [.str k,d]])=zq (dictOf out) k d:=by
 unfold dictOf
 rw[Kt]
 rfl
section
variable {X:Cx} {pins:List (Addr×Obj)} {σ:L2.St} {H:Hp} {s:Shared} {a:Addr} {A:Around} {E:Value->Shared->Prop}
theorem RX {kvs:List (Key×V)} {k:Key} {v:V} {u r:Value} {Q:Unit->Shared->Prop} (I:L2.Inv X pins σ H s) (e:H a=some (.dK kvs)) (l:kvs.length < sizeLine) (ry:RelV (kV k) u) (rv:RelV v r) (h:∀ s',L2.Inv X pins σ (upd H a (.dK (putK kvs k v))) s'->Q () s') :
  wpAny (model X.prog X.w) A (dictSet a u r) Q E s:=by
 obtain⟨z,hd,vs,rel,dd⟩:=ZC I.hok e
 have hz:vs.length<=sizeLine:=by rw[<-rel.length];exact z
 have hl:(putK kvs k v).length<=sizeLine:=by have:=oA kvs k v;omega
 refine wpAny_dictSet_pairs (hsz:=hz) (Gh ry) dd fun h' dd' hs=>h _ ?_
 have he:∃ q,h'.get? a=some q:=let ⟨q,_,_,hq,_⟩:=dd';⟨q,hq⟩
 exact Hu I (by rw[e];exact True.intro) hs he (TV hl hd (rel.put k rv) dd')
end
section
variable {X:Cx} {kx vx tgt iter:Expr} {ifs:List Expr} {scope:Scope} {cl:List (Str×Addr)} {pos:Pos} {xs ts:List Str} {is:List Nat} {gt:Dt->Ev->Option Ev} {p:Ev->Option Bool} {fk fv:Ev->Option Bx} {fi:Ev->Option (List Dt)}
def AcD (K:PySem.W.Frag) (H:Hp) (i:Nat) (o1:List Dt) (o:HO):Prop:=∃ us,o=.dK us/\gW K H (dictOf o1) us/\us.length<=i
theorem Yy (hk:PV X kx fk) (hv:PV X vx fv):Xy X (fun D env=>do let kv <-eval kx env;let vv <-holding [kv] (eval vx env);standAt { kx.pos with endLine:=vx.pos.endLine,endCol:=vx.pos.endCol };holding [kv,vv] (dictSet D kv vv)) (b2 Aa fk fv) (AcD X.K) 999:=by
 intro pins s σ H H0 ρ D o i o1 y I En eb hD ⟨us,e,r4,hl⟩ hi
 subst e
 obtain⟨bk,ebk,eb⟩:=bind_some eb
 obtain⟨bv,ebv,eb⟩:=bind_some eb
 obtain⟨kt,dv,rfl,rfl,rfl⟩:=N6 eb
 refine zb (qB (hk pins s σ H (fun v H9=>Same H H9/\bA X.K H9 (.z (.str kt)) v) I ⟨H0,ρ,_,En,ebk,fun v H9 s9 _ r9=>⟨s9,r9⟩⟩) (fun kv s9a h9=>?_) fun _ _ z=>z)
 obtain⟨k',H9a,I9a,rk,adL,r9a⟩:=h9
 refine zb (qo (qB (hv pins s9a σ H9a (fun v H9=>Same H9a H9/\Rep X.K H9 dv v) I9a ⟨H0,ρ,_,En.grow adL,ebv,fun v H9 s9 _ r9=>⟨s9,r9⟩⟩) (fun v s9 h9=>?_) fun _ _ z=>z))
 obtain⟨v',H9,I9,rv,s9b,r9⟩:=h9
 have XC:=adL.trans s9b
 have hD9:H9 D=some (.dK us):=XC _ _ hD
 obtain⟨rfl,hkl⟩:k'=.str kt/\kt.length<=sizeLine:=by simpa only[bA,Rep] using r9a
 have kp:Kp H9 (upd H9 D (.dK (putK us (Sum.inr kt) v'))):=.dk hD9
 refine zb (yz (qo ?_))
 refine RX I9 hD9 (by have:(1000:Nat) < sizeLine:=(by decide);omega) (k:=Sum.inr kt) rk rv fun s10 I10=>?_
 have r5:=((r4.kp (.of XC)).put (x:=kt) r9 hkl).kp kp
 exact⟨H9,_,I10,XC,kp,putK us (Sum.inr kt) v',rfl,by rw[KY];exact r5,by have:=oA us (Sum.inr kt) v';omega⟩
theorem RZ (hu:X.A.units+100 < cLine) {pins:List (Addr×Obj)} {σ:L2.St} {H H2:Hp} {s2:Shared} {it:Addr} {fp:List Addr} {tn:Nat->Heap->Prop} {J:It} {ds out:List Dt} {ρ:Ev} {RR:Value->Addr->Result->Shared->Prop} {E:Value->Shared->Prop}
  (hkind:scope.kind=.function) (hcell:∀ y∈scope.names,y.2≠.cell) (hcalm:X.calm=true)
  (hsub:SubL X.env.cells cl) (hhas:∀ x,((relabel scope X.env).names.lookup x=some .cell\/(relabel scope X.env).names.lookup x=some .free)->∃ c,cl.lookup x=some c) (hcap:xM X scope cl xs is)
  (JL:∀ C s₀ H₀ fp,PTg (zX X (xs++ts) scope cl C s₀ H₀ fp) tgt gt) (hif:∀ C s₀ H₀ fp,Tests (zX X (xs++ts) scope cl C s₀ H₀ fp) ifs p) (hkx:∀ C s₀ H₀ fp,PV (zX X (xs++ts) scope cl C s₀ H₀ fp) kx fk) (hvx:∀ C s₀ H₀ fp,PV (zX X (xs++ts) scope cl C s₀ H₀ fp) vx fv) (htk:Wy is.length gt)
  (I2:L2.Inv X pins σ H2 s2) (Ec:bU X.K H2 H2 (ug is σ++List.replicate ts.length none) (jT is ρ++List.replicate ts.length none)) (T:Turn X.prog X.w X.K tgt J fp it tn) (st:tn 0 s2.heap) (hf:∀ b∈fp,tZ X pins H2 b) (Y:Yields X.K J ds H2)
  (hlen:ds.length < 1000) (hout:pU gt p (b2 Aa fk fv) (jT is ρ++List.replicate ts.length none) ds=some out)
  (hRR:∀ (D C:Addr) (s':Shared) (H':Hp) (us:List (Key×V)),H2 D=none->L2.Inv X pins σ H' s'->tZ X pins H' C->(∃ m,s'.heap.Ns C m)->Same H2 H'->H' D=some (.dK us)->gW X.K H' (dictOf out) us->RR (.ref D) C (.ok .next) s') :
  wpAny (model X.prog X.w) X.A newDict (fun acc s₃=>wpAny (model X.prog X.w) X.A (newFunctionEnv scope X.env.globals cl [] X.env.qual none .none (some X.env)) (fun cenv s₄=>
   codeAny (model X.prog X.w) X.A (.compStart (.DictComp kx vx [⟨tgt,iter,ifs,0⟩] scope pos) 0 (.ref it) acc { cenv with scope:=relabel scope X.env }) (RR acc cenv.locals) s₄) E s₃) E s2:=
 Gk (H:=H) (Ac:=AcD X.K) (O0:=.dK []) (N:=999) hkind hcell hcalm hsub hhas hcap JL hif (fun C s₀ H₀ fp=>Yy (hkx C s₀ H₀ fp) (hvx C s₀ H₀ fp)) htk I2 Ec T st hf Y (Nat.le_of_lt_succ hlen) hout (fun D C s' H' o i a b c d e f g=>by obtain⟨us,rfl,r,_⟩:=g;exact hRR D C s' H' us a b c d e f r)
  Z3 (fun _=>TX s2.heap I2.big) (fun _=>⟨[],rfl,gW.nil,zl _⟩) (fun k l ⟨us,e,r,z⟩=>⟨us,e,r.kp k,z3 z l⟩) (fun _ _ _=>rfl) codeAny_compStart_dict fun h=>h
def Qk (fi:Ev->Option (List Dt)) (gt:Dt->Ev->Option Ev) (p:Ev->Option Bool) (fk fv:Ev->Option Bx) (is:List Nat) (n:Nat):Ev->Option Bx:=fun ρ=>(fi ρ).bind fun ds=>
 if ds.length < 1000 then (pU gt p (b2 Aa fk fv) (jT is ρ++List.replicate n none) ds).bind fun out=>some (.m (dictOf out) none) else none
theorem Vj (hu:X.A.units+100 < cLine) (ts:List Str) (O:za X scope cl xs is) (hcalm:X.calm=true) (hi:QIC X tgt iter fi)
  (JL:∀ C s₀ H₀ fp,Wx (zX X (xs++ts) scope cl C s₀ H₀ fp) tgt gt) (hif:∀ C s₀ H₀ fp,yZ (zX X (xs++ts) scope cl C s₀ H₀ fp) ifs p) (hkx:∀ C s₀ H₀ fp,QV (zX X (xs++ts) scope cl C s₀ H₀ fp) kx fk) (hvx:∀ C s₀ H₀ fp,QV (zX X (xs++ts) scope cl C s₀ H₀ fp) vx fv) (htk:Wy is.length gt)
  (hs:∀ x,foldedSetIterable iter X.env x=pure x:=by intro _;rfl):QV X (.DictComp kx vx [⟨tgt,iter,ifs,0⟩] scope pos) (Qk fi gt p fk fv is ts.length):=⟨fun pins s σ H Q I h=>by
 obtain⟨H0,ρ,b,E,e,q⟩:=h
 obtain⟨ds,ed,e⟩:=bind_some e
 split at e
 ·rename_i hlen
  obtain⟨out,eo,e⟩:=bind_some e
  cases e
  rw[arm_eval_DictComp]
  refine kN (use:=none) rfl hs O.clos O.kind O.names ?_
  refine mC (hi.run pins s σ H (fun J H'=>Same H H'/\Yields X.K J ds H') I ⟨H0,ρ,ds,E,ed,fun J H' s' y=>⟨s',y⟩⟩) fun v s1 h1=>mC h1 fun itv s2 h2=>?_
  obtain⟨it,fp,tn,J,H2,rfl,I2,T,st,hf,s12,Y⟩:=h2
  refine RZ hu (RR:=fun acc C=>compPost (model X.prog X.w) X.A X.xe none (EP X pins σ Q) acc C) (ts:=ts) (xs:=xs) (H:=H) O.kind O.cell hcalm O.sub O.has O.cap (fun C s₀ H₀ fp=>(JL C s₀ H₀ fp).run) (fun C s₀ H₀ fp=>(hif C s₀ H₀ fp).run) (fun C s₀ H₀ fp=>(hkx C s₀ H₀ fp).run) (fun C s₀ H₀ fp=>(hvx C s₀ H₀ fp).run) htk I2 ((E.grow s12).caps is ts.length) T st hf Y hlen eo ?_
  intro D C s' H' us hD I' fC ⟨m,hn⟩ s2' hD' rm
  refine⟨m,hn,fun h' sb=>⟨.ref D,H',?_,rfl,q (.ref D) H' (s12.trans s2') (fun a ea=>by cases ea;exact s12.free hD) ⟨D,us,rfl,hD',rm,fun b hb=>by cases hb⟩⟩⟩
  obtain⟨f0,f1,f2,f3,f4,f5⟩:=fC
  exact I'.turned (t':=s'.toks) (fun b o hb e=>(sb.2 b hb).trans e) f0 f1 f3 f4 f5
 ·cases e⟩
end
section
variable {X:Cx} {pins:List (Addr×Obj)} {σ:L2.St} {H:Hp} {s:Shared} {a:Addr} {ks:List (Key×V)} {o:Obj}
theorem KZ (hb:∀ ob u,X.H₀ a≠some (.rO ob u)) (I:L2.Inv X pins σ H s) (e:H a=some (.rO o (.dK ks))):L2.Inv X pins σ (upd H a (.dK ks)) s:=by
 have ne:∀ {b:Addr} {u:HO},H b=some u->u≠.rO o (.dK ks)->b≠a:=fun q n z=>by subst z;rw[e] at q;cases q;exact n rfl
 have nn:∀ {b:Addr},H b=none->b≠a:=fun q z=>by subst z;rw[e] at q;cases q
 refine⟨I.ok,I.os,I.bare,⟨I.base.keep,I.base.slot,fun b ob q n hx=>?_,I.base.there,fun b xs q=>?_,fun b ob u q=>?_,fun b ps q=>?_⟩,I.loc,I.cell,?_,fun x c q=>?_,fun p hp=>?_,fun b ob q=>?_,I.len⟩
 ·have:=I.base.free b ob q n hx
  rw[aQ (nn this)];exact this
 ·have:=I.base.tups b xs q
  rw[aQ (ne this fun z=>by cases z)];exact this
 ·have:=I.base.vG b ob u q
  rw[aQ (fun z=>by subst z;exact hb _ _ q)];exact this
 ·obtain⟨m,this⟩:=I.base.w6 b ps q
  exact⟨m,by rw[aQ (ne this fun z=>by cases z)];exact this⟩
 ·have:=I.free
  rw[aQ (nn this)];exact this
 ·have:=I.pR x c q
  rw[aQ (nn this)];exact this
 ·obtain⟨p1,p2,p3⟩:=I.pin p hp
  exact⟨p1,by rw[aQ (nn p2)];exact p2,p3⟩
 ·have st:∀ {c:Addr} {w:HO},jC X.prog X.w H s.heap c w->jC X.prog X.w (upd H a (.dK ks)) s.heap c w:=fun x=>
   x.stay (fun _ _ _ r=>r) (fun d r=>by rw[aQ (ne r fun z=>by cases z)];exact r) fun d xs r=>by rw[aQ (ne r fun z=>by cases z)];exact r
  by_cases hba:b=a
  ·subst hba
   rw[bK] at q
   cases q
   exact st (I.hok _ _ e).2
  ·rw[aQ hba] at q
   exact st (I.hok _ _ q)
theorem adM (I:L2.Inv X pins σ H s) (e:H a=some (.dK ks)) (ho:s.heap.get? a=some o):L2.Inv X pins σ (upd H a (.rO o (.dK ks))) s:=by
 have:=I.write (t':=s.toks) (h':=s.heap) (x:=a) (e:=a) (o:=.rO o (.dK ks)) (by rw[e];exact True.intro) (.inl rfl) (fun _ _ _ z=>z) ⟨o,ho⟩ ⟨ho,(I.hok _ _ e).stay (fun _ _ _ r=>r) (fun d r=>by rw[aQ (pA r e (by intro z;cases z))];exact r) fun d xs r=>by rw[aQ (pA r e (by intro z;cases z))];exact r⟩
 exact this
theorem Yz (I:L2.Inv X pins σ H s) (e:H a=some (.dK ks)):∀ ob u,X.H₀ a≠some (.rO ob u):=fun ob u q=>by
 have:=I.base.vG a ob u q
 rw[e] at this;cases this
mutual
theorem Rep.KZ {K:PySem.W.Frag} (e:H a=some (.rO o (.dK ks))) (hk:ks≠[]):∀ {d:Dt} {v:V},Rep K H d v->Rep K (upd H a (.dK ks)) d v
 |.non,_,h=>by simpa only[Rep] using h
 |.bl _,_,h=>by simpa only[Rep] using h
 |.int _,_,h=>by simpa only[Rep] using h
 |.str _,_,h=>by simpa only[Rep] using h
 |.tup ds,_,h=>by
  simp only[Rep] at h ⊢
  obtain⟨b,vs,e1,q,r⟩:=h
  refine⟨b,vs,e1,?_,aJ.KZ e hk r⟩
  rcases q with (q|⟨ob,q⟩)|q
  ·exact .inl (.inl (by rw[aQ (fun z=>by subst z;rw[e] at q;cases q)];exact q))
  ·exact .inl (.inr ⟨ob,by rw[aQ (fun z=>by subst z;rw[e] at q;cases q)];exact q⟩)
  ·exact .inr q
 |.lst ds,_,h=>by
  simp only[Rep] at h ⊢
  obtain⟨b,vs,e1,q,r⟩:=h
  refine⟨b,vs,e1,?_,aJ.KZ e hk r⟩
  rcases q with⟨ob,q⟩|q
  ·exact .inl ⟨ob,by rw[aQ (fun z=>by subst z;rw[e] at q;cases q)];exact q⟩
  ·exact .inr q
 |.emp,_,h=>by
  simp only[Rep] at h ⊢
  obtain⟨b,ob,e1,q⟩:=h
  exact⟨b,ob,e1,by rw[aQ (fun z=>by subst z;rw[e] at q;cases q;exact hk rfl)];exact q⟩
theorem aJ.KZ {K:PySem.W.Frag} (e:H a=some (.rO o (.dK ks))) (hk:ks≠[]):∀ {ds:List Dt} {vs:List V},aJ K H ds vs->aJ K (upd H a (.dK ks)) ds vs
 |[],_,h=>by simpa only[aJ] using h
 |d::ds,_,h=>by
  simp only[aJ] at h ⊢
  obtain⟨v,r,e1,q,t⟩:=h
  exact⟨v,r,e1,Rep.KZ e hk q,aJ.KZ e hk t⟩
end
def Itd (a:Addr) (o:Obj) (ks:List (Key×V)):It:=
 ⟨fun i H=>H a=some (.rO o (.dK ks))/\i < ks.length,fun i H x H'=>H'=H/\(ks.map fun k=>kV k.1)[i]?=some x,fun i H=>H a=some (.rO o (.dK ks))/\ks.length<=i⟩
theorem Ql {P:Program} {w:World} {h:Heap} (x:jC P w H h a (.rO o (.dK ks))) {es:Array DictEntry} {ep:Nat} (hd:o.data=.dict es ep):∃ vs,KV ks vs/\h.DictAt (bD P w) a vs ep:=by
 obtain⟨e,_,_,vs,kv,ob,es',ep',e2,c,d,r⟩:=x
 rw[e] at e2
 cases e2
 rw[hd] at d
 cases d
 exact⟨vs,kv,o,es,e,c,hd,r⟩
theorem Vk:∀ {ks:List (Key×V)} {vs:List (Key×Value)},KV ks vs->∀ {i:Nat} {p},ks[i]?=some p->∃ x,vs[i]?=some (p.1,x)
 |_,_,.nil,i,p,q=>by simp at q
 |_,_,.cons h _,0,p,q=>by simp at q;subst q;exact⟨_,by rw[List.getElem?_cons_zero,h.1]⟩
 |_,_,.cons _ t,i+1,p,q=>by
  rw[ZI] at q
  obtain⟨x,hx⟩:=Vk t q
  exact⟨x,by rw[ZI];exact hx⟩
theorem GC {P:Program} {w:World} {K:PySem.W.Frag} {tg:Expr} (it:Addr) {es:Array DictEntry} {ep:Nat} (hd:o.data=.dict es ep) (hne:a≠it):Turn P w K tg (Itd a o ks) [it] it (fun i h=>h.IsKeyIter it a i ks.length ep) where
 mem:=by simp
 obj:=fun i h st b hb=>by
  have e:b=it:=by simpa using hb
  subst e
  obtain⟨ob,e,c,d⟩:=st
  exact⟨ob,e,fun v z=>by rw[d] at z;cases z⟩
 keep:=fun i h h' st k=>st.at fun ob e=>k it (by simp) ob e
 item:=by
  intro X hP hw hK hc i pins s σ H E I hf st hg
  subst hP hw hK
  obtain⟨ha,hi⟩:=hg
  obtain⟨vs,kv,dd⟩:=Ql (I.hok _ _ ha) hd
  have hl:ks.length=vs.length:=kv.length
  obtain⟨x,hx⟩:=Vk kv (show ks[i]?=some ks[i] by simp[hi])
  obtain⟨f0,f1,f2,f3,f4,f5⟩:=hf it (by simp)
  rw[hl] at st
  refine wpAny_pyNext_dict_item st dd hx fun key h' hkey st' sb=>?_
  rw[<-hl] at st'
  have I1:L2.Inv X pins σ H { s with heap:=h' }:=I.turned (t':=s.toks) (fun b ob hb e=>(sb.2 b hb).trans e) f0 f1 f3 f4 f5
  obtain⟨ob,e,c,d⟩:=id st'
  refine⟨key,rfl,FZ (s:={ s with heap:=h' }) e c d (by decide) ⟨kV (ks[i]).1,H,I1,?_,⟨rfl,by rw[zS,zz hi];rfl⟩,st',fun b hb=>(hf b hb).1⟩⟩
  have hk':mD (ks[i]).1 key=true:=hkey
  rcases bJ hk' with⟨j,t,e2,e3⟩|⟨z,t,e2,e3⟩
  ·rw[e2,e3];exact⟨t,rfl⟩
  ·rw[e2,e3];exact⟨t,rfl⟩
 done:=by
  intro X hP hw hK hc i pins s σ H E I hf st hg
  subst hP hw hK
  obtain⟨ha,hi⟩:=hg
  obtain⟨vs,kv,dd⟩:=Ql (I.hok _ _ ha) hd
  have hl:ks.length=vs.length:=kv.length
  obtain⟨f0,f1,f2,f3,f4,f5⟩:=hf it (by simp)
  rw[hl] at st
  exact wpAny_pyNext_dict_end (I.ok.hd hc) st dd (qV (by omega)) fun h' eb=>⟨rfl,I.turned (t':=s.toks) (fun b ob hb e=>eb b ob hb e) f0 f1 f3 f4 f5⟩
 self:=fun _ _ _ _ _ st h=>wpAny_pyIter_keyiter st h
def keyB:Bx->Option (List Dt)
 |.n kvs=>some (kvs.map fun p=>.str p.1)
 |_=>none
theorem R0 {b:Bx} {ds:List Dt} (h:keyB b=some ds):∃ kvs,b=.n kvs/\ds=kvs.map fun p=>.str p.1:=by
 unfold keyB at h
 split at h
 ·cases h;exact⟨_,rfl,rfl⟩
 ·cases h
theorem Ab {K:PySem.W.Frag} {Hs:Hp} {kvs:List (Str×Dt)} (ha:Hs a=some (.rO o (.dK ks))) (rm:gW K Hs kvs ks):Yields K (Itd a o ks) (kvs.map fun p=>.str p.1) Hs:=.of fun i H s=>by
 have hl:=rm.len
 refine⟨fun d e=>?_,fun e=>⟨s _ _ ha,by rw[zi] at e;omega⟩⟩
 rw[zS] at e
 cases hp:kvs[i]? with
 |none=>rw[hp] at e;cases e
 |some p=>
  rw[hp] at e
  cases e
  have hi:i < kvs.length:=(List.getElem?_eq_some_iff.mp hp).1
  refine⟨⟨s _ _ ha,by omega⟩,fun x H' y=>?_⟩
  obtain⟨y1,y2⟩:=y
  refine⟨y1,?_⟩
  have h1:(ks.map (·.1))[i]?=some (Sum.inr p.1):=by rw[rm.1,zS,hp];rfl
  rw[zS] at h1 y2
  cases hk:ks[i]? with
  |none=>rw[hk] at h1;cases h1
  |some q=>
   rw[hk] at h1 y2
   cases y2
   have:q.1=Sum.inr p.1:=by simpa using h1
   show Rep K H (.str p.1) (kV q.1)
   rw[this]
   unfold Rep
   exact⟨rfl,rm.2.2 p (ZY hp)⟩
theorem N7 {K:PySem.W.Frag} {H1:Hp} {σ:L2.St} {ρ:Ev} {is:List Nat} {n:Nat} (e:H1 a=some (.dK ks)) (E:bU K H1 H1 (ug is σ++List.replicate n none) (jT is ρ++List.replicate n none)):bU K (upd H1 a (.rO o (.dK ks))) (upd H1 a (.rO o (.dK ks))) (ug is σ++List.replicate n none) (jT is ρ++List.replicate n none):=by
 have kp:Kp H1 (upd H1 a (.rO o (.dK ks))):=.dk e
 have M9:∀ (j:Nat) c,(jT is ρ++List.replicate n none)[j]?=some (some c)->ud c=false:=fun j c e=>by
  by_cases hj:j < is.length
  ·rw[ZA (by simp[jT];omega)] at e
   unfold jT at e
   rw[zS] at e
   cases q:is[j]? with
   |none=>rw[q] at e;cases e
   |some i=>
    rw[q] at e
    have:yW ρ i=some c:=by simpa using e
    exact xH this
  ·rw[ZZ (by simp[jT];omega),QI] at e
   split at e<;>cases e
 refine⟨E.len,fun j b eb=>?_,fun j k c a b e ec=>absurd ec (by rw[M9 j c e];exact z5),Same.refl _,fun j c a e ec=>absurd ec (by rw[M9 j c e];exact z5)⟩
 obtain⟨v,ev,r⟩:=E.val j b eb
 refine⟨v,ev,?_⟩
 cases b with
 |z d=>exact Rep.kp kp r
 |o ds=>have:=M9 j _ eb;cases this
 |m ds _=>have:=M9 j _ eb;cases this
 |l ds=>
  obtain⟨b,vs,e1,q,r⟩:=r
  refine⟨b,vs,e1,?_,r.kp kp⟩
  rcases q with q|⟨ob,q⟩
  ·exact .inl (by rw[aQ (pA q e (by intro z;cases z))];exact q)
  ·exact .inr ⟨ob,by rw[aQ (pA q e (by intro z;cases z))];exact q⟩
 |n ds=>
  obtain⟨b,vs,e1,q,r⟩:=r
  refine⟨b,vs,e1,?_,r.kp kp⟩
  by_cases hb:b=a
  ·subst hb
   rcases q with q|⟨ob,q⟩
   ·rw[e] at q;cases q
    exact .inr ⟨o,bK⟩
   ·rw[e] at q;cases q
  ·rcases q with q|⟨ob,q⟩
   ·exact .inl (by rw[aQ hb];exact q)
   ·exact .inr ⟨ob,by rw[aQ hb];exact q⟩
end
section
variable {X:Cx} {e elt tgt iter:Expr} {ifs:List Expr} {fd:Ev->Option Bx} {scope:Scope} {cl:List (Str×Addr)} {pos:Pos} {xs ts:List Str} {is:List Nat} {gt:Dt->Ev->Option Ev} {p:Ev->Option Bool} {fe:Ev->Option Bx}
def K1 (fd:Ev->Option Bx):Ev->Option (List Dt):=fun ρ=>(fd ρ).bind keyB
theorem R3 (ρ:Ev):pU gt p fe ρ []=some []:=rfl
theorem K3 (ts:List Str) (O:za X scope cl xs is) (hcalm:X.calm=true) (hi:QV X iter fd)
  (JL:∀ C s₀ H₀ fp,Wx (zX X (xs++ts) scope cl C s₀ H₀ fp) tgt gt) (hif:∀ C s₀ H₀ fp,yZ (zX X (xs++ts) scope cl C s₀ H₀ fp) ifs p) (helt:∀ C s₀ H₀ fp,QV (zX X (xs++ts) scope cl C s₀ H₀ fp) elt fe) (htk:Wy is.length gt)
  (hs:∀ x,foldedSetIterable iter X.env x=pure x:=by intro _;rfl):QV X (.ListComp elt [⟨tgt,iter,ifs,0⟩] scope pos) (fU (K1 fd) gt p fe is ts.length):=⟨fun pins s σ H Q I h=>by
 obtain⟨H0,ρ,b,E,e,q⟩:=h
 obtain⟨ds,ed,e⟩:=bind_some e
 split at e
 ·rename_i hlen
  obtain⟨out,eo,e⟩:=bind_some e
  cases e
  obtain⟨bd,ebd,ed⟩:=bind_some ed
  obtain⟨kvs,rfl,rfl⟩:=R0 ed
  rw[eval_ListComp]
  refine kN (use:=none) rfl hs O.clos O.kind O.names ?_
  refine mC (hi.run pins s σ H (fun v H1=>Same H H1/\bA X.K H1 (.n kvs) v) I ⟨H0,ρ,_,E,ebd,fun v H1 s1 _ r1=>⟨s1,r1⟩⟩) fun v s1 ⟨v',H1,I1,rv,s01,r1⟩=>?_
  obtain⟨a,ks,rfl,rd,rm⟩:=r1
  cases rv
  obtain⟨_,hsys,vs,kv,ob,es,ep,dd⟩:=J0 I1.hok rd
  have hob:=dd.1
  have hdat:=dd.2.2.1
  refine wpAny_pyIter_dict hsys (⟨ob,es,dd⟩:s1.heap.DictAt (bD X.prog X.w) a vs ep) ?_
  have hlt:a < s1.heap.objs.size:=zv hob
  have hl:ks.length=vs.length:=kv.length
  have adN:∀ {H':Hp},L2.Inv X pins σ H' s1->∀ b∈[s1.heap.objs.size],tZ X pins H' b:=fun I' b hb=>by
   have e:b=s1.heap.objs.size:=by simpa using hb
   subst e
   exact I'.WY (zl _) (I'.hok.fresh (zl _))
  have st0:Heap.IsKeyIter (s1.heap.push { cls:=.type "dict_keyiterator", data:=.fields #[.ref a,.int 0 0,.int vs.length 0,.int ep 0] }) s1.heap.objs.size a 0 ks.length ep:=⟨_,zt _ rfl,rfl,by rw[hl];rfl⟩
  rcases rd with rd|⟨o',rd⟩
  ·
   have I2:=adM I1 rd hob
   have I3:L2.Inv X pins σ (upd H1 a (.rO ob (.dK ks))) { s1 with heap:=s1.heap.push { cls:=.type "dict_keyiterator", data:=.fields #[.ref a,.int 0 0,.int vs.length 0,.int ep 0] } }:=I2.kept (t':=s1.toks) fun b o e=>zd _ e
   have rm2:gW X.K (upd H1 a (.rO ob (.dK ks))) kvs ks:=rm.kp (.dk rd)
   refine xO (RR:=fun acc C=>compPost (model X.prog X.w) X.A X.xe none (EP X pins σ Q) acc C) (ts:=ts) (xs:=xs) (H:=H) O.kind O.cell hcalm O.sub O.has O.cap (fun C s₀ H₀ fp=>(JL C s₀ H₀ fp).run) (fun C s₀ H₀ fp=>(hif C s₀ H₀ fp).run) (fun C s₀ H₀ fp=>(helt C s₀ H₀ fp).run) htk I3 (N7 rd ((E.grow s01).caps is ts.length)) (GC s1.heap.objs.size hdat (zD hlt)) st0 (adN I2) (Ab bK rm2) hlen eo ?_
   intro D C s' H' us hD I' fC ⟨m,hn⟩ s2' hD' r'
   have ha':H' a=some (.rO ob (.dK ks)):=s2' _ _ bK
   have hDa:D≠a:=fun z=>by subst z;rw[bK] at hD;cases hD
   have hD1:H1 D=none:=by rw[aQ hDa] at hD;exact hD
   have sm:Same H1 (upd H' a (.dK ks)):=fun b u e=>by
    by_cases hb:b=a
    ·subst hb;rw[rd] at e;cases e;exact bK
    ·rw[aQ hb];exact s2' b u (by rw[aQ hb];exact e)
   have rr:aJ X.K (upd H' a (.dK ks)) out us:=by
    by_cases hk:ks=[]
    ·have:kvs=[]:=by have:=rm.len;rw[hk] at this;exact List.length_eq_zero_iff.mp (by simpa using this.symm)
     subst this
     simp only[JY] at eo
     rw[R3] at eo
     cases eo
     simpa only[aJ] using r'
    ·exact aJ.KZ ha' hk r'
   refine⟨m,hn,fun h' sb=>⟨.ref D,upd H' a (.dK ks),?_,rfl,q _ _ (s01.trans sm) (fun a ea=>by cases ea;exact s01.free hD1) ⟨D,us,rfl,by rw[aQ hDa];exact hD',rr⟩⟩⟩
   obtain⟨f0,f1,f2,f3,f4,f5⟩:=fC
   have hCa:C≠a:=fun z=>by subst z;rw[ha'] at f0;cases f0
   exact (KZ (Yz I1 rd) I' ha').turned (t':=s'.toks) (fun b o hb e=>(sb.2 b hb).trans e) (by rw[aQ hCa];exact f0) f1 f3 f4 f5
  ·have hoo:o'=ob:=by
    have:=(I1.hok _ _ rd).1
    rw[hob] at this;cases this;rfl
   subst hoo
   have I3:L2.Inv X pins σ H1 { s1 with heap:=s1.heap.push { cls:=.type "dict_keyiterator", data:=.fields #[.ref a,.int 0 0,.int vs.length 0,.int ep 0] } }:=I1.kept (t':=s1.toks) fun b o e=>zd _ e
   refine xO (RR:=fun acc C=>compPost (model X.prog X.w) X.A X.xe none (EP X pins σ Q) acc C) (ts:=ts) (xs:=xs) (H:=H) O.kind O.cell hcalm O.sub O.has O.cap (fun C s₀ H₀ fp=>(JL C s₀ H₀ fp).run) (fun C s₀ H₀ fp=>(hif C s₀ H₀ fp).run) (fun C s₀ H₀ fp=>(helt C s₀ H₀ fp).run) htk I3 ((E.grow s01).caps is ts.length) (GC s1.heap.objs.size hdat (zD hlt)) st0 (adN I1) (Ab rd rm) hlen eo ?_
   intro D C s' H' us hD I' fC ⟨m,hn⟩ s2' hD' r'
   refine⟨m,hn,fun h' sb=>⟨.ref D,H',?_,rfl,q _ _ (s01.trans s2') (fun a ea=>by cases ea;exact s01.free hD) ⟨D,us,rfl,hD',r'⟩⟩⟩
   obtain⟨f0,f1,f2,f3,f4,f5⟩:=fC
   exact I'.turned (t':=s'.toks) (fun b o hb e=>(sb.2 b hb).trans e) f0 f1 f3 f4 f5
 ·cases e⟩
end
section
variable {prog:Program} {w:World} {A:Around} {E:Value->Shared->Prop} {s:Shared}
theorem K4 {R:Result->Shared->Prop} {d:Addr} {kvs:List (Key×Value)} {ep:Nat} (hh:A.handled=none) (hd:(d==sysModules)=false) (hm:s.heap.DictAt (bD prog w) d kvs ep) (hn:kvs.length<=sizeLine) (S:Addr) (hdS:d≠S) (res:Value) (c₀:Nat) (hS0:s.heap.get? S=some { cls:=.type "list", data:=.seq #[] c₀ })
  (hR:∀ h' tk acc' c',(∀ b o,b≠S->s.heap.get? b=some o->h'.get? b=some o)->h'.get? S=some { cls:=.type "list", dict:=none,data:=.seq acc' c',slots:=#[] } →
   ItemsOf (fun i v=>∃ k x,kvs[i]?=some (k,x)/\(bD prog w).is k v=true) acc' kvs.length->R (.ok (.ret res)) { s with heap:=h',toks:=tk }) :
  wpAny (model prog w) A.in1 (Builtin.List.listExtendWith (.ref S) (.ref d) res)
   (fun fin s'=>match fin with|.done f=>R (.ok f) s'|.again c'=>c'.quiet=true/\codeAny (model prog w) A c' R s') (fun e s'=>R (.error e) s') s:=by
 have hlt:d < s.heap.objs.size:=by obtain⟨o,_,ho,_⟩:=hm;exact zv ho
 have hSlt:S < s.heap.objs.size:=zv hS0
 unfold Builtin.List.listExtendWith
 refine zb (QP (T := "dict") hm.dictOf.typeIs ?_)
 have h1:Builtin.List.listSameRef (.ref S) (.ref d)=false:=by simp[Builtin.List.listSameRef];exact fun e=>hdS e.symm
 simp only[h1,show (Value.type "dict" == Value.type "list")=false by decide,show (Value.type "dict" == Value.type "tuple")=false by decide,Bool.or_false,zr,ZH]
 refine zb (wpAny_pyIter_dict hd hm ?_)
 refine zb (qo ?_)
 have hm2:=hm.at' (h':=s.heap.push { cls:=.type "dict_keyiterator", data:=.fields #[.ref d,.int 0 0,.int kvs.length 0,.int ep 0] }) fun o e=>zd _ e
 unfold Builtin.List.listLengthHint
 refine zb (wpAny_specialOf (T := "dict") hm2.dictOf.typeIs F.slot_dict_len.lookup ?_)
 wp_delta
 refine zb (kK (T := "dict") (b:=true) hm2.dictOf.typeIs (by rw[isSubtype_type];kernel_rfl) ?_)
 show wpAny _ A.in1 (typeOf (Value.ref d) >>= _) _ _ _
 refine zb (QP (T := "dict") hm2.dictOf.typeIs (ze ?_))
 rw[zo (by decide)]
 show wpAny _ A.in1 (Builtin.List.listTouch (Value.ref S) >>= fun _=>again (Code.builtin "list.extend.loop" ⟨[Value.ref S,Value.ref s.heap.objs.size,res],[]⟩)) _ _ _
 generalize hG:s.heap.push { cls:=.type "dict_keyiterator", data:=.fields #[.ref d,.int 0 0,.int kvs.length 0,.int ep 0] }=G at hm2 ⊢
 have hS:G.get? S=some { cls:=.type "list", data:=.seq #[] c₀ }:=by
  rw[<-hG]
  exact zd _ hS0
 have hI:G.get? s.heap.objs.size=some { cls:=.type "dict_keyiterator", data:=.fields #[.ref d,.int 0 0,.int kvs.length 0,.int ep 0] }:=by
  rw[<-hG]
  exact zt _ rfl
 unfold Builtin.List.listTouch
 refine zb (zb (listUpdate_at hS rfl (listUpdate_at (get?_update_seq hS _) rfl ?_ (by show _<=_;decide) (by show _<=_;decide)) (by show _<=_;decide) (by show _<=_;decide)))
 have hIS:s.heap.objs.size≠S:=Kb hSlt
 have hS3:=get?_update_seq (get?_update_seq hS (fun x=>x.push Value.none)) (fun x=>x.pop)
 generalize hU:(G.update S (Obj.mapSeq fun x=>x.push Value.none)).update S (Obj.mapSeq fun x=>x.pop)=U at hS3
 have keep:∀ b,b≠S->U.get? b=G.get? b:=fun b hb=>by rw[<-hU,j0 _ _ _ _ hb,j0 _ _ _ _ hb]
 have st0:U.IsKeyIter s.heap.objs.size d 0 kvs.length ep/\U.DictAt (bD prog w) d kvs ep:=⟨⟨_,(keep _ hIS).trans hI,rfl,rfl⟩,hm2.at' fun o e=>(keep d hdS).trans e⟩
 show wpAny _ A.in1 (again _) _ _ { s with heap:=U }
 have hSf:S∉[s.heap.objs.size,d]:=fun h=>by
  simp only[Q2,jv,or_false] at h
  rcases h with h|h
  ·exact hIS h.symm
  ·exact hdS h.symm
 refine ze ⟨plainId_quiet F.plain_extend_loop _,codeAny_extend_loopS (Walks.dictKeys (A:=A.in1) hh s.heap.objs.size d (zD hlt) kvs ep).toS hn S hSf _ kvs.length 0 { s with heap:=U } #[] _ rfl (qA _) st0 hS3 (ItemsOf.nil _) fun s' acc' c' mv hS' hacc=>?_⟩
 rw[Moved.eq_with mv]
 refine hR s'.heap s'.toks acc' c' (fun b ob hb e=>?_) hS' hacc
 have hb':=zv e
 refine mv.heap b ob (fun h=>?_) ((keep b hb).trans ?_)
 ·simp only[Q2,jv,or_false] at h
  rcases h with h|h
  ·exact hb h
  ·exact zD hb' h
 ·rw[<-hG]
  exact zd _ e
theorem CV {Q:Value->Shared->Prop} {d:Addr} {kvs:List (Key×Value)} {ep:Nat} (hh:A.handled=none) (hd:(d==sysModules)=false) (hm:s.heap.DictAt (bD prog w) d kvs ep) (hn:kvs.length<=sizeLine)
  (hQ:∀ h' tk acc' c',(∀ b o,s.heap.get? b=some o->h'.get? b=some o) →
   h'.get? s.heap.objs.size=some { cls:=.type "list", dict:=none,data:=.seq acc' c',slots:=#[] }->ItemsOf (fun i v=>∃ k x,kvs[i]?=some (k,x)/\(bD prog w).is k v=true) acc' kvs.length->Q (.ref s.heap.objs.size) { s with heap:=h',toks:=tk }) :
  wpAny (model prog w) A (call (.type "list") [.ref d]) Q E s:=by
 have hlt:d < s.heap.objs.size:=by obtain⟨o,_,ho,_⟩:=hm;exact zv ho
 refine callType_codes (Q₁:=fun obj s₁=>obj=.ref s.heap.objs.size/\s₁={ s with heap:=s.heap.push { cls:=.type "list", data:=.seq #[] } }) F.called_list (F.typeCall_list_1 _) F.entry_list_init
  (code_list_new _ ⟨rfl,rfl⟩) fun obj s₁ h₁=>?_
 obtain⟨rfl,rfl⟩:=h₁
 have hS:(s.heap.push { cls:=.type "list", data:=.seq #[] }).get? s.heap.objs.size=some { cls:=.type "list", data:=.seq #[] }:=zt _ rfl
 have hm1:=hm.at' (h':=s.heap.push { cls:=.type "list", data:=.seq #[] }) fun o e=>zd _ e
 refine⟨⟨_,hS,rfl⟩,F.args_list_init_2 _ _,?_⟩
 generalize hH:s.heap.push { cls:=.type "list", data:=.seq #[] }=H at hS hm1 ⊢
 show wpAny _ _ (do let old <-Builtin.List.listItems (.ref s.heap.objs.size);Builtin.List.listUpdate (.ref s.heap.objs.size) (fun _=>#[]);letGo old.toList.reverse;Builtin.List.listExtendWith (.ref s.heap.objs.size) (.ref d) .none) _ _ { s with heap:=H }
 refine zb ?_
 unfold Builtin.List.listItems
 refine zb (QU hS rfl (ze ?_))
 show wpAny _ _ (updateSeq s.heap.objs.size (fun _=>#[]) >>= fun _=>letGo (#[]:Array Value).toList.reverse >>= fun _=>Builtin.List.listExtendWith (.ref s.heap.objs.size) (.ref d) .none) _ _ _
 refine zb (wpAny_updateSeq hS rfl ?_)
 have hS₂:=kB (Obj.mapSeq (fun _=>(#[]:Array Value))) hS rfl
 have oth:∀ b o,b≠s.heap.objs.size->H.get? b=some o->(H.update s.heap.objs.size (Obj.mapSeq (fun _=>(#[]:Array Value)))).get? b=some o:=
  fun b o hb e=>(Heap.get?_update_other _ _ (KW hb)).trans e
 refine zb (wpAny_letGo ?_)
 refine K4 (A:=A.in1) hh hd (hm1.at' fun o e=>oth d o (zD hlt) e) hn s.heap.objs.size (zD hlt) .none _ hS₂ fun h' tk acc' c' hk hS' hacc=>?_
 exact⟨rfl,hQ h' tk acc' c' (fun b o e=>hk b o (zD (zv e)) (oth b o (zD (zv e)) (by rw[<-hH];exact zd _ e))) hS' hacc⟩
theorem abG {P:Nat->Value->Prop} (val:Nat->Str) (hval:∀ i v,P i v->∃ t,v=.str (val i) t):CmpOf prog w A .Lt P (fun i j=>decide ((val i).cps.toList < (val j).cps.toList)):=fun i j vi vj s Q E hi hj h=>by
 obtain⟨t,rfl⟩:=hval i vi hi
 obtain⟨u,rfl⟩:=hval j vj hj
 exact richCompare_gives (op:=.Lt) (typeIs_str s _ t) (typeIs_str s _ u) F.slot_str_lt F.entry_str_lt (F.args_str_lt_2 _ _) (gives_str_lt _ _ t u) (fun x=>nomatch x) h
theorem cmp_gt {P:Nat->Value->Prop} (val:Nat->Str) (hval:∀ i v,P i v->∃ t,v=.str (val i) t):CmpOf prog w A .Gt P (fun i j=>decide ((val j).cps.toList < (val i).cps.toList)):=fun i j vi vj s Q E hi hj h=>by
 obtain⟨t,rfl⟩:=hval i vi hi
 obtain⟨u,rfl⟩:=hval j vj hj
 exact richCompare_gives (op:=.Gt) (typeIs_str s _ t) (typeIs_str s _ u) F.slot_str_gt F.entry_str_gt (F.args_str_gt_2 _ _) (gives_str_gt _ _ t u) (fun x=>nomatch x) h
def two (a b:Str) (i:Nat):Str:=if i=0 then a else b
theorem Vl {a b:Str} {t u:Tok} (i:Nat) (v:Value) (h:(#[Value.str a t,Value.str b u])[i]?=some v):∃ t',v=.str (two a b i) t':=by
 match i,h with
 |0,h=>cases h;exact⟨t,rfl⟩
 |1,h=>cases h;exact⟨u,rfl⟩
 |_+2,h=>simp at h
theorem K5 {a b:Str} {t u:Tok} {op:CmpOp} {Q:Value->Shared->Prop} {bt:Nat->Nat->Bool} (hh:A.handled=none) (hc:CmpOf prog w A.in1 op (fun i v=>(#[Value.str a t,Value.str b u])[i]?=some v) bt)
  (h:∀ h' tk,(∀ c o,s.heap.get? c=some o->h'.get? c=some o)->Q (if bt 1 0=true then .str b u else .str a t) { s with heap:=h',toks:=tk }) :
  wpAny (model prog w) A.in1 (pyIter (.ref s.heap.objs.size)) (fun it s₂=>∃ I fp wr n P St bt,it=.ref I/\Walks prog w A.in1 I fp wr n P St/\St 0 s₂.heap/\(∀ b∈fp,b < s₂.heap.objs.size)/\0 < n/\CmpOf prog w A.in1 op P bt ∧
   ∀ v h' tk,P (argBest bt (n - 1)) v->(∀ b o,b∉wr->s₂.heap.get? b=some o->h'.get? b=some o)->Q v { s₂ with heap:=h',toks:=tk }) E
   { s with heap:=s.heap.push { cls:=.type "tuple", data:=.seq #[.str a t,.str b u] } }:=by
 have hT:(s.heap.push { cls:=.type "tuple", data:=.seq #[.str a t,.str b u] }).IsTuple s.heap.objs.size #[.str a t,.str b u]:=⟨_,zt _ rfl,rfl,0,rfl⟩
 refine yb hT ?_
 have hsz:(s.heap.push { cls:=.type "tuple", data:=.seq #[.str a t,.str b u] }).objs.size=s.heap.objs.size+1:=ZU ..
 refine⟨_,[_,s.heap.objs.size],[_],_,_,_,bt,rfl,Walks.tuple (A:=A.in1) hh _ s.heap.objs.size (by rw[hsz];exact zD (qi _)) #[.str a t,.str b u],
  ⟨⟨_,zt _ rfl,rfl,rfl⟩,hT.push _⟩,fun c hc=>?_,by simp,hc,fun v h' tk hP hk=>?_⟩
 ·show c < ((s.heap.push _).push _).objs.size
  rw[ZU,hsz]
  rcases List.mem_cons.mp hc with rfl|hc
  ·rw[hsz];exact qi _
  ·rcases List.mem_cons.mp hc with rfl|hc
   ·exact QN (qi _)
   ·cases hc
 ·have hold:∀ c o,s.heap.get? c=some o->h'.get? c=some o:=fun c o e=>by
   refine hk c o (fun hm=>?_) (zd _ (zd _ e))
   rcases List.mem_cons.mp hm with e1|hm
   ·have:=zv e;rw[e1,hsz] at this;exact ka _ (Nat.lt_of_succ_lt this)
   ·cases hm
  have:=h h' tk hold
  have hv:v=if bt 1 0=true then Value.str b u else Value.str a t:=by
   have hP':(#[Value.str a t,Value.str b u])[argBest bt 1]?=some v:=hP
   unfold argBest argBest at hP'
   by_cases hba:bt 1 0=true
   ·rw[zo hba] at hP' ⊢
    exact (by simpa using hP'.symm)
   ·rw[zw hba] at hP' ⊢
    exact (by simpa using hP'.symm)
  rw[hv];exact this
end
section
variable {X:Cx}
def uM:List Bx->Option Bx
 |[.z (.str a),.z (.str b)]=>some (.z (.str (if R4 b a=true then b else a)))
 |_=>none
where R4 (x y:Str):Bool:=decide (x.cps.toList < y.cps.toList)
def K6:List Bx->Option Bx
 |[.z (.str a),.z (.str b)]=>some (.z (.str (if uM.R4 a b=true then b else a)))
 |_=>none
theorem Qm (hc:X.calm=true):qt X (.builtin "min") uM:=by
 intro pins s σ H xs us Q I r h
 obtain⟨bs,c,rb,e,q⟩:=h
 unfold uM at e
 split at e
 ·rename_i a b
  cases e
  obtain⟨v,w,rfl,r1,r2⟩:=PK rb
  obtain⟨rfl,h1⟩:=Ng r1
  obtain⟨rfl,h2⟩:=Ng r2
  obtain⟨u,u',rfl,ru,ru'⟩:=Vals.two r
  obtain⟨t,rfl⟩:=ru
  obtain⟨t',rfl⟩:=ru'
  refine call_min_two (K5 (I.ok.hd hc) (abG (two a b) Vl) fun h' tk kp=>?_)
  show EP X pins σ Q (if uM.R4 b a=true then _ else _) _
  by_cases hb:uM.R4 b a=true
  ·rw[zo hb] at q ⊢
   exact⟨.str b,H,I.kept kp,⟨_,rfl⟩,q _ H (Same.refl H) trivial r2⟩
  ·rw[zw hb] at q ⊢
   exact⟨.str a,H,I.kept kp,⟨_,rfl⟩,q _ H (Same.refl H) trivial r1⟩
 ·cases e
theorem YB (hc:X.calm=true):qt X (.builtin "max") K6:=by
 intro pins s σ H xs us Q I r h
 obtain⟨bs,c,rb,e,q⟩:=h
 unfold K6 at e
 split at e
 ·rename_i a b
  cases e
  obtain⟨v,w,rfl,r1,r2⟩:=PK rb
  obtain⟨rfl,h1⟩:=Ng r1
  obtain⟨rfl,h2⟩:=Ng r2
  obtain⟨u,u',rfl,ru,ru'⟩:=Vals.two r
  obtain⟨t,rfl⟩:=ru
  obtain⟨t',rfl⟩:=ru'
  refine call_max_two (K5 (I.ok.hd hc) (cmp_gt (two a b) Vl) fun h' tk kp=>?_)
  show EP X pins σ Q (if uM.R4 a b=true then _ else _) _
  by_cases hb:uM.R4 a b=true
  ·rw[zo hb] at q ⊢
   exact⟨.str b,H,I.kept kp,⟨_,rfl⟩,q _ H (Same.refl H) trivial r2⟩
  ·rw[zw hb] at q ⊢
   exact⟨.str a,H,I.kept kp,⟨_,rfl⟩,q _ H (Same.refl H) trivial r1⟩
 ·cases e
def CW:List Bx->Option Bx
 |[.n kvs]=>some (.o (kvs.map fun p=>Dt.str p.1))
 |_=>none
theorem Vm (hc:X.calm=true):qt X (.type "list") CW:=by
 intro pins s σ H xs us Q I r h
 obtain⟨bs,c,rb,e,q⟩:=h
 unfold CW at e
 split at e
 ·rename_i kvs
  cases e
  obtain⟨v,rfl,r1⟩:=rep1 rb
  obtain⟨a,ks,rfl,rd,rm⟩:=r1
  obtain⟨u,rfl,ru⟩:=vals1 r
  cases ru
  obtain⟨hz,hsys,vs,kv,o,es,ep,dd⟩:=J0 I.hok rd
  have hk:vs.map (·.1)=(kvs.map (·.1)).map Sum.inr:=by rw[PL kv,rm.1,Zs];rfl
  have hl:ks.length=vs.length:=kv.length
  refine CV (I.ok.hd hc) hsys ⟨o,es,dd⟩ (by omega) fun h' tk acc c' ext en hit=>?_
  have z1:=Np hk hit
  have hy:∀ y∈kvs.map (·.1),y.length<=sizeLine:=fun y hy=>by
   obtain⟨p,hp,rfl⟩:=List.mem_map.mp hy
   exact rm.2.2 p hp
  have hfr:=I.hok.fresh (zl s.heap.objs.size)
  have e2:(kvs.map fun p=>Dt.str p.1)=(kvs.map (·.1)).map Dt.str:=by rw[Zs];rfl
  refine⟨.ref s.heap.objs.size,_,I.laid (t':=tk) (a:=s.heap.objs.size) (o:=.lst ((kvs.map (·.1)).map V.str)) ext (zl _) ?_,rfl,q _ _ (bW hfr) (fun a ea=>by cases ea;exact hfr) ⟨_,_,rfl,bK,by rw[e2];exact Cq hy⟩⟩
  refine⟨by rw[zi,zi,<-rm.len];exact hz,acc.toList,c',zm z1,?_⟩
  rw[en]
 ·cases e
end
def hole (H:Hp) (a:Addr):Hp:=fun b=>if b=a then none else H b
theorem Qn {H:Hp} {a b:Addr} (h:b≠a):hole H a b=H b:=zw h
theorem Qo {H:Hp} {a:Addr}:hole H a a=none:=zo rfl
def ZQ:Bx->Bool
 |.z _=>true
 |_=>false
def spM (K:PySem.W.Frag) (n:Nat) (G:Addr->List (Str×Dt)->List Bx->Option (List (Str×Dt))):Sp:=fun vs H Q _=>vs.length=n+1/\∃ a ks kvs rest bs kvs',vs=.ref a::rest/\H a=some (.dK ks)/\gW K H kvs ks/\pB K H bs rest/\bs.all ZQ=true/\G a kvs bs=some kvs'/\∀ H' ks',Same (hole H a) H'->H' a=some (.dK ks')->gW K H' kvs' ks'->Q .non H'
def K7 (n:Nat) (g:Ev->Option Out):Addr->List (Str×Dt)->List Bx->Option (List (Str×Dt)):=fun a kvs bs=>(g ((Bx.m kvs (some a)::bs).map some++List.replicate (n - (bs.length+1)) none)).bind fun r=>match r with
 |.nx ρ=>match ρ[0]? with
  |some (some (Bx.m kvs' (some b)))=>if b=a then some kvs' else none
  |_=>none
 |_=>none
theorem N8 {n:Nat} {g:Ev->Option Out} {a:Addr} {kvs kvs':List (Str×Dt)} {bs:List Bx} (h:K7 n g a kvs bs=some kvs'):∃ ρ,g ((Bx.m kvs (some a)::bs).map some++List.replicate (n - (bs.length+1)) none)=some (.nx ρ)/\ρ[0]?=some (some (.m kvs' (some a))):=by
 obtain⟨r,er,h⟩:=bind_some h
 cases r with
 |nx ρ=>
  dsimp only at h
  split at h
  ·rename_i k b e
   split at h
   ·rename_i hb
    cases h
    subst hb
    exact⟨ρ,er,e⟩
   ·cases h
  ·cases h
 |rt _=>cases h
 |bk _=>cases h
 |ct _=>cases h
theorem CZ {α β:Type} {R:α->β->Prop}:∀ {xs:List α} {ys:List β},Paired R xs ys->∀ {i:Nat} {x:α},xs[i]?=some x->∃ y,ys[i]?=some y/\R x y
 |_,_,.nil,i,x,q=>by simp at q
 |_,_,.cons r _,0,x,q=>by simp at q;subst q;exact⟨_,rfl,r⟩
 |_,_,.cons _ t,i+1,x,q=>by
  rw[ZI] at q
  obtain⟨y,y1,y2⟩:=CZ t q
  exact⟨y,by rw[ZI];exact y1,y2⟩
theorem bU.startM {K:PySem.W.Frag} {H:Hp} {N:List Str} {bs:List Bx} {rest:List V} {a:Addr} {ks:List (Key×V)} {kvs:List (Str×Dt)} (ha:H a=some (.dK ks)) (rm:gW K H kvs ks) (r:pB K H bs rest) (hz:bs.all ZQ=true):bU K (hole H a) H (L2.start N (.ref a::rest)) ((Bx.m kvs (some a)::bs).map some++List.replicate (N.length - (bs.length+1)) none):=by
 have hl:bs.length=rest.length:=Paired.length r
 have r2:pB K H (.m kvs (some a)::bs) (.ref a::rest):=.cons ⟨a,ks,rfl,ha,rm,fun b h=>by cases h;rfl⟩ r
 have get:∀ (i:Nat) b,((Bx.m kvs (some a)::bs).map some++List.replicate (N.length - (bs.length+1)) none)[i]?=some (some b)->(Bx.m kvs (some a)::bs)[i]?=some b:=fun i b e=>by
  by_cases hi:i < (Bx.m kvs (some a)::bs).length
  ·rw[ZA (by simpa using hi),zS] at e
   cases q:(Bx.m kvs (some a)::bs)[i]? with
   |none=>rw[q] at e;cases e
   |some b'=>rw[q] at e;simpa using e
  ·rw[ZZ (by simp at hi ⊢;omega),QI] at e
   split at e<;>cases e
 have noz:∀ (i:Nat) b,((Bx.m kvs (some a)::bs).map some++List.replicate (N.length - (bs.length+1)) none)[i]?=some (some b)->i≠0->loose b=false:=fun i b e hi=>by
  have e2:=get i b e
  cases i with
  |zero=>exact absurd rfl hi
  |succ j=>
   rw[ZI] at e2
   have:=List.all_eq_true.mp hz b (ZY e2)
   cases b<;>first|rfl|cases this
 have ol:∀ c,ud c=true->loose c=true:=fun c hc=>by cases c<;>first|rfl|cases hc
 have zero:∀ (i:Nat) c,((Bx.m kvs (some a)::bs).map some++List.replicate (N.length - (bs.length+1)) none)[i]?=some (some c)->loose c=true->i=0:=fun i c e hc=>by
  by_cases hi:i=0
  ·exact hi
  ·rw[noz i c e hi] at hc;cases hc
 have st:∀ i v,(Value.ref a=Value.ref a)->(V.ref a::rest)[i]?=some v->(L2.start N (.ref a::rest))[i]?=some (some v):=fun i v _ e=>by
  have hi:i < (V.ref a::rest).length:=(List.getElem?_eq_some_iff.mp e).1
  unfold L2.start
  rw[ZA (by simpa using hi),zS,e];rfl
 refine⟨by unfold L2.start;simp[hl],fun i b e=>?_,fun i j c x b e1 ec _ e3 hb _=>?_,fun b o e=>?_,fun i c x e ec e2=>?_⟩
 ·obtain⟨v,e1,r1⟩:=CZ r2 (get i b e)
  exact⟨v,st i v rfl e1,r1⟩
 ·rw[zero i c e1 (ol c ec),zero j b e3 hb]
 ·by_cases hb:b=a
  ·subst hb;rw[Qo] at e;cases e
  ·rw[Qn hb] at e;exact e
 ·have hi:=zero i c e (ol c ec)
  subst hi
  rw[st 0 (.ref a) rfl rfl] at e2
  cases e2
  exact Qo
theorem afL {P:Program} {w:World} {K:PySem.W.Frag} {mg:Str->Option Value} {base:Heap} {x qual:Str} {st:Stmt} {f:Addr} {fd:FuncData} {N ps:List Str} {k n m:Nat} {g:Ev->Option Out} (F:yU K x qual st f fd) (S:dh N ps (aK st)) (hn:N.length=n) (hm:ps.length=m+1)
  (hbody:∀ (cdv:Value) (A:Around) (outer:List Env) (s:Shared) (H:Hp) (E:XK),m5 k (A.deeper (envOfC qual (aK st) s.heap.objs.size f cdv))->Rq (Ei m7 P w K mg base N qual (aK st) f cdv A outer s H E).S5 (cH st) g) :
  dG P w K mg base m7 (k+1) f fd ps (spM K m (K7 n g)):=by
 subst hn
 refine F.ok S (fun vs H Q E h=>by rw[hm];exact h.1) fun cdv A outer s H vs Q E hr h=>?_
 obtain⟨hl,a,ks,kvs,rest,bs,kvs',rfl,ha,rm,rb,hz,e,q⟩:=h
 refine⟨_,(hbody cdv A outer s H E hr).run,?_⟩
 obtain⟨ρ,er,e0⟩:=N8 e
 refine⟨hole H a,_,_,bU.startM ha rm rb hz,er,?_⟩
 intro σ' H' E'
 obtain⟨v,ev,b,ks',rfl,hb,rm',tie⟩:=E'.val 0 _ e0
 have:=tie a rfl
 subst this
 exact q H' ks' E'.base hb rm'
open Classical in
noncomputable def Dc (i n:Nat) (G:Addr->List (Str×Dt)->List Bx->Option (List (Str×Dt))) (fs:Ev->Option (List Bx)):Ev->Option Out:=fun ρ=>match ρ[i]? with
 |some (some (.m kvs w))=>(fs ρ).bind fun bs=>if h:bs.length=n/\bs.all ZQ=true/\∃ kvs',∀ a,G a kvs bs=some kvs' then some (.nx (ρ.set i (some (.m (Classical.choose h.2.2) w)))) else none
 |_=>none
theorem Oa {i n:Nat} {G:Addr->List (Str×Dt)->List Bx->Option (List (Str×Dt))} {fs:Ev->Option (List Bx)} {ρ:Ev} {r:Out} (h:Dc i n G fs ρ=some r):∃ kvs w bs kvs',ρ[i]?=some (some (.m kvs w))/\fs ρ=some bs/\bs.length=n/\bs.all ZQ=true/\(∀ a,G a kvs bs=some kvs')/\r=.nx (ρ.set i (some (.m kvs' w))):=by
 unfold Dc at h
 split at h
 ·rename_i kvs w e
  obtain⟨bs,eb,h⟩:=bind_some h
  split at h
  ·rename_i hh
   cases h
   exact⟨kvs,w,bs,_,e,eb,hh.1,hh.2.1,Classical.choose_spec hh.2.2,rfl⟩
  ·cases h
 ·cases h
theorem Vn {i n:Nat} {G:Addr->List (Str×Dt)->List Bx->Option (List (Str×Dt))} {fs:Ev->Option (List Bx)} {ρ:Ev} {kvs kvs':List (Str×Dt)} {w:Option Addr} {bs:List Bx} (e:ρ[i]?=some (some (.m kvs w))) (eb:fs ρ=some bs) (hl:bs.length=n) (hz:bs.all ZQ=true) (hG:∀ a,G a kvs bs=some kvs'):Dc i n G fs ρ=some (.nx (ρ.set i (some (.m kvs' w)))):=by
 unfold Dc
 rw[e]
 simp only[eb,afN]
 have hh:bs.length=n/\bs.all ZQ=true/\∃ kvs',∀ a,G a kvs bs=some kvs':=⟨hl,hz,kvs',hG⟩
 rw[dif_pos hh]
 have:=Classical.choose_spec hh.2.2 0
 rw[hG 0] at this
 injection this with this
 rw[<-this]
where afN {α β:Type} (a:α) (f:α->Option β):(some a).bind f=f a:=rfl
theorem bU.adO {K:PySem.W.Frag} {H0 H H':Hp} {σ:L2.St} {ρ:Ev} {i:Nat} {a:Addr} {kvs kvs':List (Str×Dt)} {w:Option Addr} {ks ks':List (Key×V)} (E:bU K H0 H σ ρ) (h:ρ[i]?=some (some (.m kvs w))) (hs:σ[i]?=some (some (.ref a))) (ha:H a=some (.dK ks)) (sm:Same (hole H a) H') (ha':H' a=some (.dK ks')) (rm:gW K H' kvs' ks') (tie:∀ b,w=some b->b=a) :
  bU K H0 H' σ (ρ.set i (some (.m kvs' w))):=by
 have hi:i < ρ.length:=(List.getElem?_eq_some_iff.mp h).1
 have hb:H0 a=none:=E.new i _ a h rfl hs
 have sn:∀ b u,b≠a->H b=some u->H' b=some u:=fun b u hne e=>sm b u (by rw[Qn hne];exact e)
 have kp:Kp H H':=⟨fun b xs e=>sn b _ (pA e ha (by intro z;cases z)) e,fun b ob u e=>sn b _ (pA e ha (by intro z;cases z)) e⟩
 refine⟨by rw[ky];exact E.len,fun j b' e=>?_,fun j k' c a' b' e1 ec e2 e3 e4 e5=>?_,fun c o e=>?_,fun j c a' e1 ec e2=>?_⟩
 ·rcases getset e with⟨rfl,e',_⟩|⟨hne,e'⟩
  ·cases e'
   exact⟨_,hs,a,ks',rfl,ha',rm,tie⟩
  ·obtain⟨v,e1,r'⟩:=E.val j b' e'
   refine⟨v,e1,?_⟩
   have away:∀ a',v=.ref a'->loose b'=true->a'≠a:=fun a' ev hl z=>by
    subst z
    exact hne (E.own i j _ _ _ h rfl hs e' hl (by rw[e1,ev])).symm
   cases b' with
   |z d=>exact Rep.kp kp r'
   |l ds'=>
    obtain⟨a',vs',rfl,q,rr⟩:=r'
    have hn:=away a' rfl rfl
    exact⟨a',vs',rfl,q.imp (sn _ _ hn) fun ⟨o,q⟩=>⟨o,sn _ _ hn q⟩,rr.kp kp⟩
   |o ds'=>
    obtain⟨a',vs',rfl,q,rr⟩:=r'
    exact⟨a',vs',rfl,sn _ _ (away a' rfl rfl) q,rr.kp kp⟩
   |n ds'=>
    obtain⟨a',vs',rfl,q,rr⟩:=r'
    have hn:=away a' rfl rfl
    exact⟨a',vs',rfl,q.imp (sn _ _ hn) fun ⟨o,q⟩=>⟨o,sn _ _ hn q⟩,rr.kp kp⟩
   |m ds' _=>
    obtain⟨a',vs',rfl,q,rr,tt⟩:=r'
    exact⟨a',vs',rfl,sn _ _ (away a' rfl rfl) q,rr.kp kp,tt⟩
 ·have back:∀ {j:Nat} {c:Bx},(ρ.set i (some (.m kvs' w)))[j]?=some (some c)->∃ c',ρ[j]?=some (some c')/\(ud c=true->ud c'=true)/\(loose c=true->loose c'=true):=fun {j c} e=>by
   rcases getset e with⟨rfl,e',_⟩|⟨_,e'⟩
   ·exact⟨_,h,fun _=>rfl,fun _=>rfl⟩
   ·exact⟨c,e',id,id⟩
  obtain⟨c',p1,p2,_⟩:=back e1
  obtain⟨b2,q1,_,q3⟩:=back e3
  exact E.own j k' c' a' b2 p1 (p2 ec) e2 q1 (q3 e4) e5
 ·have e2:=E.base c o e
  exact sn c o (fun z=>by subst z;rw[hb] at e;cases e) e2
 ·rcases getset e1 with⟨rfl,e',_⟩|⟨_,e'⟩
  ·exact E.new _ _ a' h rfl e2
  ·exact E.new j c a' e' ec e2
section
variable {X:Cx} {e:Expr} {es:List Expr} {fs:Ev->Option (List Bx)} {p px pos spos:Pos} {x y:Str} {k n:Nat} {f:Addr} {fd:FuncData} {ps:List Str} {G:Addr->List (Str×Dt)->List Bx->Option (List (Str×Dt))}
theorem YC (i:Nat) (F:dG X.prog X.w X.K X.mg X.base m7 k f fd ps (spM X.K n G)) (hr:m5 k X.A) (hg:Gl X x) (hm:X.mg x=some (.ref f)) (hk:PySem.W.keepIn X.K (.ref f)=true) (hb:Binds X.K fd ps [])
  (ha:T5 X es fs) (hN:X.N[i]?=some y:=by rfl) (hv:Ww X.env.scope y:=by first|exact kQ rfl|exact Jn (kQ rfl)|exact Jn (Jn rfl)) (hd:(y==("__debug__" : Str))=false:=by decide)
  (hcd:(y==("__classdict__" : Str))=false:=by decide) (hdb:(x==("__debug__" : Str))=false:=by decide) (he:starEach (.Name y px::es) X.env=(false,eval (.Name y px) X.env)::starEach es X.env:=by rfl) (hpl:(backTo pos (starEach es X.env)).any (·.1)=false:=by rfl) (hs:swapsWith (.Call (.Name x p) (.Name y px::es) [] pos) none spos.line X.env=pure false:=by rfl) :
  Rp X (.Expr (.Call (.Name x p) (.Name y px::es) [] pos) spos) (Dc i n G fs):=⟨T6 (O7 (Pb F hr hg hm hk hb .nil ZD (rR (wF (i:=i) hN hv hd hcd) ha.run he) hdb he hpl) hs) fun D σ H h=>by
 obtain⟨H0,ρ,r,E,e,q⟩:=h
 obtain⟨kvs,w,bs,kvs',hρ,eb,hl,hz,hG,rfl⟩:=Oa e
 obtain⟨v,e1,a,ks,rfl,haa,rm,tie⟩:=E.val i _ hρ
 refine⟨_,e1,H0,ρ,bs,E,eb,fun vs H1 s1 r1=>?_⟩
 have ha1:=s1 _ _ haa
 refine⟨by simp only[jS,qk];rw[<-Paired.length r1,hl],a,ks,kvs,vs,bs,kvs',by simp,ha1,rm.kp (.of s1),r1,hz,hG a,fun H' ks' sm hk' rm'=>?_⟩
 exact q σ H' ((E.grow s1).adO hρ e1 ha1 sm hk' rm' tie)⟩
end
def Tc:Option Bool->Bool
 |some true=>true
 |_=>false
def R5 (x:Dt) (ys:List Dt):Option Bool:=if (ys.all fun y=>(vI y x).isSome&&decide (min (vA y) (vA x)<=60))=true then some (ys.any fun y=>Tc (vI y x)) else none
def inX (a b:Bx):Option Bx:=match a with
 |.z d=>(uw b).bind fun ys=>(R5 d ys).bind fun k=>some (.z (.bl k))
 |_=>none
def Vo (a b:Bx):Option Bx:=match a with
 |.z d=>(uw b).bind fun ys=>(R5 d ys).bind fun k=>some (.z (.bl (!k)))
 |_=>none
section
variable {X:Cx} {pins:List (Addr×Obj)} {σ:L2.St} {H:Hp} {s:Shared}
theorem Il (I:L2.Inv X pins σ H s) (hu:X.A.units+100 < cLine) {d:Dt} {x:V} {u:Value} (rx:Rep X.K H d x) (ru:RelV x u) {ys:List Dt} {vs:List V} {its:List Value} (rs:aJ X.K H ys vs) (rv:Vals vs its) {k:Bool} (hk:R5 d ys=some k) :
  ∃ e:Value->Bool,(∀ y,y∈its->SeqAt.EqAt X.A.in1 s y u (e y))/\its.any e=k:=by
 unfold R5 at hk
 split at hk
 ·rename_i hall
  injection hk with hk
  rw[QA] at hall
  have at_:∀ (i:Nat) y,its[i]?=some y->∃ c,ys[i]?=some c/\SeqAt.EqAt X.A.in1 s y u (Tc (vI c d)):=fun i y hy=>by
   have hl:=rv.length
   have hl2:=rs.length
   have hi:i < its.length:=(List.getElem?_eq_some_iff.mp hy).1
   have hi':i < ys.length:=by omega
   obtain⟨v,ev,r1⟩:=rs.get (show ys[i]?=some ys[i] by simp[hi'])
   obtain⟨y',ey,r2⟩:=rv.get ev
   rw[hy] at ey
   cases ey
   refine⟨ys[i],by simp[hi'],?_⟩
   have hc:=hall ys[i] (y3 hi')
   rw[ZN] at hc
   obtain⟨b,hb⟩:=Option.isSome_iff_exists.mp hc.1
   have:=Ul I 60 (A:=X.A.in1) (ja hc.2) (by rw[units_in1];omega) r1 rx r2 ru hb
   rw[hb]
   cases b<;>exact this
  classical
  refine⟨fun y=>decide (∃ (i:Nat) (c:Dt),its[i]?=some y/\ys[i]?=some c/\Tc (vI c d)=true),fun y hy=>?_,?_⟩
  ·dsimp only
   by_cases q:∃ (i:Nat) (c:Dt),its[i]?=some y/\ys[i]?=some c/\Tc (vI c d)=true
   ·rw[Zl q]
    obtain⟨i,c,h1,h2,h3⟩:=q
    obtain⟨c',e1,e2⟩:=at_ i y h1
    rw[h2] at e1
    cases e1
    rw[h3] at e2
    exact e2
   ·rw[qc q]
    obtain⟨i,hi,ei⟩:=qq hy
    have h1:its[i]?=some y:=by rw[zz hi,ei]
    obtain⟨c,e1,e2⟩:=at_ i y h1
    have:Tc (vI c d)=false:=by
     cases hq:Tc (vI c d) with
     |false=>rfl
     |true=>exact absurd ⟨i,c,h1,e1,hq⟩ q
    rw[this] at e2
    exact e2
  ·rw[<-hk,kP,kf,kf]
   constructor
   ·rintro⟨y,hy,h⟩
    obtain⟨i,c,h1,h2,h3⟩:=ja h
    exact⟨c,ZY h2,h3⟩
   ·rintro⟨c,hc,h3⟩
    obtain⟨i,hi,ei⟩:=qq hc
    have hl:=rv.length
    have hl2:=rs.length
    have hi':i < its.length:=by omega
    exact⟨its[i],y3 hi',Zl ⟨i,c,by simp[hi'],by rw[zz hi,ei],h3⟩⟩
 ·cases hk
theorem Vp (hu:X.A.units+100 < cLine):Hv X (compareOp .In) inX:=by
 intro pins s σ H x y v u Q I rx ry h
 obtain⟨a,b,c,ra,rb,e,q⟩:=h
 unfold inX at e
 split at e
 ·rename_i d
  obtain⟨ys,ey,e⟩:=bind_some e
  obtain⟨k,ek,e⟩:=bind_some e
  cases e
  obtain⟨p,vs,rfl,sq,rs⟩:=Bu rb ey
  cases ry
  rcases sq with sq|sq
  ·obtain⟨its,r',pl,hz⟩:=I.list sq
   obtain⟨f,f1,f2⟩:=Il I hu ra rx rs r' ek
   refine SeqAt.in_listAt f pl.isList (fun w hw=>f1 w (by simpa using hw)) ⟨.bl k,H,I,by rw[show its.toArray.any f=its.any f by simp,f2];rfl,q _ H (Same.refl H) trivial (by simp only[bA,Rep])⟩
  ·obtain⟨its,r',pl,hz⟩:=I.tuple sq
   obtain⟨f,f1,f2⟩:=Il I hu ra rx rs r' ek
   refine SeqAt.in_tupleAt f pl (fun w hw=>f1 w (by simpa using hw)) ⟨.bl k,H,I,by rw[show its.toArray.any f=its.any f by simp,f2];rfl,q _ H (Same.refl H) trivial (by simp only[bA,Rep])⟩
 ·cases e
theorem YD (hu:X.A.units+100 < cLine):Hv X (compareOp .NotIn) Vo:=by
 intro pins s σ H x y v u Q I rx ry h
 obtain⟨a,b,c,ra,rb,e,q⟩:=h
 unfold Vo at e
 split at e
 ·rename_i d
  obtain⟨ys,ey,e⟩:=bind_some e
  obtain⟨k,ek,e⟩:=bind_some e
  cases e
  obtain⟨p,vs,rfl,sq,rs⟩:=Bu rb ey
  cases ry
  rcases sq with sq|sq
  ·obtain⟨its,r',pl,hz⟩:=I.list sq
   obtain⟨f,f1,f2⟩:=Il I hu ra rx rs r' ek
   refine SeqAt.notIn_listAt f pl.isList (fun w hw=>f1 w (by simpa using hw)) ⟨.bl (!k),H,I,by rw[show its.toArray.any f=its.any f by simp,f2];rfl,q _ H (Same.refl H) trivial (by simp only[bA,Rep])⟩
  ·obtain⟨its,r',pl,hz⟩:=I.tuple sq
   obtain⟨f,f1,f2⟩:=Il I hu ra rx rs r' ek
   refine SeqAt.notIn_tupleAt f pl (fun w hw=>f1 w (by simpa using hw)) ⟨.bl (!k),H,I,by rw[show its.toArray.any f=its.any f by simp,f2];rfl,q _ H (Same.refl H) trivial (by simp only[bA,Rep])⟩
 ·cases e
end
section
variable {X:Cx} {g:Ev->Option Out} {st:List Stmt} {i:Nat}
def abH (i:Nat) (ρ:Ev):Option Ev:=match ρ[i]? with
 |some (some (.o ds))=>some (ρ.set i (some (.z (.lst ds))))
 |_=>none
def Vq (i:Nat) (g:Ev->Option Out):Ev->Option Out:=fun ρ=>(abH i ρ).bind g
theorem abI (h:QZ X st g):QZ X st (Vq i g):=by
 intro pins s σ H D I q
 obtain⟨H0,ρ,r,E,e,f⟩:=q
 obtain⟨ρ',e1,e2⟩:=bind_some e
 unfold abH at e1
 split at e1
 ·rename_i ds hr
  cases e1
  obtain⟨v,hv,a,vs,rfl,ha,rs⟩:=E.val i _ hr
  obtain⟨o,I2⟩:=Ca I ha
  have kp:Kp H (upd H a (.rO o (.lst vs))):=.lst ha
  refine h pins s σ _ D I2 ⟨H0,_,r,E.aa3 hr rfl hv kp ?_,e2,f⟩
  simp only[bA,Rep]
  exact⟨a,vs,rfl,.inl ⟨o,bK⟩,rs.kp kp⟩
 ·cases e1
theorem wQ (h:Rq X st g):Rq X st (Vq i g):=⟨abI h.run⟩
end
open AutoSeq1 (wpAny_loadPart')
open SeqAt
theorem Ob {M:Model} {A:Around} {E:Value->Shared->Prop} {s:Shared} {β:Type} {n:Nat} (f:Nat->β->Sem (ForInStep β)) (I:Nat->β->Shared->Prop) (Q:β->Shared->Prop)
  (go:∀ i b s,i < n->I i b s->wpAny M A (f i b) (fun r s'=>match r with|.yield b'=>I (i+1) b' s'|.done b'=>Q b' s') E s) (nd:∀ b s,I n b s->Q b s) (b:β) (h0:I 0 b s):wpAny M A (forIn [0:n] b f) Q E s:=by
 rw[Std.Legacy.Range.forIn_eq_forIn_range']
 refine yB f (fun rest b s=>∃ i,i<=n/\rest=List.range' i (n - i) 1/\I i b s) Q ?_ ?_ _ b ?_
 ·rintro x rest b s ⟨i,hi,e,h⟩
  have hlt:i < n:=by
   apply Decidable.byContradiction
   intro hge
   have:n - i=0:=by omega
   rw[this] at e
   cases e
  rw[show n - i=(n - (i+1))+1 by omega,List.range'_succ] at e
  injection e with e1 e2
  subst e1
  refine qB (go x b s hlt h) (fun r s' q=>?_) fun _ _ z=>z
  cases r with
  |yield b'=>exact⟨x+1,by omega,e2,q⟩
  |done b'=>exact q
 ·rintro b s ⟨i,hi,e,h⟩
  have:i=n:=by
   apply Decidable.byContradiction
   intro hne
   rw[show n - i=(n - (i+1))+1 by omega,List.range'_succ] at e
   cases e
  subst this
  exact nd b s h
 ·refine⟨0,qA _,?_,h0⟩
  simp[Std.Legacy.Range.size]
theorem Ew (l:Addr) (its:Array Value) (n:Nat) (dd:Option Addr) (sl:Array (Option Value)) (x:Value) (e:Nat->Bool) (j:Nat) (hj:j < its.size) (hit:e j=true) (hno:∀ m,m < j->e m=false) :
  Meets (Builtin.«tuple.index» ⟨[.ref l,x],[]⟩) (fun A R s=>s.heap.get? l=some { cls:=.type "tuple", dict:=dd,data:=.seq its n,slots:=sl }/\(∀ i (h:i < its.size),EqAt A.in1 s its[i] x (e i))/\R (.ok (.ret (.int j s.toks))) { s with toks:=s.toks+1 }):=
 .of_wp fun prog w A R s h=>by
  obtain⟨hp,g,d,tk,os⟩:=s;obtain⟨hl,he,h⟩:=h
  wp_walk using wpAny_loadPart' hl,Ob _ (fun i b s'=>i<=j/\b.1=none/\s'=⟨hp,g,d,tk,os⟩) _
  case go=>
   rintro i ⟨b1,b2⟩ s' hi ⟨hij,hb,rfl⟩
   have hi:i < its.size:=by omega
   have hget:its[i]?=some its[i]:=by simp[hi]
   rw[hget]
   refine zb (he i hi prog w _ _ ?_)
   by_cases hq:i=j
   ·subst hq
    rw[hit]
    wp_walk
    exact⟨_,rfl,h⟩
   ·rw[hno i (by omega)]
    wp_walk
    exact⟨by omega,rfl,rfl⟩
  case nd=>
   rintro⟨b1,b2⟩ s' ⟨hij,_,_⟩
   omega
  case h0=>exact⟨qA _,rfl,rfl⟩
section
variable {X:Cx} {pins:List (Addr×Obj)} {σ:L2.St} {H:Hp} {s:Shared}
theorem adP (I:L2.Inv X pins σ H s) {a:Addr} {xs:List V} (h:vH X.K H a xs):∃ its:List Value,Vals xs its/\rP s.heap a its.toArray:=by
 rcases h with h|⟨o,its,n,hk,hc,hs,hz,r⟩
 ·obtain⟨z,its,r,p⟩:=h.ok I.hok
  exact⟨its,r,p⟩
 ·exact⟨its.toList,r,o,I.kIn a o hk,hc.1,⟨n,by simpa using hs⟩,hc.2⟩
def Vr (d:Dt) (ys:List Dt):Option Nat:=if (ys.all fun y=>(vI y d).isSome&&decide (min (vA y) (vA d)<=60))=true then ys.findIdx? (fun y=>Tc (vI y d)) else none
def R6:Bx->Bx->Option Bx
 |.z (.tup ys),.z d=>(Vr d ys).bind fun j=>some (.z (.int j))
 |_,_=>none
theorem YF (I:L2.Inv X pins σ H s) (hu:X.A.units+100 < cLine) {d:Dt} {x:V} {u:Value} (rx:Rep X.K H d x) (ru:RelV x u) {ys:List Dt} {vs:List V} {its:List Value} (rs:aJ X.K H ys vs) (rv:Vals vs its) {j:Nat} (hk:Vr d ys=some j) :
  ∃ e:Nat->Bool,(∀ i (h:i < its.length),SeqAt.EqAt X.A.in1 s its[i] u (e i))/\j < its.length/\e j=true/\∀ m,m < j->e m=false:=by
 have hl:=rv.length
 have hl2:=rs.length
 unfold Vr at hk
 split at hk
 ·rename_i hall
  rw[QA] at hall
  refine⟨fun i=>match ys[i]? with|some c=>Tc (vI c d)|none=>false,fun i hi=>?_,?_⟩
  ·have hi':i < ys.length:=by omega
   obtain⟨v,ev,r1⟩:=rs.get (show ys[i]?=some ys[i] by simp[hi'])
   obtain⟨y',ey,r2⟩:=rv.get ev
   rw[zz hi] at ey
   cases ey
   have hc:=hall ys[i] (y3 hi')
   rw[ZN] at hc
   obtain⟨b,hb⟩:=Option.isSome_iff_exists.mp hc.1
   have:=Ul I 60 (A:=X.A.in1) (ja hc.2) (by rw[units_in1];omega) r1 rx r2 ru hb
   dsimp only
   rw[zz hi']
   dsimp only
   rw[hb]
   cases b<;>exact this
  ·rw[List.findIdx?_eq_some_iff_getElem] at hk
   obtain⟨h1,h2,h3⟩:=hk
   refine⟨by omega,?_,fun m hm=>?_⟩
   ·dsimp only;rw[zz h1];exact h2
   ·have hm':m < ys.length:=by omega
    dsimp only
    rw[zz hm']
    have:=h3 m hm
    simpa using this
 ·cases hk
end
section
variable {X:Cx} {o e:Expr} {fo fx:Ev->Option Bx}
theorem Vs {apos cpos:Pos} (hu:X.A.units+100 < cLine) (ho:PV X o fo) (hx:PV X e fx) (hbase:attributeBase o "index" X.env (eval o X.env)=eval o X.env:=by rfl)
  (hfew:((backTo cpos (starEach [e] X.env)).all (fun x=>!x.1)&&(backToKw cpos (keywordEach [] X.env)).all (fun x=>x.1.isSome)&&decide ([e].length+([]:List Keyword).length+(if ([]:List Keyword).isEmpty then 0 else 1) < 30))=true:=by rfl)
  (hline:(apos.endLine==cpos.line)=true:=by rfl) (hs:starEach [e] X.env=(false,eval e X.env)::starEach [] X.env:=by rfl) (hplain:(backTo cpos (starEach [] X.env)).any (·.1)=false:=by rfl):PV X (.Call (.Attribute o "index" apos) [e] [] cpos) (b2 R6 fo fx):=by
 intro pins s σ H Q I q
 obtain⟨H0,ρ,b,E,eq,q⟩:=q
 obtain⟨bo,eo,eq⟩:=bind_some eq
 obtain⟨bx,ex,eq⟩:=bind_some eq
 unfold R6 at eq
 split at eq
 ·rename_i ys d _
  obtain⟨j,ej,eq⟩:=bind_some eq
  cases eq
  refine wpAny_Call_method_late hbase hfew hline rfl (mC (ho pins s σ H (fun v H1=>Same H H1/\bA X.K H1 (.z (.tup ys)) v) I ⟨H0,ρ,_,E,eo,fun v H' s' n' r'=>⟨s',r'⟩⟩) fun v s1 hq=>?_)
  obtain⟨x,H1,I1,r1,sm,rb⟩:=hq
  simp only[bA,Rep] at rb
  obtain⟨a,vs,rfl,sq,rs⟩:=rb
  cases r1
  obtain⟨ajg,_,o1,g1,c1,_,d1⟩:=adP I1 sq
  refine⟨"tuple", "tuple.index", F.plainAttrs_tuple,F.slot_tuple_index,F.type_tuple_index,⟨o1,g1,c1⟩,fun a' z=>?_,?_⟩
  ·cases z
   exact⟨o1,g1,d1⟩
  have hA:=BZ hx Hx hs cpos pins s1 σ H1 (fun xs H2=>Same H1 H2/\pB X.K H2 [.z d] xs) I1 ⟨H0,ρ,[.z d],E.grow sm,by simp only[aq,ex,yT,aG],fun vs H2 s2 r2=>⟨s2,r2⟩⟩
  rw[hs] at hA ⊢
  refine Calls.callWith_builtin (by show (false||(backTo cpos (starEach [] X.env)).any (·.1))=false;rw[hplain]<;>rfl) (Calls.evalArgs_plain ?_)
  refine mC hA fun us s2 hq=>?_
  obtain⟨xs,H2,I2,r2,s2',rbs⟩:=hq
  obtain⟨w,rfl,rw1⟩:=rep1 rbs
  obtain⟨u,rfl,ru⟩:=vals1 r2
  have Aq:vH X.K H2 a vs:=Kp.sqT (.of s2') sq
  obtain⟨its,r',⟨cls,dd,data,sl⟩,g2,c2,⟨n,dt⟩,_⟩:=adP I2 Aq
  simp only at c2 dt
  subst c2 dt
  obtain⟨f,f1,f2,f3,f4⟩:=YF I2 hu (by simpa only[bA] using rw1) ru (rs.kp (.of s2')) r' ej
  exact call_meets F.slot_tuple_index ⟨_,g2,rfl⟩ F.entry_tuple_index (F.args_tuple_index_2 _ _) (Ew a its.toArray n dd sl u f j (by simpa using f2) f3 f4) ⟨g2,fun i h=>by simpa using f1 i (by simpa using h),⟨.int j,H2,I2.tok _,⟨_,rfl⟩,q _ H2 (sm.trans s2') trivial (by simp only[bA,Rep])⟩⟩
 ·cases eq
theorem Vt {apos cpos:Pos} (hu:X.A.units+100 < cLine) (ho:QV X o fo) (hx:QV X e fx) (hbase:attributeBase o "index" X.env (eval o X.env)=eval o X.env:=by rfl)
  (hfew:((backTo cpos (starEach [e] X.env)).all (fun x=>!x.1)&&(backToKw cpos (keywordEach [] X.env)).all (fun x=>x.1.isSome)&&decide ([e].length+([]:List Keyword).length+(if ([]:List Keyword).isEmpty then 0 else 1) < 30))=true:=by rfl)
  (hline:(apos.endLine==cpos.line)=true:=by rfl) (hs:starEach [e] X.env=(false,eval e X.env)::starEach [] X.env:=by rfl) (hplain:(backTo cpos (starEach [] X.env)).any (·.1)=false:=by rfl):QV X (.Call (.Attribute o "index" apos) [e] [] cpos) (b2 R6 fo fx):=
 ⟨Vs (hu:=hu) (ho:=ho.run) (hx:=hx.run) (hbase:=hbase) (hfew:=hfew) (hline:=hline) (hs:=hs) (hplain:=hplain)⟩
end
section
variable {X:Cx} {c:Expr} {body:List Stmt} {t:Ev->Option Bool} {g:Ev->Option Out} {pos:Pos}
end
section
variable {X:Cx} {pins:List (Addr×Obj)} {σ:L2.St} {H:Hp} {s:Shared} {h':Heap}
end
section
variable {X:Cx} {elts:List Expr} {x1:Nat} {tpos p pos:Pos} {e:Expr} {fs:Ev->Option (List Bx)}
end
section
variable {X:Cx} {e:Expr} {f:Ev->Option Bx} {pos:Pos}
end
section
variable {X:Cx} {e:Expr} {f:Ev->Option Bx} {pos:Pos}
end
section
variable {X:Cx}
def GD:List Dt->Option (List Int)
 |[]=>some []
 |.int k::r=>(GD r).bind fun ks=>some (k::ks)
 |_=>none
theorem Dd {K:PySem.W.Frag} {H:Hp}:∀ {ds:List Dt} {ks:List Int} {vs:List V} {its:List Value},GD ds=some ks->aJ K H ds vs->Vals vs its->its.length=ks.length/\∀ i v,its[i]?=some v->∃ t,v=Value.int (ks.getD i 0) t
 |[],ks,vs,its,e,r,w=>by
  cases e
  simp only[aJ] at r
  subst r
  cases w
  exact⟨rfl,fun i v h=>by simp at h⟩
 |d::ds,ks,vs,its,e,r,w=>by
  cases d with
  |int k=>
   simp only[GD] at e
   obtain⟨ks',e1,e2⟩:=bind_some e
   cases e2
   obtain⟨v',r',rfl,q,t⟩:∃ v' r',vs=v'::r'/\Rep K H (.int k) v'/\aJ K H ds r':=by
    simpa only[aJ] using r
   have hv:v'=.int k:=by simpa only[Rep] using q
   subst hv
   cases w with
   |cons rv w'=>
    obtain⟨t0,rfl⟩:=rv
    obtain⟨l1,l2⟩:=Dd e1 t w'
    refine⟨by simp[l1],fun i v h=>?_⟩
    cases i with
    |zero=>simp at h;exact⟨t0,h.symm⟩
    |succ i=>simpa using l2 i v (by simpa using h)
  |_=>cases e
end
section
variable {X:Cx} {e:Expr} {f:Ev->Option Bx} {pos:Pos}
end
section
variable {X:Cx} {e ek ev:Expr} {f fk fv:Ev->Option Bx} {pos:Pos} {st:Stmt}
end
section
variable {X:Cx} {e st:Expr} {f fs:Ev->Option Bx} {pos p2:Pos}
end
section
variable {prog:Program} {w:World} {A:Around} {E:Value->Shared->Prop} {s:Shared}
theorem Vu {it t:Addr} {i:Nat} {xs:Array Value} {x:Value} {Q:Value->Shared->Prop} (hi:s.heap.IsTupleIter it t i) (ht:s.heap.IsTuple t xs) (hx:xs[i]?=some x)
  (hQ:∀ h',h'.IsTupleIter it t (i+1)->Heap.SameBut it s.heap h'->Q x { s with heap:=h' }):wpAny (model prog w) A (Builtin.SmallTypes.nextOf (.ref it)) Q E s:=by
 obtain⟨o,ho,hc,hd⟩:=id hi
 obtain⟨p,hp,_,n,hn⟩:=ht
 unfold Builtin.SmallTypes.nextOf
 refine zb (QE (name:=Str.ofString "__next__") hi.typeIs kF (qv kF hi.typeIs F.entry_tuple_iterator_next ?_ (F.args_tuple_iterator_next_1 _)))
 show wpAny _ _ (field (.ref it) 0 >>= _) _ _ s;refine zb (qS ho hd (x:=.ref t) rfl ?_)
 show wpAny _ _ (if (Value.ref t==Value.none)=true then _ else _) _ _ s;rw[zw (show ¬ ((Value.ref t==Value.none)=true) from z5)]
 show wpAny _ _ (field (.ref it) 1 >>= _) _ _ s;refine zb (qS ho hd (x:=.int i 0) rfl ?_)
 show wpAny _ _ (seqItems? (.ref t) >>= _) _ _ s;refine zb (QU hp hn ?_)
 simp only[kC,hx];refine zb (wpAny_setField ho hd (by simp) (ze ⟨x,rfl,ze (hQ _ ?_ (KU ..))⟩))
 exact⟨_,kB _ ho (Obj.isFreed_of_fields (ki hd _)),(Obj.cls_mapFields ..).trans hc,by rw[ki hd];simp[rawInt]⟩
theorem Dg {it t:Addr} {i:Nat} {xs:Array Value} {Q:Value->Shared->Prop} (hh:A.handled=none) (hi:s.heap.IsTupleIter it t i) (ht:s.heap.IsTuple t xs) (hx:xs[i]?=none)
  (hE:∀ h' e,Heap.ExtBut it s.heap h'->(∃ o,h'.get? e=some o/\o.cls=.type "StopIteration")->E (.ref e) { s with heap:=h' }):wpAny (model prog w) A (Builtin.SmallTypes.nextOf (.ref it)) Q E s:=by
 obtain⟨o,ho,hc,hd⟩:=id hi
 obtain⟨p,hp,_,n,hn⟩:=ht
 unfold Builtin.SmallTypes.nextOf
 refine zb (QE (name:=Str.ofString "__next__") hi.typeIs kF (qv kF hi.typeIs F.entry_tuple_iterator_next ?_ (F.args_tuple_iterator_next_1 _)))
 show wpAny _ _ (field (.ref it) 0 >>= _) _ _ s;refine zb (qS ho hd (x:=.ref t) rfl ?_)
 show wpAny _ _ (if (Value.ref t==Value.none)=true then _ else _) _ _ s;rw[zw (show ¬ ((Value.ref t==Value.none)=true) from z5)]
 show wpAny _ _ (field (.ref it) 1 >>= _) _ _ s;refine zb (qS ho hd (x:=.int i 0) rfl ?_)
 show wpAny _ _ (seqItems? (.ref t) >>= _) _ _ s;refine zb (QU hp hn ?_)
 simp only[kC,hx];refine zb (kD (zb (wpAny_setField ho hd (by simp) ?_)))
 show wpAny _ _ (newExc (.type "StopIteration") [] >>= _) _ _ _;refine zb ?_
 simp only[newExc,newTuple];refine zb (Z3 ?_ (by size_fits))
 refine zb (m:=firstArgMember _ _) (wpAny_of_eq (a:=Value.none) (by first|rfl|(simp only[firstArgMember];rfl)) ?_);refine Z3 ?_ (by size_fits)
 simp only[raiseNew];refine zb (wpAny_handled ?_)
 first|rw[show A.in1.handled=none from hh]|rw[hh]
 refine zb (ze (wpAny_throw ?_));exact hE _ _ (((KU ..).extBut.push _).push _) ⟨_,zt _ rfl,rfl⟩
end
def qm (h:Heap) (z TI TO:Addr) (f0 f1:Value):Prop:=h.get? z=some { cls:=.type "zip", dict:=none,data:=.fields #[f0,f1,.bool false,.ref TI,.ref TO],slots:=#[] }
structure Dh (h:Heap) (n t l k:Nat):Prop where
 z:(qm h (n+4) (n+2) (n+3) .none (.bool false))\/∃ (T:Nat) (f1:Value),qm h (n+4) (n+2) (n+3) (rawInt T) f1/\(f1=.bool false\/f1=.bool true)/\n+5<=T/\∃ o,h.get? T=some o
 TI:IsPair h (n+2) (.ref n) (.ref (n+1))
 TO:∃ a b,IsPair h (n+3) a b
 i1:h.IsTupleIter n t k
 i2:h.IsListIter (n+1) l k
section
variable {prog:Program} {w:World} {A:Around} {E:Value->Shared->Prop} {s:Shared}
theorem abJ {t l:Addr} {xs ys:Array Value} {Q:Value->Shared->Prop} (ht:s.heap.IsTuple t xs) (hl:s.heap.IsList l ys)
  (h:∀ h',Dh h' s.heap.objs.size t l 0->h'.objs.size=s.heap.objs.size+5->(∀ c o,s.heap.get? c=some o->h'.get? c=some o)->Q (.ref (s.heap.objs.size+4)) { s with heap:=h' }) :
  wpAny (model prog w) A (call (.type "zip") [.ref t,.ref l]) Q E s:=by
 have M:Meets (Builtin.«zip.__new__» ⟨[.type "zip", .ref t,.ref l],[]⟩) (fun _ R s=>s.heap.IsTuple t xs/\s.heap.IsList l ys/\R (.ok (.ret (.ref (s.heap.objs.size+1+1+1+1))))
   { s with heap:=((((s.heap.push { cls:=.type "tuple_iterator", data:=.fields #[.ref t,.int 0 0] }).push { cls:=.type "list_iterator", data:=.fields #[.ref l,.int 0 0] }).push { cls:=.type "tuple", data:=.seq #[.ref s.heap.objs.size,.ref (s.heap.objs.size+1)] }).push { cls:=.type "tuple", data:=.seq #[.none,.none] }).push { cls:=.type "zip", data:=.fields #[.none,.bool false,.bool false,.ref (s.heap.objs.size+1+1),.ref (s.heap.objs.size+1+1+1)] } }):=
  .of_wp fun prog w A R s h=>by
   obtain⟨hp,g,d,tk,os⟩:=s;obtain⟨h1,h2,h⟩:=h
   have hsub:=sub_zip
   have hL1:Heap.IsTuple (Shared.heap ⟨hp,g,d,tk,os⟩) t xs:=h1
   have hL2:Heap.IsList (Shared.heap ⟨hp.push { cls:=.type "tuple_iterator", data:=.fields #[.ref t,.int 0 0] },g,d,tk,os⟩) l ys:=Heap.IsList.push h2 _
   wp_walk using yb hL1,wpAny_pyIter_list hL2
   simp only[ZU]
   exact⟨_,rfl,h⟩
 refine callType_new F.called_zip (by decide) (F.typeCall_zip_2 _ _) (F.newCall_zip_2 _ _) (fun obj=>F.args_object_init_3 obj _ _) F.entry_zip_new M ⟨ht,hl,?_⟩
 generalize hn:s.heap.objs.size=n at h ⊢
 generalize hh:((((s.heap.push { cls:=.type "tuple_iterator", data:=.fields #[.ref t,.int 0 0] }).push { cls:=.type "list_iterator", data:=.fields #[.ref l,.int 0 0] }).push { cls:=.type "tuple", data:=.seq #[.ref n,.ref (n+1)] }).push { cls:=.type "tuple", data:=.seq #[.none,.none] }).push { cls:=.type "zip", data:=.fields #[.none,.bool false,.bool false,.ref (n+1+1),.ref (n+1+1+1)] }=h'
 have g1:h'.get? n=some { cls:=.type "tuple_iterator", data:=.fields #[.ref t,.int 0 0] }:=by rw[<-hh,<-hn];heap_get
 have g2:h'.get? (n+1)=some { cls:=.type "list_iterator", data:=.fields #[.ref l,.int 0 0] }:=by rw[<-hh,<-hn];heap_get
 have g3:h'.get? (n+2)=some { cls:=.type "tuple", data:=.seq #[.ref n,.ref (n+1)] }:=by rw[<-hh,<-hn];heap_get
 have g4:h'.get? (n+3)=some { cls:=.type "tuple", data:=.seq #[.none,.none] }:=by rw[<-hh,<-hn];heap_get
 have g5:h'.get? (n+4)=some { cls:=.type "zip", data:=.fields #[.none,.bool false,.bool false,.ref (n+2),.ref (n+3)] }:=by rw[<-hh,<-hn];heap_get
 have gs:h'.objs.size=n+5:=by rw[<-hh,<-hn];simp only[ZU]
 refine⟨⟨_,g5,rfl⟩,h h' ⟨.inl g5,g3,⟨_,_,g4⟩,⟨_,g1,rfl,rfl⟩,⟨_,g2,rfl,rfl⟩⟩ gs fun c o e=>?_⟩
 rw[<-hh]
 exact zd _ (zd _ (zd _ (zd _ (zd _ e))))
end
section
variable {prog:Program} {w:World} {A:Around} {E:Value->Shared->Prop} {s:Shared}
theorem ad {a b:Nat} (h:a≠b):@Ne Addr a b:=h
theorem Vv {a:Addr} {o:Obj} {Q:Option Obj->Shared->Prop} (ho:s.heap.get? a=some o) (h:Q (some o) s):wpAny (model prog w) A (loadIfAlive a) Q E s:=by
 have q:Q (s.heap.get? a) s:=by rw[ho];exact h
 exact fun _ _ _=>q
theorem K8 {z TI TO:Addr} {f1:Value} {Q:Bool->Shared->Prop} (hz:qm s.heap z TI TO .none f1) (h:Q true s):wpAny (model prog w) A (Builtin.SmallTypes.ownedTupleIsFree (.ref z)) Q E s:=by
 unfold Builtin.SmallTypes.ownedTupleIsFree
 exact zb (qS hz rfl (x:=.none) rfl (ze h))
theorem Qp {z TI TO T:Addr} {f1:Value} {o:Obj} {Q:Bool->Shared->Prop} (hz:qm s.heap z TI TO (rawInt T) f1) (hT:s.heap.get? T=some o) (hf:f1=.bool false\/f1=.bool true)
  (h:∀ h',qm h' z TI TO (rawInt T) (.bool true)->Heap.SameBut z s.heap h'->Q false { s with heap:=h' }):wpAny (model prog w) A (Builtin.SmallTypes.ownedTupleIsFree (.ref z)) Q E s:=by
 unfold Builtin.SmallTypes.ownedTupleIsFree
 refine zb (qS hz rfl (x:=rawInt T) rfl ?_)
 show wpAny _ _ (loadIfAlive T >>= _) _ _ s
 refine zb (Vv hT ?_)
 simp only[Option.isNone_some,zr,ZH]
 refine zb (qS hz rfl (x:=f1) rfl ?_)
 rcases hf with rfl|rfl
 ·rw[zo (by decide)]
  refine zb (kg hz (by simp) fun h' hz' hs'=>ze (h h' hz' hs'))
 ·rw[zw (by decide)]
  exact ze (h s.heap hz ⟨rfl,fun _ _=>rfl⟩)
theorem R7 {n t l:Nat} {k:Nat} {xs ys:Array Value} {x y a b:Value} {Q:Value->Shared->Prop} (hz:qm s.heap (n+4) (n+2) (n+3) .none (.bool false)) (hTI:IsPair s.heap (n+2) (.ref n) (.ref (n+1))) (hTO:IsPair s.heap (n+3) a b)
  (h1:s.heap.IsTupleIter n t k) (h2:s.heap.IsListIter (n+1) l k) (ht:s.heap.IsTuple t xs) (hl:s.heap.IsList l ys) (tn:t < n) (ln:l < n) (hx:xs[k]?=some x) (hy:ys[k]?=some y)
  (hQ:∀ h',Dh h' n t l (k+1)->IsPair h' s.heap.objs.size x y->h'.objs.size=s.heap.objs.size+1->(∀ (c:Nat) o,(c < n\/n+5<=c)->s.heap.get? c=some o->h'.get? c=some o)->Q (.ref s.heap.objs.size) { s with heap:=h' }) :
  wpAny (model prog w) A (Builtin.«zip.__next__» ⟨[.ref (n+4)],[]⟩) (fun fin s'=>∃ v,fin=.done (.ret v)/\Q v s') E s:=by
 show wpAny _ _ (field (.ref (n+4)) 2 >>= _) _ _ _;refine zb (qS hz rfl (x:=.bool false) rfl ?_)
 show wpAny _ _ (field (.ref (n+4)) 3 >>= _) _ _ _;refine zb (qS hz rfl (x:=.ref (n+2)) rfl ?_)
 refine zb (QU hTI rfl ?_)
 show wpAny _ _ (Builtin.SmallTypes.ownedTupleIsFree (.ref (n+4)) >>= _) _ _ _
 refine zb (K8 hz ?_)
 simp only[QO]
 refine zb (kD ?_)
 refine zb (qS hz rfl (x:=.ref (n+3)) rfl ?_)
 refine zb (kg hz (by simp) fun h₁ hz₁ hs₁=>?_)
 replace hz₁:qm h₁ (n+4) (n+2) (n+3) .ellipsis (.bool false):=hz₁
 refine zb ?_
 simp only[List.zipIdx_cons,List.zipIdx_nil,KO,List.forIn_nil]
 refine zb (zb (wpAny_onRaise ?_))
 show wpAny _ _ (Builtin.SmallTypes.nextOf (.ref n) >>= _) _ _ _
 refine zb (Vu (h1.extBut hs₁.extBut (ad (by omega))) (ht.extBut hs₁.extBut (ad (by omega))) hx fun h₂ h1₂ hs₂=>ze ?_)
 have hTO₂:IsPair h₂ (n+3) a b:=hs₂.extBut _ _ (ad (by omega)) (hs₁.extBut _ _ (ad (by omega)) hTO)
 refine zb (QU hTO₂ rfl ?_)
 refine zb (wpAny_updateSeq_pair hTO₂ fun h₃ hTO₃ hs₃=>?_)
 replace hTO₃:IsPair h₃ (n+3) x b:=hTO₃
 refine zb (wpAny_letGo (ze ?_))
 refine zb (zb (wpAny_onRaise ?_))
 show wpAny _ _ (Builtin.SmallTypes.nextOf (.ref (n+1)) >>= _) _ _ _
 refine zb (wpAny_nextOf_list_item (((h2.extBut hs₁.extBut (ad (by omega))).extBut hs₂.extBut (ad (by omega))).extBut hs₃.extBut (ad (by omega))) (((hl.extBut hs₁.extBut (ad (by omega))).extBut hs₂.extBut (ad (by omega))).extBut hs₃.extBut (ad (by omega))) hy fun h₄ h2₄ hs₄=>ze ?_)
 have hTO₄:IsPair h₄ (n+3) x b:=hs₄.extBut _ _ (ad (by omega)) hTO₃
 refine zb (QU hTO₄ rfl ?_)
 refine zb (wpAny_updateSeq_pair hTO₄ fun h₅ hTO₅ hs₅=>?_)
 replace hTO₅:IsPair h₅ (n+3) x y:=hTO₅
 refine zb (wpAny_letGo (ze (ze ?_)))
 refine zb (QU hTO₅ rfl ?_)
 refine zb (wpAny_newTuple ?_)
 have hsz:h₅.objs.size=s.heap.objs.size:=by rw[hs₅.1,hs₄.1,hs₃.1,hs₂.1,hs₁.1]
 have go:∀ (c:Nat) o,c≠n+3->c≠n->c≠n+1->h₁.get? c=some o->h₅.get? c=some o:=fun c o c1 c2 c3 q=>hs₅.extBut _ _ (ad c1) (hs₄.extBut _ _ (ad c3) (hs₃.extBut _ _ (ad c1) (hs₂.extBut _ _ (ad c2) q)))
 have hz₅:qm h₅ (n+4) (n+2) (n+3) .ellipsis (.bool false):=go _ _ (by omega) (by omega) (by omega) hz₁
 have h1₅:h₅.IsTupleIter n t (k+1):=((h1₂.extBut hs₃.extBut (ad (by omega))).extBut hs₄.extBut (ad (by omega))).extBut hs₅.extBut (ad (by omega))
 have h2₅:h₅.IsListIter (n+1) l (k+1):=h2₄.extBut hs₅.extBut (ad (by omega))
 have zlt:n+4 < h₅.objs.size:=zv hz₅
 show wpAny _ _ (Builtin.SmallTypes.ownedTupleHandOut (.ref (n+4)) (.ref h₅.objs.size) >>= _) _ _ _
 refine zb ?_
 unfold Builtin.SmallTypes.ownedTupleHandOut
 have hz₆:qm (h₅.push { cls:=.type "tuple", data:=.seq #[x,y] }) (n+4) (n+2) (n+3) .ellipsis (.bool false):=zd _ hz₅
 refine zb (kg hz₆ (by simp) fun h₇ hz₇ hs₇=>?_)
 replace hz₇:qm h₇ (n+4) (n+2) (n+3) (rawInt h₅.objs.size) (.bool false):=hz₇
 refine kg hz₇ (by simp) fun h₈ hz₈ hs₈=>?_
 replace hz₈:qm h₈ (n+4) (n+2) (n+3) (rawInt h₅.objs.size) (.bool false):=hz₈
 have up:∀ (c:Nat) o,c≠n+4->h₅.get? c=some o->h₈.get? c=some o:=fun c o c1 q=>hs₈.extBut _ _ (ad c1) (hs₇.extBut _ _ (ad c1) (zd _ q))
 have hT₈:IsPair h₈ h₅.objs.size x y:=hs₈.extBut _ _ (Kb zlt) (hs₇.extBut _ _ (Kb zlt) (zt _ rfl))
 have hz8:h₈.objs.size=h₅.objs.size+1:=by rw[hs₈.1,hs₇.1,ZU]
 refine ze ⟨_,rfl,?_⟩
 show Q (.ref h₅.objs.size) _
 rw[hsz] at hz₈ hT₈ hz8 zlt ⊢
 have afO:IsPair h₈ (n+2) (.ref n) (.ref (n+1)):=up _ _ (by omega) (go _ _ (by omega) (by omega) (by omega) (hs₁.extBut _ _ (ad (by omega)) hTI))
 refine hQ h₈ ⟨.inr ⟨_,_,hz₈,.inl rfl,by omega,_,hT₈⟩,afO,⟨x,y,up _ _ (by omega) hTO₅⟩,h1₅.at fun o q=>up _ o (by omega) q,h2₅.at fun o q=>up _ o (by omega) q⟩ hT₈ hz8 fun c o c1 q=>up c o (by omega) (go c o (by omega) (by omega) (by omega) (hs₁.extBut _ _ (ad (by omega)) q))
end
section
variable {prog:Program} {w:World} {A:Around} {E:Value->Shared->Prop} {s:Shared}
theorem R8 {n t l T:Nat} {k:Nat} {xs ys:Array Value} {x y a b f1:Value} {ot:Obj} {Q:Value->Shared->Prop} (hz:qm s.heap (n+4) (n+2) (n+3) (rawInt T) f1) (hf:f1=.bool false\/f1=.bool true) (hT5:n+5<=T) (hT:s.heap.get? T=some ot) (hTI:IsPair s.heap (n+2) (.ref n) (.ref (n+1))) (hTO:IsPair s.heap (n+3) a b)
  (h1:s.heap.IsTupleIter n t k) (h2:s.heap.IsListIter (n+1) l k) (ht:s.heap.IsTuple t xs) (hl:s.heap.IsList l ys) (tn:t < n) (ln:l < n) (hx:xs[k]?=some x) (hy:ys[k]?=some y)
  (hQ:∀ h',Dh h' n t l (k+1)->IsPair h' s.heap.objs.size x y->h'.objs.size=s.heap.objs.size+1->(∀ (c:Nat) o,(c < n\/n+5<=c)->s.heap.get? c=some o->h'.get? c=some o)->Q (.ref s.heap.objs.size) { s with heap:=h' }) :
  wpAny (model prog w) A (Builtin.«zip.__next__» ⟨[.ref (n+4)],[]⟩) (fun fin s'=>∃ v,fin=.done (.ret v)/\Q v s') E s:=by
 show wpAny _ _ (field (.ref (n+4)) 2 >>= _) _ _ _;refine zb (qS hz rfl (x:=.bool false) rfl ?_)
 show wpAny _ _ (field (.ref (n+4)) 3 >>= _) _ _ _;refine zb (qS hz rfl (x:=.ref (n+2)) rfl ?_)
 refine zb (QU hTI rfl ?_)
 show wpAny _ _ (Builtin.SmallTypes.ownedTupleIsFree (.ref (n+4)) >>= _) _ _ _
 refine zb (Qp hz hT hf fun h₁ hz₁ hs₁=>?_)
 simp only[zr,ZH]
 refine zb ?_
 rw[<-yi]
 simp only[KO,List.forIn_nil]
 refine zb (zb (qo ?_))
 show wpAny _ _ (Builtin.SmallTypes.nextOf (.ref n) >>= _) _ _ _
 refine zb (Vu (h1.extBut hs₁.extBut (ad (by omega))) (ht.extBut hs₁.extBut (ad (by omega))) hx fun h₂ h1₂ hs₂=>ze (ze ?_))
 refine zb (zb (qo ?_))
 show wpAny _ _ (Builtin.SmallTypes.nextOf (.ref (n+1)) >>= _) _ _ _
 refine zb (wpAny_nextOf_list_item ((h2.extBut hs₁.extBut (ad (by omega))).extBut hs₂.extBut (ad (by omega))) ((hl.extBut hs₁.extBut (ad (by omega))).extBut hs₂.extBut (ad (by omega))) hy fun h₃ h2₃ hs₃=>ze (ze (ze ?_)))
 refine zb (wpAny_newTuple (ze ⟨_,rfl,?_⟩) (by show 2<=sizeLine;decide))
 have hsz:h₃.objs.size=s.heap.objs.size:=by rw[hs₃.1,hs₂.1,hs₁.1]
 have go:∀ (c:Nat) o,c≠n->c≠n+1->c≠n+4->s.heap.get? c=some o->(h₃.push { cls:=.type "tuple", data:=.seq #[x,y] }).get? c=some o:=fun c o c1 c2 c3 q=>zd _ (hs₃.extBut _ _ (ad c2) (hs₂.extBut _ _ (ad c1) (hs₁.extBut _ _ (ad c3) q)))
 have up:∀ (c:Nat) o,h₃.get? c=some o->(h₃.push { cls:=.type "tuple", data:=.seq #[x,y] }).get? c=some o:=fun c o q=>zd _ q
 have zlt:n+4 < s.heap.objs.size:=zv hz
 have hT₃:IsPair (h₃.push { cls:=.type "tuple", data:=.seq #[x,y] }) h₃.objs.size x y:=zt _ rfl
 show Q (.ref h₃.objs.size) _
 rw[hsz] at hT₃ ⊢
 exact hQ _ ⟨.inr ⟨T,.bool true,up _ _ (hs₃.extBut _ _ (ad (by omega)) (hs₂.extBut _ _ (ad (by omega)) hz₁)),.inr rfl,hT5,ot,go T _ (by omega) (by omega) (by omega) hT⟩,go _ _ (by omega) (by omega) (by omega) hTI,⟨a,b,go _ _ (by omega) (by omega) (by omega) hTO⟩,(h1₂.extBut hs₃.extBut (ad (by omega))).at fun o q=>up _ o q,h2₃.at fun o q=>up _ o q⟩ hT₃ (by rw[ZU,hsz]) fun c o c1 q=>go c o (by omega) (by omega) (by omega) q
theorem Vw {n t l k:Nat} {xs ys:Array Value} {x y:Value} {Q:Option Value->Shared->Prop} (Z:Dh s.heap n t l k) (ht:s.heap.IsTuple t xs) (hl:s.heap.IsList l ys) (tn:t < n) (ln:l < n) (hx:xs[k]?=some x) (hy:ys[k]?=some y)
  (hQ:∀ h',Dh h' n t l (k+1)->IsPair h' s.heap.objs.size x y->h'.objs.size=s.heap.objs.size+1->(∀ (c:Nat) o,(c < n\/n+5<=c)->s.heap.get? c=some o->h'.get? c=some o)->Q (some (.ref s.heap.objs.size)) { s with heap:=h' }):wpAny (model prog w) A (pyNext (.ref (n+4))) Q E s:=by
 obtain⟨a,b,hTO⟩:=Z.TO
 unfold pyNext
 rcases Z.z with hz|⟨T,f1,hz,hf,h5,ot,hT⟩
 ·have hty:s.TypeIs (.ref (n+4)) "zip" := ⟨_,hz,rfl⟩
  exact zb (KF (QE (name:=Str.ofString "__next__") hty JO (qv JO hty y7 (R7 hz Z.TI hTO Z.i1 Z.i2 ht hl tn ln hx hy fun h' a1 a2 a3 a4=>ze (hQ h' a1 a2 a3 a4)) (yv _))))
 ·have hty:s.TypeIs (.ref (n+4)) "zip" := ⟨_,hz,rfl⟩
  exact zb (KF (QE (name:=Str.ofString "__next__") hty JO (qv JO hty y7 (R8 hz hf h5 hT Z.TI hTO Z.i1 Z.i2 ht hl tn ln hx hy fun h' a1 a2 a3 a4=>ze (hQ h' a1 a2 a3 a4)) (yv _))))
theorem R9 {n t k:Nat} {xs:Array Value} {Q:Fin->Shared->Prop} (hh:A.handled=none) (hz:qm s.heap (n+4) (n+2) (n+3) .none (.bool false)) (hTI:IsPair s.heap (n+2) (.ref n) (.ref (n+1))) (h1:s.heap.IsTupleIter n t k) (ht:s.heap.IsTuple t xs) (tn:t < n) (hx:xs[k]?=none)
  (hE:∀ h' e,(∀ (c:Nat) o,(c < n\/n+5<=c)->s.heap.get? c=some o->h'.get? c=some o)->(∃ o,h'.get? e=some o/\o.cls=.type "StopIteration")->E (.ref e) { s with heap:=h' }):wpAny (model prog w) A (Builtin.«zip.__next__» ⟨[.ref (n+4)],[]⟩) Q E s:=by
 show wpAny _ _ (field (.ref (n+4)) 2 >>= _) _ _ _;refine zb (qS hz rfl (x:=.bool false) rfl ?_)
 show wpAny _ _ (field (.ref (n+4)) 3 >>= _) _ _ _;refine zb (qS hz rfl (x:=.ref (n+2)) rfl ?_)
 refine zb (QU hTI rfl ?_)
 show wpAny _ _ (Builtin.SmallTypes.ownedTupleIsFree (.ref (n+4)) >>= _) _ _ _
 refine zb (K8 hz ?_)
 simp only[QO]
 refine zb (kD ?_)
 refine zb (qS hz rfl (x:=.ref (n+3)) rfl ?_)
 refine zb (kg hz (by simp) fun h₁ hz₁ hs₁=>?_)
 replace hz₁:qm h₁ (n+4) (n+2) (n+3) .ellipsis (.bool false):=hz₁
 refine zb ?_
 simp only[List.zipIdx_cons,List.zipIdx_nil,KO,List.forIn_nil]
 refine zb (zb (wpAny_onRaise ?_))
 show wpAny _ _ (Builtin.SmallTypes.nextOf (.ref n) >>= _) _ _ _
 refine zb (Dg hh (h1.extBut hs₁.extBut (ad (by omega))) (ht.extBut hs₁.extBut (ad (by omega))) hx fun h₂ e hs₂ he=>?_)
 obtain⟨oe,hoe,hce⟩:=he
 have hz₂:qm h₂ (n+4) (n+2) (n+3) .ellipsis (.bool false):=hs₂ _ _ (ad (by omega)) hz₁
 have hez:e≠n+4:=fun q=>by subst q;unfold qm at hz₂;rw[hz₂] at hoe;cases hoe;simp at hce
 exact kg hz₂ (by simp) fun h₃ _ hs₃=>hE h₃ e (fun c o c1 q=>hs₃.extBut _ _ (ad (by omega)) (hs₂ _ _ (ad (by omega)) (hs₁.extBut _ _ (ad (by omega)) q))) ⟨oe,hs₃.extBut _ _ hez hoe,hce⟩
theorem Sd {n t T k:Nat} {xs:Array Value} {f1:Value} {ot:Obj} {Q:Fin->Shared->Prop} (hh:A.handled=none) (hz:qm s.heap (n+4) (n+2) (n+3) (rawInt T) f1) (hf:f1=.bool false\/f1=.bool true) (hT:s.heap.get? T=some ot) (hTI:IsPair s.heap (n+2) (.ref n) (.ref (n+1))) (h1:s.heap.IsTupleIter n t k) (ht:s.heap.IsTuple t xs) (tn:t < n) (hx:xs[k]?=none)
  (hE:∀ h' e,(∀ (c:Nat) o,(c < n\/n+5<=c)->s.heap.get? c=some o->h'.get? c=some o)->(∃ o,h'.get? e=some o/\o.cls=.type "StopIteration")->E (.ref e) { s with heap:=h' }):wpAny (model prog w) A (Builtin.«zip.__next__» ⟨[.ref (n+4)],[]⟩) Q E s:=by
 show wpAny _ _ (field (.ref (n+4)) 2 >>= _) _ _ _;refine zb (qS hz rfl (x:=.bool false) rfl ?_)
 show wpAny _ _ (field (.ref (n+4)) 3 >>= _) _ _ _;refine zb (qS hz rfl (x:=.ref (n+2)) rfl ?_)
 refine zb (QU hTI rfl ?_)
 show wpAny _ _ (Builtin.SmallTypes.ownedTupleIsFree (.ref (n+4)) >>= _) _ _ _
 refine zb (Qp hz hT hf fun h₁ hz₁ hs₁=>?_)
 simp only[zr,ZH]
 refine zb ?_
 rw[<-yi]
 simp only[KO,List.forIn_nil]
 refine zb (zb (qo ?_))
 show wpAny _ _ (Builtin.SmallTypes.nextOf (.ref n) >>= _) _ _ _
 refine zb (Dg hh (h1.extBut hs₁.extBut (ad (by omega))) (ht.extBut hs₁.extBut (ad (by omega))) hx fun h₂ e hs₂ he=>?_)
 exact hE h₂ e (fun c o c1 q=>hs₂ _ _ (ad (by omega)) (hs₁.extBut _ _ (ad (by omega)) q)) he
theorem Vx {n t l k:Nat} {xs:Array Value} {Q:Option Value->Shared->Prop} (hh:A.handled=none) (Z:Dh s.heap n t l k) (ht:s.heap.IsTuple t xs) (tn:t < n) (hx:xs[k]?=none)
  (hQ:∀ h',(∀ (c:Nat) o,(c < n\/n+5<=c)->s.heap.get? c=some o->h'.get? c=some o)->Q none { s with heap:=h' }):wpAny (model prog w) A (pyNext (.ref (n+4))) Q E s:=by
 have fin:∀ h' e,(∀ (c:Nat) o,(c < n\/n+5<=c)->s.heap.get? c=some o->h'.get? c=some o)->(∃ o,h'.get? e=some o/\o.cls=.type "StopIteration")->wpAny (model prog w) A (do if (<-isInstance (.ref e) (.type "StopIteration")) then pure none else throw (.ref e):Sem (Option Value)) Q E { s with heap:=h' }:=fun h' e hk ⟨o,ho,hc⟩=>zb (kK (T := "StopIteration") (b:=true) ⟨o,ho,hc⟩ isSubtype_stop (ze (hQ _ hk)))
 unfold pyNext
 rcases Z.z with hz|⟨T,f1,hz,hf,h5,ot,hT⟩
 ·have hty:s.TypeIs (.ref (n+4)) "zip" := ⟨_,hz,rfl⟩
  refine zb (KF (QE (name:=Str.ofString "__next__") hty JO (qv JO hty y7 (R9 hh hz Z.TI Z.i1 ht tn hx fun h' e hk he=>fin h' e hk he) (yv _))))
 ·have hty:s.TypeIs (.ref (n+4)) "zip" := ⟨_,hz,rfl⟩
  refine zb (KF (QE (name:=Str.ofString "__next__") hty JO (qv JO hty y7 (Sd hh hz hf hT Z.TI Z.i1 ht tn hx fun h' e hk he=>fin h' e hk he) (yv _))))
end
theorem abK:entryFor table "zip.__getattribute__" = some Builtin.«object.__getattribute__»:=entryFor_alias (id' := "object.__getattribute__") (by kernel_rfl) (by first|rfl|decide +kernel|(unfold String.splitOn;simp +decide [String.splitOnAux])) (by decide +kernel) (by kernel_rfl)
theorem Oc:typeLookup (.type "zip") "keys" = pure none:=by rw[typeLookup_type,builtinLookup_eq_fast];kernel_rfl
theorem Od:typeLookup (.type "zip") "__getattr__" = pure none:=by rw[typeLookup_type,builtinLookup_eq_fast];kernel_rfl
section
variable {prog:Program} {w:World} {A:Around} {E:Value->Shared->Prop} {s:Shared}
theorem Vy {z TI TO:Addr} {f0 f1:Value} {u:Tok}:Meets (Builtin.«object.__getattribute__» ⟨[.ref z,.str "keys" u],[]⟩) (fun A R s=>qm s.heap z TI TO f0 f1/\raisesAttr (.ref z) "keys" A R s):=
 Meets.of_wp fun prog w A R s hs=>by
  obtain⟨hp,g,d,tk,os⟩:=s
  obtain⟨hz,hs⟩:=hs
  have hT:(⟨hp,g,d,tk,os⟩:Shared).TypeIs (.ref z) "zip" := ⟨_,hz,rfl⟩
  have hk:=Oc
  unfold qm at hz
  unfold Builtin.«object.__getattribute__»
  repeat (any_goals (first|assumption|wp_step))
  exact wpAny_raiseAttrError hs.1 hs.2 (attrMsg_fits (by decide +kernel) (by decide +kernel))
theorem Vz {z TI TO:Addr} {f0 f1:Value} {Q:Option Value->Shared->Prop} (hA:A.handled=none) (hz:qm s.heap z TI TO f0 f1) (h:∀ h' tk,(∀ b o,s.heap.get? b=some o->h'.get? b=some o)->Q none { s with heap:=h',toks:=tk }):wpAny (model prog w) A (getAttr? (.ref z) "keys") Q E s:=by
 obtain⟨hp,g,d,tk,os⟩:=s
 have hz0:=hz
 have hT:∀ t':Nat,(⟨hp,g,d,t',os⟩:Shared).TypeIs (.ref z) "zip" := fun _=>⟨_,hz,rfl⟩
 have f1':=sub_AttributeError
 have f3:=F.slot_zip_getattribute.lookup
 have f4:=F.slot_zip_getattribute.bind (.ref z)
 have f5:=Od
 unfold qm at hz
 unfold getAttr? getAttrBy? getAttrBy
 repeat (any_goals (first|assumption|exact hT _|((with_reducible show wpAny _ _ (call (Value.builtin "zip.__getattribute__") _ _) _ _ _);refine call_meets F.slot_zip_getattribute (hT _) abK (F.args_zip_getattribute_2 _ _) (Vy (TI:=TI) (TO:=TO) (f0:=f0) (f1:=f1)) ⟨hz0,hA,fun h' tk' e hx=>?_⟩)|wp_step))
 obtain⟨t',u',he⟩:=hx.there
 have hTe:∀ t2:Nat,(⟨h',g,d,t2,os⟩:Shared).TypeIs (.ref e) "AttributeError" := fun _=>⟨_,he,rfl⟩
 show wpAny _ _ (getattributeRaised _ _ _ _ _ _ _) _ _ _
 unfold getattributeRaised
 repeat (any_goals (first|assumption|exact hTe _|wp_step))
 exact h _ _ hx.keeps
end
theorem GF:entryFor table "dict.update.loop" = some Builtin.«dict.update.loop»:=entryFor_of_tree (by kernel_rfl)
section
variable {prog:Program} {w:World} {A:Around} {E:Value->Shared->Prop} {s:Shared} {K:Type} [DecidableEq K] {knd:KeyKind prog w K}
theorem pair_items {p:Addr} {x y:Value} {Q:List Value->Shared->Prop} (hp:IsPair s.heap p x y) (h:Q [x,y] s):wpAny (model prog w) A (Builtin.Dict.pairItems (.ref p)) Q E s:=by
 unfold Builtin.Dict.pairItems
 refine zb (QP (T := "tuple") ⟨_,hp,rfl⟩ ?_)
 rw[zo (by decide)]
 exact zb (QU hp rfl (ze h))
theorem Qq {n t l d:Nat} {xs ys:Array Value} {Q:Shared->Prop} (hh:A.handled=none) (tn:t < n) (ln:l < n) (dn:n+5<=d) (hlen:xs.size<=ys.size) (hs:xs.size<=1000) :
  ∀ (m k:Nat) (s:Shared) (kvs rest:List (K×Value)),m=xs.size - k->k<=xs.size->rest.length=m->kvs.length<=k->(∀ j kv,rest[j]?=some kv->∃ x,xs[k+j]?=some x/\knd.is kv.1 x=true/\ys[k+j]?=some kv.2) →
   Dh s.heap n t l k->s.heap.IsTuple t xs->s.heap.IsList l ys->s.heap.DictOf knd d kvs →
   (∀ h' tk,h'.DictOf knd d (merged kvs rest)->(∀ (c:Nat) o,c < n->s.heap.get? c=some o->h'.get? c=some o)->Q { s with heap:=h',toks:=tk }) →
   codeAny (model prog w) A (.builtin "dict.update.loop" ⟨[.ref d,.ref (n+4),rawInt k,.none],[]⟩) (wants (fun r s₂=>r=.none/\Q s₂) E) s
 |0,k,s,kvs,rest,hm,hk,hr,hkl,hrest,Z,ht,hl,hd,hQ=>by
  have e:rest=[]:=List.length_eq_zero_iff.mp hr
  subst e
  refine js GF ?_
  show wpAny _ _ (pyNext (.ref (n+4)) >>= _) _ _ _
  refine zb (Vx hh Z ht tn (by rw[ko];omega) fun h' kp=>?_)
  show wpAny _ _ (Builtin.Dict.addKeywords d [] >>= _) _ _ _
  have hd':h'.DictOf knd d kvs:=let ⟨o,es,ep,g,r⟩:=hd;⟨o,es,ep,kp d o (.inr dn) g,r⟩
  exact zb (ze (ze ⟨rfl,hQ h' s.toks hd' fun c o c1 q=>kp c o (.inl c1) q⟩))
 |m+1,k,s,kvs,rest,hm,hk,hr,hkl,hrest,Z,ht,hl,hd,hQ=>by
  cases rest with
  |nil=>cases hr
  |cons kv rest=>
   obtain⟨x,hx,hkx,hy⟩:=hrest 0 kv rfl
   refine js GF ?_
   show wpAny _ _ (pyNext (.ref (n+4)) >>= _) _ _ _
   refine zb (Vw Z ht hl tn ln hx hy fun h₁ Z₁ hp hsz kp=>?_)
   have hd₁:h₁.DictOf knd d kvs:=let ⟨o,es,ep,g,r⟩:=hd;⟨o,es,ep,kp d o (.inr dn) g,r⟩
   have dlt:d < s.heap.objs.size:=let ⟨o,es,ep,g,r⟩:=hd;zv g
   refine zb (qo (zb (wpAny_tryCatch (pair_items hp ?_))))
   refine qo (wpAny_dictSet_pairs hkx hd₁ (fun h₂ hd₂ hsb=>?_) (by have:=sizeLine_eq;omega))
   have k2:∀ (c:Nat) o,c≠d->h₁.get? c=some o->h₂.get? c=some o:=fun c o c1 q=>hsb.extBut _ _ (ad c1) q
   have Z₂:Dh h₂ n t l (k+1):=by
    refine⟨?_,k2 _ _ (by omega) Z₁.TI,?_,Z₁.i1.at fun o q=>k2 _ o (by omega) q,Z₁.i2.at fun o q=>k2 _ o (by omega) q⟩
    ·rcases Z₁.z with hz|⟨T,f1,hz,hf,h5,ot,hT⟩
     ·exact .inl (k2 _ _ (by omega) hz)
     ·by_cases hTd:T=d
      ·subst hTd
       obtain⟨o,_,_,g,_⟩:=hd₂
       exact .inr ⟨T,f1,k2 _ _ (by omega) hz,hf,h5,o,g⟩
      ·exact .inr ⟨T,f1,k2 _ _ (by omega) hz,hf,h5,ot,k2 _ _ hTd hT⟩
    ·obtain⟨a,b,q⟩:=Z₁.TO
     exact⟨a,b,k2 _ _ (by omega) q⟩
   have tup:∀ (c:Nat) o,c < n->s.heap.get? c=some o->h₂.get? c=some o:=fun c o c1 q=>k2 c o (by omega) (kp c o (.inl c1) q)
   refine ze ⟨Code.quiet_builtin _ (by decide +kernel),?_⟩
   have:=Qq hh tn ln dn hlen hs m (k+1) { s with heap:=h₂,toks:=s.toks+1 } (stored kvs kv.1 kv.2) rest (by omega) (by
    have:k < xs.size:=(Array.getElem?_eq_some_iff.mp hx).1
    omega) (by simpa using hr) ?_ (fun j q hq=>?_) Z₂ ?_ ?_ hd₂ fun h' tk d' kp'=>hQ h' tk d' fun c o c1 q=>kp' c o c1 (tup c o c1 q)
   ·have e:(rawInt ((k+1:Nat):Int))=rawInt ((k:Int)+1):=by push_cast;rfl
    rw[e] at this
    exact this
   ·unfold stored
    split<;>simp<;>omega
   ·obtain⟨x',a1,a2,a3⟩:=hrest (j+1) q (by simpa using hq)
    exact⟨x',by rw[show k+1+j=k+(j+1) by omega];exact a1,a2,by rw[show k+1+j=k+(j+1) by omega];exact a3⟩
   ·obtain⟨o,q,r⟩:=ht
    exact⟨o,tup _ _ tn q,r⟩
   ·obtain⟨o,q,r⟩:=hl
    exact⟨o,tup _ _ ln q,r⟩
end
section
variable {prog:Program} {w:World} {A:Around} {E:Value->Shared->Prop} {s:Shared} {K:Type} [DecidableEq K] {knd:KeyKind prog w K}
theorem VB {n t l k:Nat} {Q:Value->Shared->Prop} (Z:Dh s.heap n t l k) (h:Q (.ref (n+4)) s):wpAny (model prog w) A (pyIter (.ref (n+4))) Q E s:=by
 have hT:s.TypeIs (.ref (n+4)) "zip" := by rcases Z.z with hz|⟨T,f1,hz,_⟩<;>exact⟨_,hz,rfl⟩
 refine wpAny_pyIter_slot hT F.slot_zip_iter (qv F.slot_zip_iter hT F.entry_zip_iter ?_ (F.args_zip_iter_1 _))
 show wpAny _ _ (ret (.ref (n+4))) _ _ s
 exact ze ⟨_,rfl, "zip", _,hT,F.slot_zip_next.lookup,h⟩
theorem VD {n t l:Nat} {xs ys:Array Value} {rs:List (K×Value)} {Q:Value->Shared->Prop} (hh:A.handled=none) (tn:t < n) (ln:l < n) (hlen:xs.size<=ys.size) (hs:xs.size<=1000) (hrs:rs.length=xs.size) (hr:∀ (j:Nat) (kv:K×Value),rs[j]?=some kv->∃ x,xs[j]?=some x/\knd.is kv.1 x=true/\ys[j]?=some kv.2)
  (Z:Dh s.heap n t l 0) (hsz:s.heap.objs.size=n+5) (ht:s.heap.IsTuple t xs) (hl:s.heap.IsList l ys)
  (h:∀ h' tk,h'.DictOf knd (n+5) (merged [] rs)->(∀ (c:Nat) o,c < n->s.heap.get? c=some o->h'.get? c=some o)->Q (.ref (n+5)) { s with heap:=h',toks:=tk }) :
  wpAny (model prog w) A (call (.type "dict") [.ref (n+4)]) Q E s:=by
 refine callType_codes (Q₁:=fun obj s₁=>obj=.ref s.heap.objs.size/\s₁={ s with heap:=s.heap.push { cls:=.type "dict", data:=.dict #[] } }) F.kt_called_dict (F.kt_typeCall_dict_1 _) F.entry_dict_init (kt_code_dict_new _ ⟨rfl,rfl⟩) ?_
 rintro obj s₁ ⟨rfl,rfl⟩
 have hnew:(s.heap.push { cls:=.type "dict", data:=.dict #[] }).DictOf knd s.heap.objs.size []:=Heap.DictOf.new s.heap
 rw[hsz] at hnew ⊢
 generalize hh1:s.heap.push { cls:=.type "dict", data:=.dict #[] }=h1 at hnew ⊢
 have ZR:∀ (c:Nat) o,s.heap.get? c=some o->h1.get? c=some o:=fun c o q=>by rw[<-hh1];exact zd _ q
 have up:∀ {h2:Heap},(∀ b o,h1.get? b=some o->h2.get? b=some o)->Dh h2 n t l 0:=fun {h2} k=>by
  refine⟨?_,k _ _ (ZR _ _ Z.TI),let ⟨a,b,q⟩:=Z.TO;⟨a,b,k _ _ (ZR _ _ q)⟩,Z.i1.at fun o q=>k _ o (ZR _ o q),Z.i2.at fun o q=>k _ o (ZR _ o q)⟩
  rcases Z.z with hz|⟨T,f1,hz,hf,h5,ot,hT⟩
  ·exact .inl (k _ _ (ZR _ _ hz))
  ·exact .inr ⟨T,f1,k _ _ (ZR _ _ hz),hf,h5,ot,k _ _ (ZR _ _ hT)⟩
 refine⟨hnew.typeIs,F.args_dict_init_2 _ _,?_⟩
 unfold Builtin.«dict.__init__»
 refine zb ?_
 unfold Builtin.Dict.selfAndRest
 refine zb (wpAny_notOrdered_dict hnew.typeIs ?_)
 show wpAny _ _ (pure (n+5,[Value.ref (n+4)])) _ _ _
 refine ze ?_
 show wpAny _ _ (Builtin.Dict.updateFrom "dict.__init__" (n+5) (.ref (n+4)) [] .none) _ _ _
 have Z1:=up fun b o q=>q
 have go:∀ f0 f1,qm h1 (n+4) (n+2) (n+3) f0 f1->wpAny (model prog w) A.in1.in1 (Builtin.Dict.updateFrom "dict.__init__" (n+5) (.ref (n+4)) [] .none) (fun fin s'=>match fin with|.done f=>wants (fun r s₂=>r=.none/\Q (.ref (n+5)) s₂) E (.ok f) s'|.again c'=>c'.quiet=true/\codeAny (model prog w) A.in1 c' (wants (fun r s₂=>r=.none/\Q (.ref (n+5)) s₂) E) s') (fun e s'=>wants (fun r s₂=>r=.none/\Q (.ref (n+5)) s₂) E (.error e) s') { s with heap:=h1 }:=fun f0 f1 hz=>by
  unfold Builtin.Dict.updateFrom
  refine zb (QP (T := "zip") ⟨_,hz,rfl⟩ ?_)
  rw[zo (by decide)]
  refine zb (Vz hh hz fun h2 tk kp=>?_)
  rw[zo (show (none:Option Value).isNone=true from rfl)]
  refine zb (kD (zb (VB (up kp) (ze ⟨Code.quiet_builtin _ (by decide +kernel),?_⟩))))
  have kp0:∀ (c:Nat) o,s.heap.get? c=some o->h2.get? c=some o:=fun c o q=>kp c o (ZR c o q)
  have lp:=Qq (A:=A.in1) (E:=E) (d:=n+5) (Q:=fun s₂=>Q (.ref (n+5)) s₂) hh tn ln (zl _) hlen hs xs.size 0 { s with heap:=h2,toks:=tk } [] rs rfl (qA _) hrs (zl _) (fun j kv q=>by rw[JP];exact hr j kv q) (up kp) (let ⟨o,q,r⟩:=ht;⟨o,kp0 _ _ q,r⟩) (let ⟨o,q,r⟩:=hl;⟨o,kp0 _ _ q,r⟩) (let ⟨o,es,ep,g,r⟩:=hnew;⟨o,es,ep,kp _ _ g,r⟩) fun h' tk' d' kp'=>h h' tk' d' fun c o c1 q=>kp' c o c1 (kp0 c o q)
  exact lp
 rcases Z1.z with hz|⟨T,f1,hz,_⟩
 ·exact go _ _ hz
 ·exact go _ _ hz
end
def K9:List Dt->List Dt->Option (List (Str×Dt))
 |[],_=>some []
 |.str x::ds,e::es=>(K9 ds es).bind fun r=>some ((x,e)::r)
 |_,_=>none
def Qs (ps:List (Str×Dt)):List (Str×Dt):=ps.foldl (fun acc p=>zq acc p.1 p.2) []
def Oe (a b:Bx):Option Bx:=match a with
 |.z (.tup ds)=>(qj b).bind fun es=>if ds.length<=1000 then (K9 ds es).bind fun ps=>some (.m (Qs ps) none) else none
 |_=>none
theorem Sg {a b c:Bx} (h:Oe a b=some c):∃ ds es ps,a=.z (.tup ds)/\qj b=some es/\ds.length<=1000/\K9 ds es=some ps/\c=.m (Qs ps) none:=by
 unfold Oe at h
 split at h
 ·obtain⟨es,e1,h'⟩:=bind_some h
  split at h'
  ·rename_i hl
   obtain⟨ps,e2,h''⟩:=bind_some h'
   injection h'' with h''
   exact⟨_,es,ps,rfl,e1,hl,e2,h''.symm⟩
  ·cases h'
 ·cases h
theorem GJ {K:PySem.W.Frag} {H:Hp}:∀ {ds es:List Dt} {ps:List (Str×Dt)} {vs ws:List V},K9 ds es=some ps->aJ K H ds vs->aJ K H es ws->∃ us:List V,us.length=ds.length/\ds.length<=es.length/\ps.length=ds.length/\vs=ps.map (fun p=>V.str p.1)/\(∀ (j:Nat) (v:V),us[j]?=some v->ws[j]?=some v)/\aJ K H (ps.map (·.2)) us/\∀ p∈ps,p.1.length<=sizeLine
 |[],es,ps,vs,ws,e,r1,r2=>by
  cases e
  simp only[aJ] at r1
  subst r1
  exact⟨[],rfl,qA _,rfl,rfl,fun j v h=>by simp at h,aJ.nil,fun p h=>by cases h⟩
 |d::ds,es,ps,vs,ws,e,r1,r2=>by
  cases d with
  |str x=>
   cases es with
   |nil=>cases e
   |cons c es=>
    simp only[K9] at e
    obtain⟨ps',e1,e2⟩:=bind_some e
    cases e2
    obtain⟨v,vr,rfl,hv,rv⟩:∃ v r,vs=v::r/\Rep K H (.str x) v/\aJ K H ds r:=by simpa only[aJ] using r1
    obtain⟨u,ur,rfl,hu,ru⟩:∃ v r,ws=v::r/\Rep K H c v/\aJ K H es r:=by simpa only[aJ] using r2
    obtain⟨rfl,hx⟩:v=.str x/\x.length<=sizeLine:=by simpa only[Rep] using hv
    obtain⟨us,l1,l2,l3,rfl,g,r3,hl⟩:=GJ e1 rv ru
    refine⟨u::us,by simp[l1],by simp;omega,by simp[l3],rfl,fun j v h=>?_,aJ.cons hu r3,fun p hp=>?_⟩
    ·cases j with
     |zero=>simpa using h
     |succ j=>simpa using g j v (by simpa using h)
    ·rcases List.mem_cons.mp hp with rfl|hp
     ·exact hx
     ·exact hl p hp
  |_=>cases e
theorem GK {K:PySem.W.Frag} {H:Hp}:∀ {ps:List (Str×Dt)} {us:List V} {acc:List (Str×Dt)} {ks:List (Key×V)},gW K H acc ks->aJ K H (ps.map (·.2)) us->(∀ p∈ps,p.1.length<=sizeLine)->gW K H (ps.foldl (fun acc p=>zq acc p.1 p.2) acc) (yS ks ((ps.map fun p=>(Sum.inr p.1:Key)).zip us))
 |[],us,acc,ks,h,r,_=>by simpa [yS] using h
 |p::ps,us,acc,ks,h,r,hl=>by
  obtain⟨u,ur,rfl,hu,ru⟩:∃ v r,us=v::r/\Rep K H p.2 v/\aJ K H (ps.map (·.2)) r:=by simpa only[zk,aJ] using r
  exact GK (ps:=ps) (us:=ur) (acc:=zq acc p.1 p.2) (ks:=putK ks (Sum.inr p.1) u) (h.put (x:=p.1) hu (hl p (zh ..))) ru fun q hq=>hl q (zg _ hq)
theorem VF:∀ {ks:List Key} {us vl:List V} {its:List Value},us.length=ks.length->(∀ (j:Nat) (v:V),us[j]?=some v->vl[j]?=some v)->Vals vl its->KV (ks.zip us) (ks.zip its)
 |[],_,_,_,_,_,_=>by simp;exact .nil
 |k::ks,[],_,_,h,_,_=>by cases h
 |k::ks,u::us,vl,its,h,g,r=>by
  have g0:=g 0 u rfl
  cases r with
  |nil=>simp at g0
  |@cons a b as bs r1 r2=>
   have g0:a=u:=by simpa using g0
   subst g0
   exact .cons ⟨rfl,r1⟩ (VF (by simpa using h) (fun j v hj=>by simpa using g (j+1) v (by simpa using hj)) r2)
section
variable {X:Cx} {ea eb:Expr} {fa fb:Ev->Option Bx} {p1 p2 pos1 pos2:Pos}
theorem Qt (hc:X.calm=true) (hg1:Gl X "dict") (hm1:X.mg "dict" = none) (hg2:Gl X "zip") (hm2:X.mg "zip" = none) (ha:QV X ea fa) (hb:QV X eb fb)
  (he1:starEach [.Call (.Name "zip" p2) [ea,eb] [] pos2] X.env=(false,eval (.Call (.Name "zip" p2) [ea,eb] [] pos2) X.env)::starEach [] X.env:=by rfl) (he2:starEach [ea,eb] X.env=(false,eval ea X.env)::starEach [eb] X.env:=by rfl) (he3:starEach [eb] X.env=(false,eval eb X.env)::starEach [] X.env:=by rfl)
  (hp1:(backTo pos1 (starEach [] X.env)).any (·.1)=false:=by rfl) (hp2:(backTo pos2 (starEach [eb] X.env)).any (·.1)=false:=by rfl) :
  QV X (.Call (.Name "dict" p1) [.Call (.Name "zip" p2) [ea,eb] [] pos2] [] pos1) (b2 Oe fa fb):=⟨by
 intro pins s σ H Q I h
 obtain⟨H0,ρ,c,En,e,q⟩:=h
 obtain⟨a,ea',e⟩:=bind_some e
 obtain⟨b,eb',e⟩:=bind_some e
 obtain⟨ds,es,ps,rfl,el,hdl,ep,rfl⟩:=Sg e
 refine kR (BK I hg1 hm1 (u:=.type "dict") rfl ?_ (by decide) (by decide))
 refine PyProof.Rows.callWith_type1 ?_ he1 hp1
 rw[he1]
 show wpAny _ _ (spliced ((false,eval (.Call (.Name "zip" p2) [ea,eb] [] pos2) X.env)::backTo pos1 (starEach [] X.env))) _ _ s
 refine Calls.spliced_cons ?_
 refine kR (BK I hg2 hm2 (u:=.type "zip") rfl ?_ (by decide) (by decide))
 have PA2:=rR ha.run (rR hb.run BP he3) he2
 refine PyProof.Rows.callWith_type1 (mC (PA2 pos2 pins s σ H (fun vs H2=>Same H H2/\∃ x y,vs=[x,y]/\bA X.K H2 (.z (.tup ds)) x/\bA X.K H2 b y) I ⟨H0,ρ,_,En,ea',fun v H1 s1 n1 r1=>⟨H0,ρ,_,En.grow s1,eb',fun w H2 s2 n2 r2=>⟨s1.trans s2,v,w,rfl,r1.same s2,r2⟩⟩⟩) fun us s1 h1=>?_) he2 hp2
 obtain⟨vs,H1,I1,rv,sm,x,y,rfl,rx,ry⟩:=h1
 obtain⟨t,vt,rfl,sq,rt⟩:∃ a vs,x=.ref a/\vH X.K H1 a vs/\aJ X.K H1 ds vs:=by simpa only[bA,Rep] using rx
 obtain⟨l,vl,rfl,sl,rl⟩:=ry.Em el
 obtain⟨us',l1,l2,l3,rfl,g,r3,hpl⟩:=GJ ep rt rl
 cases rv with
 |cons ra rv'=>cases rv' with
  |cons rb afQ=>
   cases afQ
   cases ra
   cases rb
   obtain⟨adR,rvt,pt,hzt⟩:=I1.tuple sq
   obtain⟨YG,rvl,pl,hzl⟩:=I1.list sl
   have tlt:t < s1.heap.objs.size:=let ⟨o,q,_⟩:=pt;zv q
   have llt:l < s1.heap.objs.size:=let ⟨o,q,_⟩:=pl.isList;zv q
   refine abJ pt pl.isList fun h2 Z hsz kp=>?_
   refine Calls.spliced_nil ?_
   generalize hn:s1.heap.objs.size=n at tlt llt Z hsz ⊢
   have lt1:adR.length=ps.length:=by rw[<-rvt.length];simp
   have lt2:YG.length=es.length:=by rw[<-rvl.length,rl.length]
   have kv:KV ((ps.map fun p=>(Sum.inr p.1:Key)).zip us') ((ps.map fun p=>(Sum.inr p.1:Key)).zip YG):=VF (by simp;omega) g rvl
   refine VD (K:=Key) (knd:=bD X.prog X.w) (xs:=adR.toArray) (ys:=YG.toArray) (rs:=(ps.map fun p=>(Sum.inr p.1:Key)).zip YG) (I.ok.hd hc) tlt llt (by simp;omega) (by simp;omega) (by simp;omega) (fun j kv hj=>?_) Z hsz ?_ ?_ fun h' tk dd kp'=>?_
   ·obtain⟨e1,e2⟩:=List.getElem?_zip_eq_some.mp hj
    rw[zS] at e1
    cases hp:ps[j]? with
    |none=>rw[hp] at e1;cases e1
    |some p=>
     rw[hp] at e1
     have e1:Sum.inr p.1=kv.1:=by simpa using e1
     obtain⟨u,hu,ru⟩:=rvt.get (i:=j) (x:=.str p.1) (by simp[hp])
     exact⟨u,by simpa using hu,by rw[<-e1];exact Gh (k:=Sum.inr p.1) ru,by simpa using e2⟩
   ·obtain⟨o,q,r⟩:=pt
    exact⟨o,kp _ _ q,r⟩
   ·obtain⟨o,q,r⟩:=pl.isList
    exact⟨o,kp _ _ q,r⟩
   ·have sz:((ps.map fun p=>(Sum.inr p.1:Key)).zip us').length<=1000:=by simp;omega
    have hl1:=vW ((ps.map fun p=>(Sum.inr p.1:Key)).zip us') []
    rw[List.length_nil] at hl1
    have hz1:(1000:Nat)<=sizeLine:=by decide
    have hf:H1 (n+5)=none:=I1.hok.fresh (by rw[hn];exact yY n 5)
    refine⟨.ref (n+5),upd H1 (n+5) (.dK (yS [] ((ps.map fun p=>(Sum.inr p.1:Key)).zip us'))),I1.laid (a:=n+5) (t':=tk) (h':=h') (fun b o e=>kp' b o (by rw[<-hn];exact zv e) (kp b o e)) (by rw[hn];exact yY n 5) ⟨by omega,?_,_,KV.merge kv .nil,dd⟩,rfl,q _ _ (sm.trans (bW hf)) (fun a z=>by cases z;exact sm.free hf) ⟨n+5,_,rfl,bK,(GK gW.nil r3 hpl).kp (.of (bW hf)),fun b z=>by cases z⟩⟩
    have:=I1.big
    exact beq_eq_false_iff_ne.mpr (KW (zD (ZE this (by rw[hn];exact yY n 5))))⟩
end
def Ax:List Int->Int
 |[]=>0
 |k::ks=>ks.foldl (fun m x=>if m < x then x else m) k
theorem YH (ks:List Int) (n:Nat) (hn:n < ks.length):ks.getD (argBest (fun i j=>decide (ks.getD i 0 > ks.getD j 0)) n) 0=Ax (ks.take (n+1)):=by
 induction n with
 |zero=>
  cases ks with
  |nil=>cases hn
  |cons k ks=>rfl
 |succ n ih=>
  have ih:=ih (by omega)
  cases ks with
  |nil=>cases hn
  |cons k ks=>
   have hn':n < ks.length:=by simpa using hn
   rw[List.take_succ_cons] at ih ⊢
   rw[List.take_succ_eq_append_getElem hn']
   have e:Ax (k::(ks.take n++[ks[n]]))=(if Ax (k::ks.take n) < ks[n] then ks[n] else Ax (k::ks.take n)):=by
    show (ks.take n++[ks[n]]).foldl _ k=_
    rw[Kt]
    rfl
   rw[e,<-ih]
   have hg:(k::ks).getD (n+1) 0=ks[n]:=by simp[hn']
   show (k::ks).getD (if decide ((k::ks).getD (n+1) 0 > (k::ks).getD (argBest _ n) 0)=true then n+1 else argBest _ n) 0=_
   rw[hg]
   by_cases q:ks[n] > (k::ks).getD (argBest (fun i j=>decide ((k::ks).getD i 0 > (k::ks).getD j 0)) n) 0
   ·rw[zo (Zl q),zo q,hg]
   ·rw[zw (by simpa using q),zw q]
section
variable {X:Cx}
def La:List Bx->Option Bx
 |[b]=>(qj b).bind fun ds=>(GD ds).bind fun ks=>if 0 < ks.length then some (.z (.int (Ax ks))) else none
 |_=>none
theorem Di:∀ {its:List Value} {ks:List Int},its.length=ks.length->(∀ (i:Nat) (v:Value),its[i]?=some v->∃ t,v=Value.int (ks.getD i 0) t)->∃ xs:List (Int×Tok),its=xs.map (fun p=>Value.int p.1 p.2)/\xs.map (·.1)=ks
 |[],[],_,_=>⟨[],rfl,rfl⟩
 |[],_::_,h,_=>by cases h
 |_::_,[],h,_=>by cases h
 |v::its,k::ks,h,g=>by
  obtain⟨t,ht⟩:=g 0 v rfl
  obtain⟨xs,e1,e2⟩:=Di (its:=its) (ks:=ks) (by simpa using h) fun i v hv=>by simpa using g (i+1) v (by simpa using hv)
  exact⟨(k,t)::xs,by rw[zk,<-e1,ht];rfl,by rw[zk,e2]⟩
theorem YJ (hc:X.calm=true):qt X (.builtin "max") La:=by
 intro pins s σ H xs us Q I r h
 obtain⟨bs,c,rb,e,q⟩:=h
 unfold La at e
 split at e
 ·obtain⟨ds,ed,e⟩:=bind_some e
  obtain⟨ks,ek,e⟩:=bind_some e
  split at e
  ·rename_i hok
   cases e
   obtain⟨v,rfl,r1⟩:=rep1 rb
   obtain⟨a,vs,rfl,sq,rs⟩:=r1.Em ed
   obtain⟨u,rfl,ru⟩:=vals1 r
   cases ru
   obtain⟨its,w,pl,hz⟩:=I.list sq
   obtain⟨hl,hv⟩:=Dd ek rs w
   obtain⟨ps,e1,e2⟩:=Di hl hv
   have hn:ps.length=ks.length:=by rw[<-e2,zi]
   have na:numAt ps.toArray=fun i=>ks.getD i 0:=funext fun i=>by
    unfold numAt
    rw[<-e2,List.getD_eq_getElem?_getD,zS]
    simp
   have hl':s.heap.IsList a (intItems ps.toArray):=by
    have:=pl.isList
    rw[e1] at this
    simpa [intItems] using this
   refine max_intList (I.ok.hd hc) hl' (by simpa [hn] using hok) fun v h' tk hv' kp=>?_
   obtain⟨t,rfl⟩:=intItems_at hv'
   rw[na] at hv' ⊢
   have hb:=YH ks (ks.length - 1) (by omega)
   rw[Nat.sub_add_cancel hok,List.take_length] at hb
   have e3:ps.toArray.size - 1=ks.length - 1:=by simp[hn]
   refine⟨.int (Ax ks),H,I.kept (t':=tk) kp,⟨t,?_⟩,q _ H (Same.refl H) trivial (by simp only[bA,Rep])⟩
   rw[e3,<-hb]
  ·cases e
 ·cases e
end
theorem qp {X:Cx} {scope:Scope} {cl:List (Str×Addr)} (xs:List Str) (is:List Nat) (clos:closureFor scope X.env=pure cl:=by with_unfolding_all rfl) (kind:scope.kind=.function:=by rfl) (cell:scope.names.all (fun y=>decide (y.2≠.cell))=true:=by decide +kernel)
  (names:scope.names.all (fun y=>decide (y.2=.local->scope.names.lookup y.1=some .local))=true:=by decide +kernel) (sub:SubL X.env.cells cl:=by repeat (first|exact trivial|refine⟨rfl,?_⟩))
  (has:(relabel scope X.env).names.all (fun y=>!(y.2==.cell||y.2==.free)||(cl.lookup y.1).isSome)=true:=by rfl) (cap:xM X scope cl xs is:=by repeat (first|exact abo|refine X4 rfl (by first|exact .inl rfl|exact .inr rfl) (by first|exact .inl rfl|exact .inr rfl) ⟨_,rfl⟩ ?_)):za X scope cl xs is:=abp clos kind cell names sub has cap
theorem tW {N ps:List Str} {sc:Scope} (h1:sc.kind=.function:=by rfl) (h2:sc.isCoroutine=false:=by rfl) (h3:sc.isGenerator=false:=by rfl) (h4:N.Nodup:=by decide +kernel) (h5:N.take ps.length=ps:=by rfl) (h6:∀ x∈ps,sc.names.lookup x=some .local\/sc.names.lookup x=some .cell:=by decide +kernel) (h7:∀ y∈sc.names,y.2≠.free:=by decide +kernel):dh N ps sc:=⟨h1,h2,h3,h4,h5,h6,h7⟩
instance:Inhabited Dt:=⟨.non⟩
theorem bnd {α β:Type} (a:α) (f:α->Option β):(some a).bind f=f a:=(yT a f).trans (Eq.refl _)
def hold:Option Prop->Prop
 |none=>True
 |some p=>p
def bG:Option Prop->Option Prop->Option Prop
 |none,q=>q
 |some p,none=>some p
 |some p,some q=>some (p/\q)
def Im (c:Prop):Option Prop->Option Prop
 |none=>none
 |some p=>some (c->p)
theorem aB {p q:Option Prop} (h:hold (bG p q)):hold p/\hold q:=by
 cases p with
 |none=>exact⟨trivial,h⟩
 |some p=>cases q with
  |none=>exact⟨h,trivial⟩
  |some q=>exact h
theorem pY {c:Prop} {p:Option Prop} (h:hold (Im c p)) (hc:c):hold p:=by
 cases p with
 |none=>trivial
 |some p=>exact h hc
structure R {α β:Type} (f:Ev->Option β) (ρ:Ev) (c:α->β) where
 v:α
 D:Option Prop
 ok:hold D->f ρ=some (c v)
abbrev zE {α:Type} (e:α->Dt):α->Bx:=fun a=>.z (e a)
abbrev oE {α:Type} (e:α->Dt):List α->Bx:=fun xs=>.o (xs.map e)
abbrev lE {α:Type} (e:α->Dt):List α->Bx:=fun xs=>.l (xs.map e)
abbrev tE:Bool->Bool:=fun b=>b
abbrev iE {α:Type} (e:α->Dt):List α->List Dt:=fun xs=>xs.map e
abbrev eI:Int->Dt:=Dt.int
abbrev eB:Bool->Dt:=Dt.bl
abbrev eS:Str->Dt:=Dt.str
abbrev eL {α:Type} (e:α->Dt):List α->Dt:=fun xs=>.lst (xs.map e)
abbrev eT {α:Type} (e:α->Dt):List α->Dt:=fun xs=>.tup (xs.map e)
abbrev eO {α:Type} (e:α->Dt):Option α->Dt:=fun o=>match o with|none=>.non|some a=>e a
abbrev eP1 {α:Type} (a:α->Dt):α->Dt:=fun x=>.tup [a x]
abbrev VG {α β:Type} (a:α->Dt) (b:β->Dt):α×β->Dt:=fun x=>.tup [a x.1,b x.2]
abbrev Sh {α β γ:Type} (a:α->Dt) (b:β->Dt) (c:γ->Dt):α×β×γ->Dt:=fun x=>.tup [a x.1,b x.2.1,c x.2.2]
abbrev ZS {α β γ δ:Type} (a:α->Dt) (b:β->Dt) (c:γ->Dt) (d:δ->Dt):α×β×γ×δ->Dt:=fun x=>.tup [a x.1,b x.2.1,c x.2.2.1,d x.2.2.2]
structure RL {α:Type} (f:Ev->Option Bx) (ρ:Ev) (e:α->Dt) where
 v:List α
 D:Option Prop
 b:Bx
 lk:qj b=some (v.map e)
 ok:hold D->f ρ=some b
section
variable {α β γ δ:Type} {ρ:Ev} {f fa fb fc:Ev->Option Bx} {fs:Ev->Option (List Bx)} {e:α->Dt} {e':β->Dt}
def nC (a:R f ρ (oE e)):RL f ρ e:=⟨a.v,a.D,_,rfl,a.ok⟩
def j4 (a:R f ρ (lE e)):RL f ρ e:=⟨a.v,a.D,_,rfl,a.ok⟩
def rE (a:R f ρ (zE (eL e))):RL f ρ e:=⟨a.v,a.D,_,rfl,a.ok⟩
def Lp (b:Bx) (ds:List Dt):Prop:=b=.z (.lst ds)\/b=.l ds
theorem Lp.Em {b:Bx} {ds:List Dt} (h:Lp b ds):qj b=some ds:=by rcases h with rfl|rfl<;>rfl
theorem Lp.get {b:Bx} {ds:List Dt} {i:Nat} (h:Lp b ds) (hi:ρ[i]?=some (some b)):yW ρ i=some b:=by
 rcases h with rfl|rfl<;>(unfold yW;rw[hi])
theorem Lp.lend {b:Bx} {ds:List Dt} (h:Lp b ds):P1.lend b=b:=by rcases h with rfl|rfl<;>rfl
theorem GP {b:Bx} {ds:List Dt} (h:qj b=some ds):Lp (P1.lend b) ds:=by
 cases b with
 |z d=>cases d<;>cases h;exact .inl rfl
 |l d=>cases h;exact .inr rfl
 |o d=>cases h;exact .inr rfl
 |n d=>cases h
 |m d _=>cases h
def ao (i:Nat) (c:α->Bx) (a:α) (h:yW ρ i=some (c a)):R (gv i) ρ c:=⟨a,none,fun _=>h⟩
def pZ (i:Nat) (e:α->Dt) (a:List α) {b:Bx} (h:Lp b (a.map e)) (hi:ρ[i]?=some (some b)):RL (gv i) ρ e:=⟨a,none,b,h.Em,fun _=>h.get hi⟩
def bw (d:Dt) (e:α->Dt) (a:α) (h:d=e a):R (cB d) ρ (zE e):=⟨a,none,fun _=>by rw[h];rfl⟩
def Og (a:R f ρ (zE e)):R f ρ (zE (eO e)):=⟨some a.v,a.D,a.ok⟩
def abL {e:α->Dt}:R (cB .non) ρ (zE (eO e)):=⟨none,none,fun _=>rfl⟩
def VH [Inhabited α] (a:R f ρ (zE (eO e))):R f ρ (zE e):=⟨a.v.getD default,bG a.D (some (a.v.isSome=true)),fun h=>by
 obtain⟨h1,h2⟩:=aB h
 rw[a.ok h1]
 have h2:a.v.isSome=true:=h2
 cases hv:a.v with
 |none=>rw[hv] at h2;cases h2
 |some x=>rfl⟩
def Sq (a:R f ρ (oE e)):R (b1 ql f) ρ (zE (eL e)):=⟨a.v,a.D,fun h=>by simp only[b1,a.ok h,bnd,ql]⟩
def gJ (a:R f ρ (zE e)):R (b1 ql f) ρ (zE e):=⟨a.v,a.D,fun h=>by simp only[b1,a.ok h,bnd,ql]⟩
def lQ (a:R fa ρ (zE eI)) (b:R fb ρ (zE eI)):R (b2 gZ fa fb) ρ (zE eI):=⟨a.v+b.v,bG a.D b.D,fun h=>by
 obtain⟨h1,h2⟩:=aB h
 simp only[b2,a.ok h1,b.ok h2,bnd,gZ]⟩
def Lb (a:R fa ρ (zE eI)) (b:R fb ρ (zE eI)):R (b2 subB fa fb) ρ (zE eI):=⟨a.v - b.v,bG a.D b.D,fun h=>by
 obtain⟨h1,h2⟩:=aB h
 simp only[b2,a.ok h1,b.ok h2,bnd,i2]⟩
def Mul (a b:Int):Prop:=(-18446744073709551616 < a/\a < 18446744073709551616)\/(-18446744073709551616 < b/\b < 18446744073709551616)
def ZV (a:R fa ρ (zE eI)) (b:R fb ρ (zE eI)):R (b2 xP fa fb) ρ (zE eI):=⟨a.v * b.v,bG (bG a.D b.D) (some (Mul a.v b.v)),fun h=>by
 obtain⟨h,h3⟩:=aB h
 obtain⟨h1,h2⟩:=aB h
 simp only[b2,a.ok h1,b.ok h2,bnd]
 exact zo h3⟩
def Oh (n:Int) (hn : -18446744073709551616 < n/\n < 18446744073709551616) (b:R fb ρ (zE eI)):R (b2 xP (cB (.int n)) fb) ρ (zE eI):=⟨n * b.v,b.D,fun h=>by
 simp only[b2,b.ok h,bnd,cB]
 exact zo (.inl hn)⟩
def Qu (a:R fa ρ (zE eI)) (n:Int) (hn : -18446744073709551616 < n/\n < 18446744073709551616):R (b2 xP fa (cB (.int n))) ρ (zE eI):=⟨a.v * n,a.D,fun h=>by
 simp only[b2,a.ok h,bnd,cB]
 exact zo (.inr hn)⟩
def Io (a:R fa ρ (zE eI)) (n:Int) (hn:0 < n/\n < 1073741824):R (b2 Ka fa (cB (.int n))) ρ (zE eI):=⟨a.v / n,a.D,fun h=>by
 simp only[b2,a.ok h,bnd,i2,cB,zo hn]⟩
def yq (a:R fa ρ (zE eI)) (b:R fb ρ (zE eI)):R (b2 kZ fa fb) ρ (zE eI):=⟨a.v % b.v,bG (bG a.D b.D) (some (0 < b.v)),fun h=>by
 obtain⟨h,h3⟩:=aB h
 obtain⟨h1,h2⟩:=aB h
 have h3:0 < b.v:=h3
 simp only[b2,a.ok h1,b.ok h2,bnd,i2,zo h3]⟩
def iB (a:R fa ρ (zE eI)) (n:Int) (hn:0 < n):R (b2 kZ fa (cB (.int n))) ρ (zE eI):=⟨a.v % n,a.D,fun h=>by
 simp only[b2,a.ok h,bnd,i2,cB,zo hn]⟩
def abM (a b:Int) (n:Nat) (h:0<=b/\b<=1000/\a.natAbs < 18446744073709551616) (hb:b.toNat=n):R (b2 abb (cB (.int a)) (cB (.int b))) ρ (zE eI):=⟨a ^ n,none,fun _=>by
 simp only[b2,bnd,cB]
 show ((if 0<=b/\b<=1000/\a.natAbs < 2 ^ 64 then some (Dt.int (a ^ b.toNat)) else none).bind fun d=>some (Bx.z d))=_
 rw[zo h,hb]
 rfl⟩
def afS (a:R fa ρ (zE eI)) (b:R fb ρ (zE eI)):R (b2 gtB fa fb) ρ (zE eB):=⟨decide (b.v < a.v),bG a.D b.D,fun h=>by
 obtain⟨h1,h2⟩:=aB h
 simp only[b2,a.ok h1,b.ok h2,bnd,i2]⟩
def x_ge (a:R fa ρ (zE eI)) (b:R fb ρ (zE eI)):R (b2 geB fa fb) ρ (zE eB):=⟨decide (b.v<=a.v),bG a.D b.D,fun h=>by
 obtain⟨h1,h2⟩:=aB h
 simp only[b2,a.ok h1,b.ok h2,bnd,i2]⟩
def VJ (a:R fa ρ (zE eI)) (b:R fb ρ (zE eI)):R (b2 ltA fa fb) ρ (zE eB):=⟨decide (a.v < b.v),bG a.D b.D,fun h=>by
 obtain⟨h1,h2⟩:=aB h
 simp only[b2,a.ok h1,b.ok h2,bnd,ltA]⟩
def Ay (x y:Str):Bool:=decide (x.cps.toList < y.cps.toList)
end
class Eqs {α:Type} [DecidableEq α] (e:α->Dt) (n:outParam Nat):Prop where
 eq:∀ a b,vI (e a) (e b)=some (decide (a=b))
 dp:∀ a,vA (e a)<=n
class Non {α:Type} (e:α->Dt):Prop where
 l:∀ a,vI .non (e a)=some false
 r:∀ a,vI (e a) .non=some false
instance:Eqs eI 1:=⟨fun a b=>rfl,fun a=>by simp[vA]⟩
instance:Eqs eB 1:=⟨fun a b=>rfl,fun a=>by simp[vA]⟩
instance:Eqs eS 1:=⟨fun a b=>rfl,fun a=>by simp[vA]⟩
instance:Non eI:=⟨fun a=>rfl,fun a=>rfl⟩
instance:Non eB:=⟨fun a=>rfl,fun a=>rfl⟩
instance:Non eS:=⟨fun a=>rfl,fun a=>rfl⟩
section
variable {α β γ δ:Type} [DecidableEq α] [DecidableEq β] [DecidableEq γ] [DecidableEq δ] {e:α->Dt} {e':β->Dt} {e'':γ->Dt} {e3:δ->Dt} {n m k l:Nat}
theorem Dj [Eqs e n]:∀ xs ys:List α,nu (xs.map e) (ys.map e)=some (decide (xs=ys))
 |[],[]=>by simp[nu]
 |[],y::ys=>by simp[nu]
 |x::xs,[]=>by simp[nu]
 |x::xs,y::ys=>by
  simp only[zk,nu,Eqs.eq,Dj xs ys]
  congr 1
  by_cases h:x=y<;>by_cases h':xs=ys<;>simp[h,h']
theorem Dk [Eqs e n]:∀ xs:List α,uh (xs.map e)<=n
 |[]=>by simp[uh]
 |x::xs=>by
  have:=Eqs.dp (e:=e) x
  have:=Dk xs
  simp only[zk,uh]
  omega
instance [Eqs e n]:Eqs (eL e) (n+1):=⟨fun a b=>Dj a b,fun a=>by simp only[vA];have:=Dk (e:=e) a;omega⟩
instance [Eqs e n]:Eqs (eT e) (n+1):=⟨fun a b=>Dj a b,fun a=>by simp only[vA];have:=Dk (e:=e) a;omega⟩
instance:Non (eL e):=⟨fun a=>rfl,fun a=>rfl⟩
instance:Non (eT e):=⟨fun a=>rfl,fun a=>rfl⟩
instance:Non (eP1 e):=⟨fun a=>rfl,fun a=>rfl⟩
instance:Non (VG e e'):=⟨fun a=>rfl,fun a=>rfl⟩
instance:Non (Sh e e' e''):=⟨fun a=>rfl,fun a=>rfl⟩
instance:Non (ZS e e' e'' e3):=⟨fun a=>rfl,fun a=>rfl⟩
instance [Eqs e n]:Eqs (eP1 e) (n+1):=⟨fun a b=>by
 simp only[Bp,nu,Eqs.eq,KG],fun a=>by
 have:=Eqs.dp (e:=e) a
 simp only[vA,uh];omega⟩
instance [Eqs e n] [Eqs e' m]:Eqs (VG e e') (max n m+1):=⟨fun a b=>by
 obtain⟨a,a'⟩:=a;obtain⟨b,b'⟩:=b
 simp only[Bp,nu,Eqs.eq,Prod.mk.injEq,Bool.decide_and,KG],fun a=>by
 have:=Eqs.dp (e:=e) a.1;have:=Eqs.dp (e:=e') a.2
 simp only[vA,uh];omega⟩
instance [Eqs e n] [Eqs e' m] [Eqs e'' k]:Eqs (Sh e e' e'') (max n (max m k)+1):=⟨fun a b=>by
 obtain⟨a,a',a2⟩:=a;obtain⟨b,b',b2⟩:=b
 simp only[Bp,nu,Eqs.eq,Prod.mk.injEq,Bool.decide_and,KG],fun a=>by
 have:=Eqs.dp (e:=e) a.1;have:=Eqs.dp (e:=e') a.2.1;have:=Eqs.dp (e:=e'') a.2.2
 simp only[vA,uh];omega⟩
instance [Eqs e n] [Eqs e' m] [Eqs e'' k] [Eqs e3 l]:Eqs (ZS e e' e'' e3) (max n (max m (max k l))+1):=⟨fun a b=>by
 obtain⟨a,a',a2,a3⟩:=a;obtain⟨b,b',b2,b3⟩:=b
 simp only[Bp,nu,Eqs.eq,Prod.mk.injEq,Bool.decide_and,KG],fun a=>by
 have:=Eqs.dp (e:=e) a.1;have:=Eqs.dp (e:=e') a.2.1;have:=Eqs.dp (e:=e'') a.2.2.1;have:=Eqs.dp (e:=e3) a.2.2.2
 simp only[vA,uh];omega⟩
instance [Eqs e n] [Non e]:Eqs (eO e) (n+1):=⟨fun a b=>by
 cases a with
 |none=>cases b with
  |none=>exact rfl
  |some b=>exact (Non.l (e:=e) b).trans (by simp)
 |some a=>cases b with
  |none=>exact (Non.r (e:=e) a).trans (by simp)
  |some b=>exact (Eqs.eq (e:=e) a b).trans (by simp),fun a=>by
 cases a with
 |none=>show vA .non<=n+1;simp[vA]
 |some a=>exact Nat.le_succ_of_le (Eqs.dp (e:=e) a)⟩
end
section
variable {α β γ δ:Type} {ρ:Ev} {f fa fb fc:Ev->Option Bx} {p q:Ev->Option Bool} {fs:Ev->Option (List Bx)} {e:α->Dt} {e':β->Dt}
def x_eq [DecidableEq α] {n:Nat} [Eqs e n] (hn:n<=100) (a:R fa ρ (zE e)) (b:R fb ρ (zE e)):R (b2 eqB fa fb) ρ (zE eB):=⟨decide (a.v=b.v),bG a.D b.D,fun h=>by
 obtain⟨h1,h2⟩:=aB h
 have:=Eqs.dp (e:=e) a.v
 simp only[b2,a.ok h1,b.ok h2,bnd,eqB,vJ,toD,zr,or_self,ZH,Eqs.eq]
 rw[zo (by omega)]⟩
def Ss [DecidableEq α] {n:Nat} [Eqs e n] (hn:n<=100) (a:R fa ρ (zE e)) (b:R fb ρ (zE e)):R (b2 Py fa fb) ρ (zE eB):=⟨!decide (a.v=b.v),bG a.D b.D,fun h=>by
 obtain⟨h1,h2⟩:=aB h
 have:=Eqs.dp (e:=e) a.v
 simp only[b2,a.ok h1,b.ok h2,bnd,Py,vJ,toD,zr,or_self,ZH,Eqs.eq]
 rw[zo (by omega)]⟩
theorem qy {b:Bx} {ds:List Dt} (h:qj b=some ds):toD b=.lst ds/\vJ b=false:=by
 cases b with
 |z d=>cases d<;>cases h;exact⟨rfl,rfl⟩
 |l d=>cases h;exact⟨rfl,rfl⟩
 |o d=>cases h;exact⟨rfl,rfl⟩
 |n d=>cases h
 |m d _=>cases h
def ZW [DecidableEq α] {n:Nat} [Eqs e n] (hn:n+1<=100) (a:RL fa ρ e) (b:RL fb ρ e):R (b2 eqB fa fb) ρ (zE eB):=⟨decide (a.v=b.v),bG a.D b.D,fun h=>by
 obtain⟨h1,h2⟩:=aB h
 have:=Eqs.dp (e:=eL e) a.v
 simp only[b2,a.ok h1,b.ok h2,bnd,eqB,(qy a.lk).1,(qy a.lk).2,(qy b.lk).1,(qy b.lk).2,zr,or_self,ZH]
 have e1:=Eqs.eq (e:=eL e) a.v b.v
 rw[zo (z3 (Nat.min_le_left _ _) (z3 (Eqs.dp (e:=eL e) a.v) hn)),e1,bnd]⟩
def ZX [DecidableEq α] {n:Nat} [Eqs e n] (hn:n+1<=100) (a:RL fa ρ e) (b:RL fb ρ e):R (b2 Py fa fb) ρ (zE eB):=⟨!decide (a.v=b.v),bG a.D b.D,fun h=>by
 obtain⟨h1,h2⟩:=aB h
 simp only[b2,a.ok h1,b.ok h2,bnd,Py,(qy a.lk).1,(qy a.lk).2,(qy b.lk).1,(qy b.lk).2,zr,or_self,ZH]
 have e1:=Eqs.eq (e:=eL e) a.v b.v
 rw[zo (z3 (Nat.min_le_left _ _) (z3 (Eqs.dp (e:=eL e) a.v) hn)),e1,bnd]⟩
def adS (a:R fa ρ (zE (eO e))) (hn:∀ x,Ni (.z (e x))=false):R (b2 isB fa (cB .non)) ρ (zE eB):=⟨a.v.isNone,a.D,fun h=>by
 simp only[b2,a.ok h,bnd,cB,isB]
 cases hv:a.v with
 |none=>rfl
 |some x=>simp only[Option.isNone_some,hn]⟩
def abN (a:R fa ρ (zE eB)):R (tV fa) ρ tE:=⟨a.v,a.D,fun h=>by simp only[tV,a.ok h,bnd,Xm]⟩
def ig {g:Bx->Bx->Option Bx} (a:R (b2 g fa fb) ρ (zE eB)):R (wJ g fa fb) ρ tE:=⟨a.v,a.D,fun h=>by simp only[wJ,a.ok h,bnd,T8]⟩
def Z0 (a:R p ρ tE) (b:R q ρ tE):R (Rm p q) ρ tE:=⟨a.v&&b.v,bG a.D (Im (a.v=true) b.D),fun h=>by
 obtain⟨h1,h2⟩:=aB h
 simp only[Rm,a.ok h1,bnd]
 cases hv:a.v with
 |true=>simp only[QO,Bool.true_and];exact b.ok (pY h2 hv)
 |false=>simp only[zr,ZH,Bool.false_and]⟩
def YK (a:R p ρ tE) (b:R q ρ tE):R (ZF p q) ρ tE:=⟨a.v||b.v,bG a.D (Im (a.v=false) b.D),fun h=>by
 obtain⟨h1,h2⟩:=aB h
 simp only[ZF,a.ok h1,bnd]
 cases hv:a.v with
 |true=>simp only[QO,Bool.true_or]
 |false=>simp only[zr,ZH,Bool.false_or];exact b.ok (pY h2 hv)⟩
def VL (a:R p ρ tE):R (Rn p) ρ tE:=⟨!a.v,a.D,fun h=>by simp only[Rn,a.ok h,bnd]⟩
end
section
variable {α β γ δ ε:Type} {ρ:Ev} {f fa fb fc fd:Ev->Option Bx} {p q:Ev->Option Bool} {fs:Ev->Option (List Bx)} {e:α->Dt} {e':β->Dt} {e'':γ->Dt} {e3:δ->Dt}
def abO (e:α->Dt):R (bZ iz aG) ρ (zE (eT e)):=⟨[],none,fun _=>rfl⟩
def abP (a:R fa ρ (zE e)):R (bZ iz (aq fa aG)) ρ (zE (eP1 e)):=⟨a.v,a.D,fun h=>by
 simp only[bZ,aq,aG,a.ok h,bnd];rfl⟩
def Oi (a:R fa ρ (zE e)) (b:R fb ρ (zE e')):R (bZ iz (aq fa (aq fb aG))) ρ (zE (VG e e')):=⟨(a.v,b.v),bG a.D b.D,fun h=>by
 obtain⟨h1,h2⟩:=aB h
 simp only[bZ,aq,aG,a.ok h1,b.ok h2,bnd];rfl⟩
def j5 (a:R fa ρ (zE e)) (b:R fb ρ (zE e')) (c:R fc ρ (zE e'')):R (bZ iz (aq fa (aq fb (aq fc aG)))) ρ (zE (Sh e e' e'')):=⟨(a.v,b.v,c.v),bG a.D (bG b.D c.D),fun h=>by
 obtain⟨h1,h⟩:=aB h
 obtain⟨h2,h3⟩:=aB h
 simp only[bZ,aq,aG,a.ok h1,b.ok h2,c.ok h3,bnd];rfl⟩
def wR (a:R fa ρ (zE e)) (b:R fb ρ (zE e')) (c:R fc ρ (zE e'')) (d:R fd ρ (zE e3)):R (bZ iz (aq fa (aq fb (aq fc (aq fd aG))))) ρ (zE (ZS e e' e'' e3)):=⟨(a.v,b.v,c.v,d.v),bG a.D (bG b.D (bG c.D d.D)),fun h=>by
 obtain⟨h1,h⟩:=aB h
 obtain⟨h2,h⟩:=aB h
 obtain⟨h3,h4⟩:=aB h
 simp only[bZ,aq,aG,a.ok h1,b.ok h2,c.ok h3,d.ok h4,bnd];rfl⟩
def gK (e:α->Dt):R aG ρ (fun xs:List α=>xs.map (zE e)):=⟨[],none,fun _=>rfl⟩
def gk (a:R fa ρ (zE e)) (t:R fs ρ (fun xs:List α=>xs.map (zE e))):R (aq fa fs) ρ (fun xs:List α=>xs.map (zE e)):=⟨a.v::t.v,bG a.D t.D,fun h=>by
 obtain⟨h1,h2⟩:=aB h
 simp only[aq,a.ok h1,t.ok h2,bnd,zk]⟩
theorem Dl:∀ xs:List α,Hy (xs.map (zE e))=some (xs.map e)
 |[]=>rfl
 |x::xs=>by simp only[zk,Hy,Dl xs,bnd]
def lZ (t:R fs ρ (fun xs:List α=>xs.map (zE e))) (hl:t.v.length<=1000):R (bZ nq fs) ρ (oE e):=⟨t.v,t.D,fun h=>by
 simp only[bZ,t.ok h,bnd,nq,zi,zo hl,Dl]⟩
def Oj (t:R fs ρ (fun xs:List α=>xs.map (zE e))) (hl:t.v.length<=1000):R (bZ iz fs) ρ (zE (eT e)):=⟨t.v,t.D,fun h=>by
 simp only[bZ,t.ok h,bnd,iz,zi,zo hl,Dl]⟩
def at' [Inhabited α] (xs:List α) (i:Int):α:=(Ej xs i).getD default
def In (n:Nat) (i:Int):Prop:=-(n:Int)<=i/\i < n
theorem Ip {xs:List α} {i:Int} (h:In xs.length i):∃ x,Ej xs i=some x:=by
 obtain⟨h1,h2⟩:=h
 unfold Ej ixN
 by_cases h0:0<=i
 ·rw[zo h0,zo h2]
  exact⟨xs[i.toNat]'(by omega),zz (by omega)⟩
 ·rw[zw h0,zo h1]
  exact⟨xs[(i+xs.length).toNat]'(by omega),zz (by omega)⟩
theorem abQ {xs:List α} {i:Int} {x:α} (h:Ej xs i=some x):Ej (xs.map e) i=some (e x):=by
 unfold Ej at h ⊢
 rw[zi]
 obtain⟨j,ej,h⟩:=bind_some h
 rw[ej,bnd,zS,h]
 rfl
theorem VN [Inhabited α] {xs:List α} {i:Int} (h:In xs.length i):Ej (xs.map e) i=some (e (at' xs i)):=by
 obtain⟨x,hx⟩:=Ip h
 rw[abQ hx]
 unfold at'
 rw[hx]
 rfl
theorem YL {b:Bx} {ds:List Dt} {i:Int} (h:qj b=some ds):lg b (.z (.int i))=(Ej ds i).bind fun d=>some (.z d):=by
 cases b with
 |z d=>cases d<;>cases h;rfl
 |l d=>cases h;rfl
 |o d=>cases h;rfl
 |n d=>cases h
 |m d _=>cases h
def lR [Inhabited α] (a:RL fa ρ e) (b:R fb ρ (zE eI)):R (b2 lg fa fb) ρ (zE e):=⟨at' a.v b.v,bG (bG a.D b.D) (some (In a.v.length b.v)),fun h=>by
 obtain⟨h,h3⟩:=aB h
 obtain⟨h1,h2⟩:=aB h
 simp only[b2,a.ok h1,b.ok h2,bnd,YL a.lk,VN (show In a.v.length b.v from h3)]⟩
def Z2 [Inhabited α] (a:R fa ρ (zE (eT e))) (b:R fb ρ (zE eI)):R (b2 lg fa fb) ρ (zE e):=⟨at' a.v b.v,bG (bG a.D b.D) (some (In a.v.length b.v)),fun h=>by
 obtain⟨h,h3⟩:=aB h
 obtain⟨h1,h2⟩:=aB h
 simp only[b2,a.ok h1,b.ok h2,bnd,lg,uw,VN (show In a.v.length b.v from h3)]⟩
def ch (x:Str) (i:Int):Str:=⟨#[(Ej x.cps.toList i).getD 0]⟩
def Qv (a:R fa ρ (zE eS)) (b:R fb ρ (zE eI)):R (b2 lg fa fb) ρ (zE eS):=⟨ch a.v b.v,bG (bG a.D b.D) (some (In a.v.length b.v)),fun h=>by
 obtain⟨h,h3⟩:=aB h
 obtain⟨h1,h2⟩:=aB h
 obtain⟨x,hx⟩:=Ip (xs:=a.v.cps.toList) (i:=b.v) (show In a.v.length b.v from h3)
 simp only[b2,a.ok h1,b.ok h2,bnd,lg,hx,ch,Option.getD_some]⟩
def mJ (a:R fa ρ (zE e)) (g:α->β) (e':β->Dt) (i:Int) (h:∀ x,lg (.z (e x)) (.z (.int i))=some (.z (e' (g x)))):R (b2 lg fa (cB (.int i))) ρ (zE e'):=⟨g a.v,a.D,fun hd=>by
 simp only[b2,a.ok hd,bnd,cB,h]⟩
def cut (xs:List α) (lo hi:Option Int):List α:=(xs.drop (HT.jX xs.length 0 lo)).take (HT.jX xs.length xs.length hi - HT.jX xs.length 0 lo)
theorem Qw (xs:List α) (lo hi:Option Int):cutD (xs.map e) lo hi=(cut xs lo hi).map e:=by
 unfold cutD cut
 rw[zi,List.map_take,List.map_drop]
abbrev pE:Option Int->Option Int:=fun o=>o
def YM:R wI ρ pE:=⟨none,none,fun _=>rfl⟩
def YQ (a:R fa ρ (zE eI)):R (zZ fa) ρ pE:=⟨some a.v,a.D,fun h=>by simp only[zZ,a.ok h,bnd,abj]⟩
variable {fl fh:Ev->Option (Option Int)}
theorem YS {b:Bx} {ds:List Dt} {lo hi:Option Int} (h:qj b=some ds):slB b lo hi=some (.o (cutD ds lo hi)):=by
 cases b with
 |z d=>cases d<;>cases h;rfl
 |l d=>cases h;rfl
 |o d=>cases h;rfl
 |n d=>cases h
 |m d _=>cases h
def afT (a:RL fa ρ e) (l:R fl ρ pE) (u:R fh ρ pE):R (PJ fa fl fh) ρ (oE e):=⟨cut a.v l.v u.v,bG a.D (bG l.D u.D),fun h=>by
 obtain⟨h1,h⟩:=aB h
 obtain⟨h2,h3⟩:=aB h
 simp only[PJ,a.ok h1,l.ok h2,u.ok h3,bnd,YS a.lk,Qw]⟩
def adT (a:R fa ρ (zE (eT e))) (l:R fl ρ pE) (u:R fh ρ pE):R (PJ fa fl fh) ρ (zE (eT e)):=⟨cut a.v l.v u.v,bG a.D (bG l.D u.D),fun h=>by
 obtain⟨h1,h⟩:=aB h
 obtain⟨h2,h3⟩:=aB h
 simp only[PJ,a.ok h1,l.ok h2,u.ok h3,bnd,slB,Qw]⟩
def Z4 (a:R fa ρ (zE eS)) (l:R fl ρ pE) (u:R fh ρ pE):R (PJ fa fl fh) ρ (zE eS):=⟨Txt.slice a.v l.v u.v,bG a.D (bG l.D u.D),fun h=>by
 obtain⟨h1,h⟩:=aB h
 obtain⟨h2,h3⟩:=aB h
 simp only[PJ,a.ok h1,l.ok h2,u.ok h3,bnd,slB]⟩
def Eh (n:Nat):Prop:=n<=1000000
def Ol (a:R fa ρ (zE eS)) (b:R fb ρ (zE eS)):R (b2 gZ fa fb) ρ (zE eS):=⟨a.v++b.v,bG (bG a.D b.D) (some (Eh (a.v.length+b.v.length))),fun h=>by
 obtain⟨h,h3⟩:=aB h
 obtain⟨h1,h2⟩:=aB h
 simp only[b2,a.ok h1,b.ok h2,bnd,gZ,zo (show a.v.length+b.v.length<=Nh from h3)]⟩
def VP (a:R fa ρ (zE (eT e))) (b:R fb ρ (zE (eT e))):R (b2 gZ fa fb) ρ (zE (eT e)):=⟨a.v++b.v,bG (bG a.D b.D) (some (Eh (a.v.length+b.v.length))),fun h=>by
 obtain⟨h,h3⟩:=aB h
 obtain⟨h1,h2⟩:=aB h
 simp only[b2,a.ok h1,b.ok h2,bnd,gZ,zi,zo (show a.v.length+b.v.length<=Nh from h3),zE,eT,ZO]⟩
theorem VR {b b':Bx} {ds ds':List Dt} (h:qj b=some ds) (h':qj b'=some ds') (hl:ds.length+ds'.length<=Nh):gZ b b'=some (.o (ds++ds')):=by
 cases b with
 |z d=>
  cases d<;>cases h
  cases b' with
  |z d'=>cases d'<;>cases h';exact zo hl
  |l d'=>cases h';exact zo hl
  |o d'=>cases h';exact zo hl
  |n d'=>cases h'
  |m d'=>cases h'
 |l d=>
  cases h
  cases b' with
  |z d'=>cases d'<;>cases h';exact zo hl
  |l d'=>cases h';exact zo hl
  |o d'=>cases h';exact zo hl
  |n d'=>cases h'
  |m d'=>cases h'
 |o d=>
  cases h
  cases b' with
  |z d'=>cases d'<;>cases h';exact zo hl
  |l d'=>cases h';exact zo hl
  |o d'=>cases h';exact zo hl
  |n d'=>cases h'
  |m d'=>cases h'
 |n d=>cases h
 |m d _=>cases h
def Ir (a:RL fa ρ e) (b:RL fb ρ e):R (b2 gZ fa fb) ρ (oE e):=⟨a.v++b.v,bG (bG a.D b.D) (some (Eh (a.v.length+b.v.length))),fun h=>by
 obtain⟨h,h3⟩:=aB h
 obtain⟨h1,h2⟩:=aB h
 simp only[b2,a.ok h1,b.ok h2,bnd]
 rw[VR a.lk b.lk (by rw[zi,zi];exact h3)]
 simp only[oE,ZO]⟩
def abR (a:R fa ρ (zE eS)) (b:R fb ρ (zE eI)):R (b2 xP fa fb) ρ (zE eS):=⟨Txt.mul a.v b.v,bG (bG a.D b.D) (some (b.v<=1000 ∧ -1000<=b.v/\a.v.length<=1000)),fun h=>by
 obtain⟨h,h3⟩:=aB h
 obtain⟨h1,h2⟩:=aB h
 simp only[b2,a.ok h1,b.ok h2,bnd]
 exact zo h3⟩
theorem V0 {b:Bx} {ds:List Dt} (h:qj b=some ds):rU [b]=some (.z (.int ds.length)):=by
 cases b with
 |z d=>cases d<;>cases h;rfl
 |l d=>cases h;rfl
 |o d=>cases h;rfl
 |n d=>cases h
 |m d _=>cases h
theorem V1 {b:Bx} {ds:List Dt} (h:qj b=some ds):uw b=some ds:=by
 cases b with
 |z d=>cases d<;>cases h;rfl
 |l d=>cases h;rfl
 |o d=>cases h;rfl
 |n d=>cases h
 |m d _=>cases h
def x_len (a:RL fa ρ e):R (bZ rU (aq fa aG)) ρ (zE eI):=⟨(a.v.length:Int),a.D,fun h=>by
 simp only[bZ,aq,aG,a.ok h,bnd,V0 a.lk,zi]⟩
def zG (a:R fa ρ (zE (eT e))):R (bZ rU (aq fa aG)) ρ (zE eI):=⟨(a.v.length:Int),a.D,fun h=>by
 simp only[bZ,aq,aG,a.ok h,bnd,rU,uw,zi]⟩
def abS (a:R fa ρ (zE eS)):R (bZ rU (aq fa aG)) ρ (zE eI):=⟨(a.v.length:Int),a.D,fun h=>by
 simp only[bZ,aq,aG,a.ok h,bnd,rU]⟩
def lA (a:RL fa ρ e):R (bZ iZ (aq fa aG)) ρ (zE (eT e)):=⟨a.v,a.D,fun h=>by
 simp only[bZ,aq,aG,a.ok h,bnd,iZ,V1 a.lk]⟩
def adU (a:R fa ρ (zE eI)):R (bZ Uq (aq fa aG)) ρ (zE eI):=⟨if a.v < 0 then -a.v else a.v,a.D,fun h=>by
 simp only[bZ,aq,aG,a.ok h,bnd,Uq]⟩
def abT (a:R fa ρ (zE eB)):R (bZ Ur (aq fa aG)) ρ (zE eI):=⟨if a.v=true then 1 else 0,a.D,fun h=>by
 simp only[bZ,aq,aG,a.ok h,bnd,Ur]⟩
def GQ (a:R fa ρ (zE eI)) (b:R fb ρ (zE eI)):R (bZ Ep (aq fa (aq fb aG))) ρ (zE eI):=⟨if b.v > a.v then b.v else a.v,bG a.D b.D,fun h=>by
 obtain⟨h1,h2⟩:=aB h
 simp only[bZ,aq,aG,a.ok h1,b.ok h2,bnd,Ep]⟩
def Z5 (a:R fa ρ (zE eI)) (b:R fb ρ (zE eI)):R (bZ Rv (aq fa (aq fb aG))) ρ (zE eI):=⟨if b.v < a.v then b.v else a.v,bG a.D b.D,fun h=>by
 obtain⟨h1,h2⟩:=aB h
 simp only[bZ,aq,aG,a.ok h1,b.ok h2,bnd,Rv]⟩
theorem strs_map:∀ l:List Str,Cp (l.map eS)=some l
 |[]=>rfl
 |a::l=>by simp only[zk,Cp,strs_map l,bnd]
def abU (s:Str) (a:RL fa ρ eS):R (b1 (Kf s) fa) ρ (zE eS):=⟨Txt.join s a.v,bG a.D (some ((a.v.map (·.length)).sum+a.v.length * s.length<=100000)),fun h=>by
 obtain⟨h,h4⟩:=aB h
 simp only[b1,a.ok h,bnd,Kf,a.lk,strs_map]
 exact zo h4⟩
def Qx (a:RL fa ρ eS):R (bZ Cr (aq fa aG)) ρ (oE eS):=⟨ni a.v,bG a.D (some (a.v.length < 64)),fun h=>by
 obtain⟨h,h4⟩:=aB h
 simp only[bZ,aq,aG,a.ok h,bnd,Cr,a.lk,strs_map]
 exact zo h4⟩
def adV (a:R fa ρ (zE e)) (g:α->β) (e':β->Dt) (lo hi:Option Int) (hl:fl ρ=some lo) (hh:fh ρ=some hi) (h:∀ x,slB (.z (e x)) lo hi=some (.z (e' (g x)))):R (PJ fa fl fh) ρ (zE e'):=⟨g a.v,a.D,fun hd=>by
 simp only[PJ,a.ok hd,hl,hh,bnd,h]⟩
class Flat {α:Type} (e:α->Dt):Prop where
 f:∀ a,xQ (e a)=true
instance:Flat eI:=⟨fun _=>rfl⟩
instance:Flat eB:=⟨fun _=>rfl⟩
instance:Flat eS:=⟨fun _=>rfl⟩
theorem V2 [DecidableEq α] {n:Nat} [Eqs e n] [Flat e] (x:α) (ys:List α):memD (e x) (ys.map e)=some (decide (x∈ys)):=by
 unfold memD
 rw[zo ⟨Flat.f x,by rw[List.all_map];exact List.all_eq_true.mpr fun y _=>Flat.f y⟩,List.any_map]
 congr 1
 rw[kP,kf,decide_eq_true_iff]
 constructor
 ·rintro⟨y,hy,h⟩
  simp only[Function.comp,Eqs.eq] at h
  by_cases e1:y=x
  ·rw[<-e1];exact hy
  ·simp only[e1,kX] at h
   cases h
 ·intro h
  exact⟨x,h,by simp only[Function.comp,Eqs.eq,KI]⟩
theorem YT {b:Bx} {d:Dt} {ds:List Dt} (h:qj b=some ds):inB (.z d) b=memD d ds:=by
 cases b with
 |z d'=>cases d'<;>cases h;cases d<;>rfl
 |l d'=>cases h;cases d<;>rfl
 |o d'=>cases h;cases d<;>rfl
 |n d'=>cases h
 |m d'=>cases h
def adW [DecidableEq α] {n:Nat} [Eqs e n] [Flat e] (a:R fa ρ (zE e)) (b:RL fb ρ e):R (b2 inF fa fb) ρ (zE eB):=⟨decide (a.v∈b.v),bG a.D b.D,fun h=>by
 obtain⟨h1,h2⟩:=aB h
 simp only[b2,a.ok h1,b.ok h2,bnd,inF,YT b.lk,V2]⟩
end
structure AR {γ:Type} (cA:γ->List Bx->Prop) (fs:Ev->Option (List Bx)) (ρ:Ev) where
 v:γ
 D:Option Prop
 bs:List Bx
 h:cA v bs
 ok:hold D->fs ρ=some bs
section
variable {α β γ δ ε σ:Type} {ρ:Ev} {f fa fb fc fd:Ev->Option Bx} {p q:Ev->Option Bool} {fs:Ev->Option (List Bx)} {e:α->Dt} {e':β->Dt} {e'':γ->Dt} {e3:δ->Dt}
def aN:Unit->List Bx->Prop:=fun _ bs=>bs=[]
def aZ (e:α->Dt) (t:γ->List Bx->Prop):α×γ->List Bx->Prop:=fun x bs=>∃ r,bs=.z (e x.1)::r/\t x.2 r
def aL (e:α->Dt) (t:γ->List Bx->Prop):List α×γ->List Bx->Prop:=fun x bs=>∃ b r,bs=b::r/\qj b=some (x.1.map e)/\t x.2 r
def cU:AR aN aG ρ:=⟨(),none,[],rfl,fun _=>rfl⟩
def g8 {t:γ->List Bx->Prop} (a:R fa ρ (zE e)) (r:AR t fs ρ):AR (aZ e t) (aq fa fs) ρ:=⟨(a.v,r.v),bG a.D r.D,_,⟨_,rfl,r.h⟩,fun h=>by
 obtain⟨h1,h2⟩:=aB h
 simp only[aq,a.ok h1,r.ok h2,bnd]⟩
def Ld {t:γ->List Bx->Prop} (a:RL fa ρ e) (r:AR t fs ρ):AR (aL e t) (aq fa fs) ρ:=⟨(a.v,r.v),bG a.D r.D,_,⟨_,_,rfl,a.lk,r.h⟩,fun h=>by
 obtain⟨h1,h2⟩:=aB h
 simp only[aq,a.ok h1,r.ok h2,bnd]⟩
def x_call {cA:γ->List Bx->Prop} {F:List Bx->Option Bx} {n:Nat} {c:α->Bx} {T:γ->α} {Df:γ->Option Prop} (S:∀ v bs,cA v bs->bs.length=n/\(hold (Df v)->F (bs.map lend)=some (c (T v)))) (a:AR cA fs ρ):R (fP n F fs) ρ c:=⟨T a.v,bG a.D (Df a.v),fun h=>by
 obtain⟨h1,h2⟩:=aB h
 obtain⟨h3,h4⟩:=S a.v a.bs a.h
 simp only[fP,a.ok h1,bnd,zo h3,h4 h2]⟩
theorem j6 {g:Ev->Option Out} {n:Nat} {bs:List Bx} {c:α->Bx} (x:R g (bs.map some++List.replicate (n - bs.length) none) (fun r=>Out.rt (c r))) (h:hold x.D):lO n g bs=some (c x.v):=by
 unfold lO
 rw[x.ok h]
 rfl
variable {fi:Ev->Option (List Dt)} {gt:Dt->Ev->Option Ev} {fe:Ev->Option Bx} {is:List Nat} {n:Nat}
def adX (xs:List α) (P:α->Option Prop):Option Prop:=some (∀ x∈xs,hold (P x))
theorem comp_map {ρ1:Ev} {g:α->β}:∀ xs:List α,(∀ x∈xs,∃ ρ2,gt (e x) ρ1=some ρ2/\fe ρ2=some (.z (e' (g x))))->pU gt rA fe ρ1 (xs.map e)=some ((xs.map g).map e')
 |[],_=>rfl
 |x::xs,h=>by
  obtain⟨ρ2,h1,h2⟩:=h x (zh ..)
  simp only[zk,pU,h1,bnd,rA,QO,h2,comp_map xs fun y hy=>h y (zg _ hy)]
theorem Dm {ρ1:Ev} {g:α->β} {π:α->Bool}:∀ xs:List α,(∀ x∈xs,∃ ρ2,gt (e x) ρ1=some ρ2/\p ρ2=some (π x)/\(π x=true->fe ρ2=some (.z (e' (g x)))))->pU gt p fe ρ1 (xs.map e)=some (((xs.filter π).map g).map e')
 |[],_=>rfl
 |x::xs,h=>by
  obtain⟨ρ2,h1,h2,h3⟩:=h x (zh ..)
  have ih:=Dm (g:=g) (π:=π) xs fun y hy=>h y (zg _ hy)
  cases hp:π x with
  |true=>simp only[zk,pU,h1,bnd,h2,hp,QO,h3 hp,ih,j3]
  |false=>simp only[zk,pU,h1,bnd,h2,hp,ih,j3,zr,ZH]
def wU (it:R fi ρ (iE e)) (ρ2:α->Ev) (hg:∀ x,gt (e x) (jT is ρ++List.replicate n none)=some (ρ2 x)) (b:∀ x,R fe (ρ2 x) (zE e')):R (fU fi gt rA fe is n) ρ (oE e'):=⟨it.v.map fun x=>(b x).v,bG (bG it.D (some (it.v.length<=100000))) (adX it.v fun x=>(b x).D),fun h=>by
 obtain⟨h,h3⟩:=aB h
 obtain⟨h1,h2⟩:=aB h
 have h3:∀ x∈it.v,hold (b x).D:=h3
 simp only[fU,it.ok h1,bnd,zi,zo (show it.v.length<=100000 from h2),comp_map it.v fun x hx=>⟨ρ2 x,hg x,(b x).ok (h3 x hx)⟩]⟩
def rY (it:R fi ρ (iE e)) (ρ2:α->Ev) (hg:∀ x,gt (e x) (jT is ρ++List.replicate n none)=some (ρ2 x)) (b:∀ x,R fe (ρ2 x) (zE e')) (hb:∀ x,(b x).D=none):R (fU fi gt rA fe is n) ρ (oE e'):=⟨it.v.map fun x=>(b x).v,bG it.D (some (it.v.length<=100000)),fun h=>by
 obtain⟨h1,h2⟩:=aB h
 simp only[fU,it.ok h1,bnd,zi,zo (show it.v.length<=100000 from h2),comp_map it.v fun x hx=>⟨ρ2 x,hg x,(b x).ok (by rw[hb x];trivial)⟩]⟩
def Qy (it:R fi ρ (iE e)) (ρ2:α->Ev) (hg:∀ x,gt (e x) (jT is ρ++List.replicate n none)=some (ρ2 x)) (t:∀ x,R p (ρ2 x) tE) (b:∀ x,R fe (ρ2 x) (zE e')):R (fU fi gt p fe is n) ρ (oE e'):=⟨(it.v.filter fun x=>(t x).v).map fun x=>(b x).v,bG (bG it.D (some (it.v.length<=100000))) (adX it.v fun x=>bG (t x).D (Im ((t x).v=true) (b x).D)),fun h=>by
 obtain⟨h,h3⟩:=aB h
 obtain⟨h1,h2⟩:=aB h
 have h3:∀ x∈it.v,hold (bG (t x).D (Im ((t x).v=true) (b x).D)):=h3
 simp only[fU,it.ok h1,bnd,zi,zo (show it.v.length<=100000 from h2),Dm it.v fun x hx=>⟨ρ2 x,hg x,(t x).ok (aB (h3 x hx)).1,fun ht=>(b x).ok (pY (aB (h3 x hx)).2 ht)⟩]⟩
def rG (it:R fi ρ (iE e)) (ρ2:α->Ev) (hg:∀ x,gt (e x) (jT is ρ++List.replicate n none)=some (ρ2 x)) (t:∀ x,R p (ρ2 x) tE) (b:∀ x,R fe (ρ2 x) (zE e')) (ht:∀ x,(t x).D=none) (hb:∀ x,(b x).D=none):R (fU fi gt p fe is n) ρ (oE e'):=⟨(it.v.filter fun x=>(t x).v).map fun x=>(b x).v,bG it.D (some (it.v.length<=100000)),fun h=>by
 obtain⟨h1,h2⟩:=aB h
 simp only[fU,it.ok h1,bnd,zi,zo (show it.v.length<=100000 from h2),Dm it.v fun x hx=>⟨ρ2 x,hg x,(t x).ok (by rw[ht x];trivial),fun _=>(b x).ok (by rw[hb x];trivial)⟩]⟩
def Dp (a:RL fa ρ e):R (Cm fa) ρ (iE e):=⟨a.v,a.D,fun h=>by
 have:XF a.b=some (a.v.map e):=by
  have:=a.lk
  revert this
  generalize a.b=b
  generalize a.v.map e=ds
  intro this
  cases b with
  |z d=>cases d<;>cases this;rfl
  |l d=>cases this;rfl
  |o d=>cases this;rfl
  |n d=>cases this
  |m d _=>cases this
 simp only[Cm,a.ok h,bnd,this]⟩
def Le (a:R fa ρ (zE (eT e))):R (Cm fa) ρ (iE e):=⟨a.v,a.D,fun h=>by simp only[Cm,a.ok h,bnd,XF]⟩
def adY (a:R fa ρ (oE e)):R (itF fa) ρ (iE e):=⟨a.v,a.D,fun h=>by simp only[itF,a.ok h,bnd,Xw]⟩
def rng (i:Int) (n:Nat):List Int:=(List.range n).map fun k:Nat=>i+(k:Int)
theorem YW (i:Int) (n:Nat):J6 i n=(rng i n).map eI:=by
 unfold J6 rng
 rw[Zs]
 rfl
def Rg (j:Int):Prop:=-4611686018427387904<=j/\j < 4611686018427387904
def GR (a:R fa ρ (zE eI)):R (S7 (aq fa aG)) ρ (iE eI):=⟨rng 0 a.v.toNat,bG a.D (some (Rg a.v)),fun h=>by
 obtain⟨h,h4⟩:=aB h
 simp only[S7,aq,aG,a.ok h,bnd]
 show (if -(2 ^ 62)<=a.v/\a.v < 2 ^ 62 then some (J6 0 a.v.toNat) else none)=_
 exact (zo h4).trans (by rw[YW])⟩
end
section
variable {α β γ δ ε σ τ:Type} {ρ:Ev} {f fa fb fc fd:Ev->Option Bx} {p q:Ev->Option Bool} {fs:Ev->Option (List Bx)} {e:α->Dt} {e':β->Dt} {g g1 g2 k:Ev->Option Out} {cO:γ->Out} {gt:Dt->Ev->Option Ev}
theorem p7 {ρ':Ev} (h:g1 ρ=some (.nx ρ')):aF g1 k ρ=k ρ':=by
 unfold aF
 rw[h]
 rfl
def cF (x:R (aF g (aF g1 k)) ρ cO):R (aF (aF g g1) k) ρ cO:=⟨x.v,x.D,fun h=>by
 rw[<-x.ok h]
 unfold aF
 cases g ρ with
 |none=>rfl
 |some o=>cases o<;>rfl⟩
def fB (x:R k ρ cO):R (aF lq k) ρ cO:=⟨x.v,x.D,fun h=>x.ok h⟩
def cI {is:List Nat} (x:γ) (h:cO x=.nx (kill is ρ)):R (gF is) ρ cO:=⟨x,none,fun _=>by rw[h];rfl⟩
def jE {c:α->Bx} (inj:α->γ) (a:R f ρ c) (h:∀ x,cO (inj x)=.rt (c x)) (hc:∀ x,Ud (c x)=some (.rt (c x))):R (aF (mG f) k) ρ cO:=⟨inj a.v,a.D,fun hd=>by
 have:mG f ρ=some (.rt (c a.v)):=by unfold mG;rw[a.ok hd,bnd,hc]
 unfold aF
 rw[this,h]
 rfl⟩
def V3 {c:α->Bx} (i:Nat) (inj:α->γ) (a:α) (hi:ρ[i]?=some (some (c a))) (h:∀ x,cO (inj x)=.rt (c x)) (hc:∀ x,Ud (c x)=some (.rt (c x))):R (aF (Hz i) k) ρ cO:=⟨inj a,none,fun hd=>by
 have:Hz i ρ=some (.rt (c a)):=by unfold Hz;rw[hi];exact hc a
 unfold aF
 rw[this,h]
 rfl⟩
def bO {c:α->Bx} (i:Nat) (a:R f ρ c) (hc:∀ x,Ue ρ i (c x)=some (ρ.set i (some (c x)))) (K:∀ x,R k (ρ.set i (some (c x))) cO):R (aF (setG i f) k) ρ cO:=⟨(K a.v).v,bG a.D (K a.v).D,fun hd=>by
 obtain⟨h1,h2⟩:=aB hd
 rw[p7 (ρ':=ρ.set i (some (c a.v))) (by unfold setG;rw[a.ok h1,bnd,hc,bnd])]
 exact (K a.v).ok h2⟩
def vY (a:R f ρ (zE e)) (ρ2:α->Ev) (hg:∀ x,gt (e x) ρ=some (ρ2 x)) (K:∀ x,R k (ρ2 x) cO):R (aF (Ar gt f) k) ρ cO:=⟨(K a.v).v,bG a.D (K a.v).D,fun hd=>by
 obtain⟨h1,h2⟩:=aB hd
 rw[p7 (ρ':=ρ2 a.v) (by unfold Ar;rw[a.ok h1,bnd];simp only[hg,bnd])]
 exact (K a.v).ok h2⟩
def Z6 (i j:Nat) (a:R fa ρ (zE e)) (b:R fb ρ (zE e')) (K:∀ x y,R k ((ρ.set i (some (.z (e x)))).set j (some (.z (e' y)))) cO):R (aF (X3 i j (aq fa (aq fb aG))) k) ρ cO:=⟨(K a.v b.v).v,bG (bG a.D b.D) (K a.v b.v).D,fun hd=>by
 obtain⟨h1,h3⟩:=aB hd
 obtain⟨h1,h2⟩:=aB h1
 rw[p7 (ρ':=(ρ.set i (some (.z (e a.v)))).set j (some (.z (e' b.v)))) (by unfold X3;simp only[aq,aG,a.ok h1,b.ok h2,bnd,Xu])]
 exact (K a.v b.v).ok h3⟩
def Ad (i:Nat) (xs:List α) (hi:ρ[i]?=some (some (.o (xs.map e)))) (a:R f ρ (zE e)) (K:∀ ys:List α,R k (ρ.set i (some (.o (ys.map e)))) cO):R (aF (Eo i f) k) ρ cO:=⟨(K (xs++[a.v])).v,bG (bG a.D (some (Eh xs.length))) (K (xs++[a.v])).D,fun hd=>by
 obtain⟨h1,h3⟩:=aB hd
 obtain⟨h1,h2⟩:=aB h1
 have h2:xs.length<=1000000:=h2
 rw[p7 (ρ':=ρ.set i (some (.o ((xs++[a.v]).map e)))) (by
  unfold Eo
  rw[a.ok h1,bnd]
  simp only[Xv,hi,zi,ZO,zk,JY]
  rw[zo (ye h2 (by decide))])]
 exact (K _).ok h3⟩
def vZ (t:R p ρ tE) (a:R (aF g1 k) ρ cO) (b:R (aF g2 k) ρ cO):R (aF (Bo p g1 g2) k) ρ cO:=⟨if t.v=true then a.v else b.v,bG t.D (bG (Im (t.v=true) a.D) (Im (t.v=false) b.D)),fun hd=>by
 obtain⟨h1,h2⟩:=aB hd
 obtain⟨h2,h3⟩:=aB h2
 have e1:∀ c,t.v=c->aF (Bo p g1 g2) k ρ=aF (if c=true then g1 else g2) k ρ:=fun c hc=>by
  unfold aF Bo
  rw[t.ok h1,bnd,hc]
  cases c<;>rfl
 cases hv:t.v with
 |true=>rw[e1 true hv];simp only[QO];exact a.ok (pY h2 hv)
 |false=>rw[e1 false hv];simp only[zr,ZH];exact b.ok (pY h3 hv)⟩
def Ae (E:σ->Ev) (t:R p ρ tE) (a:R g1 ρ (fun s=>Out.nx (E s))) (b:R g2 ρ (fun s=>Out.nx (E s))) (K:∀ s,R k (E s) cO):R (aF (Bo p g1 g2) k) ρ cO:=⟨(K (if t.v=true then a.v else b.v)).v,bG (bG t.D (bG (Im (t.v=true) a.D) (Im (t.v=false) b.D))) (K (if t.v=true then a.v else b.v)).D,fun hd=>by
 obtain⟨h,h4⟩:=aB hd
 obtain⟨h1,h2⟩:=aB h
 obtain⟨h2,h3⟩:=aB h2
 rw[p7 (ρ':=E (if t.v=true then a.v else b.v)) (by
  unfold Bo
  rw[t.ok h1,bnd]
  cases hv:t.v with
  |true=>simp only[QO];exact a.ok (pY h2 hv)
  |false=>simp only[zr,ZH];exact b.ok (pY h3 hv))]
 exact (K _).ok h4⟩
def rZ (step:σ->α->σ) (P:σ->α->Option Prop):List α->σ->Prop
 |[],_=>True
 |x::xs,s=>hold (P s x)/\rZ step P xs (step s x)
theorem yr {gb:Ev->Option Out} (E:σ->Ev) (ρ2:σ->α->Ev) (hg:∀ s x,gt (e x) (E s)=some (ρ2 s x)) (body:∀ s x,R gb (ρ2 s x) (fun s=>Out.nx (E s))):∀ (xs:List α) (s:σ),rZ (fun s x=>(body s x).v) (fun s x=>(body s x).D) xs s->qO gt gb (xs.map e) (E s)=some (.nx (E (xs.foldl (fun s x=>(body s x).v) s)))
 |[],s,_=>rfl
 |x::xs,s,h=>by
  simp only[zk,qO,hg,bnd,(body s x).ok h.1,z4]
  exact yr E ρ2 hg body xs _ h.2
variable {fi:Ev->Option (List Dt)} {gb:Ev->Option Out}
def Lf (E:σ->Ev) (s0:σ) (hE:ρ=E s0) (it:R fi ρ (iE e)) (ρ2:σ->α->Ev) (hg:∀ s x,gt (e x) (E s)=some (ρ2 s x)) (body:∀ s x,R gb (ρ2 s x) (fun s=>Out.nx (E s))) (K:∀ s,R k (E s) cO):R (aF (xU fi gt gb) k) ρ cO:=⟨(K (it.v.foldl (fun s x=>(body s x).v) s0)).v,bG (bG it.D (some (rZ (fun s x=>(body s x).v) (fun s x=>(body s x).D) it.v s0))) (K (it.v.foldl (fun s x=>(body s x).v) s0)).D,fun hd=>by
 obtain⟨h,h4⟩:=aB hd
 obtain⟨h1,h2⟩:=aB h
 rw[p7 (ρ':=E (it.v.foldl (fun s x=>(body s x).v) s0)) (by
  unfold xU
  rw[it.ok h1,bnd]
  subst hE
  exact yr E ρ2 hg body it.v s0 h2)]
 exact (K _).ok h4⟩
def abV (E:σ->Ev) (s0:σ) (hE:ρ=E s0) (it:R fi ρ (iE e)) (ρ2:σ->α->Ev) (hg:∀ s x,gt (e x) (E s)=some (ρ2 s x)) (body:∀ s x,R gb (ρ2 s x) (fun s=>Out.nx (E s))) (hb:∀ s x,(body s x).D=none) (K:∀ s,R k (E s) cO):R (aF (xU fi gt gb) k) ρ cO:=⟨(K (it.v.foldl (fun s x=>(body s x).v) s0)).v,bG it.D (K (it.v.foldl (fun s x=>(body s x).v) s0)).D,fun hd=>by
 obtain⟨h1,h4⟩:=aB hd
 have h2:∀ (xs:List α) (s:σ),rZ (fun s x=>(body s x).v) (fun s x=>(body s x).D) xs s:=fun xs=>by
  induction xs with
  |nil=>intro s;trivial
  |cons x xs ih=>intro s;exact⟨by show hold (body s x).D;rw[hb s x];trivial,ih _⟩
 rw[p7 (ρ':=E (it.v.foldl (fun s x=>(body s x).v) s0)) (by
  unfold xU
  rw[it.ok h1,bnd]
  subst hE
  exact yr E ρ2 hg body it.v s0 (h2 _ _))]
 exact (K _).ok h4⟩
inductive Lg (σ τ:Type) where
 |nx (s:σ)|rt (r:τ)|bk (s:σ)|ct (s:σ)
def cC (E:σ->Ev) (c:τ->Bx):Lg σ τ->Out
 |.nx s=>.nx (E s)
 |.rt r=>.rt (c r)
 |.bk s=>.bk (E s)
 |.ct s=>.ct (E s)
def zH (step:σ->α->Lg σ τ):List α->σ->Lg σ τ
 |[],s=>.nx s
 |x::xs,s=>match step s x with
  |.nx s'=>zH step xs s'
  |.ct s'=>zH step xs s'
  |.bk s'=>.nx s'
  |.rt r=>.rt r
def GX (step:σ->α->Lg σ τ) (P:σ->α->Option Prop):List α->σ->Prop
 |[],_=>True
 |x::xs,s=>hold (P s x)/\match step s x with
  |.nx s'=>GX step P xs s'
  |.ct s'=>GX step P xs s'
  |.bk _=>True
  |.rt _=>True
theorem Iu {c:τ->Bx} (E:σ->Ev) (ρ2:σ->α->Ev) (hg:∀ s x,gt (e x) (E s)=some (ρ2 s x)) (body:∀ s x,R gb (ρ2 s x) (cC E c)):∀ (xs:List α) (s:σ),GX (fun s x=>(body s x).v) (fun s x=>(body s x).D) xs s->qO gt gb (xs.map e) (E s)=some (cC E c (zH (fun s x=>(body s x).v) xs s))
 |[],s,_=>rfl
 |x::xs,s,h=>by
  obtain⟨h1,h2⟩:=h
  dsimp only at h2
  simp only[zk,qO,hg,bnd,(body s x).ok h1,zH]
  revert h2
  cases (body s x).v with
  |nx s'=>intro h2;exact Iu E ρ2 hg body xs s' h2
  |ct s'=>intro h2;exact Iu E ρ2 hg body xs s' h2
  |bk s'=>intro _;rfl
  |rt r=>intro _;rfl
theorem Dq (step:σ->α->Lg σ τ):∀ (xs:List α) (s:σ),(∃ s',zH step xs s=.nx s')\/∃ r,zH step xs s=.rt r
 |[],s=>.inl ⟨s,rfl⟩
 |x::xs,s=>by
  unfold zH
  cases step s x with
  |nx s'=>exact Dq step xs s'
  |ct s'=>exact Dq step xs s'
  |bk s'=>exact .inl ⟨s',rfl⟩
  |rt r=>exact .inr ⟨r,rfl⟩
def behind (r:Lg σ τ) (inj:τ->γ) (K:σ->γ):γ:=match r with
 |.rt r=>inj r
 |.nx s=>K s
 |.bk s=>K s
 |.ct s=>K s
def Iv (r:Lg σ τ) (K:σ->Prop):Prop:=match r with
 |.rt _=>True
 |.nx s=>K s
 |.bk s=>K s
 |.ct s=>K s
def YX (r:Lg σ τ) (K:σ->Option Prop):Option Prop:=some (Iv r fun s=>hold (K s))
def R.to {α β:Type} {f:Ev->Option β} {ρ:Ev} {c:α->β} (x:R f ρ c) (v':α) (D':Option Prop) (hv:x.v=v':=by kernel_rfl) (hD:x.D=D':=by kernel_rfl):R f ρ c:=⟨v',D',fun h=>by
 subst hv hD
 exact x.ok h⟩
theorem abW {i:Nat} {ds:List Dt} (h:ρ[i]?=some (some (.l ds))):rz i gt gb ρ=qO gt gb ds ρ:=by unfold rz;rw[h]
theorem V4 {i:Nat} {ds:List Dt} (h:ρ[i]?=some (some (.z (.tup ds)))):rz i gt gb ρ=qO gt gb ds ρ:=by unfold rz;rw[h];rfl
theorem Om {i:Nat} {ds:List Dt} (h:ρ[i]?=some (some (.z (.lst ds)))):rz i gt gb ρ=qO gt gb ds ρ:=by unfold rz;rw[h];rfl
theorem abX {i:Nat} {ds:List Dt} {b:Bx} (hp:Lp b ds) (h:ρ[i]?=some (some b)):rz i gt gb ρ=qO gt gb ds ρ:=by
 rcases hp with rfl|rfl
 ·exact Om h
 ·exact abW h
def Iw (i:Nat) {ρ':Ev} (xs:List α) (hv:rz i gt gb ρ=qO gt gb (xs.map e) ρ') (E:σ->Ev) (s0:σ) (hE:ρ'=E s0) (ρ2:σ->α->Ev) (hg:∀ s x,gt (e x) (E s)=some (ρ2 s x)) (body:∀ s x,R gb (ρ2 s x) (fun s=>Out.nx (E s))) (K:∀ s,R k (E s) cO):R (aF (rz i gt gb) k) ρ cO:=⟨(K (xs.foldl (fun s x=>(body s x).v) s0)).v,bG (some (rZ (fun s x=>(body s x).v) (fun s x=>(body s x).D) xs s0)) (K (xs.foldl (fun s x=>(body s x).v) s0)).D,fun hd=>by
 obtain⟨h2,h4⟩:=aB hd
 rw[p7 (ρ':=E (xs.foldl (fun s x=>(body s x).v) s0)) (by
  rw[hv,hE]
  exact yr E ρ2 hg body xs s0 h2)]
 exact (K _).ok h4⟩
def YZ {c:τ->Bx} (i:Nat) {ρ':Ev} (xs:List α) (hv:rz i gt gb ρ=qO gt gb (xs.map e) ρ') (E:σ->Ev) (s0:σ) (hE:ρ'=E s0) (ρ2:σ->α->Ev) (hg:∀ s x,gt (e x) (E s)=some (ρ2 s x)) (body:∀ s x,R gb (ρ2 s x) (cC E c)) (inj:τ->γ) (hj:∀ r,cO (inj r)=.rt (c r)) (K:∀ s,R k (E s) cO):R (aF (rz i gt gb) k) ρ cO:=⟨behind (zH (fun s x=>(body s x).v) xs s0) inj fun s=>(K s).v,bG (some (GX (fun s x=>(body s x).v) (fun s x=>(body s x).D) xs s0)) (YX (zH (fun s x=>(body s x).v) xs s0) fun s=>(K s).D),fun hd=>by
 obtain⟨h2,h4⟩:=aB hd
 have e1:rz i gt gb ρ=some (cC E c (zH (fun s x=>(body s x).v) xs s0)):=by
  rw[hv,hE]
  exact Iu E ρ2 hg body xs s0 h2
 rcases Dq (fun s x=>(body s x).v) xs s0 with⟨s',es⟩|⟨r,es⟩
 ·rw[es] at e1 h4 ⊢
  rw[p7 e1]
  exact (K s').ok h4
 ·rw[es] at e1 ⊢
  show aF (rz i gt gb) k ρ=some (cO (inj r))
  unfold aF
  rw[e1,hj]
  rfl⟩
abbrev mE (e:α->Dt):List (Str×α)->Bx:=fun m=>.m (m.map fun q=>(q.1,e q.2)) none
abbrev nE (e:α->Dt):List (Str×α)->Bx:=fun m=>.n (m.map fun q=>(q.1,e q.2))
def look [Inhabited α] (m:List (Str×α)) (x:Str):α:=((m.find? fun q=>decide (q.1=x)).map (·.2)).getD default
def has (m:List (Str×α)) (x:Str):Bool:=m.any fun q=>decide (q.1=x)
def put (m:List (Str×α)) (x:Str) (a:α):List (Str×α):=if has m x=true then m.map (fun q=>if q.1=x then (q.1,a) else q) else m++[(x,a)]
theorem V5 (m:List (Str×α)) (x:Str):Cu (m.map fun q=>(q.1,e q.2)) x=((m.find? fun q=>decide (q.1=x)).map (·.2)).map e:=by
 unfold Cu
 rw[List.find?_map]
 simp only[Option.map_map]
 rfl
theorem V6 [Inhabited α] {m:List (Str×α)} {x:Str} (h:has m x=true):Cu (m.map fun q=>(q.1,e q.2)) x=some (e (look m x)):=by
 rw[V5]
 unfold look
 unfold has at h
 rw[kf] at h
 obtain⟨q,hq,hx⟩:=h
 cases hf:m.find? fun q=>decide (q.1=x) with
 |none=>exact absurd hx (by simpa using List.find?_eq_none.mp hf q hq)
 |some q=>rfl
def iD [Inhabited α] (a:R fa ρ (nE e)) (b:R fb ρ (zE eS)):R (b2 jk fa fb) ρ (zE e):=⟨look a.v b.v,bG (bG a.D b.D) (some (has a.v b.v=true)),fun h=>by
 obtain⟨h,h3⟩:=aB h
 obtain⟨h1,h2⟩:=aB h
 simp only[b2,a.ok h1,b.ok h2,bnd,jk,V6 (show has a.v b.v=true from h3)]⟩
theorem Iz (m:List (Str×α)) (x:Str) (a:α):zq (m.map fun q=>(q.1,e q.2)) x (e a)=(put m x a).map fun q=>(q.1,e q.2):=by
 unfold zq put has
 rw[List.any_map]
 by_cases h:(m.any fun q=>decide (q.1=x))=true
 ·rw[zo h,zo (by exact h)]
  rw[Zs,Zs]
  refine QQ fun q _=>?_
  simp only[Function.comp]
  by_cases hq:q.1=x<;>simp[hq]
 ·rw[zw h,zw (by exact h)]
  simp
end
section
variable {α β:Type} {ρ:Ev} {fa f:Ev->Option Bx} {fs:Ev->Option (List Str)} {fi:Ev->Option (List Dt)} {e:α->Dt}
theorem IK {b:Bx} {ds:List Dt} (h:qj b=some ds):uw b=some ds:=by
 cases b with
 |z d=>cases d<;>first|exact h|(cases h;done)
 |l _=>exact h
 |o _=>exact h
 |n _=>cases h
 |m _ _=>cases h
end
end P1
end
section
namespace P1
open PySem PySem.Spec PyProof.Rows L2 S1 S6
class qz {α:Type} (e:α->Dt) where
 k:α->Key
 ok:∀ a,Ye (e a)=some (k a)
 inj:∀ a b,k a=k b->a=b
 same:∀ a b,PX (k a) (k b)=true
instance:qz eI:=⟨fun i=>.inl i,fun _=>rfl,fun a b h=>by cases h;rfl,fun _ _=>rfl⟩
instance:qz eS:=⟨fun i=>.inr i,fun _=>rfl,fun a b h=>by cases h;rfl,fun _ _=>rfl⟩
class rH {α:Type} (e:α->Dt) where
 k:α->List Key
 ok:∀ a,Cy (e a)=some (k a)
 inj:∀ a b,k a=k b->a=b
 shp:∀ a b,Ia (k a) (k b)=true
 ne:∀ a,(k a).isEmpty=false
class V7 {α:Type} (e:α->Dt) [rH e]:Prop where
 tx:∀ a,KR (rH.k e a)=true
section
variable {α β γ δ:Type} {e:α->Dt} {e':β->Dt} {e'':γ->Dt} {e3:δ->Dt}
instance [qz e] [qz e']:rH (VG e e'):=⟨fun q=>[qz.k e q.1,qz.k e' q.2],fun q=>by simp only[Cy,z8,qz.ok,bnd],fun a b h=>by
 simp only[JJ,and_true] at h
 exact Prod.ext (qz.inj _ _ h.1) (qz.inj _ _ h.2),fun a b=>by simp[Ia,qz.same],fun _=>rfl⟩
instance [qz e] [qz e'] [qz e'']:rH (Sh e e' e''):=⟨fun q=>[qz.k e q.1,qz.k e' q.2.1,qz.k e'' q.2.2],fun q=>by simp only[Cy,z8,qz.ok,bnd],fun a b h=>by
 simp only[JJ,and_true] at h
 exact Prod.ext (qz.inj _ _ h.1) (Prod.ext (qz.inj _ _ h.2.1) (qz.inj _ _ h.2.2)),fun a b=>by simp[Ia,qz.same],fun _=>rfl⟩
instance [qz e] [qz e'] [qz e''] [qz e3]:rH (ZS e e' e'' e3):=⟨fun q=>[qz.k e q.1,qz.k e' q.2.1,qz.k e'' q.2.2.1,qz.k e3 q.2.2.2],fun q=>by simp only[Cy,z8,qz.ok,bnd],fun a b h=>by
 simp only[JJ,and_true] at h
 exact Prod.ext (qz.inj _ _ h.1) (Prod.ext (qz.inj _ _ h.2.1) (Prod.ext (qz.inj _ _ h.2.2.1) (qz.inj _ _ h.2.2.2))),fun a b=>by simp[Ia,qz.same],fun _=>rfl⟩
instance [qz e]:V7 (VG e eS):=⟨fun a=>by simp[rH.k,KR,qz.k]⟩
instance [qz e] [qz e']:V7 (Sh e eS e'):=⟨fun a=>by simp[rH.k,KR,qz.k]⟩
instance [qz e] [qz e'] [qz e'']:V7 (ZS e eS e' e''):=⟨fun a=>by simp[rH.k,KR,qz.k]⟩
variable {ρ:Ev} {fa f:Ev->Option Bx} {fs:Ev->Option (List (List Key))}
theorem wV [rH e]:∀ xs:List α,rW (xs.map e)=some (xs.map (rH.k e))
 |[]=>rfl
 |x::xs=>by simp only[zk,rW,rH.ok,bnd,wV xs]
def leT (e:α->Dt) [rH e] (a b:α):Bool:=uH (rH.k e a) (rH.k e b)
def p8 (e:α->Dt) [rH e] (xs:List α):List α:=xs.mergeSort (leT e)
theorem gM [rH e] (xs:List α):(p8 e xs).Perm xs:=KP ..
theorem wW [rH e] (xs:List α):(p8 e xs).Pairwise (fun a b=>leT e a b=true):=kU (le:=leT e) (fun a b c=>wM (rH.k e a) (rH.k e b) (rH.k e c)) (fun a b=>wN (rH.k e a) (rH.k e b)) xs
theorem V8 [rH e] {a b:α} (h:leT e a b=true) (h':leT e b a=true):a=b:=rH.inj _ _ (zu h h')
theorem GZ [rH e] (xs:List α):mH (xs.map (rH.k e))=(p8 e xs).map (rH.k e):=by
 refine (rC ((gM xs).map _) (List.pairwise_map.mpr (wW xs))).symm
theorem V9 [rH e] (xs:List α):(xs.map (rH.k e)).map tupK=xs.map e:=by
 rw[Zs]
 exact QQ fun a _=>(Kq (rH.ok a)).symm
theorem Lh [rH e] (xs:List α) (h:xs.length < 64):Av (xs.map (rH.k e))=true:=by
 simp only[Av,ZN,Zp,QA,QR,zi,Ki,forall_exists_index,and_imp,forall_apply_eq_imp_iff₂]
 exact⟨h,fun a _=>rH.ne a,fun a _ b _=>rH.shp a b⟩
def Y0 [rH e] (a:R fa ρ (zE (eT e))):R (bZ uJ (aq fa aG)) ρ (oE e):=⟨p8 e a.v,bG a.D (some (a.v.length < 64)),fun h=>by
 obtain⟨h,h4⟩:=aB h
 simp only[bZ,aq,aG,a.ok h,bnd,uJ,uw,eT,wV,Lh a.v h4,QO,GZ,V9]⟩
abbrev uE (e:α->Dt) [rH e]:List α->List (List Key):=fun xs=>xs.map (rH.k e)
def Wa [rH e] [V7 e] (a:RL fa ρ e):R (N5 fa) ρ (uE e):=⟨a.v,bG a.D (some (a.v.length<=64)),fun h=>by
 obtain⟨h,h4⟩:=aB h
 have h4:a.v.length<=64:=h4
 have ht:(a.v.map (rH.k e)).all KR=true:=by
  rw[List.all_map,QA];exact fun x _=>V7.tx x
 simp only[N5,a.ok h,bnd,ZP,IK a.lk,wV]
 rw[zo ⟨by rw[zi];exact h4,ht⟩]⟩
def Wb [DecidableEq α] [rH e] (a:R fs ρ (uE e)):R (CT fs) ρ (oE e):=⟨p8 e (Eu a.v),bG a.D (some (a.v.length < 64)),fun h=>by
 obtain⟨h,h4⟩:=aB h
 simp only[CT,a.ok h,bnd,Lh a.v h4,QO,Ik rH.inj,GZ,V9]⟩
end
end P1
end
section
namespace P1
open PySem PySem.Spec PyProof.Rows L2
section
variable {α β γ:Type} {ρ:Ev} {fa fb fd f fk fv:Ev->Option Bx} {fs:Ev->Option (List Bx)} {fi:Ev->Option (List Dt)} {e:α->Dt} {e':β->Dt} {g k:Ev->Option Out} {cO:γ->Out} {gt:Dt->Ev->Option Ev} {p:Ev->Option Bool} {is:List Nat} {n:Nat}
abbrev mW (w:Option Addr) (e:α->Dt):List (Str×α)->Bx:=fun m=>.m (m.map fun q=>(q.1,e q.2)) w
def aM (e:α->Dt) (t:γ->List Bx->Prop):List (Str×α)×γ->List Bx->Prop:=fun x bs=>∃ b r,bs=b::r/\(b=nE e x.1\/b=mE e x.1)/\t x.2 r
def abZ {t:γ->List Bx->Prop} (a:R fa ρ (nE e)) (r:AR t fs ρ):AR (aM e t) (aq fa fs) ρ:=⟨(a.v,r.v),bG a.D r.D,_,⟨_,_,rfl,.inl rfl,r.h⟩,fun h=>by
 obtain⟨h1,h2⟩:=aB h
 simp only[aq,a.ok h1,r.ok h2,bnd]⟩
def Y4 (w:Option Addr) (i:Nat) (m:List (Str×α)) (hi:ρ[i]?=some (some (mW w e m))) (a:R fa ρ (zE e)) (b:R fb ρ (zE eS)) (K:∀ m':List (Str×α),R k (ρ.set i (some (mW w e m'))) cO):R (aF (Uv i fa fb) k) ρ cO:=⟨(K (put m b.v a.v)).v,bG (bG (bG a.D b.D) (some (m.length < 1000))) (K (put m b.v a.v)).D,fun hd=>by
 obtain⟨h,h4⟩:=aB hd
 obtain⟨h,h3⟩:=aB h
 obtain⟨h1,h2⟩:=aB h
 rw[p7 (ρ':=ρ.set i (some (mW w e (put m b.v a.v)))) (by
  unfold Uv
  rw[a.ok h1,bnd,b.ok h2,bnd]
  simp only[Kg,hi,mW,zi,zo (show m.length < 1000 from h3),Iz])]
 exact (K _).ok h4⟩
def mkD (qs:List (Str×β)):List (Str×β):=qs.foldl (fun m q=>put m q.1 q.2) []
theorem Oo (qs:List (Str×β)):dictOf (qs.map (VG eS e'))=(mkD qs).map fun q=>(q.1,e' q.2):=by
 unfold dictOf mkD
 have:∀ (qs:List (Str×β)) (m:List (Str×β)),(qs.map (VG eS e')).foldl abF (m.map fun q=>(q.1,e' q.2))=(qs.foldl (fun m q=>put m q.1 q.2) m).map fun q=>(q.1,e' q.2):=by
  intro qs
  induction qs with
  |nil=>intro m;rfl
  |cons q qs ih=>
   intro m
   rw[zk,z4,z4]
   show (qs.map (VG eS e')).foldl abF (zq (m.map fun q=>(q.1,e' q.2)) q.1 (e' q.2))=_
   rw[Iz]
   exact ih _
 exact this qs []
def Y5 (a:R fk ρ (zE eS)) (b:R fv ρ (zE e)):R (b2 Aa fk fv) ρ (zE (VG eS e)):=⟨(a.v,b.v),bG a.D b.D,fun h=>by
 obtain⟨h1,h2⟩:=aB h
 simp only[b2,a.ok h1,b.ok h2,bnd,Aa]⟩
def Y6 (i:R fi ρ (iE e)) (a:R (fU fi gt p (b2 Aa fk fv) is n) ρ (oE (VG eS e'))):R (Qk fi gt p fk fv is n) ρ (mE e'):=⟨mkD a.v,bG (bG i.D (some (i.v.length < 1000))) a.D,fun h=>by
 obtain⟨h,h3⟩:=aB h
 obtain⟨h1,h2⟩:=aB h
 have h2:i.v.length < 1000:=h2
 have ha:=a.ok h3
 unfold fU at ha
 unfold Qk
 rw[i.ok h1,bnd] at ha ⊢
 rw[zo (by rw[zi];omega)] at ha
 rw[zo (by rw[zi];exact h2)]
 obtain⟨out,eo,ha⟩:=bind_some ha
 rw[eo,bnd]
 injection ha with ha
 injection ha with ha
 rw[ha,Oo]⟩
def ad0 (a:R fd ρ (nE e)):R (K1 fd) ρ (iE eS):=⟨a.v.map (·.1),a.D,fun h=>by
 simp only[K1,a.ok h,bnd,keyB,Zs]
 rfl⟩
def Y7 (a:R fa ρ (nE e)):R (bZ CW (aq fa aG)) ρ (oE eS):=⟨a.v.map (·.1),a.D,fun h=>by
 simp only[bZ,aq,aG,a.ok h,bnd,CW,Zs]
 show _=some (Bx.o ((a.v.map (·.1)).map eS))
 rw[Zs]
 rfl⟩
def Wc (a:R fa ρ (zE eS)) (b:R fb ρ (zE eS)):R (bZ uM (aq fa (aq fb aG))) ρ (zE eS):=⟨if Ay b.v a.v=true then b.v else a.v,bG a.D b.D,fun h=>by
 obtain⟨h1,h2⟩:=aB h
 simp only[bZ,aq,aG,a.ok h1,b.ok h2,bnd,uM]
 rfl⟩
def ab0 (a:R fa ρ (zE eS)) (b:R fb ρ (zE eS)):R (bZ K6 (aq fa (aq fb aG))) ρ (zE eS):=⟨if Ay a.v b.v=true then b.v else a.v,bG a.D b.D,fun h=>by
 obtain⟨h1,h2⟩:=aB h
 simp only[bZ,aq,aG,a.ok h1,b.ok h2,bnd,K6]
 rfl⟩
theorem Y8 {n:Nat} {bs:List Bx} {a:Addr} {m:List (Str×α)} {ρ2:List (Str×α)->Ev} (x:R g ((mW (some a) e m::bs).map some++List.replicate (n - (bs.length+1)) none) (fun m'=>Out.nx (ρ2 m'))) (h:hold x.D) (h0:∀ m',(ρ2 m')[0]?=some (some (mW (some a) e m'))):K7 n g a (m.map fun q=>(q.1,e q.2)) bs=some (x.v.map fun q=>(q.1,e q.2)):=by
 unfold K7
 rw[x.ok h,bnd]
 simp only[h0,QO]
def ab1 {cA:γ->List Bx->Prop} {δ:Type} {cO:δ->Out} {G:Addr->List (Str×Dt)->List Bx->Option (List (Str×Dt))} {n:Nat} {T:List (Str×α)->γ->List (Str×α)} {Df:List (Str×α)->γ->Option Prop} (w:Option Addr) (i:Nat) (m:List (Str×α)) (hi:ρ[i]?=some (some (mW w e m)))
  (S:∀ m v bs,cA v bs->bs.length=n/\bs.all ZQ=true/\(hold (Df m v)->∀ a,G a (m.map fun q=>(q.1,e q.2)) bs=some ((T m v).map fun q=>(q.1,e q.2)))) (a:AR cA fs ρ) (K:∀ m':List (Str×α),R k (ρ.set i (some (mW w e m'))) cO):R (aF (Dc i n G fs) k) ρ cO:=⟨(K (T m a.v)).v,bG (bG a.D (Df m a.v)) (K (T m a.v)).D,fun hd=>by
 obtain⟨h,h4⟩:=aB hd
 obtain⟨h1,h2⟩:=aB h
 obtain⟨s1,s2,s3⟩:=S m a.v a.bs a.h
 rw[p7 (Vn hi (a.ok h1) s1 s2 (s3 h2))]
 exact (K _).ok h4⟩
end
section
variable {α:Type} {ρ:Ev} {fa fb:Ev->Option Bx} {e:α->Dt}
def tX [DecidableEq α] (x:α) (ys:List α):Bool:=decide (x∈ys)
theorem rJ [DecidableEq α] {x:α} {ys:List α}:tX x ys=true↔x∈ys:=by unfold tX;rw[Zp]
theorem Li [DecidableEq α] {n:Nat} [Eqs e n] (hn:n<=60) (x:α) (ys:List α):R5 (e x) (ys.map e)=some (decide (x∈ys)):=by
 unfold R5
 rw[zo]
 ·congr 1
  rw[List.any_map,kP,kf,Zp]
  constructor
  ·rintro⟨y,hy,h⟩
   simp only[Function.comp,Eqs.eq] at h
   by_cases q:y=x
   ·exact q▸hy
   ·simp[q,Tc] at h
  ·intro h
   exact⟨x,h,by simp[Function.comp,Eqs.eq,Tc]⟩
 ·rw[List.all_map,QA]
  intro y _
  have:=Eqs.dp (e:=e) y
  simp only[Function.comp,Eqs.eq,Option.isSome_some,Bool.true_and,Zp]
  omega
def ab2 [DecidableEq α] {n:Nat} [Eqs e n] (hn:n<=60) (a:R fa ρ (zE e)) (b:RL fb ρ e):R (b2 Vo fa fb) ρ (zE eB):=⟨!tX a.v b.v,bG a.D b.D,fun h=>by
 obtain⟨h1,h2⟩:=aB h
 simp only[b2,a.ok h1,b.ok h2,bnd,Vo,IK b.lk,Li hn,tX]⟩
def Wd [DecidableEq α] {n:Nat} [Eqs e n] (hn:n<=60) (a:R fa ρ (zE e)) (b:R fb ρ (zE (eT e))):R (b2 inX fa fb) ρ (zE eB):=⟨tX a.v b.v,bG a.D b.D,fun h=>by
 obtain⟨h1,h2⟩:=aB h
 simp only[b2,a.ok h1,b.ok h2,bnd,inX,uw,eT,Li hn,tX]⟩
end
end P1
end
section
namespace P1
open PySem PySem.Spec PyProof.Rows L2 S1 S6
section
variable {ρ:Ev} {fa:Ev->Option Bx}
def kT (xs:List Str):List Key:=xs.map Sum.inr
theorem ab3 {a b:List Str} (h:kT a=kT b):a=b:=by
 unfold kT at h
 induction a generalizing b with
 |nil=>cases b with|nil=>rfl|cons _ _=>simp at h
 |cons x a ih=>cases b with
  |nil=>simp at h
  |cons y b=>
   simp only[zk,JJ] at h
   rw[Sum.inr.inj h.1,ih h.2]
theorem Lj:∀ (xs:List Str),z8 (xs.map eS)=some (kT xs)
 |[]=>rfl
 |x::xs=>by simp only[zk,z8,Ye,bnd,Lj xs];rfl
theorem G3:∀ (xss:List (List Str)),rW (xss.map (eT eS))=some (xss.map kT)
 |[]=>rfl
 |x::xss=>by simp only[zk,rW,Cy,eT,Lj,bnd,G3 xss]
def Lk (a b:List Str):Bool:=uH (kT a) (kT b)
def su (xss:List (List Str)):List (List Str):=xss.mergeSort Lk
theorem Af (xs:List (List Str)):(su xs).Perm xs:=KP ..
theorem Ag (xs:List (List Str)):(su xs).Pairwise (fun a b=>Lk a b=true):=kU (le:=Lk) (fun a b c=>wM (kT a) (kT b) (kT c)) (fun a b=>wN (kT a) (kT b)) xs
theorem Sv {a b:List Str} (h:Lk a b=true) (h':Lk b a=true):a=b:=ab3 (zu h h')
theorem Sw {xs out:List (List Str)} (hp:out.Perm xs) (hs:out.Pairwise (fun a b=>Lk a b=true)):out=su xs:=qw (fun _ _=>Sv) (hp.trans (Af xs).symm) hs (Ag xs)
theorem Oq (xs:List (List Str)):mH (xs.map kT)=(su xs).map kT:=(rC ((Af xs).map _) (List.pairwise_map.mpr (Ag xs))).symm
theorem Y9 (xs:List (List Str)):(xs.map kT).map tupK=xs.map (eT eS):=by
 rw[Zs]
 refine QQ fun a _=>?_
 show Dt.tup ((kT a).map dK)=Dt.tup (a.map eS)
 unfold kT
 rw[Zs]
 rfl
theorem ab4 (a b:List Str):Ia (kT a) (kT b)=true:=by
 unfold Ia kT
 rw[QA]
 rintro⟨x,y⟩ h
 obtain⟨h1,h2⟩:=List.of_mem_zip h
 obtain⟨p,_,rfl⟩:=List.mem_map.mp h1
 obtain⟨q,_,rfl⟩:=List.mem_map.mp h2
 rfl
theorem Za (xs:List (List Str)) (h:xs.length < 64) (hn:∀ x∈xs,x.isEmpty=false):Av (xs.map kT)=true:=by
 simp only[Av,ZN,Zp,QA,QR,zi,Ki,forall_exists_index,and_imp,forall_apply_eq_imp_iff₂]
 refine⟨h,fun a ha=>?_,fun a _ b _=>ab4 a b⟩
 have:=hn a ha
 cases a with
 |nil=>cases this
 |cons _ _=>rfl
def Zb (a:RL fa ρ (eT eS)):R (bZ uJ (aq fa aG)) ρ (oE (eT eS)):=⟨su a.v,bG a.D (some (a.v.length < 64/\∀ x∈a.v,x.isEmpty=false)),fun h=>by
 obtain⟨h,h4⟩:=aB h
 obtain⟨h4,h5⟩:a.v.length < 64/\∀ x∈a.v,x.isEmpty=false:=h4
 simp only[bZ,aq,aG,a.ok h,bnd,uJ,IK a.lk,G3,Za a.v h4 h5,QO,Oq,Y9]⟩
end
section
variable {α:Type} {ρ:Ev} {f:Ev->Option Bx} {e:α->Dt}
theorem map_some (e:α->Dt) (xs:List α):(xs.map some).map (eO e)=xs.map e:=by rw[Zs];rfl
end
end P1
end
section
namespace P1
open PySem PySem.Spec PyProof.Rows L2
section
variable {α:Type} {k g:Ev->Option Out} {ρ:Ev} {cO:α->Out}
def Ot (i:Nat) (E:Ev) (hE:abH i ρ=some E) (K:R k E cO):R (Vq i k) ρ cO:=⟨K.v,K.D,fun h=>by
 unfold Vq;rw[hE];exact K.ok h⟩
end
section
variable {α:Type} {e:α->Dt} {ρ:Ev} {fa fb:Ev->Option Bx}
def Wz [DecidableEq α] (x:α) (ys:List α):Nat:=ys.findIdx fun y=>decide (y=x)
theorem Wf [DecidableEq α] {n:Nat} [Eqs e n] (hn:n<=60) {x:α} {ys:List α} (h:x∈ys):Vr (e x) (ys.map e)=some (Wz x ys):=by
 unfold Vr
 rw[zo]
 ·rw[List.findIdx?_map]
  have:((fun y=>Tc (vI y (e x))) ∘ e)=fun y=>decide (y=x):=by
   funext y
   simp only[Function.comp,Eqs.eq]
   by_cases q:y=x<;>simp[q,Tc]
  rw[this]
  exact List.findIdx?_eq_some_of_exists ⟨x,h,Zl rfl⟩
 ·rw[QA]
  intro y hy
  obtain⟨z,_,rfl⟩:=List.mem_map.mp hy
  rw[Eqs.eq,ZN,Zp]
  have:=Eqs.dp (e:=e) z
  exact⟨rfl,by omega⟩
def Zc [DecidableEq α] {n:Nat} [Eqs e n] (hn:n<=60) (b:R fb ρ (zE (eT e))) (a:R fa ρ (zE e)):R (b2 R6 fb fa) ρ (zE eI):=⟨(Wz a.v b.v:Int),bG (bG b.D a.D) (some (a.v∈b.v)),fun h=>by
 obtain⟨h,h3⟩:=aB h
 obtain⟨h1,h2⟩:=aB h
 have h3:a.v∈b.v:=h3
 simp only[b2,a.ok h2,b.ok h1,bnd,R6,eT,Wf hn h3]⟩
end
section
variable {σ τ γ:Type} {p:Ev->Option Bool} {gb k:Ev->Option Out} {ρ:Ev} {cO:γ->Out}
end
section
variable {α:Type} {e:α->Dt} {ρ:Ev} {fa:Ev->Option Bx}
end
section
variable {α β σ τ:Type}
theorem yt {step:σ->α->σ} {P:σ->α->Option Prop} (I:Nat->σ->Prop):∀ (xs:List α) (m:Nat) (s0:σ),I m s0->(∀ k x s,xs[k]?=some x->I (m+k) s->hold (P s x)/\I (m+k+1) (step s x))->rZ step P xs s0/\I (m+xs.length) (xs.foldl step s0)
 |[],m,s0,h0,_=>⟨trivial,h0⟩
 |x::xs,m,s0,h0,hs=>by
  obtain⟨h1,h2⟩:=hs 0 x s0 rfl h0
  have:=yt I xs (m+1) (step s0 x) h2 fun k y s e h=>by
   have:=hs (k+1) y s (by simpa using e) (by rw[show m+(k+1)=m+1+k by omega];exact h)
   rw[show m+(k+1)+1=m+1+k+1 by omega] at this
   exact this
  refine⟨⟨h1,this.1⟩,?_⟩
  rw[qk,show m+(xs.length+1)=m+1+xs.length by omega]
  exact this.2
theorem Zd {i:Int} {n k:Nat} {x:Int} (h:(rng i n)[k]?=some x):x=i+k/\k < n:=by
 unfold rng at h
 rw[zS] at h
 cases hk:(List.range n)[k]? with
 |none=>rw[hk] at h;cases h
 |some j=>
  rw[hk] at h
  have hl:k < n:=by simpa using (List.getElem?_eq_some_iff.mp hk).1
  have:j=k:=by
   rw[KS hl] at hk
   cases hk;rfl
  subst this
  cases h
  exact⟨rfl,hl⟩
theorem mK (i:Int) (n:Nat):(rng i n).length=n:=by unfold rng;simp
theorem yu {step:σ->Int->σ} {P:σ->Int->Option Prop} (I:Nat->σ->Prop) (n:Nat) (s0:σ) (h0:I 0 s0) (hs:∀ (k:Nat) s,k < n->I k s->hold (P s k)/\I (k+1) (step s k)):rZ step P (rng 0 n) s0/\I n ((rng 0 n).foldl step s0):=by
 have:=yt (P:=P) I (rng 0 n) 0 s0 h0 fun k x s e h=>by
  obtain⟨rfl,hk⟩:=Zd e
  rw[JP] at h ⊢
  rw[Int.zero_add]
  exact hs k s hk h
 rw[mK,JP] at this
 exact this
theorem qR [Inhabited α] {xs:List α} {i:Int} (h:In xs.length i):at' xs i∈xs:=by
 obtain⟨x,hx⟩:=Ip h
 unfold at'
 rw[hx]
 unfold Ej at hx
 obtain⟨j,_,hx⟩:=bind_some hx
 exact ZY hx
theorem Wg [Inhabited α] {xs:List α} {k:Nat} {x:α} (h:xs[k]?=some x):at' xs (k:Int)=x:=by
 have hl:k < xs.length:=(List.getElem?_eq_some_iff.mp h).1
 unfold at' Ej ixN
 rw[zo (by omega),zo (by omega),bnd,kC,h]
 rfl
theorem in_of {n:Nat} {i:Int} (h0:0<=i) (h1:i < n):In n i:=⟨by omega,h1⟩
theorem IV {n k:Nat} (h:k < n):In n (k:Int):=⟨by omega,by omega⟩
theorem sy {n:Nat} {x m:Int} (hm:0 < m) (h:m<=n):In n (x % m):=in_of (Int.emod_nonneg _ (by omega)) (Int.lt_of_lt_of_le (Int.emod_lt_of_pos _ hm) h)
theorem oG (x:Int) {m:Int} (hm:0 < m):0<=x % m/\x % m < m:=⟨Int.emod_nonneg _ (by omega),Int.emod_lt_of_pos _ hm⟩
theorem G4 {j:Int} (h0:0<=j) (h1:j<=1000000):Rg j:=⟨by omega,by omega⟩
theorem Z7 {a b:Int} (h0:0<=a) (h1:a < 18446744073709551616):Mul a b:=.inl ⟨by omega,h1⟩
theorem ab5 {xs:List α} {k:Nat} (h:k<=xs.length):cut xs none (some (k:Int))=xs.take k:=by
 unfold cut
 rw[HT.W5,HT.Tw,Nat.min_eq_left h,Nat.sub_zero,List.drop_zero]
theorem uN (x y:Str):(x++y).length=x.length+y.length:=by
 show (x.cps++y.cps).size=_
 rw[KB]
 rfl
theorem Dr (x:Str) (i:Int):(ch x i).length=1:=rfl
theorem slice_le (x:Str) (l u:Option Int):(Txt.slice x l u).length<=x.length:=PyProof.Txt.length_slice_le x l u
end
section
variable {α γ:Type} [Inhabited α] {e:α->Dt} {ρ:Ev} {f:Ev->Option Bx} {k:Ev->Option Out} {cO:γ->Out}
end
section
variable {ρ:Ev} {fa:Ev->Option Bx}
theorem G5:∀ xs:List Int,GD (xs.map eI)=some xs
 |[]=>rfl
 |x::xs=>by simp only[zk,eI,GD,G5 xs,bnd]
end
section
variable {α γ:Type} {e:α->Dt} {ρ:Ev} {f:Ev->Option Bx} {k:Ev->Option Out} {cO:γ->Out}
end
section
variable {α β γ:Type} {e:α->Dt} {f fa fb:Ev->Option Bx} {k g:Ev->Option Out} {ρ:Ev} {cO:γ->Out}
end
section
variable {α:Type} {e:α->Dt} {f fa fb:Ev->Option Bx} {ρ:Ev}
end
section
variable {α β γ:Type} {e:α->Dt} {e':β->Dt} {fa fb:Ev->Option Bx} {ρ:Ev}
theorem Ln:∀ (xs:List Str) (ys:List α),xs.length<=ys.length->K9 (xs.map eS) (ys.map e)=some ((xs.zip ys).map fun p=>(p.1,e p.2))
 |[],_,_=>rfl
 |x::xs,[],h=>by cases h
 |x::xs,y::ys,h=>by
  simp only[zk,eS,K9,yf]
  rw[show K9 (xs.map Dt.str) (ys.map e)=_ from Ln xs ys (by simpa using h),bnd]
def Z8 (ps:List (Str×α)):List (Str×α):=ps.foldl (fun acc p=>put acc p.1 p.2) []
theorem Sx (ps:List (Str×α)):Qs (ps.map fun p=>(p.1,e p.2))=(Z8 ps).map fun p=>(p.1,e p.2):=by
 unfold Qs Z8
 have:∀ (ps acc:List (Str×α)),(ps.map fun p=>(p.1,e p.2)).foldl (fun acc p=>zq acc p.1 p.2) (acc.map fun p=>(p.1,e p.2))=(ps.foldl (fun acc p=>put acc p.1 p.2) acc).map fun p=>(p.1,e p.2):=by
  intro ps
  induction ps with
  |nil=>intro acc;rfl
  |cons p ps ih=>
   intro acc
   simp only[zk,z4]
   rw[Iz,ih]
 exact this ps []
def Wh (a:R fa ρ (zE (eT eS))) (b:RL fb ρ e):R (b2 Oe fa fb) ρ (mE e):=⟨Z8 (a.v.zip b.v),bG (bG a.D b.D) (some (a.v.length<=b.v.length/\a.v.length<=1000)),fun h=>by
 obtain⟨h,h3⟩:=aB h
 obtain⟨h1,h2⟩:=aB h
 have h3:a.v.length<=b.v.length/\a.v.length<=1000:=h3
 have hl:(a.v.map eS).length<=1000:=by rw[zi];exact h3.2
 simp only[b2,a.ok h1,b.ok h2,bnd,Oe,zE,eT,b.lk,zo hl,Ln _ _ h3.1,Sx]⟩
def ab6 (a:RL fa ρ eI):R (bZ La (aq fa aG)) ρ (zE eI):=⟨Ax a.v,bG a.D (some (0 < a.v.length)),fun h=>by
 obtain⟨h1,h2⟩:=aB h
 have h2:0 < a.v.length:=h2
 simp only[bZ,aq,aG,a.ok h1,bnd,La,a.lk,G5,zo h2]⟩
def ab7 {e3:γ->Dt} (a:R fa ρ (zE e)) (b:R fb ρ (zE e')) (g:α->β->γ) (h:∀ x y,gZ (.z (e x)) (.z (e' y))=some (.z (e3 (g x y)))):R (b2 gZ fa fb) ρ (zE e3):=⟨g a.v b.v,bG a.D b.D,fun hd=>by
 obtain⟨h1,h2⟩:=aB hd
 simp only[b2,a.ok h1,b.ok h2,bnd,zE,h]⟩
end
def RP {α β:Type} (f:Ev->Option β) (ρ:Ev) (c:α->β) (v:α) (D:Option Prop):Prop:=hold D->f ρ=some (c v)
theorem R.tp {α β:Type} {f:Ev->Option β} {ρ:Ev} {c:α->β} {v':α} {D':Option Prop} (x:R f ρ c) (hv:x.v=v':=by kernel_rfl) (hD:x.D=D':=by kernel_rfl):RP f ρ c v' D':=fun h=>by
 subst hv hD
 exact x.ok h
def RP.r {α β:Type} {f:Ev->Option β} {ρ:Ev} {c:α->β} {v:α} {D:Option Prop} (h:RP f ρ c v D):R f ρ c:=⟨v,D,h⟩
theorem len1 {α:Type} {p:List α->Prop} (h:∀ a,p [a]):∀ us:List α,us.length=1->p us
 |[a],_=>h a
theorem len2 {α:Type} {p:List α->Prop} (h:∀ a b,p [a,b]):∀ us:List α,us.length=2->p us
 |[a,b],_=>h a b
theorem ad1 {α:Type} {p:List α->Prop} (h:∀ a b c,p [a,b,c]):∀ us:List α,us.length=3->p us
 |[a,b,c],_=>h a b c
theorem afU {α:Type} {p:List α->Prop} (h:∀ a b c d,p [a,b,c,d]):∀ us:List α,us.length=4->p us
 |[a,b,c,d],_=>h a b c d
theorem afV {α:Type} {p:List α->Prop} (h:∀ a b c d e,p [a,b,c,d,e]):∀ us:List α,us.length=5->p us
 |[a,b,c,d,e],_=>h a b c d e
theorem lt_iff (a b:Str):Ay a b=true↔rB a b/\a≠b:=by
 unfold Ay rB
 rw[ltCps_eq]
 simp only[Zp,Q4]
 constructor
 ·intro h
  exact⟨List.lt_asymm h,fun e=>by subst e;exact List.lt_irrefl _ h⟩
 ·intro ⟨h,hn⟩
  by_cases q:a.cps.toList < b.cps.toList
  ·exact q
  ·exact absurd (xW (a:=a) (b:=b) (by unfold rB;rw[ltCps_eq];simpa using h) (by unfold rB;rw[ltCps_eq];simpa using q)) hn
theorem IW {n:Nat} {i:Int} (h:i∈rng 0 n):∃ k:Nat,k < n/\i=(k:Int):=by
 unfold rng at h
 obtain⟨k,hk,rfl⟩:=List.mem_map.mp h
 exact⟨k,List.mem_range.mp hk,by omega⟩
end P1
end
section
set_option synthInstance.maxSize 100000
namespace G26
open PySem PySem.Spec PyProof.Rows L2 P1
noncomputable section
abbrev bF:Type:=Int×Str×Str×Int
abbrev aY:bF->Dt:=ZS eI eS eS eI
abbrev gY:Type:=Str×Str×Int
abbrev dH:gY->Dt:=Sh eS eS eI
abbrev nD:Type:=(List Str)×(List bF)×(List gY)
abbrev dF:nD->Dt:=Sh (eT eS) (eT aY) (eT dH)
abbrev cj:Type:=bF×(Option gY)
abbrev ji:cj->Dt:=VG aY (eO dH)
abbrev ab8:Type:=(List (List Str))×(List bF)×(List cj)
abbrev yw:ab8->Dt:=Sh (eL (eT eS)) (eL aY) (eL ji)
def top (i:Nat):Stmt:=PySem.Challenge.pw_onefolk_k26_whole_joinings_go_along.main.body.getD i (.Pass ⟨0,0,0,0⟩)
abbrev nF:Stmt:=top 9
abbrev jH:Stmt:=top 10
abbrev mj:Stmt:=top 11
abbrev lB:Stmt:=top 12
abbrev fW:Stmt:=top 15
abbrev lC:Stmt:=top 1
abbrev jJ:Stmt:=top 7
abbrev lD:Stmt:=top 2
abbrev jK:Stmt:=top 4
abbrev lF:Stmt:=top 3
abbrev lG:Stmt:=top 6
abbrev jL:Stmt:=top 14
abbrev eZ:Stmt:=top 16
abbrev mz:Stmt:=top 13
abbrev gA:Stmt:=top 18
abbrev fj:Stmt:=top 17
abbrev dI:Stmt:=top 19
abbrev yx:Stmt:=top 20
def fuel:Nat:=4
def wg:Ev->Option Out:=(aF (aF (setG 2 (b2 kZ (b2 gZ (b2 xP (gv 2) (cB (.int 69621))) (gv 3)) (cB (.int 2147483647)))) lq) (gF [3]))
def sE:Ev->Option Out:=(aF (Bo (wJ ltA (gv 1) (bZ rU (aq (gv 0) aG))) (aF (mG (b2 lg (gv 0) (gv 1))) lq) lq) (aF (setG 2 (b2 kZ (b2 xP (cB (.int 48271)) (b2 gZ (b2 gZ (b2 xP (gv 1) (gv 1)) (b2 xP (cB (.int 7)) (gv 1))) (cB (.int 11)))) (cB (.int 2147483647)))) (aF (xU (itF (PJ (gv 0) wI (zZ (cB (.int 3))))) (gC 3) wg) (aF (mG (gv 2)) lq))))
def gO:List Bx->Option Bx:=lO 4 sE
def nG:Ev->Option Out:=(aF (aF (setG 3 (b2 kZ (b2 gZ (b2 gZ (b2 xP (gv 3) (b2 gZ (b2 kZ (gv 3) (cB (.int 65521))) (cB (.int 40487)))) (b2 xP (cB (.int 7)) (gv 5))) (cB (.int 5))) (cB (.int 1999999973)))) (aF (Eo 2 (b2 lg (bZ nq (aq (gv 3) (aq (b2 kZ (gv 4) (cB (.int 1000000))) aG))) (bZ Ur (aq (b2 gtB (gv 4) (cB (.int 0))) aG)))) (aF (setG 4 (b2 Ka (gv 4) (cB (.int 1000000)))) lq))) (gF [5]))
def nP:Ev->Option Out:=(aF (setG 2 (bZ nq aG)) (aF (setG 3 (b2 kZ (b2 xP (b2 gZ (b2 kZ (gv 0) (cB (.int 1999999973))) (cB (.int 31))) (cB (.int 765432101))) (cB (.int 1999999973)))) (aF (setG 4 (cB (.int 0))) (aF (Bo (ZF (wJ ltA (gv 0) (cB (.int 0))) (wJ geB (gv 0) (b2 abb (cB (.int 10)) (cB (.int 18))))) (aF (aF (setG 4 (bZ Uq (aq (gv 0) aG))) lq) (gF [])) (aF lq (gF []))) (aF (xU (S7 (aq (gv 1) aG)) (gC 5) nG) (aF (Hz 2) lq))))))
def dD:List Bx->Option Bx:=lO 6 nP
def qd:Ev->Option Out:=(aF (aF (setG 7 (b2 lg (gv 2) (b2 kZ (b2 gZ (gv 6) (b2 lg (gv 0) (cB (.int 2)))) (cB (.int 15))))) (aF (setG 8 (b2 gZ (b2 gZ (PJ (gv 3) wI (zZ (gv 4))) (gv 7)) (PJ (gv 3) (zZ (gv 4)) wI))) (aF (Bo (wJ eqB (b2 kZ (b2 lg (gv 0) (cB (.int 3))) (cB (.int 3))) (cB (.int 1))) (aF (aF (setG 8 (b2 xP (b2 lg (gv 2) (b2 Ka (gv 6) (cB (.int 8)))) (b2 gZ (cB (.int 1)) (b2 kZ (gv 6) (cB (.int 8)))))) lq) (gF [])) (aF lq (gF []))) (aF (Eo 5 (gv 8)) lq)))) (gF [6,7,8]))
def qC:Ev->Option Out:=(aF (setG 2 (cB (.str "abcdefghijklmnopqrstuvwxyz"))) (aF (setG 3 (b1 (Kf "") (fU (S7 (aq (b2 kZ (b2 lg (gv 0) (cB (.int 0))) (cB (.int 6))) aG)) (gC 2) rA (b2 lg (gv 0) (b2 kZ (b2 Ka (b2 lg (gv 1) (gv 2)) (cB (.int 40))) (cB (.int 26)))) [2,0] 1))) (aF (setG 4 (b2 kZ (b2 lg (gv 0) (cB (.int 1))) (b2 gZ (bZ rU (aq (gv 3) aG)) (cB (.int 1))))) (aF (setG 5 (bZ nq aG)) (aF (xU (S7 (aq (gv 1) aG)) (gC 6) qd) (aF (Hz 5) lq))))))
def jo:List Bx->Option Bx:=lO 9 qC
def oO:Ev->Option Out:=(aF (aF (setG 9 (fP 2 dD (aq (b1 ql (fP 2 gO (aq (gv 0) (aq (b1 ql (b2 gZ (b2 gZ (gv 1) (cB (.int 1))) (gv 8))) aG)))) (aq (cB (.int 4)) aG)))) (aF (X3 10 11 (aq (b2 kZ (b2 lg (gv 9) (cB (.int 0))) (bZ Ep (aq (cB (.int 1)) (aq (gv 2) aG)))) (aq (b2 kZ (b2 lg (gv 9) (cB (.int 1))) (bZ Ep (aq (cB (.int 1)) (aq (gv 2) aG)))) aG))) (aF (setG 12 (b2 lg (bZ nq (aq (b1 ql (b2 gZ (cB (.int 1)) (b2 kZ (b2 lg (gv 9) (cB (.int 2))) (cB (.int 3))))) (aq (b1 ql (b2 gZ (cB (.int 1)) (b2 kZ (b2 lg (gv 9) (cB (.int 2))) (cB (.int 9))))) (aq (b1 ql (b2 gZ (cB (.int 1)) (b2 kZ (b2 lg (gv 9) (cB (.int 2))) (cB (.int 1000))))) aG)))) (b2 kZ (b2 lg (gv 5) (cB (.int 4))) (cB (.int 3))))) (aF (Bo (wJ Py (gv 10) (gv 11)) (aF (aF (Eo 7 (bZ iz (aq (b2 subB (cB (.int 0)) (gv 12)) (aq (b2 lg (gv 6) (bZ Rv (aq (gv 10) (aq (gv 11) aG)))) (aq (b2 lg (gv 6) (bZ Ep (aq (gv 10) (aq (gv 11) aG)))) (aq (b2 lg (bZ nq (aq (cB (.int 0)) (aq (cB (.int 2)) (aq (cB (.int 10)) aG)))) (b2 kZ (b2 lg (gv 9) (cB (.int 3))) (cB (.int 3)))) aG)))))) lq) (gF [])) (aF lq (gF []))) lq)))) (gF [8,9,10,11,12]))
def oR:Ev->Option Out:=(aF (aF (setG 9 (fP 2 dD (aq (b1 ql (fP 2 gO (aq (gv 0) (aq (b1 ql (b2 gZ (b2 gZ (gv 1) (cB (.int 1))) (gv 8))) aG)))) (aq (cB (.int 8)) aG)))) (aF (X3 10 11 (aq (b2 kZ (b2 lg (gv 9) (cB (.int 5))) (bZ Ep (aq (cB (.int 1)) (aq (gv 2) aG)))) (aq (b2 kZ (b2 lg (gv 9) (cB (.int 6))) (bZ Ep (aq (cB (.int 1)) (aq (gv 2) aG)))) aG))) (aF (Bo (wJ Py (gv 10) (gv 11)) (aF (aF (Eo 14 (bZ iz (aq (b2 lg (gv 6) (bZ Rv (aq (gv 10) (aq (gv 11) aG)))) (aq (b2 lg (gv 6) (bZ Ep (aq (gv 10) (aq (gv 11) aG)))) (aq (b2 lg (bZ nq (aq (cB (.int 2)) (aq (cB (.int 10)) aG))) (b2 kZ (b2 lg (gv 9) (cB (.int 7))) (cB (.int 2)))) aG))))) lq) (gF [])) (aF lq (gF []))) lq))) (gF [8,9,10,11]))
def pD:Ev->Option Out:=(aF (setG 5 (fP 2 dD (aq (b1 ql (fP 2 gO (aq (gv 0) (aq (gv 1) aG)))) (aq (cB (.int 6)) aG)))) (aF (setG 6 (bZ Cr (aq (fP 2 jo (aq (gv 5) (aq (gv 2) aG))) aG))) (aF (setG 7 (bZ nq aG)) (aF (xU (S7 (aq (gv 3) aG)) (gC 8) oO) (aF (setG 13 (fU (Cm (CT (N5 (gv 7)))) (jD 4 (aP (gC 0) (aP (gC 1) (aP (gC 2) (aP (gC 3) jY))))) rA (bZ iz (aq (b2 subB (cB (.int 0)) (gv 0)) (aq (gv 1) (aq (gv 2) (aq (gv 3) aG))))) [] 4)) (aF (setG 14 (bZ nq aG)) (aF (xU (S7 (aq (gv 4) aG)) (gC 8) oR) (aF (mG (bZ iz (aq (b1 ql (bZ iZ (aq (gv 6) aG))) (aq (b1 ql (bZ iZ (aq (gv 13) aG))) (aq (b1 ql (bZ iZ (aq (CT (N5 (gv 14))) aG))) aG))))) lq))))))))
def jr:List Bx->Option Bx:=lO 15 pD
def jU:Ev->Option Out:=(aF (mG (fU (S7 (aq (gv 0) aG)) (gC 0) rA (b1 ql (b2 gZ (cB (.str "b")) (b2 lg (cB (.str "cdefghijkl")) (gv 0)))) [] 1)) lq)
def d9:List Bx->Option Bx:=lO 1 jU
def pF:Ev->Option Out:=(aF (mG (Qk (Cm (gv 0)) (gC 0) rA (gv 0) (gv 0) [] 1)) lq)
def jt:List Bx->Option Bx:=lO 1 pF
def rK:Ev->Option Out:=(aF (aF (Bo (ZF (Rm (wJ eqB (b2 jk (gv 1) (b2 lg (gv 4) (cB (.int 0)))) (gv 2)) (wJ eqB (b2 jk (gv 1) (b2 lg (gv 4) (cB (.int 1)))) (gv 3))) (Rm (wJ eqB (b2 jk (gv 1) (b2 lg (gv 4) (cB (.int 0)))) (gv 3)) (wJ eqB (b2 jk (gv 1) (b2 lg (gv 4) (cB (.int 1)))) (gv 2)))) (aF (mG (gv 4)) lq) lq) lq) (gF [4]))
def nQ:Ev->Option Out:=(aF (rz 0 (gC 4) rK) (aF (mG (cB .non)) lq))
def iG:List Bx->Option Bx:=lO 5 nQ
def tK:Ev->Option Out:=(aF (aF (Bo (ZF (wJ eqB (b2 jk (gv 0) (gv 4)) (gv 1)) (wJ eqB (b2 jk (gv 0) (gv 4)) (gv 2))) (aF (aF (Uv 0 (gv 3) (gv 4)) lq) (gF [])) (aF lq (gF []))) lq) (gF [4]))
def pG:Ev->Option Out:=(aF (aF (setG 3 (bZ uM (aq (gv 1) (aq (gv 2) aG)))) (aF (xU (itF (bZ CW (aq (gv 0) aG))) (gC 4) tK) lq)) (gF [3,4]))
def ju:Addr->List (Str×Dt)->List Bx->Option (List (Str×Dt)):=K7 5 pG
def nR:Ev->Option Out:=(aF (mG (bZ iZ (aq (fU (K1 (gv 0)) (gC 2) (wJ eqB (b2 jk (gv 1) (gv 2)) (gv 0)) (gv 2) [1,0] 1) aG))) lq)
def iH:List Bx->Option Bx:=lO 2 nR
def pH:Ev->Option Out:=(aF (mG (fU (K1 (gv 0)) (gC 1) (wJ eqB (b2 jk (gv 0) (gv 1)) (gv 1)) (b1 ql (fP 2 iH (aq (gv 0) (aq (gv 1) aG)))) [0] 1)) lq)
def jw:List Bx->Option Bx:=lO 1 pH
def tL:Ev->Option Out:=(aF (aF (setG 8 (b2 jk (gv 4) (b2 lg (gv 7) (cB (.int 1))))) (aF (setG 9 (b2 jk (gv 4) (b2 lg (gv 7) (cB (.int 2))))) (aF (Bo (wJ Py (gv 8) (gv 9)) (aF (aF (setG 10 (fP 4 iG (aq (gv 3) (aq (gv 4) (aq (gv 8) (aq (gv 9) aG)))))) (aF (Bo (wJ isB (gv 10) (cB .non)) (aF (aF (Dc 4 2 ju (aq (gv 8) (aq (gv 9) aG))) (aF (Eo 5 (gv 7)) lq)) (gF [])) (aF (aF (Eo 6 (bZ iz (aq (gv 7) (aq (gv 10) aG)))) lq) (gF []))) lq)) (gF [10])) (aF lq (gF [10]))) lq))) (gF [7,8,9,10]))
def pI:Ev->Option Out:=(aF (Ar (jD 3 (aP (gC 1) (aP (gC 2) (aP (gC 3) jY)))) (gv 0)) (aF (setG 4 (fP 1 jt (aq (gv 1) aG))) (aF (setG 5 (bZ nq aG)) (aF (setG 6 (bZ nq aG)) (aF (rz 2 (gC 7) tL) (Vq 5 (Vq 6 (aF (mG (bZ iz (aq (b1 ql (fP 1 jw (aq (gv 4) aG))) (aq (gv 5) (aq (gv 6) aG))))) lq))))))))
def bB:List Bx->Option Bx:=lO 11 pI
def nT:Ev->Option Out:=(aF (setG 2 (b2 Oe (b2 lg (gv 0) (cB (.int 0))) (gv 1))) (aF (setG 3 (fU (Cm (b2 lg (gv 0) (cB (.int 1)))) (jD 4 (aP (gC 1) (aP (gC 2) (aP (gC 3) (aP (gC 4) jY))))) rA (bZ iz (aq (gv 1) (aq (b2 jk (gv 0) (gv 2)) (aq (b2 jk (gv 0) (gv 3)) (aq (gv 4) aG))))) [2] 4)) (aF (mG (bZ iz (aq (b1 ql (bZ iZ (aq (gv 1) aG))) (aq (b1 ql (bZ iZ (aq (gv 3) aG))) (aq (b1 ql (bZ iZ (aq (fU (Cm (b2 lg (gv 0) (cB (.int 2)))) (jD 3 (aP (gC 1) (aP (gC 2) (aP (gC 3) jY)))) rA (bZ iz (aq (b2 jk (gv 0) (gv 1)) (aq (b2 jk (gv 0) (gv 2)) (aq (gv 3) aG)))) [2] 3) aG))) aG))))) lq)))
def iI:List Bx->Option Bx:=lO 4 nT
def mL:Ev->Option Out:=(aF (aF (Ar (jD 4 (aP (gC 11) (aP (gC 12) (aP (gC 13) (aP (gC 14) jY))))) (gv 9)) (aF (Eo 8 (bZ iz (aq (bZ iz (aq (gv 11) (aq (b2 jk (gv 2) (gv 12)) (aq (b2 jk (gv 2) (gv 13)) (aq (gv 14) aG))))) (aq (bZ iz (aq (b2 jk (gv 2) (b2 lg (gv 10) (cB (.int 0)))) (aq (b2 jk (gv 2) (b2 lg (gv 10) (cB (.int 1)))) (aq (b2 lg (gv 10) (cB (.int 2))) aG)))) aG)))) lq)) (gF [9,10,11,12,13,14]))
def iT:Ev->Option Out:=(aF (setG 1 (fP 1 d9 (aq (b1 ql (bZ rU (aq (b2 lg (gv 0) (cB (.int 0))) aG))) aG))) (aF (setG 2 (b2 Oe (b2 lg (gv 0) (cB (.int 0))) (gv 1))) (aF (Ar (jD 3 (aP (gC 3) (aP (gC 4) (aP (gC 5) jY)))) (fP 1 bB (aq (gv 0) aG))) (aF (setG 6 (fU (Cm (gv 3)) (gC 1) rA (b1 ql (bZ iZ (aq (fU (Cm (gv 1)) (gC 1) rA (b2 jk (gv 0) (gv 1)) [0] 1) aG))) [2] 1)) (aF (setG 7 (fU (Cm (gv 4)) (jD 4 (aP (gC 1) (aP (gC 2) (aP (gC 3) (aP (gC 4) jY))))) rA (bZ iz (aq (gv 1) (aq (b2 jk (gv 0) (gv 2)) (aq (b2 jk (gv 0) (gv 3)) (aq (gv 4) aG))))) [2] 4)) (aF (setG 8 (bZ nq aG)) (aF (rz 5 (jD 2 (aP (gC 9) (aP (gC 10) jY))) mL) (Vq 6 (Vq 7 (Vq 8 (aF (mG (b2 eqB (fP 1 bB (aq (b1 ql (fP 2 iI (aq (gv 0) (aq (gv 1) aG)))) aG)) (bZ iz (aq (gv 6) (aq (gv 7) (aq (gv 8) aG)))))) lq)))))))))))
def cV:List Bx->Option Bx:=lO 15 iT
def uO:Ev->Option Out:=(aF (aF (setG 7 (b2 lg (fU (Cm (gv 2)) (gC 1) (wJ inF (gv 0) (gv 1)) (gv 1) [4] 1) (cB (.int 0)))) (aF (setG 8 (b2 lg (fU (Cm (gv 2)) (gC 1) (wJ inF (gv 0) (gv 1)) (gv 1) [5] 1) (cB (.int 0)))) (aF (Bo (wJ Py (gv 7) (gv 8)) (aF (aF (setG 2 (b2 gZ (fU (Cm (gv 2)) (gC 2) (wJ Vo (gv 2) (bZ nq (aq (gv 0) (aq (gv 1) aG)))) (gv 2) [7,8] 1) (bZ nq (aq (b1 ql (bZ Cr (aq (b2 gZ (gv 7) (gv 8)) aG))) aG)))) lq) (gF [])) (aF lq (gF []))) lq))) (gF [3,4,5,6,7,8]))
def qD:Ev->Option Out:=(aF (setG 2 (fU (Cm (gv 0)) (gC 0) rA (b1 ql (bZ nq (aq (gv 0) aG))) [] 1)) (aF (rz 1 (jD 4 (aP (gC 3) (aP (gC 4) (aP (gC 5) (aP (gC 6) jY))))) uO) (aF (mG (bZ uJ (aq (fU (Cm (gv 2)) (gC 0) rA (b1 ql (bZ iZ (aq (gv 0) aG))) [] 1) aG))) lq)))
def j7:List Bx->Option Bx:=lO 9 qD
def lH:Ev->Option Out:=(aF (Ar (jD 3 (aP (gC 1) (aP (gC 2) (aP (gC 3) jY)))) (gv 0)) (aF (Ar (jD 3 (aP (gC 4) (aP (gC 5) (aP (gC 6) jY)))) (fP 1 bB (aq (gv 0) aG))) (aF (Bo (wJ Py (bZ rU (aq (gv 5) aG)) (b2 subB (bZ rU (aq (gv 1) aG)) (bZ rU (aq (gv 4) aG)))) (aF (mG (cB (.bl false))) lq) lq) (aF (Bo (wJ Py (fP 1 bB (aq (bZ iz (aq (gv 1) (aq (b1 ql (bZ iZ (aq (gv 5) aG))) (aq (bZ iz aG) aG)))) aG)) (bZ iz (aq (gv 4) (aq (gv 5) (aq (b1 ql (bZ nq aG)) aG))))) (aF (mG (cB (.bl false))) lq) lq) (aF (Bo (wJ Py (fP 2 j7 (aq (gv 1) (aq (gv 5) aG))) (gv 4)) (aF (mG (cB (.bl false))) lq) lq) (aF (mG (b2 eqB (fP 1 bB (aq (bZ iz (aq (gv 1) (aq (b1 ql (bZ iZ (aq (gv 5) aG))) (aq (gv 3) aG)))) aG)) (bZ iz (aq (gv 4) (aq (gv 5) (aq (b1 ql (bZ nq aG)) aG)))))) lq))))))
def fK:List Bx->Option Bx:=lO 7 lH
def mO:Ev->Option Out:=(aF (aF (Eo 11 (bZ iz (aq (b1 ql (b2 gZ (bZ iz (aq (b1 ql (b2 gZ (b2 lg (gv 12) (cB (.int 0))) (gv 1))) aG)) (PJ (gv 12) (zZ (cB (.int 1))) wI))) (aq (gv 13) aG)))) lq) (gF [12,13]))
def iU:Ev->Option Out:=(aF (Ar (jD 3 (aP (gC 2) (aP (gC 3) (aP (gC 4) jY)))) (gv 0)) (aF (Ar (jD 3 (aP (gC 5) (aP (gC 6) (aP (gC 7) jY)))) (fP 1 bB (aq (gv 0) aG))) (aF (setG 8 (bZ iZ (aq (fU (Cm (gv 3)) (jD 4 (aP (gC 1) (aP (gC 2) (aP (gC 3) (aP (gC 4) jY))))) rA (bZ iz (aq (b1 ql (b2 gZ (gv 1) (gv 0))) (aq (gv 2) (aq (gv 3) (aq (gv 4) aG))))) [1] 4) aG))) (aF (setG 9 (fP 1 bB (aq (bZ iz (aq (gv 2) (aq (gv 8) (aq (gv 4) aG)))) aG))) (aF (setG 10 (fU (Cm (gv 6)) (jD 4 (aP (gC 1) (aP (gC 2) (aP (gC 3) (aP (gC 4) jY))))) rA (bZ iz (aq (b1 ql (b2 gZ (gv 1) (gv 0))) (aq (gv 2) (aq (gv 3) (aq (gv 4) aG))))) [1] 4)) (aF (setG 11 (bZ nq aG)) (aF (rz 7 (jD 2 (aP (gC 12) (aP (gC 13) jY))) mO) (Vq 10 (Vq 11 (aF (mG (b2 eqB (gv 9) (bZ iz (aq (gv 5) (aq (gv 10) (aq (gv 11) aG)))))) lq))))))))))
def cW:List Bx->Option Bx:=lO 14 iU
def iu:Ev->Option Out:=(aF (Ar (jD 3 (aP (gC 3) (aP (gC 4) (aP (gC 5) jY)))) (gv 0)) (aF (setG 6 (bZ iz (aq (b1 ql (bZ uM (aq (gv 1) (aq (gv 2) aG)))) (aq (b1 ql (bZ K6 (aq (gv 1) (aq (gv 2) aG)))) (aq (cB (.int 100)) aG))))) (aF (setG 7 (fP 1 bB (aq (gv 0) aG))) (aF (setG 8 (fP 1 bB (aq (bZ iz (aq (gv 3) (aq (gv 4) (aq (b1 ql (bZ iZ (aq (bZ uJ (aq (b2 gZ (gv 5) (bZ iz (aq (gv 6) aG))) aG)) aG))) aG)))) aG))) (aF (setG 9 (fU (Cm (b2 lg (gv 8) (cB (.int 2)))) (jD 2 (aP (gC 1) (aP (gC 2) jY))) (wJ eqB (gv 2) (gv 0)) (gv 1) [6] 2)) (aF (Bo (wJ eqB (gv 9) (bZ nq aG)) (aF (mG (b2 eqB (gv 8) (gv 7))) lq) lq) (aF (setG 10 (PJ (gv 4) wI (zZ (b2 R6 (gv 4) (b2 lg (gv 9) (cB (.int 0))))))) (aF (setG 11 (fU (Cm (b2 lg (gv 7) (cB (.int 1)))) (gC 1) (wJ inX (gv 1) (gv 0)) (gv 1) [10] 1)) (aF (mG (b2 eqB (gv 11) (fU (Cm (b2 lg (gv 8) (cB (.int 1)))) (gC 1) (wJ inX (gv 1) (gv 0)) (gv 1) [10] 1))) lq)))))))))
def cJ:List Bx->Option Bx:=lO 12 iu
def Qz:Ev->Option Out:=(aF (setG 1 (fP 2 dD (aq (b1 ql (fP 2 gO (aq (gv 0) (aq (cB (.int 0)) aG)))) (aq (cB (.int 13)) aG)))) (aF (setG 2 (fP 5 jr (aq (gv 0) (aq (cB (.int 0)) (aq (b2 kZ (b2 lg (gv 1) (cB (.int 6))) (cB (.int 10))) (aq (b2 kZ (b2 lg (gv 1) (cB (.int 7))) (cB (.int 15))) (aq (b2 kZ (b2 lg (gv 1) (cB (.int 8))) (cB (.int 7))) aG))))))) (aF (Ar (jD 3 (aP (gC 3) (aP (gC 4) (aP (gC 5) jY)))) (gv 2)) (aF (Bo (ZF (Rn (tV (fP 1 cV (aq (gv 2) aG)))) (Rn (tV (fP 1 fK (aq (gv 2) aG))))) (aF (mG (cB (.bl false))) lq) lq) (aF (setG 6 (bZ La (aq (b2 gZ (fU (Cm (gv 4)) (gC 0) rA (b2 lg (gv 0) (cB (.int 0))) [] 1) (bZ nq (aq (cB (.int 0)) aG))) aG))) (aF (Bo (Rn (tV (fP 2 cW (aq (gv 2) (aq (b2 kZ (b2 lg (gv 1) (cB (.int 9))) (b2 subB (cB (.int 1001)) (gv 6))) aG))))) (aF (mG (cB (.bl false))) lq) lq) (aF (Ar (jD 3 (aP (gC 7) (aP (gC 8) (aP (gC 9) jY)))) (fP 1 bB (aq (gv 2) aG))) (aF (setG 10 (fP 1 bB (aq (bZ iz (aq (b1 ql (b2 gZ (gv 3) (bZ iz (aq (cB (.str "zzzzzzzz")) aG)))) (aq (gv 4) (aq (gv 5) aG)))) aG))) (aF (Bo (wJ Py (gv 10) (bZ iz (aq (b1 ql (b2 gZ (gv 7) (bZ nq (aq (bZ iz (aq (cB (.str "zzzzzzzz")) aG)) aG)))) (aq (gv 8) (aq (gv 9) aG))))) (aF (mG (cB (.bl false))) lq) lq) (aF (Bo (wJ ltA (bZ rU (aq (gv 3) aG)) (cB (.int 2))) (aF (mG (cB (.bl true))) lq) lq) (aF (setG 11 (b2 kZ (b2 lg (gv 1) (cB (.int 10))) (bZ rU (aq (gv 3) aG)))) (aF (setG 12 (b2 kZ (b2 gZ (b2 gZ (gv 11) (cB (.int 1))) (b2 kZ (b2 lg (gv 1) (cB (.int 11))) (b2 subB (bZ rU (aq (gv 3) aG)) (cB (.int 1))))) (bZ rU (aq (gv 3) aG)))) (aF (mG (fP 3 cJ (aq (gv 2) (aq (b2 lg (gv 3) (gv 11)) (aq (b2 lg (gv 3) (gv 12)) aG))))) lq)))))))))))))
def qF:List Bx->Option Bx:=lO 13 Qz
end
end G26
end
section
set_option synthInstance.maxSize 100000
namespace G26
open PySem PySem.Spec PyProof.Rows L2 P1
structure T (K:PySem.W.Frag) (mg:Str->Option Value) (j8:Addr) (j9:FuncData) (gq:Addr) (gP:FuncData) (kh:Addr) (lJ:FuncData) (jx:Addr) (jM:FuncData) (eE:Addr) (fL:FuncData) (jy:Addr) (jN:FuncData) (iJ:Addr) (jd:FuncData) (jz:Addr) (jO:FuncData) (iK:Addr) (je:FuncData) (jA:Addr) (jP:FuncData) (eF:Addr) (dX:FuncData) (iM:Addr) (jf:FuncData) (cX:Addr) (dJ:FuncData) (kj:Addr) (lK:FuncData) (fM:Addr) (fX:FuncData) (cY:Addr) (dM:FuncData) (cL:Addr) (dj:FuncData) (G6:Addr) (Ds:FuncData):Prop where
 gO:yU K "_law_cell" "_law_cell" nF j8 j9
 sI:Binds K j9 ["_law_script", "_law_k"] []
 sJ:mg "_law_cell" = some (.ref j8)
 sO:PySem.W.keepIn K (.ref j8)=true
 dD:yU K "_law_numbers" "_law_numbers" jH gq gP
 nU:Binds K gP ["_law_cell_here", "_law_many"] []
 nW:mg "_law_numbers" = some (.ref gq)
 nY:PySem.W.keepIn K (.ref gq)=true
 jo:yU K "_law_names" "_law_names" mj kh lJ
 Lq:Binds K lJ ["_law_xs", "_law_many"] []
 Lr:mg "_law_names" = some (.ref kh)
 Ls:PySem.W.keepIn K (.ref kh)=true
 jr:yU K "_law_ground" "_law_ground" lB jx jM
 Ja:Binds K jM ["_law_script", "_law_at", "_law_many", "_law_reasons", "_law_bars"] []
 Jb:mg "_law_ground" = some (.ref jx)
 Jc:PySem.W.keepIn K (.ref jx)=true
 d9:yU K "_law_other_names" "_law_other_names" fW eE fL
 yC:Binds K fL ["_law_many"] []
 yD:mg "_law_other_names" = some (.ref eE)
 yE:PySem.W.keepIn K (.ref eE)=true
 jt:yU K "lone_heads" "lone_heads" lC jy jN
 Jd:Binds K jN ["names"] []
 Je:mg "lone_heads" = some (.ref jy)
 Jf:PySem.W.keepIn K (.ref jy)=true
 iG:yU K "bar_between" "bar_between" jJ iJ jd
 Ey:Binds K jd ["bars", "heads", "one", "other"] []
 Ez:mg "bar_between" = some (.ref iJ)
 EY:PySem.W.keepIn K (.ref iJ)=true
 ju:yU K "join_heads" "join_heads" lD jz jO
 Jg:Binds K jO ["heads", "one", "other"] []
 Jh:mg "join_heads" = some (.ref jz)
 Ji:PySem.W.keepIn K (.ref jz)=true
 iH:yU K "names_under" "names_under" jK iK je
 Fb:Binds K je ["heads", "head"] []
 Fd:mg "names_under" = some (.ref iK)
 Fe:PySem.W.keepIn K (.ref iK)=true
 jw:yU K "sets_under" "sets_under" lF jA jP
 Jj:Binds K jP ["heads"] []
 Jk:mg "sets_under" = some (.ref jA)
 Jl:PySem.W.keepIn K (.ref jA)=true
 bB:yU K "joining_of" "joining_of" lG eF dX
 eG:Binds K dX ["ground"] []
 eN:mg "joining_of" = some (.ref eF)
 eU:PySem.W.keepIn K (.ref eF)=true
 iI:yU K "_law_renamed" "_law_renamed" jL iM jf
 Fg:Binds K jf ["_law_ground_here", "_law_names_here"] []
 Fi:mg "_law_renamed" = some (.ref iM)
 Fj:PySem.W.keepIn K (.ref iM)=true
 cV:yU K "_law_renamed_right" "_law_renamed_right" eZ cX dJ
 vK:Binds K dJ ["_law_ground_here"] []
 vL:mg "_law_renamed_right" = some (.ref cX)
 vM:PySem.W.keepIn K (.ref cX)=true
 j7:yU K "_law_parts" "_law_parts" mz kj lK
 Lw:Binds K lK ["_law_names_here", "_law_reasons"] []
 Lx:mg "_law_parts" = some (.ref kj)
 Ly:PySem.W.keepIn K (.ref kj)=true
 fK:yU K "_law_kept_right" "_law_kept_right" gA fM fX
 zJ:Binds K fX ["_law_ground_here"] []
 zK:mg "_law_kept_right" = some (.ref fM)
 zL:PySem.W.keepIn K (.ref fM)=true
 cW:yU K "_law_heavier_right" "_law_heavier_right" fj cY dM
 vN:Binds K dM ["_law_ground_here", "_law_by"] []
 vO:mg "_law_heavier_right" = some (.ref cY)
 vP:PySem.W.keepIn K (.ref cY)=true
 cJ:yU K "_law_bar_more_right" "_law_bar_more_right" dI cL dj
 uP:Binds K dj ["_law_ground_here", "_law_a", "_law_b"] []
 uQ:mg "_law_bar_more_right" = some (.ref cL)
 uR:PySem.W.keepIn K (.ref cL)=true
 qF:yU K "law" "law" yx G6 Ds
 ah9:Binds K Ds ["_law_script"] []
 aia:mg "law" = some (.ref G6)
 aib:PySem.W.keepIn K (.ref G6)=true
 Lz:mg "abs" = none
 zM:mg "dict" = none
 LC:mg "int" = none
 qG:mg "len" = none
 Du:mg "list" = none
 tM:mg "max" = none
 Ah:mg "min" = none
 nZ:mg "range" = none
 G7:mg "set" = none
 lX:mg "sorted" = none
 iw:mg "tuple" = none
 G8:mg "zip" = none
section
variable {P:Program} {w:World} {K:PySem.W.Frag} {mg:Str->Option Value} {base:Heap} {j8:Addr} {j9:FuncData} {gq:Addr} {gP:FuncData} {kh:Addr} {lJ:FuncData} {jx:Addr} {jM:FuncData} {eE:Addr} {fL:FuncData} {jy:Addr} {jN:FuncData} {iJ:Addr} {jd:FuncData} {jz:Addr} {jO:FuncData} {iK:Addr} {je:FuncData} {jA:Addr} {jP:FuncData} {eF:Addr} {dX:FuncData} {iM:Addr} {jf:FuncData} {cX:Addr} {dJ:FuncData} {kj:Addr} {lK:FuncData} {fM:Addr} {fX:FuncData} {cY:Addr} {dM:FuncData} {cL:Addr} {dj:FuncData} {G6:Addr} {Ds:FuncData} (t:T K mg j8 j9 gq gP kh lJ jx jM eE fL jy jN iJ jd jz jO iK je jA jP eF dX iM jf cX dJ kj lK fM fX cY dM cL dj G6 Ds)
theorem Ai:dh ["_law_script", "_law_k", "_law_state", "_law_cell_here"] ["_law_script", "_law_k"] (aK nF):=tW
include t in
theorem LK:dG P w K mg base m7 1 j8 j9 ["_law_script", "_law_k"] (pW K 2 gO):=by
 unfold gO
 refine uF (k:=0) (g:=sE) t.gO Ai rfl rfl fun cdv A outer s H E hr=>?_
 have hu:=gU hr
 have nd:=Ai.nd
 exact (au (m9 (d7 Nj (ak 1) (bR qQ rfl t.qG qP (aj (ak 0) aA)) (dR _)) (au (fY (bM (ak 0) (ak 1))) aU) aU) (au (bI 2 nd (bf dU (bf uq aC (bf dB (bf dB (bf uq (ak 1) (ak 1)) (bf uq aC (ak 1))) aC)) aC)) (au (yX PassesOwn.never rfl (Pr (Ke (ak 0) uy (uD aC))) (aD 3 nd) (bN [3] (au (bI 2 nd (bf dU (bf dB (bf uq (ak 2) aC) (ak 3)) aC)) aU))) (au (fY (ak 2)) aU))))
theorem uT:dh ["_law_cell_here", "_law_many", "_law_found", "_law_state", "_law_digits", "_law_k"] ["_law_cell_here", "_law_many"] (aK jH):=tW
include t in
theorem Dv:dG P w K mg base m7 1 gq gP ["_law_cell_here", "_law_many"] (pW K 2 dD):=by
 unfold dD
 refine uF (k:=0) (g:=nP) t.dD uT rfl rfl fun cdv A outer s H E hr=>?_
 have hu:=gU hr
 have nd:=uT.nd
 exact (au (bI 2 nd (iV aA)) (au (bI 3 nd (bf dU (bf uq (bf dB (bf dU (ak 0) aC) aC) aC) aC)) (au (bI 4 nd aC) (au (m9 (Ro (Hw (d7 Nj (ak 0) aC (dR _)) (Bm (d7 adw (ak 0) (bf abd aC aC) (dR _))))) (bN [] (au (bI 4 nd (bR abm rfl t.Lz abh (aj (ak 0) aA))) aU)) (bN [] aU)) (au (yX PassesOwn.never rfl (q8 rfl t.nZ (aj (ak 1) aA)) (aD 5 nd) (bN [5] (au (bI 3 nd (bf dU (bf dB (bf dB (bf uq (ak 3) (bf dB (bf dU (ak 3) aC) aC)) (bf uq aC (ak 5))) aC) aC)) (au (uf 2 (bM (iV (aj (ak 3) (aj (bf dU (ak 4) aC) aA))) (fJ abn rfl t.LC abg (aj (yV adv (ak 4) aC (dR _)) aA)))) (au (bI 4 nd (bf HB (ak 4) aC)) aU))))) (au (Pq 2) aU))))))
theorem yF:dh ["_law_xs", "_law_many", "_law_letters", "_law_stem", "_law_at", "_law_found", "_law_k", "_law_mark", "_law_name"] ["_law_xs", "_law_many"] (aK mj):=tW
include t in
theorem Jm:dG P w K mg base m7 1 kh lJ ["_law_xs", "_law_many"] (pW K 2 jo):=by
 unfold jo
 refine uF (k:=0) (g:=qC) t.jo yF rfl rfl fun cdv A outer s H E hr=>?_
 have hu:=gU hr
 have nd:=yF.nd
 exact (au (bI 2 nd Cv) (au (bI 3 nd (X6 (mF ["_law_k"] (qp ["_law_letters", "_law_xs"] [2,0]) rfl (Uk (q8 rfl t.nZ (aj (bf dU (bM (ak 0) aC) aC) aA))) (fun _ _ _ _=>(aD 2 (by show List.Nodup (_++_);decide +kernel))) (fun _ _ _ _=>d8) (fun _ _ _ _=>(bM (ak 0) (bf dU (bf HB (bM (ak 1) (ak 2)) aC) aC))) (bH)))) (au (bI 4 nd (bf dU (bM (ak 0) aC) (bf dB (bR qQ rfl t.qG qP (aj (ak 3) aA)) aC))) (au (bI 5 nd (iV aA)) (au (yX PassesOwn.never rfl (q8 rfl t.nZ (aj (ak 1) aA)) (aD 6 nd) (bN [6,7,8] (au (bI 7 nd (bM (ak 2) (bf dU (bf dB (ak 6) (bM (ak 0) aC)) aC))) (au (bI 8 nd (bf dB (bf dB (Ke (ak 3) uy (uD (ak 4))) (ak 7)) (Ke (ak 3) (uD (ak 4)) uy))) (au (m9 (d7 (of_eq hu) (bf dU (bM (ak 0) aC) aC) aC (dR _)) (bN [] (au (bI 8 nd (bf uq (bM (ak 2) (bf HB (ak 6) aC)) (bf dB aC (bf dU (ak 6) aC)))) aU)) (bN [] aU)) (au (uf 5 (ak 8)) aU)))))) (au (Pq 5) aU))))))
theorem wj:dh ["_law_script", "_law_at", "_law_many", "_law_reasons", "_law_bars", "_law_head", "_law_names_here", "_law_told", "_law_k", "_law_xs", "_law_a", "_law_b", "_law_weight", "_law_found", "_law_shut"] ["_law_script", "_law_at", "_law_many", "_law_reasons", "_law_bars"] (aK lB):=tW
include t in
theorem Fl (kE:dG P w K mg base m7 1 j8 j9 ["_law_script", "_law_k"] (pW K 2 gO)) (uU:dG P w K mg base m7 1 kh lJ ["_law_xs", "_law_many"] (pW K 2 jo)) (gw:dG P w K mg base m7 1 gq gP ["_law_cell_here", "_law_many"] (pW K 2 dD)):dG P w K mg base m7 2 jx jM ["_law_script", "_law_at", "_law_many", "_law_reasons", "_law_bars"] (pW K 5 jr):=by
 unfold jr
 refine uF (k:=1) (g:=pD) t.jr wj rfl rfl fun cdv A outer s H E hr=>?_
 have hu:=gU hr
 have nd:=wj.nd
 exact (au (bI 5 nd (bT gw (hr.mono (by decide)) rfl t.nW t.nY t.nU (aj (fG (bT kE (hr.mono (by decide)) rfl t.sJ t.sO t.sI (aj (ak 0) (aj (ak 1) aA)))) (aj aC aA)))) (au (bI 6 nd (bR Gq rfl t.lX vB (aj (bT uU (hr.mono (by decide)) rfl t.Lr t.Ls t.Lq (aj (ak 5) (aj (ak 2) aA))) aA))) (au (bI 7 nd (iV aA)) (au (yX PassesOwn.never rfl (q8 rfl t.nZ (aj (ak 3) aA)) (aD 8 nd) (bN [8,9,10,11,12] (au (bI 9 nd (bT gw (hr.mono (by decide)) rfl t.nW t.nY t.nU (aj (fG (bT kE (hr.mono (by decide)) rfl t.sJ t.sO t.sI (aj (ak 0) (aj (fG (bf dB (bf dB (ak 1) aC) (ak 8))) aA)))) (aj aC aA)))) (au (Ug 10 11 rfl nd (aj (bf dU (bM (ak 9) aC) (bR (zp rfl) rfl t.tM ux (aj aC (aj (ak 2) aA)))) (aj (bf dU (bM (ak 9) aC) (bR (zp rfl) rfl t.tM ux (aj aC (aj (ak 2) aA)))) aA))) (au (bI 12 nd (bM (iV (aj (fG (bf dB aC (bf dU (bM (ak 9) aC) aC))) (aj (fG (bf dB aC (bf dU (bM (ak 9) aC) aC))) (aj (fG (bf dB aC (bf dU (bM (ak 9) aC) aC))) aA)))) (bf dU (bM (ak 5) aC) aC))) (au (m9 (d7 (zY hu) (ak 10) (ak 11) (dR _)) (bN [] (au (uf 7 (dw (aj (bf Ck aC (ak 12)) (aj (bM (ak 6) (bR (Ut rfl) rfl t.Ah HJ (aj (ak 10) (aj (ak 11) aA)))) (aj (bM (ak 6) (bR (zp rfl) rfl t.tM ux (aj (ak 10) (aj (ak 11) aA)))) (aj (bM (iV (aj aC (aj aC (aj aC aA)))) (bf dU (bM (ak 9) aC) aC)) aA)))))) aU)) (bN [] aU)) aU)))))) (au (qu 13 ["_law_weight", "_law_a", "_law_b", "_law_k"] (qp [] []) rfl nd (gR (Qj rfl rfl t.lX (Qi rfl hu rfl t.G7 (ak 7)))) (fun _ _ _ _=>(iW rfl (aH (aD 0 (by show List.Nodup (_++_);decide +kernel)) (aH (aD 1 (by show List.Nodup (_++_);decide +kernel)) (aH (aD 2 (by show List.Nodup (_++_);decide +kernel)) (aH (aD 3 (by show List.Nodup (_++_);decide +kernel)) fV)))))) (fun _ _ _ _=>d8) (fun _ _ _ _=>(dw (aj (bf Ck aC (ak 0)) (aj (ak 1) (aj (ak 2) (aj (ak 3) aA)))))) (wH (bY (bH) (bY (bH) (bY (bH) (bY (bH) rT)))))) (au (bI 14 nd (iV aA)) (au (yX PassesOwn.never rfl (q8 rfl t.nZ (aj (ak 4) aA)) (aD 8 nd) (bN [8,9,10,11] (au (bI 9 nd (bT gw (hr.mono (by decide)) rfl t.nW t.nY t.nU (aj (fG (bT kE (hr.mono (by decide)) rfl t.sJ t.sO t.sI (aj (ak 0) (aj (fG (bf dB (bf dB (ak 1) aC) (ak 8))) aA)))) (aj aC aA)))) (au (Ug 10 11 rfl nd (aj (bf dU (bM (ak 9) aC) (bR (zp rfl) rfl t.tM ux (aj aC (aj (ak 2) aA)))) (aj (bf dU (bM (ak 9) aC) (bR (zp rfl) rfl t.tM ux (aj aC (aj (ak 2) aA)))) aA))) (au (m9 (d7 (zY hu) (ak 10) (ak 11) (dR _)) (bN [] (au (uf 14 (dw (aj (bM (ak 6) (bR (Ut rfl) rfl t.Ah HJ (aj (ak 10) (aj (ak 11) aA)))) (aj (bM (ak 6) (bR (zp rfl) rfl t.tM ux (aj (ak 10) (aj (ak 11) aA)))) (aj (bM (iV (aj aC (aj aC aA))) (bf dU (bM (ak 9) aC) aC)) aA))))) aU)) (bN [] aU)) aU))))) (au (fY (dw (aj (fG (fJ jc rfl t.iw iY (aj (ak 6) aA))) (aj (fG (fJ jc rfl t.iw iY (aj (ak 13) aA))) (aj (fG (fJ jc rfl t.iw iY (aj (Qj rfl rfl t.lX (Qi rfl hu rfl t.G7 (ak 14))) aA))) aA))))) aU))))))))
theorem qe:dh ["_law_many"] ["_law_many"] (aK fW):=tW
include t in
theorem wX:dG P w K mg base m7 1 eE fL ["_law_many"] (pW K 1 d9):=by
 unfold d9
 refine uF (k:=0) (g:=jU) t.d9 qe rfl rfl fun cdv A outer s H E hr=>?_
 have hu:=gU hr
 have nd:=qe.nd
 exact (au (fY (mF ["_law_k"] (qp [] []) rfl (Uk (q8 rfl t.nZ (aj (ak 0) aA))) (fun _ _ _ _=>(aD 0 (by show List.Nodup (_++_);decide +kernel))) (fun _ _ _ _=>d8) (fun _ _ _ _=>(fG (bf dB Cv (bM Cv (ak 0))))) (bH))) aU)
theorem wz:dh ["names"] ["names"] (aK lC):=tW
include t in
theorem Fo:dG P w K mg base m7 1 jy jN ["names"] (pW K 1 jt):=by
 unfold jt
 refine uF (k:=0) (g:=pF) t.jt wz rfl rfl fun cdv A outer s H E hr=>?_
 have hu:=gU hr
 have nd:=wz.nd
 exact (au (fY (Vj hu ["name"] (qp [] []) rfl (gR (ak 0)) (fun _ _ _ _=>(aD 0 (by show List.Nodup (_++_);decide +kernel))) (fun _ _ _ _=>d8) (fun _ _ _ _=>(ak 0)) (fun _ _ _ _=>(ak 0)) (bH))) aU)
theorem uV:dh ["bars", "heads", "one", "other", "bar"] ["bars", "heads", "one", "other"] (aK jJ):=tW
include t in
theorem Dw:dG P w K mg base m7 1 iJ jd ["bars", "heads", "one", "other"] (pW K 4 iG):=by
 unfold iG
 refine uF (k:=0) (g:=nQ) t.iG uV rfl rfl fun cdv A outer s H E hr=>?_
 have hu:=gU hr
 have nd:=uV.nd
 exact (au (xK 0 PassesOwn.never rfl (aD 4 nd) (bN [4] (au (m9 (Ro (Hw (Ro (Pn (d7 (of_eq hu) (fQ hu (ak 1) (bM (ak 4) aC)) (ak 2) (dR _)) (J4 (d7 (of_eq hu) (fQ hu (ak 1) (bM (ak 4) aC)) (ak 3) (dR _))))) (Bm (Ro (Pn (d7 (of_eq hu) (fQ hu (ak 1) (bM (ak 4) aC)) (ak 3) (dR _)) (J4 (d7 (of_eq hu) (fQ hu (ak 1) (bM (ak 4) aC)) (ak 2) (dR _)))))))) (au (fY (ak 4)) aU) aU) aU))) (au (fY Ua) aU))
theorem wA:dh ["heads", "one", "other", "head", "name"] ["heads", "one", "other"] (aK lD):=tW
include t in
theorem Fp:dG P w K mg base m7 1 jz jO ["heads", "one", "other"] (spM K 2 ju):=by
 unfold ju
 refine afL (k:=0) (g:=pG) t.ju wA rfl rfl fun cdv A outer s H E hr=>?_
 have hu:=gU hr
 have nd:=wA.nd
 exact (bN [3,4] (au (bI 3 nd (bR (Qm rfl) rfl t.Ah HJ (aj (ak 1) (aj (ak 2) aA)))) (au (yX PassesOwn.never rfl (Pr (fJ (Vm rfl) rfl t.Du XS (aj (ak 0) aA))) (aD 4 nd) (bN [4] (au (m9 (Ro (Hw (d7 (of_eq hu) (fQ hu (ak 0) (ak 4)) (ak 1) (dR _)) (Bm (d7 (of_eq hu) (fQ hu (ak 0) (ak 4)) (ak 2) (dR _))))) (bN [] (au (X7 0 hu (ak 3) (ak 4)) aU)) (bN [] aU)) aU))) aU)))
theorem uW:dh ["heads", "head"] ["heads", "head"] (aK jK):=tW
include t in
theorem Dy:dG P w K mg base m7 1 iK je ["heads", "head"] (pW K 2 iH):=by
 unfold iH
 refine uF (k:=0) (g:=nR) t.iH uW rfl rfl fun cdv A outer s H E hr=>?_
 have hu:=gU hr
 have nd:=uW.nd
 exact (au (fY (fJ jc rfl t.iw iY (aj (K3 ["name"] (qp ["head", "heads"] [1,0]) rfl (ak 0) (fun _ _ _ _=>(aD 2 (by show List.Nodup (_++_);decide +kernel))) (fun _ _ _ _=>(jZ (d7 (of_eq hu) (fQ hu (ak 1) (ak 2)) (ak 0) (dR _)))) (fun _ _ _ _=>(ak 2)) (bH)) aA))) aU)
theorem wB:dh ["heads"] ["heads"] (aK lF):=tW
include t in
theorem Fq (qT:dG P w K mg base m7 1 iK je ["heads", "head"] (pW K 2 iH)):dG P w K mg base m7 2 jA jP ["heads"] (pW K 1 jw):=by
 unfold jw
 refine uF (k:=1) (g:=pH) t.jw wB rfl rfl fun cdv A outer s H E hr=>?_
 have hu:=gU hr
 have nd:=wB.nd
 exact (au (fY (K3 ["name"] (qp ["heads"] [0]) rfl (ak 0) (fun _ _ _ _=>(aD 1 (by show List.Nodup (_++_);decide +kernel))) (fun _ _ _ _=>(jZ (d7 (of_eq hu) (fQ hu (ak 0) (ak 1)) (ak 1) (dR _)))) (fun _ _ _ _=>(fG (bT qT (hr.mono (by decide)) rfl t.Fd t.Fe t.Fb (aj (ak 0) (aj (ak 1) aA))))) (bH))) aU)
theorem wC:dh ["ground", "names", "reasons", "bars", "heads", "kept", "barred", "reason", "one", "other", "bar"] ["ground"] (aK lG):=tW
include t in
theorem Ft (qU:dG P w K mg base m7 1 iJ jd ["bars", "heads", "one", "other"] (pW K 4 iG)) (sS:dG P w K mg base m7 1 jz jO ["heads", "one", "other"] (spM K 2 ju)) (sU:dG P w K mg base m7 1 jy jN ["names"] (pW K 1 jt)) (sV:dG P w K mg base m7 2 jA jP ["heads"] (pW K 1 jw)):dG P w K mg base m7 3 eF dX ["ground"] (pW K 1 bB):=by
 unfold bB
 refine uF (k:=2) (g:=pI) t.bB wC rfl rfl fun cdv A outer s H E hr=>?_
 have hu:=gU hr
 have nd:=wC.nd
 exact (au (qN (ak 0) (iW rfl (aH (aD 1 nd) (aH (aD 2 nd) (aH (aD 3 nd) fV))))) (au (bI 4 nd (bT sU (hr.mono (by decide)) rfl t.Je t.Jf t.Jd (aj (ak 1) aA))) (au (bI 5 nd (iV aA)) (au (bI 6 nd (iV aA)) (au (xK 2 PassesOwn.never rfl (aD 7 nd) (bN [7,8,9,10] (au (bI 8 nd (fQ hu (ak 4) (bM (ak 7) aC))) (au (bI 9 nd (fQ hu (ak 4) (bM (ak 7) aC))) (au (m9 (d7 (zY hu) (ak 8) (ak 9) (dR _)) (bN [10] (au (bI 10 nd (bT qU (hr.mono (by decide)) rfl t.Ez t.EY t.Ey (aj (ak 3) (aj (ak 4) (aj (ak 8) (aj (ak 9) aA)))))) (au (m9 (d7 of_is (ak 10) Ua (dR _)) (bN [] (au (YC 4 sS (hr.mono (by decide)) rfl t.Jh t.Ji t.Jg (aj (ak 8) (aj (ak 9) aA))) (au (uf 5 (ak 7)) aU))) (bN [] (au (uf 6 (dw (aj (ak 7) (aj (ak 10) aA)))) aU))) aU))) (bN [10] aU)) aU))))) (wQ (i:=5) (wQ (i:=6) (au (fY (dw (aj (fG (bT sV (hr.mono (by decide)) rfl t.Jk t.Jl t.Jj (aj (ak 4) aA))) (aj (ak 5) (aj (ak 6) aA))))) aU))))))))
theorem uX:dh ["_law_ground_here", "_law_names_here", "_law_new", "_law_reasons"] ["_law_ground_here", "_law_names_here"] (aK jL):=tW
include t in
theorem Dz:dG P w K mg base m7 1 iM jf ["_law_ground_here", "_law_names_here"] (pW K 2 iI):=by
 unfold iI
 refine uF (k:=0) (g:=nT) t.iI uX rfl rfl fun cdv A outer s H E hr=>?_
 have hu:=gU hr
 have nd:=uX.nd
 exact (au (bI 2 nd (Qt rfl rfl t.zM rfl t.G8 (bM (ak 0) aC) (ak 1))) (au (qu 3 ["_law_w", "_law_a", "_law_b", "_law_k"] (qp ["_law_new"] [2]) rfl nd (gR (bM (ak 0) aC)) (fun _ _ _ _=>(iW rfl (aH (aD 1 (by show List.Nodup (_++_);decide +kernel)) (aH (aD 2 (by show List.Nodup (_++_);decide +kernel)) (aH (aD 3 (by show List.Nodup (_++_);decide +kernel)) (aH (aD 4 (by show List.Nodup (_++_);decide +kernel)) fV)))))) (fun _ _ _ _=>d8) (fun _ _ _ _=>(dw (aj (ak 1) (aj (fQ hu (ak 0) (ak 2)) (aj (fQ hu (ak 0) (ak 3)) (aj (ak 4) aA)))))) (wH (bY (bH) (bY (bH) (bY (bH) (bY (bH) rT)))))) (au (fY (dw (aj (fG (fJ jc rfl t.iw iY (aj (ak 1) aA))) (aj (fG (fJ jc rfl t.iw iY (aj (ak 3) aA))) (aj (fG (fJ jc rfl t.iw iY (aj (mF ["_law_a", "_law_b", "_law_k"] (qp ["_law_new"] [2]) rfl (gR (bM (ak 0) aC)) (fun _ _ _ _=>(iW rfl (aH (aD 1 (by show List.Nodup (_++_);decide +kernel)) (aH (aD 2 (by show List.Nodup (_++_);decide +kernel)) (aH (aD 3 (by show List.Nodup (_++_);decide +kernel)) fV))))) (fun _ _ _ _=>d8) (fun _ _ _ _=>(dw (aj (fQ hu (ak 0) (ak 1)) (aj (fQ hu (ak 0) (ak 2)) (aj (ak 3) aA))))) (wH (bY (bH) (bY (bH) (bY (bH) rT))))) aA))) aA))))) aU)))
theorem oH:dh ["_law_ground_here", "_law_names_here", "_law_new", "_law_sets", "_law_kept", "_law_barred", "_law_due_sets", "_law_due_kept", "_law_due_barred", "_law_reason", "_law_bar", "_law_w", "_law_a", "_law_b", "_law_k"] ["_law_ground_here"] (aK eZ):=tW
include t in
theorem uY (mU:dG P w K mg base m7 1 eE fL ["_law_many"] (pW K 1 d9)) (qW:dG P w K mg base m7 1 iM jf ["_law_ground_here", "_law_names_here"] (pW K 2 iI)) (bC:dG P w K mg base m7 3 eF dX ["ground"] (pW K 1 bB)):dG P w K mg base m7 4 cX dJ ["_law_ground_here"] (pW K 1 cV):=by
 unfold cV
 refine uF (k:=3) (g:=iT) t.cV oH rfl rfl fun cdv A outer s H E hr=>?_
 have hu:=gU hr
 have nd:=oH.nd
 exact (au (bI 1 nd (bT mU (hr.mono (by decide)) rfl t.yD t.yE t.yC (aj (fG (bR qQ rfl t.qG qP (aj (bM (ak 0) aC) aA))) aA))) (au (bI 2 nd (Qt rfl rfl t.zM rfl t.G8 (bM (ak 0) aC) (ak 1))) (au (qN (bT bC (hr.mono (by decide)) rfl t.eN t.eU t.eG (aj (ak 0) aA)) (iW rfl (aH (aD 3 nd) (aH (aD 4 nd) (aH (aD 5 nd) fV))))) (au (qu 6 ["_law_some"] (qp ["_law_new"] [2]) rfl nd (gR (ak 3)) (fun _ _ _ _=>(aD 1 (by show List.Nodup (_++_);decide +kernel))) (fun _ _ _ _=>d8) (fun _ _ _ _=>(fG (fJ jc rfl t.iw iY (aj (mF ["_law_name"] (qp ["_law_new"] [0]) rfl (gR (ak 1)) (fun _ _ _ _=>(aD 1 (by show List.Nodup (_++_);decide +kernel))) (fun _ _ _ _=>d8) (fun _ _ _ _=>(fQ hu (ak 0) (ak 1))) (bH)) aA)))) (bH)) (au (qu 7 ["_law_w", "_law_a", "_law_b", "_law_k"] (qp ["_law_new"] [2]) rfl nd (gR (ak 4)) (fun _ _ _ _=>(iW rfl (aH (aD 1 (by show List.Nodup (_++_);decide +kernel)) (aH (aD 2 (by show List.Nodup (_++_);decide +kernel)) (aH (aD 3 (by show List.Nodup (_++_);decide +kernel)) (aH (aD 4 (by show List.Nodup (_++_);decide +kernel)) fV)))))) (fun _ _ _ _=>d8) (fun _ _ _ _=>(dw (aj (ak 1) (aj (fQ hu (ak 0) (ak 2)) (aj (fQ hu (ak 0) (ak 3)) (aj (ak 4) aA)))))) (wH (bY (bH) (bY (bH) (bY (bH) (bY (bH) rT)))))) (au (bI 8 nd (iV aA)) (au (xK 5 PassesOwn.never rfl (iW rfl (aH (aD 9 nd) (aH (aD 10 nd) fV))) (bN [9,10,11,12,13,14] (au (qN (ak 9) (iW rfl (aH (aD 11 nd) (aH (aD 12 nd) (aH (aD 13 nd) (aH (aD 14 nd) fV)))))) (au (uf 8 (dw (aj (dw (aj (ak 11) (aj (fQ hu (ak 2) (ak 12)) (aj (fQ hu (ak 2) (ak 13)) (aj (ak 14) aA))))) (aj (dw (aj (fQ hu (ak 2) (bM (ak 10) aC)) (aj (fQ hu (ak 2) (bM (ak 10) aC)) (aj (bM (ak 10) aC) aA)))) aA)))) aU)))) (wQ (i:=6) (wQ (i:=7) (wQ (i:=8) (au (fY (yV (of_eq hu) (bT bC (hr.mono (by decide)) rfl t.eN t.eU t.eG (aj (fG (bT qW (hr.mono (by decide)) rfl t.Fi t.Fj t.Fg (aj (ak 0) (aj (ak 1) aA)))) aA)) (dw (aj (ak 6) (aj (ak 7) (aj (ak 8) aA)))) (dR _))) aU)))))))))))
theorem yG:dh ["_law_names_here", "_law_reasons", "_law_found", "_law_weight", "_law_a", "_law_b", "_law_k", "_law_one", "_law_other"] ["_law_names_here", "_law_reasons"] (aK mz):=tW
include t in
theorem Jo:dG P w K mg base m7 1 kj lK ["_law_names_here", "_law_reasons"] (pW K 2 j7):=by
 unfold j7
 refine uF (k:=0) (g:=qD) t.j7 yG rfl rfl fun cdv A outer s H E hr=>?_
 have hu:=gU hr
 have nd:=yG.nd
 exact (au (qu 2 ["_law_name"] (qp [] []) rfl nd (gR (ak 0)) (fun _ _ _ _=>(aD 0 (by show List.Nodup (_++_);decide +kernel))) (fun _ _ _ _=>d8) (fun _ _ _ _=>(fG (iV (aj (ak 0) aA)))) (bH)) (au (xK 1 PassesOwn.never rfl (iW rfl (aH (aD 3 nd) (aH (aD 4 nd) (aH (aD 5 nd) (aH (aD 6 nd) fV))))) (bN [3,4,5,6,7,8] (au (bI 7 nd (bM (mF ["_law_part"] (qp ["_law_a"] [4]) rfl (gR (ak 2)) (fun _ _ _ _=>(aD 1 (by show List.Nodup (_++_);decide +kernel))) (fun _ _ _ _=>(jZ (d7 ZK (ak 0) (ak 1) (by with_unfolding_all rfl)))) (fun _ _ _ _=>(ak 1)) (bH)) aC)) (au (bI 8 nd (bM (mF ["_law_part"] (qp ["_law_b"] [5]) rfl (gR (ak 2)) (fun _ _ _ _=>(aD 1 (by show List.Nodup (_++_);decide +kernel))) (fun _ _ _ _=>(jZ (d7 ZK (ak 0) (ak 1) (by with_unfolding_all rfl)))) (fun _ _ _ _=>(ak 1)) (bH)) aC)) (au (m9 (d7 (zY hu) (ak 7) (ak 8) (dR _)) (bN [] (au (bI 2 nd (bf dB (mF ["_law_part"] (qp ["_law_one", "_law_other"] [7,8]) rfl (gR (ak 2)) (fun _ _ _ _=>(aD 2 (by show List.Nodup (_++_);decide +kernel))) (fun _ _ _ _=>(jZ (d7 (YD hu) (ak 2) (iV (aj (ak 0) (aj (ak 1) aA))) (by with_unfolding_all rfl)))) (fun _ _ _ _=>(ak 2)) (bH)) (iV (aj (fG (bR Gq rfl t.lX vB (aj (bf dB (ak 7) (ak 8)) aA))) aA)))) aU)) (bN [] aU)) aU))))) (au (fY (bR Kr rfl t.lX vB (aj (mF ["_law_part"] (qp [] []) rfl (gR (ak 2)) (fun _ _ _ _=>(aD 0 (by show List.Nodup (_++_);decide +kernel))) (fun _ _ _ _=>d8) (fun _ _ _ _=>(fG (fJ jc rfl t.iw iY (aj (ak 0) aA)))) (bH)) aA))) aU)))
theorem qH:dh ["_law_ground_here", "_law_names_here", "_law_reasons", "_law_bars", "_law_sets", "_law_kept", "_law_barred"] ["_law_ground_here"] (aK gA):=tW
include t in
theorem yH (uZ:dG P w K mg base m7 1 kj lK ["_law_names_here", "_law_reasons"] (pW K 2 j7)) (bC:dG P w K mg base m7 3 eF dX ["ground"] (pW K 1 bB)):dG P w K mg base m7 4 fM fX ["_law_ground_here"] (pW K 1 fK):=by
 unfold fK
 refine uF (k:=3) (g:=lH) t.fK qH rfl rfl fun cdv A outer s H E hr=>?_
 have hu:=gU hr
 have nd:=qH.nd
 exact (au (qN (ak 0) (iW rfl (aH (aD 1 nd) (aH (aD 2 nd) (aH (aD 3 nd) fV))))) (au (qN (bT bC (hr.mono (by decide)) rfl t.eN t.eU t.eG (aj (ak 0) aA)) (iW rfl (aH (aD 4 nd) (aH (aD 5 nd) (aH (aD 6 nd) fV))))) (au (m9 (d7 (zY hu) (bR qQ rfl t.qG qP (aj (ak 5) aA)) (bf Ck (bR qQ rfl t.qG qP (aj (ak 1) aA)) (bR qQ rfl t.qG qP (aj (ak 4) aA))) (dR _)) (au (fY BX) aU) aU) (au (m9 (d7 (zY hu) (bT bC (hr.mono (by decide)) rfl t.eN t.eU t.eG (aj (dw (aj (ak 1) (aj (fG (fJ jc rfl t.iw iY (aj (ak 5) aA))) (aj (dw aA) aA)))) aA)) (dw (aj (ak 4) (aj (ak 5) (aj (fG (iV aA)) aA)))) (dR _)) (au (fY BX) aU) aU) (au (m9 (d7 (zY hu) (bT uZ (hr.mono (by decide)) rfl t.Lx t.Ly t.Lw (aj (ak 1) (aj (ak 5) aA))) (ak 4) (dR _)) (au (fY BX) aU) aU) (au (fY (yV (of_eq hu) (bT bC (hr.mono (by decide)) rfl t.eN t.eU t.eG (aj (dw (aj (ak 1) (aj (fG (fJ jc rfl t.iw iY (aj (ak 5) aA))) (aj (ak 3) aA)))) aA)) (dw (aj (ak 4) (aj (ak 5) (aj (fG (iV aA)) aA)))) (dR _))) aU))))))
theorem oJ:dh ["_law_ground_here", "_law_by", "_law_names_here", "_law_reasons", "_law_bars", "_law_sets", "_law_kept", "_law_barred", "_law_heavier", "_law_found", "_law_due", "_law_shut", "_law_reason", "_law_bar"] ["_law_ground_here", "_law_by"] (aK fj):=tW
include t in
theorem u0 (bC:dG P w K mg base m7 3 eF dX ["ground"] (pW K 1 bB)):dG P w K mg base m7 4 cY dM ["_law_ground_here", "_law_by"] (pW K 2 cW):=by
 unfold cW
 refine uF (k:=3) (g:=iU) t.cW oJ rfl rfl fun cdv A outer s H E hr=>?_
 have hu:=gU hr
 have nd:=oJ.nd
 exact (au (qN (ak 0) (iW rfl (aH (aD 2 nd) (aH (aD 3 nd) (aH (aD 4 nd) fV))))) (au (qN (bT bC (hr.mono (by decide)) rfl t.eN t.eU t.eG (aj (ak 0) aA)) (iW rfl (aH (aD 5 nd) (aH (aD 6 nd) (aH (aD 7 nd) fV))))) (au (bI 8 nd (fJ jc rfl t.iw iY (aj (mF ["_law_w", "_law_a", "_law_b", "_law_k"] (qp ["_law_by"] [1]) rfl (gR (ak 3)) (fun _ _ _ _=>(iW rfl (aH (aD 1 (by show List.Nodup (_++_);decide +kernel)) (aH (aD 2 (by show List.Nodup (_++_);decide +kernel)) (aH (aD 3 (by show List.Nodup (_++_);decide +kernel)) (aH (aD 4 (by show List.Nodup (_++_);decide +kernel)) fV)))))) (fun _ _ _ _=>d8) (fun _ _ _ _=>(dw (aj (fG (bf dB (ak 1) (ak 0))) (aj (ak 2) (aj (ak 3) (aj (ak 4) aA)))))) (wH (bY (bH) (bY (bH) (bY (bH) (bY (bH) rT)))))) aA))) (au (bI 9 nd (bT bC (hr.mono (by decide)) rfl t.eN t.eU t.eG (aj (dw (aj (ak 2) (aj (ak 8) (aj (ak 4) aA)))) aA))) (au (qu 10 ["_law_w", "_law_a", "_law_b", "_law_k"] (qp ["_law_by"] [1]) rfl nd (gR (ak 6)) (fun _ _ _ _=>(iW rfl (aH (aD 1 (by show List.Nodup (_++_);decide +kernel)) (aH (aD 2 (by show List.Nodup (_++_);decide +kernel)) (aH (aD 3 (by show List.Nodup (_++_);decide +kernel)) (aH (aD 4 (by show List.Nodup (_++_);decide +kernel)) fV)))))) (fun _ _ _ _=>d8) (fun _ _ _ _=>(dw (aj (fG (bf dB (ak 1) (ak 0))) (aj (ak 2) (aj (ak 3) (aj (ak 4) aA)))))) (wH (bY (bH) (bY (bH) (bY (bH) (bY (bH) rT)))))) (au (bI 11 nd (iV aA)) (au (xK 7 PassesOwn.never rfl (iW rfl (aH (aD 12 nd) (aH (aD 13 nd) fV))) (bN [12,13] (au (uf 11 (dw (aj (fG (bf dB (dw (aj (fG (bf dB (bM (ak 12) aC) (ak 1))) aA)) (Ke (ak 12) (uD aC) uy))) (aj (ak 13) aA)))) aU))) (wQ (i:=10) (wQ (i:=11) (au (fY (yV (of_eq hu) (ak 9) (dw (aj (ak 5) (aj (ak 10) (aj (ak 11) aA)))) (dR _))) aU))))))))))
theorem nj:dh ["_law_ground_here", "_law_a", "_law_b", "_law_names_here", "_law_reasons", "_law_bars", "_law_bar", "_law_before", "_law_found", "_law_first", "_law_some", "_law_ahead"] ["_law_ground_here", "_law_a", "_law_b"] (aK dI):=tW
include t in
theorem tY (bC:dG P w K mg base m7 3 eF dX ["ground"] (pW K 1 bB)):dG P w K mg base m7 4 cL dj ["_law_ground_here", "_law_a", "_law_b"] (pW K 3 cJ):=by
 unfold cJ
 refine uF (k:=3) (g:=iu) t.cJ nj rfl rfl fun cdv A outer s H E hr=>?_
 have hu:=gU hr
 have nd:=nj.nd
 exact (au (qN (ak 0) (iW rfl (aH (aD 3 nd) (aH (aD 4 nd) (aH (aD 5 nd) fV))))) (au (bI 6 nd (dw (aj (fG (bR (Qm rfl) rfl t.Ah HJ (aj (ak 1) (aj (ak 2) aA)))) (aj (fG (bR (YB rfl) rfl t.tM ux (aj (ak 1) (aj (ak 2) aA)))) (aj aC aA))))) (au (bI 7 nd (bT bC (hr.mono (by decide)) rfl t.eN t.eU t.eG (aj (ak 0) aA))) (au (bI 8 nd (bT bC (hr.mono (by decide)) rfl t.eN t.eU t.eG (aj (dw (aj (ak 3) (aj (ak 4) (aj (fG (fJ jc rfl t.iw iY (aj (bR Kr rfl t.lX vB (aj (bf dB (ak 5) (dw (aj (ak 6) aA))) aA)) aA))) aA)))) aA))) (au (qu 9 ["_law_reason", "_law_other"] (qp ["_law_bar"] [6]) rfl nd (gR (bM (ak 8) aC)) (fun _ _ _ _=>(iW rfl (aH (aD 1 (by show List.Nodup (_++_);decide +kernel)) (aH (aD 2 (by show List.Nodup (_++_);decide +kernel)) fV)))) (fun _ _ _ _=>(jZ (d7 (of_eq hu) (ak 2) (ak 0) (dR _)))) (fun _ _ _ _=>(ak 1)) (wH (bY (bH) (bY (bH) rT)))) (au (m9 (d7 (of_eq hu) (ak 9) (iV aA) (dR _)) (au (fY (yV (of_eq hu) (ak 8) (ak 7) (dR _))) aU) aU) (au (bI 10 nd (Ke (ak 4) uy (uD (Vt hu (ak 4) (bM (ak 9) aC))))) (au (qu 11 ["_law_reason"] (qp ["_law_some"] [10]) rfl nd (gR (bM (ak 7) aC)) (fun _ _ _ _=>(aD 1 (by show List.Nodup (_++_);decide +kernel))) (fun _ _ _ _=>(jZ (d7 (Vp hu) (ak 1) (ak 0) (by with_unfolding_all rfl)))) (fun _ _ _ _=>(ak 1)) (bH)) (au (fY (yV (of_eq hu) (ak 11) (mF ["_law_reason"] (qp ["_law_some"] [10]) rfl (gR (bM (ak 8) aC)) (fun _ _ _ _=>(aD 1 (by show List.Nodup (_++_);decide +kernel))) (fun _ _ _ _=>(jZ (d7 (Vp hu) (ak 1) (ak 0) (by with_unfolding_all rfl)))) (fun _ _ _ _=>(ak 1)) (bH)) (dR _))) aU)))))))))
theorem Wi:dh ["_law_script", "_law_xs", "_law_ground_here", "_law_names_here", "_law_reasons", "_law_bars", "_law_heaviest", "_law_sets", "_law_kept", "_law_barred", "_law_found", "_law_a", "_law_b"] ["_law_script"] (aK yx):=tW
include t in
theorem ab9 (kI:dG P w K mg base m7 4 cL dj ["_law_ground_here", "_law_a", "_law_b"] (pW K 3 cJ)) (kE:dG P w K mg base m7 1 j8 j9 ["_law_script", "_law_k"] (pW K 2 gO)) (sW:dG P w K mg base m7 2 jx jM ["_law_script", "_law_at", "_law_many", "_law_reasons", "_law_bars"] (pW K 5 jr)) (lU:dG P w K mg base m7 4 cY dM ["_law_ground_here", "_law_by"] (pW K 2 cW)) (nH:dG P w K mg base m7 4 fM fX ["_law_ground_here"] (pW K 1 fK)) (gw:dG P w K mg base m7 1 gq gP ["_law_cell_here", "_law_many"] (pW K 2 dD)) (lV:dG P w K mg base m7 4 cX dJ ["_law_ground_here"] (pW K 1 cV)) (bC:dG P w K mg base m7 3 eF dX ["ground"] (pW K 1 bB)):dG P w K mg base m7 5 G6 Ds ["_law_script"] (pW K 1 qF):=by
 unfold qF
 refine uF (k:=4) (g:=Qz) t.qF Wi rfl rfl fun cdv A outer s H E hr=>?_
 have hu:=gU hr
 have nd:=Wi.nd
 exact (au (bI 1 nd (bT gw (hr.mono (by decide)) rfl t.nW t.nY t.nU (aj (fG (bT kE (hr.mono (by decide)) rfl t.sJ t.sO t.sI (aj (ak 0) (aj aC aA)))) (aj aC aA)))) (au (bI 2 nd (bT sW (hr.mono (by decide)) rfl t.Jb t.Jc t.Ja (aj (ak 0) (aj aC (aj (bf dU (bM (ak 1) aC) aC) (aj (bf dU (bM (ak 1) aC) aC) (aj (bf dU (bM (ak 1) aC) aC) aA))))))) (au (qN (ak 2) (iW rfl (aH (aD 3 nd) (aH (aD 4 nd) (aH (aD 5 nd) fV))))) (au (m9 (Ro (Hw (M7 (M6 (bT lV (hr.mono (by decide)) rfl t.vL t.vM t.vK (aj (ak 2) aA)))) (Bm (M7 (M6 (bT nH (hr.mono (by decide)) rfl t.zK t.zL t.zJ (aj (ak 2) aA))))))) (au (fY BX) aU) aU) (au (bI 6 nd (bR (YJ rfl) rfl t.tM ux (aj (bf dB (mF ["_law_reason"] (qp [] []) rfl (gR (ak 4)) (fun _ _ _ _=>(aD 0 (by show List.Nodup (_++_);decide +kernel))) (fun _ _ _ _=>d8) (fun _ _ _ _=>(bM (ak 0) aC)) (bH)) (iV (aj aC aA))) aA))) (au (m9 (M7 (M6 (bT lU (hr.mono (by decide)) rfl t.vO t.vP t.vN (aj (ak 2) (aj (bf dU (bM (ak 1) aC) (bf Ck aC (ak 6))) aA))))) (au (fY BX) aU) aU) (au (qN (bT bC (hr.mono (by decide)) rfl t.eN t.eU t.eG (aj (ak 2) aA)) (iW rfl (aH (aD 7 nd) (aH (aD 8 nd) (aH (aD 9 nd) fV))))) (au (bI 10 nd (bT bC (hr.mono (by decide)) rfl t.eN t.eU t.eG (aj (dw (aj (fG (bf dB (ak 3) (dw (aj Cv aA)))) (aj (ak 4) (aj (ak 5) aA)))) aA))) (au (m9 (d7 (zY hu) (ak 10) (dw (aj (fG (bf dB (ak 7) (iV (aj (dw (aj Cv aA)) aA)))) (aj (ak 8) (aj (ak 9) aA)))) (dR _)) (au (fY BX) aU) aU) (au (m9 (d7 Nj (bR qQ rfl t.qG qP (aj (ak 3) aA)) aC (dR _)) (au (fY BX) aU) aU) (au (bI 11 nd (bf dU (bM (ak 1) aC) (bR qQ rfl t.qG qP (aj (ak 3) aA)))) (au (bI 12 nd (bf dU (bf dB (bf dB (ak 11) aC) (bf dU (bM (ak 1) aC) (bf Ck (bR qQ rfl t.qG qP (aj (ak 3) aA)) aC))) (bR qQ rfl t.qG qP (aj (ak 3) aA)))) (au (fY (bT kI (hr.mono (by decide)) rfl t.uQ t.uR t.uP (aj (ak 2) (aj (bM (ak 3) (ak 11)) (aj (bM (ak 3) (ak 12)) aA))))) aU)))))))))))))
end
end G26
end
section
set_option synthInstance.maxSize 100000
namespace G26
open PySem PySem.Spec PyProof.Rows L2 P1
theorem all_mk {l:PySem.W.OpenLaw} {w:World} {K:PySem.W.Frag} {h:Heap} {mg:Str->Option Value} {fa:Addr} {f0:Addr} {od0 an0:Option Addr} {sl0:Array (Option Value)} {oc0 kV0 dc0 pm0 cd0 ct0:Value} {f1:Addr} {od1 an1:Option Addr} {sl1:Array (Option Value)} {oc1 kV1 dc1 pm1 cd1 ct1:Value} {f2:Addr} {od2 an2:Option Addr} {sl2:Array (Option Value)} {oc2 kV2 dc2 pm2 cd2 ct2:Value} {f3:Addr} {od3 an3:Option Addr} {sl3:Array (Option Value)} {oc3 kV3 dc3 pm3 cd3 ct3:Value} {f4:Addr} {od4 an4:Option Addr} {sl4:Array (Option Value)} {oc4 kV4 dc4 pm4 cd4 ct4:Value} {f5:Addr} {od5 an5:Option Addr} {sl5:Array (Option Value)} {oc5 kV5 dc5 pm5 cd5 ct5:Value} {f6:Addr} {od6 an6:Option Addr} {sl6:Array (Option Value)} {oc6 kV6 dc6 pm6 cd6 ct6:Value} {f7:Addr} {od7 an7:Option Addr} {sl7:Array (Option Value)} {oc7 kV7 dc7 pm7 cd7 ct7:Value} {f8:Addr} {od8 an8:Option Addr} {sl8:Array (Option Value)} {oc8 kV8 dc8 pm8 cd8 ct8:Value} {f9:Addr} {od9 an9:Option Addr} {sl9:Array (Option Value)} {oc9 kV9 dc9 pm9 cd9 ct9:Value} {f10:Addr} {afX afY:Option Addr} {afZ:Array (Option Value)} {af0 af2 af3 af4 ad2 af5:Value} {f11:Addr} {af6 af7:Option Addr} {af8:Array (Option Value)} {af9 aga agb agc ad3 agd:Value} {f12:Addr} {agg agh:Option Addr} {agi:Array (Option Value)} {agj agk agl agm ad4 agn:Value} {f13:Addr} {agp agq:Option Addr} {agr:Array (Option Value)} {ags agt agu agv ad5 agw:Value} {f14:Addr} {agy agz:Option Addr} {agA:Array (Option Value)} {agB agC agD agE ad6 agF:Value} {f15:Addr} {agH agI:Option Addr} {agJ:Array (Option Value)} {agK agL agM agN ad7 agO:Value} {f16:Addr} {agQ agR:Option Addr} {agS:Array (Option Value)} {agT agU agV agW ad8 agX:Value} {f17:Addr} {agZ ad9:Option Addr} {ag0:Array (Option Value)} {ag1 aea aeb aec acd aed:Value} (X:K.In h) (G:h.Ns mainGlobals mg) (hfa:mg "law" = some (.ref fa))
  (a0:PySem.W.nsIn K mainGlobals "_law_cell" = some (some (.ref f0))) (l0:K.lookup f0=some ⟨oc0,od0,.func (PySem.W.fnOf "_law_cell" "_law_cell" (dZ nF) (cH nF) (aK nF) .none kV0 dc0 pm0 an0 cd0 ct0),sl0⟩) (c0:PySem.W.codeIn K cd0 "_law_cell" = true) (k0:PySem.W.keepIn K (.ref f0)=true)
  (a1:PySem.W.nsIn K mainGlobals "_law_numbers" = some (some (.ref f1))) (l1:K.lookup f1=some ⟨oc1,od1,.func (PySem.W.fnOf "_law_numbers" "_law_numbers" (dZ jH) (cH jH) (aK jH) .none kV1 dc1 pm1 an1 cd1 ct1),sl1⟩) (c1:PySem.W.codeIn K cd1 "_law_numbers" = true) (k1:PySem.W.keepIn K (.ref f1)=true)
  (a2:PySem.W.nsIn K mainGlobals "_law_names" = some (some (.ref f2))) (l2:K.lookup f2=some ⟨oc2,od2,.func (PySem.W.fnOf "_law_names" "_law_names" (dZ mj) (cH mj) (aK mj) .none kV2 dc2 pm2 an2 cd2 ct2),sl2⟩) (c2:PySem.W.codeIn K cd2 "_law_names" = true) (k2:PySem.W.keepIn K (.ref f2)=true)
  (a3:PySem.W.nsIn K mainGlobals "_law_ground" = some (some (.ref f3))) (l3:K.lookup f3=some ⟨oc3,od3,.func (PySem.W.fnOf "_law_ground" "_law_ground" (dZ lB) (cH lB) (aK lB) .none kV3 dc3 pm3 an3 cd3 ct3),sl3⟩) (c3:PySem.W.codeIn K cd3 "_law_ground" = true) (k3:PySem.W.keepIn K (.ref f3)=true)
  (a4:PySem.W.nsIn K mainGlobals "_law_other_names" = some (some (.ref f4))) (l4:K.lookup f4=some ⟨oc4,od4,.func (PySem.W.fnOf "_law_other_names" "_law_other_names" (dZ fW) (cH fW) (aK fW) .none kV4 dc4 pm4 an4 cd4 ct4),sl4⟩) (c4:PySem.W.codeIn K cd4 "_law_other_names" = true) (k4:PySem.W.keepIn K (.ref f4)=true)
  (a5:PySem.W.nsIn K mainGlobals "lone_heads" = some (some (.ref f5))) (l5:K.lookup f5=some ⟨oc5,od5,.func (PySem.W.fnOf "lone_heads" "lone_heads" (dZ lC) (cH lC) (aK lC) .none kV5 dc5 pm5 an5 cd5 ct5),sl5⟩) (c5:PySem.W.codeIn K cd5 "lone_heads" = true) (k5:PySem.W.keepIn K (.ref f5)=true)
  (a6:PySem.W.nsIn K mainGlobals "bar_between" = some (some (.ref f6))) (l6:K.lookup f6=some ⟨oc6,od6,.func (PySem.W.fnOf "bar_between" "bar_between" (dZ jJ) (cH jJ) (aK jJ) .none kV6 dc6 pm6 an6 cd6 ct6),sl6⟩) (c6:PySem.W.codeIn K cd6 "bar_between" = true) (k6:PySem.W.keepIn K (.ref f6)=true)
  (a7:PySem.W.nsIn K mainGlobals "join_heads" = some (some (.ref f7))) (l7:K.lookup f7=some ⟨oc7,od7,.func (PySem.W.fnOf "join_heads" "join_heads" (dZ lD) (cH lD) (aK lD) .none kV7 dc7 pm7 an7 cd7 ct7),sl7⟩) (c7:PySem.W.codeIn K cd7 "join_heads" = true) (k7:PySem.W.keepIn K (.ref f7)=true)
  (a8:PySem.W.nsIn K mainGlobals "names_under" = some (some (.ref f8))) (l8:K.lookup f8=some ⟨oc8,od8,.func (PySem.W.fnOf "names_under" "names_under" (dZ jK) (cH jK) (aK jK) .none kV8 dc8 pm8 an8 cd8 ct8),sl8⟩) (c8:PySem.W.codeIn K cd8 "names_under" = true) (k8:PySem.W.keepIn K (.ref f8)=true)
  (a9:PySem.W.nsIn K mainGlobals "sets_under" = some (some (.ref f9))) (l9:K.lookup f9=some ⟨oc9,od9,.func (PySem.W.fnOf "sets_under" "sets_under" (dZ lF) (cH lF) (aK lF) .none kV9 dc9 pm9 an9 cd9 ct9),sl9⟩) (c9:PySem.W.codeIn K cd9 "sets_under" = true) (k9:PySem.W.keepIn K (.ref f9)=true)
  (a10:PySem.W.nsIn K mainGlobals "joining_of" = some (some (.ref f10))) (l10:K.lookup f10=some ⟨af0,afX,.func (PySem.W.fnOf "joining_of" "joining_of" (dZ lG) (cH lG) (aK lG) .none af2 af3 af4 afY ad2 af5),afZ⟩) (c10:PySem.W.codeIn K ad2 "joining_of" = true) (k10:PySem.W.keepIn K (.ref f10)=true)
  (a11:PySem.W.nsIn K mainGlobals "_law_renamed" = some (some (.ref f11))) (l11:K.lookup f11=some ⟨af9,af6,.func (PySem.W.fnOf "_law_renamed" "_law_renamed" (dZ jL) (cH jL) (aK jL) .none aga agb agc af7 ad3 agd),af8⟩) (c11:PySem.W.codeIn K ad3 "_law_renamed" = true) (k11:PySem.W.keepIn K (.ref f11)=true)
  (a12:PySem.W.nsIn K mainGlobals "_law_renamed_right" = some (some (.ref f12))) (l12:K.lookup f12=some ⟨agj,agg,.func (PySem.W.fnOf "_law_renamed_right" "_law_renamed_right" (dZ eZ) (cH eZ) (aK eZ) .none agk agl agm agh ad4 agn),agi⟩) (c12:PySem.W.codeIn K ad4 "_law_renamed_right" = true) (k12:PySem.W.keepIn K (.ref f12)=true)
  (a13:PySem.W.nsIn K mainGlobals "_law_parts" = some (some (.ref f13))) (l13:K.lookup f13=some ⟨ags,agp,.func (PySem.W.fnOf "_law_parts" "_law_parts" (dZ mz) (cH mz) (aK mz) .none agt agu agv agq ad5 agw),agr⟩) (c13:PySem.W.codeIn K ad5 "_law_parts" = true) (k13:PySem.W.keepIn K (.ref f13)=true)
  (a14:PySem.W.nsIn K mainGlobals "_law_kept_right" = some (some (.ref f14))) (l14:K.lookup f14=some ⟨agB,agy,.func (PySem.W.fnOf "_law_kept_right" "_law_kept_right" (dZ gA) (cH gA) (aK gA) .none agC agD agE agz ad6 agF),agA⟩) (c14:PySem.W.codeIn K ad6 "_law_kept_right" = true) (k14:PySem.W.keepIn K (.ref f14)=true)
  (a15:PySem.W.nsIn K mainGlobals "_law_heavier_right" = some (some (.ref f15))) (l15:K.lookup f15=some ⟨agK,agH,.func (PySem.W.fnOf "_law_heavier_right" "_law_heavier_right" (dZ fj) (cH fj) (aK fj) .none agL agM agN agI ad7 agO),agJ⟩) (c15:PySem.W.codeIn K ad7 "_law_heavier_right" = true) (k15:PySem.W.keepIn K (.ref f15)=true)
  (a16:PySem.W.nsIn K mainGlobals "_law_bar_more_right" = some (some (.ref f16))) (l16:K.lookup f16=some ⟨agT,agQ,.func (PySem.W.fnOf "_law_bar_more_right" "_law_bar_more_right" (dZ dI) (cH dI) (aK dI) .none agU agV agW agR ad8 agX),agS⟩) (c16:PySem.W.codeIn K ad8 "_law_bar_more_right" = true) (k16:PySem.W.keepIn K (.ref f16)=true)
  (a17:PySem.W.nsIn K mainGlobals "law" = some (some (.ref f17))) (l17:K.lookup f17=some ⟨ag1,agZ,.func (PySem.W.fnOf "law" "law" (dZ yx) (cH yx) (aK yx) .none aea aeb aec ad9 acd aed),ag0⟩) (c17:PySem.W.codeIn K acd "law" = true) (k17:PySem.W.keepIn K (.ref f17)=true)
  (Lz:PySem.W.nsIn K mainGlobals "abs" = some none)
  (zM:PySem.W.nsIn K mainGlobals "dict" = some none)
  (LC:PySem.W.nsIn K mainGlobals "int" = some none)
  (qG:PySem.W.nsIn K mainGlobals "len" = some none)
  (Du:PySem.W.nsIn K mainGlobals "list" = some none)
  (tM:PySem.W.nsIn K mainGlobals "max" = some none)
  (Ah:PySem.W.nsIn K mainGlobals "min" = some none)
  (nZ:PySem.W.nsIn K mainGlobals "range" = some none)
  (G7:PySem.W.nsIn K mainGlobals "set" = some none)
  (lX:PySem.W.nsIn K mainGlobals "sorted" = some none)
  (iw:PySem.W.nsIn K mainGlobals "tuple" = some none)
  (G8:PySem.W.nsIn K mainGlobals "zip" = some none) :
  ∃ fd:FuncData,(∀ (s:Shared) (v:Value),BindsTo s fd ⟨[v],[]⟩ [("_law_script", v)])/\∀ base:Heap,K.In base->base.Ns mainGlobals mg->dG l.prog w K mg base m7 5 fa fd ["_law_script"] (pW K 1 qF):=by
 have e:=hfa.symm.trans (qh X G a17)
 cases e
 have F0:=jR (st:=nF) l0 c0 k0
 have b0:=F0.binds (ps:=["_law_script", "_law_k"]) fun _ _ _ _ _ _=>len2 fun _ _=>rfl
 have F1:=jR (st:=jH) l1 c1 k1
 have b1:=F1.binds (ps:=["_law_cell_here", "_law_many"]) fun _ _ _ _ _ _=>len2 fun _ _=>rfl
 have F2:=jR (st:=mj) l2 c2 k2
 have b2:=F2.binds (ps:=["_law_xs", "_law_many"]) fun _ _ _ _ _ _=>len2 fun _ _=>rfl
 have F3:=jR (st:=lB) l3 c3 k3
 have b3:=F3.binds (ps:=["_law_script", "_law_at", "_law_many", "_law_reasons", "_law_bars"]) fun _ _ _ _ _ _=>afV fun _ _ _ _ _=>rfl
 have F4:=jR (st:=fW) l4 c4 k4
 have b4:=F4.binds (ps:=["_law_many"]) fun _ _ _ _ _ _=>len1 fun _=>rfl
 have F5:=jR (st:=lC) l5 c5 k5
 have b5:=F5.binds (ps:=["names"]) fun _ _ _ _ _ _=>len1 fun _=>rfl
 have F6:=jR (st:=jJ) l6 c6 k6
 have b6:=F6.binds (ps:=["bars", "heads", "one", "other"]) fun _ _ _ _ _ _=>afU fun _ _ _ _=>rfl
 have F7:=jR (st:=lD) l7 c7 k7
 have b7:=F7.binds (ps:=["heads", "one", "other"]) fun _ _ _ _ _ _=>ad1 fun _ _ _=>rfl
 have F8:=jR (st:=jK) l8 c8 k8
 have b8:=F8.binds (ps:=["heads", "head"]) fun _ _ _ _ _ _=>len2 fun _ _=>rfl
 have F9:=jR (st:=lF) l9 c9 k9
 have b9:=F9.binds (ps:=["heads"]) fun _ _ _ _ _ _=>len1 fun _=>rfl
 have F10:=jR (st:=lG) l10 c10 k10
 have b10:=F10.binds (ps:=["ground"]) fun _ _ _ _ _ _=>len1 fun _=>rfl
 have F11:=jR (st:=jL) l11 c11 k11
 have b11:=F11.binds (ps:=["_law_ground_here", "_law_names_here"]) fun _ _ _ _ _ _=>len2 fun _ _=>rfl
 have F12:=jR (st:=eZ) l12 c12 k12
 have b12:=F12.binds (ps:=["_law_ground_here"]) fun _ _ _ _ _ _=>len1 fun _=>rfl
 have F13:=jR (st:=mz) l13 c13 k13
 have b13:=F13.binds (ps:=["_law_names_here", "_law_reasons"]) fun _ _ _ _ _ _=>len2 fun _ _=>rfl
 have F14:=jR (st:=gA) l14 c14 k14
 have b14:=F14.binds (ps:=["_law_ground_here"]) fun _ _ _ _ _ _=>len1 fun _=>rfl
 have F15:=jR (st:=fj) l15 c15 k15
 have b15:=F15.binds (ps:=["_law_ground_here", "_law_by"]) fun _ _ _ _ _ _=>len2 fun _ _=>rfl
 have F16:=jR (st:=dI) l16 c16 k16
 have b16:=F16.binds (ps:=["_law_ground_here", "_law_a", "_law_b"]) fun _ _ _ _ _ _=>ad1 fun _ _ _=>rfl
 have F17:=jR (st:=yx) l17 c17 k17
 have b17:=F17.binds (ps:=["_law_script"]) fun _ _ _ _ _ _=>len1 fun _=>rfl
 have t:T K mg _ _ _ _ _ _ _ _ _ _ _ _ _ _ _ _ _ _ _ _ _ _ _ _ _ _ _ _ _ _ _ _ _ _ _ _:=⟨F0,b0,qh X G a0,k0,F1,b1,qh X G a1,k1,F2,b2,qh X G a2,k2,F3,b3,qh X G a3,k3,F4,b4,qh X G a4,k4,F5,b5,qh X G a5,k5,F6,b6,qh X G a6,k6,F7,b7,qh X G a7,k7,F8,b8,qh X G a8,k8,F9,b9,qh X G a9,k9,F10,b10,qh X G a10,k10,F11,b11,qh X G a11,k11,F12,b12,qh X G a12,k12,F13,b13,qh X G a13,k13,F14,b14,qh X G a14,k14,F15,b15,qh X G a15,k15,F16,b16,qh X G a16,k16,F17,b17,qh X G a17,k17,qE X G Lz,qE X G zM,qE X G LC,qE X G qG,qE X G Du,qE X G tM,qE X G Ah,qE X G nZ,qE X G G7,qE X G lX,qE X G iw,qE X G G8⟩
 refine⟨PySem.W.fnOf "law" "law" (dZ yx) (cH yx) (aK yx) .none aea aeb aec ad9 acd aed,fun s v=>.of_eq rfl,fun base _ _=>?_⟩
 have kE:=LK (P:=l.prog) (w:=w) (base:=base) t
 have gw:=Dv (P:=l.prog) (w:=w) (base:=base) t
 have uU:=Jm (P:=l.prog) (w:=w) (base:=base) t
 have sW:=Fl (P:=l.prog) (w:=w) (base:=base) t kE uU gw
 have mU:=wX (P:=l.prog) (w:=w) (base:=base) t
 have sU:=Fo (P:=l.prog) (w:=w) (base:=base) t
 have qU:=Dw (P:=l.prog) (w:=w) (base:=base) t
 have sS:=Fp (P:=l.prog) (w:=w) (base:=base) t
 have qT:=Dy (P:=l.prog) (w:=w) (base:=base) t
 have sV:=Fq (P:=l.prog) (w:=w) (base:=base) t qT
 have bC:=Ft (P:=l.prog) (w:=w) (base:=base) t qU sS sU sV
 have qW:=Dz (P:=l.prog) (w:=w) (base:=base) t
 have lV:=uY (P:=l.prog) (w:=w) (base:=base) t mU qW bC
 have uZ:=Jo (P:=l.prog) (w:=w) (base:=base) t
 have nH:=yH (P:=l.prog) (w:=w) (base:=base) t uZ bC
 have lU:=u0 (P:=l.prog) (w:=w) (base:=base) t bC
 have kI:=tY (P:=l.prog) (w:=w) (base:=base) t bC
 have aee:=ab9 (P:=l.prog) (w:=w) (base:=base) t kI kE sW lU nH gw lV bC
 exact aee
theorem walk {l:PySem.W.OpenLaw} {q:Program} {loose:List Str} {XP:(Str->Option Value)->Heap->Prop} {YP:World->Heap->Prop} {d:DefRec} {K:Params->PySem.W.Frag} (hn:l.most=some 63) (hdf:d.params.defaults=[])
  (h1:∀ ns:List Int,ns.length<=63->qF [.z (.lst (ns.map .int))]=some (.z (.bl true))) (h2:∀ ns:List Int,ns.length<=63->qF [.l (ns.map .int)]=some (.z (.bl true)))
  (hY:∀ (w:World) (h:Heap),YP w h->(K w.params).In h)
  (F:∀ (w:World) (mg:Str->Option Value) (fa:Addr) (h:Heap),(K w.params).In h->h.Ns mainGlobals mg->mg d.name=some (.ref fa) →
   ∃ fd:FuncData,(∀ (s:Shared) (u:Value),BindsTo s fd ⟨[u],[]⟩ [("_law_script", u)])/\∀ base:Heap,(K w.params).In base->base.Ns mainGlobals mg->dG l.prog w (K w.params) mg base m7 5 fa fd ["_law_script"] (pW (K w.params) 1 qF)) :
  PySem.W.WalkO q loose XP YP l.row.toRowW d [] (fun f vs=>PySem.call f vs):=
 L2.T3 (n:=63) (k:=5) (x := "_law_script") (CX:=m7) (sp:=fun K=>pW K 1 qF) hn (by decide) hdf ⟨rfl,by decide,by decide⟩ hY F (fun K H a ns hl hO hS=>abq h1 h2 K H a ns hl hO hS) fun _ _ _ _ z=>z
end G26
end
section
set_option synthInstance.maxSize 100000
namespace G26
open PySem PySem.Spec PyProof.Rows L2 P1
noncomputable section
def wD  (v3:Int) (v4:Int):Int:=(let v3:=(((v3 * (69621:Int))+v4) % (2147483647:Int));v3)
theorem Fv (v0:(List Int)) {n6:Bx} (rM:Lp n6 (v0.map eI)) (v2:Int) (v3:Int) (v4:Int):RP wg [some n6,some ((zE eI) v2),some ((zE eI) v3),some ((zE eI) v4)] (fun s=>Out.nx ((fun v3:Int=>[some n6,some ((zE eI) v2),some ((zE eI) v3),none]) s)) (wD  v3 v4) (none):=R.tp (cF (bO 2 (iB (lQ (Qu (ao 2 (zE eI) v3 rfl) 69621 (by decide)) (ao 3 (zE eI) v4 rfl)) 2147483647 (by decide)) (fun _=>rfl) fun v3=>(fB (cI v3 rfl))))
def bh (v0:(List Int)) (v2:Int):Int:=(if (decide (v2 < (v0.length:Int)))=true then (at' v0 v2) else (let v3:=(((48271:Int) * (((v2 * v2)+((7:Int) * v2))+(11:Int))) % (2147483647:Int));(let v3:Int:=((cut v0 none (some (3:Int))).foldl (fun (v3:Int) (v4:Int)=>(wD  v3 v4)) v3);v3)))
def kJ (v0:(List Int)) (v2:Int):Prop:=(((decide (v2 < (v0.length:Int)))=true->In v0.length v2)/\((decide (v2 < (v0.length:Int)))=false->Mul v2 v2))
theorem Ou (v0:(List Int)) {n6:Bx} (rM:Lp n6 (v0.map eI)) (v2:Int):RP sE [some n6,some ((zE eI) v2),none,none] (fun r=>Out.rt ((zE eI) r)) (bh v0 v2) (some (kJ v0 v2)):=R.tp (vZ (ig (VJ (ao 1 (zE eI) v2 rfl) (x_len (pZ 0 eI v0 rM rfl)))) (cF (jE (fun r=>r) (lR (pZ 0 eI v0 rM rfl) (ao 1 (zE eI) v2 rfl)) (fun _=>rfl) fun _=>rfl)) (fB (bO 2 (iB (Oh 48271 (by decide) (lQ (lQ (ZV (ao 1 (zE eI) v2 rfl) (ao 1 (zE eI) v2 rfl)) (Oh 7 (by decide) (ao 1 (zE eI) v2 rfl))) (bw (.int 11) eI (11:Int) rfl))) 2147483647 (by decide)) (fun _=>rfl) fun v3=>(abV (fun v3:Int=>[some n6,some ((zE eI) v2),some ((zE eI) v3),none]) v3 rfl (adY (afT (pZ 0 eI v0 rM rfl) YM (YQ (bw (.int 3) eI (3:Int) rfl)))) _ (fun _ _=>rfl) (fun (v3:Int) (v4:Int)=>(Fv v0 rM v2 v3 v4).r) (fun _ _=>rfl) fun v3=>(jE (fun r=>r) (ao 2 (zE eI) v3 rfl) (fun _=>rfl) fun _=>rfl)))))
theorem sX:∀ v bs,(aL eI (aZ eI aN)) v bs->bs.length=2/\(hold (some (kJ v.1 v.2.1))->gO (bs.map lend)=some ((zE eI) (bh v.1 v.2.1))):=by
 rintro⟨v0,v2,_⟩ _ ⟨n6,_,rfl,rM,⟨_,rfl,rfl⟩⟩
 exact⟨rfl,fun h=>j6 (g:=sE) (n:=4) (bs:=[lend n6,.z (eI v2)]) (Ou v0 (GP rM) v2).r h⟩
end
end G26
end
section
set_option synthInstance.maxSize 100000
namespace G26
open PySem PySem.Spec PyProof.Rows L2 P1
noncomputable section
def cP  (s1:Int×(List Int)×Int) (v2:Int):Int×(List Int)×Int:=(let v3:=((((s1.1 * ((s1.1 % (65521:Int))+(40487:Int)))+((7:Int) * v2))+(5:Int)) % (1999999973:Int));(let v6:=s1.2.1++[(at' [v3,(s1.2.2 % (1000000:Int))] (if (decide ((0:Int) < s1.2.2))=true then (1:Int) else 0))];(let v7:=(s1.2.2 / (1000000:Int));(v3,v6,v7))))
def lM  (s1:Int×(List Int)×Int) (v2:Int):Prop:=(Mul s1.1 ((s1.1 % (65521:Int))+(40487:Int))/\(let v3:=((((s1.1 * ((s1.1 % (65521:Int))+(40487:Int)))+((7:Int) * v2))+(5:Int)) % (1999999973:Int));(In [v3,(s1.2.2 % (1000000:Int))].length (if (decide ((0:Int) < s1.2.2))=true then (1:Int) else 0)/\Eh s1.2.1.length)))
theorem zN (v4:Int) (v5:Int) (s1:Int×(List Int)×Int) (v2:Int):RP nG [some ((zE eI) v4),some ((zE eI) v5),some ((oE eI) s1.2.1),some ((zE eI) s1.1),some ((zE eI) s1.2.2),some ((zE eI) v2)] (fun s=>Out.nx ((fun s1:Int×(List Int)×Int=>[some ((zE eI) v4),some ((zE eI) v5),some ((oE eI) s1.2.1),some ((zE eI) s1.1),some ((zE eI) s1.2.2),none]) s)) (cP  s1 v2) (some (lM  s1 v2)):=R.tp (cF (bO 3 (iB (lQ (lQ (ZV (ao 3 (zE eI) s1.1 rfl) (lQ (iB (ao 3 (zE eI) s1.1 rfl) 65521 (by decide)) (bw (.int 40487) eI (40487:Int) rfl))) (Oh 7 (by decide) (ao 5 (zE eI) v2 rfl))) (bw (.int 5) eI (5:Int) rfl)) 1999999973 (by decide)) (fun _=>rfl) fun v3=>(cF (Ad 2 s1.2.1 rfl (lR (nC (lZ (gk (ao 3 (zE eI) v3 rfl) (gk (iB (ao 4 (zE eI) s1.2.2 rfl) 1000000 (by decide)) (gK eI))) (zI rfl))) (abT (afS (ao 4 (zE eI) s1.2.2 rfl) (bw (.int 0) eI (0:Int) rfl)))) fun v6=>(cF (bO 4 (Io (ao 4 (zE eI) s1.2.2 rfl) 1000000 (by decide)) (fun _=>rfl) fun v7=>(fB (cI (v3,v6,v7) rfl))))))))
def lN (v4:Int) (v5:Int) (v6:(List Int)) (v3:Int) (v7:Int):(List Int):=(let s1:Int×(List Int)×Int:=((rng 0 v5.toNat).foldl (fun (s1:Int×(List Int)×Int) (v2:Int)=>(cP  s1 v2)) (v3,v6,v7));s1.2.1)
def nJ (v4:Int) (v5:Int) (v6:(List Int)) (v3:Int) (v7:Int):Prop:=(Rg v5/\rZ (fun (s1:Int×(List Int)×Int) (v2:Int)=>(cP  s1 v2)) (fun (s1:Int×(List Int)×Int) (v2:Int)=>some (lM  s1 v2)) (rng 0 v5.toNat) (v3,v6,v7))
def zO:Ev->Option Out:=(aF (xU (S7 (aq (gv 1) aG)) (gC 5) nG) (aF (Hz 2) lq))
theorem zP (v4:Int) (v5:Int) (v6:(List Int)) (v3:Int) (v7:Int):RP zO [some ((zE eI) v4),some ((zE eI) v5),some ((oE eI) v6),some ((zE eI) v3),some ((zE eI) v7),none] (fun r=>Out.rt ((oE eI) r)) (lN v4 v5 v6 v3 v7) (some (nJ v4 v5 v6 v3 v7)):=R.tp (Lf (fun s1:Int×(List Int)×Int=>[some ((zE eI) v4),some ((zE eI) v5),some ((oE eI) s1.2.1),some ((zE eI) s1.1),some ((zE eI) s1.2.2),none]) (v3,v6,v7) rfl (GR (ao 1 (zE eI) v5 rfl)) _ (fun _ _=>rfl) (fun (s1:Int×(List Int)×Int) (v2:Int)=>(zN v4 v5 s1 v2).r) fun s1=>(V3 2 (fun r=>r) s1.2.1 rfl (fun _=>rfl) fun _=>rfl))
def aV (v4:Int) (v5:Int):(List Int):=(let v6:=([]:List Int);(let v3:=((((v4 % (1999999973:Int))+(31:Int)) * (765432101:Int)) % (1999999973:Int));(let v7:=(0:Int);(let v7:Int:=(if ((decide (v4 < (0:Int)))||(decide (((10:Int) ^ 18)<=v4)))=true then (let v7:=(if v4 < 0 then -v4 else v4);v7) else v7);(lN v4 v5 v6 v3 v7)))))
def iQ (v4:Int) (v5:Int):Prop:=(let v6:=([]:List Int);(let v3:=((((v4 % (1999999973:Int))+(31:Int)) * (765432101:Int)) % (1999999973:Int));(let v7:=(0:Int);(let v7:Int:=(if ((decide (v4 < (0:Int)))||(decide (((10:Int) ^ 18)<=v4)))=true then (let v7:=(if v4 < 0 then -v4 else v4);v7) else v7);(nJ v4 v5 v6 v3 v7)))))
theorem Fw (v4:Int) (v5:Int):RP nP [some ((zE eI) v4),some ((zE eI) v5),none,none,none,none] (fun r=>Out.rt ((oE eI) r)) (aV v4 v5) (some (iQ v4 v5)):=R.tp (bO 2 (lZ (gK eI) (zI rfl)) (fun _=>rfl) fun v6=>(bO 3 (iB (Qu (lQ (iB (ao 0 (zE eI) v4 rfl) 1999999973 (by decide)) (bw (.int 31) eI (31:Int) rfl)) 765432101 (by decide)) 1999999973 (by decide)) (fun _=>rfl) fun v3=>(bO 4 (bw (.int 0) eI (0:Int) rfl) (fun _=>rfl) fun v7=>(Ae (fun v7:Int=>[some ((zE eI) v4),some ((zE eI) v5),some ((oE eI) v6),some ((zE eI) v3),some ((zE eI) v7),none]) (YK (ig (VJ (ao 0 (zE eI) v4 rfl) (bw (.int 0) eI (0:Int) rfl))) (ig (x_ge (ao 0 (zE eI) v4 rfl) (abM 10 18 18 (by decide) rfl)))) (cF (bO 4 (adU (ao 0 (zE eI) v4 rfl)) (fun _=>rfl) fun v7=>(fB (cI v7 rfl)))) (fB (cI v7 rfl)) fun v7=>(zP v4 v5 v6 v3 v7).r))))
theorem n8:∀ v bs,(aZ eI (aZ eI aN)) v bs->bs.length=2/\(hold (some (iQ v.1 v.2.1))->dD (bs.map lend)=some ((oE eI) (aV v.1 v.2.1))):=by
 rintro⟨v4,v5,_⟩ _ ⟨_,rfl,⟨_,rfl,rfl⟩⟩
 exact⟨rfl,fun h=>j6 (g:=nP) (n:=6) (bs:=[.z (eI v4),.z (eI v5)]) (Fw v4 v5).r h⟩
end
end G26
end
section
set_option synthInstance.maxSize 100000
namespace G26
open PySem PySem.Spec PyProof.Rows L2 P1
noncomputable section
def gQ (v1:(List Int)) (ve:Str) (vf:Str) (v9:Int) (v6:(List Str)) (v2:Int):(List Str):=(let vg:=(ch ve ((v2+(at' v1 (2:Int))) % (15:Int)));(let vh:=(((Txt.slice vf none (some v9))++vg)++(Txt.slice vf (some v9) none));(let vh:Str:=(if (decide (((at' v1 (3:Int)) % (3:Int))=(1:Int)))=true then (let vh:=(Txt.mul (ch ve (v2 / (8:Int))) ((1:Int)+(v2 % (8:Int))));vh) else vh);(let v6:=v6++[vh];v6))))
def mV (v1:(List Int)) (ve:Str) (vf:Str) (v9:Int) (v6:(List Str)) (v2:Int):Prop:=((In v1.length (2:Int)/\In ve.length ((v2+(at' v1 (2:Int))) % (15:Int)))/\(let vg:=(ch ve ((v2+(at' v1 (2:Int))) % (15:Int)));((Eh ((Txt.slice vf none (some v9)).length+vg.length)/\Eh (((Txt.slice vf none (some v9))++vg).length+(Txt.slice vf (some v9) none).length))/\(let vh:=(((Txt.slice vf none (some v9))++vg)++(Txt.slice vf (some v9) none));((In v1.length (3:Int)/\((decide (((at' v1 (3:Int)) % (3:Int))=(1:Int)))=true->(In ve.length (v2 / (8:Int))/\(((1:Int)+(v2 % (8:Int)))<=1000 ∧ -1000<=((1:Int)+(v2 % (8:Int)))/\(ch ve (v2 / (8:Int))).length<=1000))))/\(let vh:Str:=(if (decide (((at' v1 (3:Int)) % (3:Int))=(1:Int)))=true then (let vh:=(Txt.mul (ch ve (v2 / (8:Int))) ((1:Int)+(v2 % (8:Int))));vh) else vh);Eh v6.length))))))
theorem DG (v1:(List Int)) {n6:Bx} (rM:Lp n6 (v1.map eI)) (v5:Int) (ve:Str) (vf:Str) (v9:Int) (v6:(List Str)) (v2:Int):RP qd [some n6,some ((zE eI) v5),some ((zE eS) ve),some ((zE eS) vf),some ((zE eI) v9),some ((oE eS) v6),some ((zE eI) v2),none,none] (fun s=>Out.nx ((fun v6:(List Str)=>[some n6,some ((zE eI) v5),some ((zE eS) ve),some ((zE eS) vf),some ((zE eI) v9),some ((oE eS) v6),none,none,none]) s)) (gQ v1 ve vf v9 v6 v2) (some (mV v1 ve vf v9 v6 v2)):=R.tp (cF (bO 7 (Qv (ao 2 (zE eS) ve rfl) (iB (lQ (ao 6 (zE eI) v2 rfl) (lR (pZ 0 eI v1 rM rfl) (bw (.int 2) eI (2:Int) rfl))) 15 (by decide))) (fun _=>rfl) fun vg=>(cF (bO 8 (Ol (Ol (Z4 (ao 3 (zE eS) vf rfl) YM (YQ (ao 4 (zE eI) v9 rfl))) (ao 7 (zE eS) vg rfl)) (Z4 (ao 3 (zE eS) vf rfl) (YQ (ao 4 (zE eI) v9 rfl)) YM)) (fun _=>rfl) fun vh=>(cF (Ae (fun vh:Str=>[some n6,some ((zE eI) v5),some ((zE eS) ve),some ((zE eS) vf),some ((zE eI) v9),some ((oE eS) v6),some ((zE eI) v2),some ((zE eS) vg),some ((zE eS) vh)]) (ig (x_eq (by decide) (iB (lR (pZ 0 eI v1 rM rfl) (bw (.int 3) eI (3:Int) rfl)) 3 (by decide)) (bw (.int 1) eI (1:Int) rfl))) (cF (bO 8 (abR (Qv (ao 2 (zE eS) ve rfl) (Io (ao 6 (zE eI) v2 rfl) 8 (by decide))) (lQ (bw (.int 1) eI (1:Int) rfl) (iB (ao 6 (zE eI) v2 rfl) 8 (by decide)))) (fun _=>rfl) fun vh=>(fB (cI vh rfl)))) (fB (cI vh rfl)) fun vh=>(cF (Ad 5 v6 rfl (ao 8 (zE eS) vh rfl) fun v6=>(fB (cI v6 rfl))))))))))
def mX (v1:(List Int)) (v5:Int) (ve:Str) (vf:Str):(List Str):=(let v9:=((at' v1 (1:Int)) % ((vf.length:Int)+(1:Int)));(let v6:=([]:List Str);(let v6:(List Str):=((rng 0 v5.toNat).foldl (fun (v6:(List Str)) (v2:Int)=>(gQ v1 ve vf v9 v6 v2)) v6);v6)))
def qg (v1:(List Int)) (v5:Int) (ve:Str) (vf:Str):Prop:=((In v1.length (1:Int)/\0 < ((vf.length:Int)+(1:Int)))/\(let v9:=((at' v1 (1:Int)) % ((vf.length:Int)+(1:Int)));(let v6:=([]:List Str);(Rg v5/\rZ (fun (v6:(List Str)) (v2:Int)=>(gQ v1 ve vf v9 v6 v2)) (fun (v6:(List Str)) (v2:Int)=>some (mV v1 ve vf v9 v6 v2)) (rng 0 v5.toNat) v6))))
def DK:Ev->Option Out:=(aF (setG 4 (b2 kZ (b2 lg (gv 0) (cB (.int 1))) (b2 gZ (bZ rU (aq (gv 3) aG)) (cB (.int 1))))) (aF (setG 5 (bZ nq aG)) (aF (xU (S7 (aq (gv 1) aG)) (gC 6) qd) (aF (Hz 5) lq))))
theorem DN (v1:(List Int)) {n6:Bx} (rM:Lp n6 (v1.map eI)) (v5:Int) (ve:Str) (vf:Str):RP DK [some n6,some ((zE eI) v5),some ((zE eS) ve),some ((zE eS) vf),none,none,none,none,none] (fun r=>Out.rt ((oE eS) r)) (mX v1 v5 ve vf) (some (qg v1 v5 ve vf)):=R.tp (bO 4 (yq (lR (pZ 0 eI v1 rM rfl) (bw (.int 1) eI (1:Int) rfl)) (lQ (abS (ao 3 (zE eS) vf rfl)) (bw (.int 1) eI (1:Int) rfl))) (fun _=>rfl) fun v9=>(bO 5 (lZ (gK eS) (zI rfl)) (fun _=>rfl) fun v6=>(Lf (fun v6:(List Str)=>[some n6,some ((zE eI) v5),some ((zE eS) ve),some ((zE eS) vf),some ((zE eI) v9),some ((oE eS) v6),none,none,none]) v6 rfl (GR (ao 1 (zE eI) v5 rfl)) _ (fun _ _=>rfl) (fun (v6:(List Str)) (v2:Int)=>(DG v1 rM v5 ve vf v9 v6 v2).r) fun v6=>(V3 5 (fun r=>r) v6 rfl (fun _=>rfl) fun _=>rfl))))
def cg (v1:(List Int)) (v5:Int):(List Str):=(let ve:=("abcdefghijklmnopqrstuvwxyz" : Str);(let vf:=(Txt.join "" ((rng 0 ((at' v1 (0:Int)) % (6:Int)).toNat).map fun v2:Int=>(ch ve (((at' v1 v2) / (40:Int)) % (26:Int)))));(mX v1 v5 ve vf)))
def qI (v1:(List Int)) (v5:Int):Prop:=(let ve:=("abcdefghijklmnopqrstuvwxyz" : Str);(((((In v1.length (0:Int)/\Rg ((at' v1 (0:Int)) % (6:Int)))/\(rng 0 ((at' v1 (0:Int)) % (6:Int)).toNat).length<=100000)/\(∀ v2∈(rng 0 ((at' v1 (0:Int)) % (6:Int)).toNat),(In v1.length v2/\In ve.length (((at' v1 v2) / (40:Int)) % (26:Int)))))/\(((rng 0 ((at' v1 (0:Int)) % (6:Int)).toNat).map fun v2:Int=>(ch ve (((at' v1 v2) / (40:Int)) % (26:Int)))).map (·.length)).sum+((rng 0 ((at' v1 (0:Int)) % (6:Int)).toNat).map fun v2:Int=>(ch ve (((at' v1 v2) / (40:Int)) % (26:Int)))).length * ("" : Str).length<=100000)/\(let vf:=(Txt.join "" ((rng 0 ((at' v1 (0:Int)) % (6:Int)).toNat).map fun v2:Int=>(ch ve (((at' v1 v2) / (40:Int)) % (26:Int)))));(qg v1 v5 ve vf))))
theorem LQ (v1:(List Int)) {n6:Bx} (rM:Lp n6 (v1.map eI)) (v5:Int):RP qC [some n6,some ((zE eI) v5),none,none,none,none,none,none,none] (fun r=>Out.rt ((oE eS) r)) (cg v1 v5) (some (qI v1 v5)):=R.tp (bO 2 (bw (.str "abcdefghijklmnopqrstuvwxyz") eS ("abcdefghijklmnopqrstuvwxyz" : Str) rfl) (fun _=>rfl) fun ve=>(bO 3 (abU "" (nC (wU (GR (iB (lR (pZ 0 eI v1 rM rfl) (bw (.int 0) eI (0:Int) rfl)) 6 (by decide))) _ (fun _=>rfl) (fun v2:Int=>(Qv (ao 0 (zE eS) ve rfl) (iB (Io (lR (pZ 1 eI v1 rM (congrArg some (rM.get rfl))) (ao 2 (zE eI) v2 rfl)) 40 (by decide)) 26 (by decide))))))) (fun _=>rfl) fun vf=>(DN v1 rM v5 ve vf).r))
theorem LR:∀ v bs,(aL eI (aZ eI aN)) v bs->bs.length=2/\(hold (some (qI v.1 v.2.1))->jo (bs.map lend)=some ((oE eS) (cg v.1 v.2.1))):=by
 rintro⟨v1,v5,_⟩ _ ⟨n6,_,rfl,rM,⟨_,rfl,rfl⟩⟩
 exact⟨rfl,fun h=>j6 (g:=qC) (n:=9) (bs:=[lend n6,.z (eI v5)]) (LQ v1 (GP rM) v5).r h⟩
end
end G26
end
section
set_option synthInstance.maxSize 100000
namespace G26
open PySem PySem.Spec PyProof.Rows L2 P1
noncomputable section
def cM (v0:(List Int)) (v9:Int) (v5:Int) (vc:(List Int)) (vd:(List Str)) (vi:(List bF)) (v2:Int):(List bF):=(let v1:=(aV (bh v0 ((v9+(1:Int))+v2)) (4:Int));(let y1:=((at' v1 (0:Int)) % (if v5 > (1:Int) then v5 else (1:Int)));let y2:=((at' v1 (1:Int)) % (if v5 > (1:Int) then v5 else (1:Int)));let vj:=y1;let vk:=y2;(let vl:=(at' [((1:Int)+((at' v1 (2:Int)) % (3:Int))),((1:Int)+((at' v1 (2:Int)) % (9:Int))),((1:Int)+((at' v1 (2:Int)) % (1000:Int)))] ((at' vc (4:Int)) % (3:Int)));(let vi:(List bF):=(if (!decide (vj=vk))=true then (let vi:=vi++[(((0:Int) - vl),(at' vd (if vk < vj then vk else vj)),(at' vd (if vk > vj then vk else vj)),(at' [(0:Int),(2:Int),(10:Int)] ((at' v1 (3:Int)) % (3:Int))))];vi) else vi);vi))))
def jF (v0:(List Int)) (v9:Int) (v5:Int) (vc:(List Int)) (vd:(List Str)) (vi:(List bF)) (v2:Int):Prop:=(((kJ v0 ((v9+(1:Int))+v2))/\(iQ (bh v0 ((v9+(1:Int))+v2)) (4:Int)))/\(let v1:=(aV (bh v0 ((v9+(1:Int))+v2)) (4:Int));(((In v1.length (0:Int)/\0 < (if v5 > (1:Int) then v5 else (1:Int)))/\(In v1.length (1:Int)/\0 < (if v5 > (1:Int) then v5 else (1:Int))))/\(let y1:=((at' v1 (0:Int)) % (if v5 > (1:Int) then v5 else (1:Int)));let y2:=((at' v1 (1:Int)) % (if v5 > (1:Int) then v5 else (1:Int)));let vj:=y1;let vk:=y2;((((In v1.length (2:Int)/\(In v1.length (2:Int)/\In v1.length (2:Int)))/\In vc.length (4:Int))/\In [((1:Int)+((at' v1 (2:Int)) % (3:Int))),((1:Int)+((at' v1 (2:Int)) % (9:Int))),((1:Int)+((at' v1 (2:Int)) % (1000:Int)))].length ((at' vc (4:Int)) % (3:Int)))/\(let vl:=(at' [((1:Int)+((at' v1 (2:Int)) % (3:Int))),((1:Int)+((at' v1 (2:Int)) % (9:Int))),((1:Int)+((at' v1 (2:Int)) % (1000:Int)))] ((at' vc (4:Int)) % (3:Int)));((!decide (vj=vk))=true->((In vd.length (if vk < vj then vk else vj)/\(In vd.length (if vk > vj then vk else vj)/\(In v1.length (3:Int)/\In [(0:Int),(2:Int),(10:Int)].length ((at' v1 (3:Int)) % (3:Int)))))/\Eh vi.length))))))))
theorem Az (v0:(List Int)) {n6:Bx} (rM:Lp n6 (v0.map eI)) (v9:Int) (v5:Int) (va:Int) (vb:Int) (vc:(List Int)) (vd:(List Str)) (vi:(List bF)) (v2:Int):RP oO [some n6,some ((zE eI) v9),some ((zE eI) v5),some ((zE eI) va),some ((zE eI) vb),some ((oE eI) vc),some ((oE eS) vd),some ((oE aY) vi),some ((zE eI) v2),none,none,none,none,none,none] (fun s=>Out.nx ((fun vi:(List bF)=>[some n6,some ((zE eI) v9),some ((zE eI) v5),some ((zE eI) va),some ((zE eI) vb),some ((oE eI) vc),some ((oE eS) vd),some ((oE aY) vi),none,none,none,none,none,none,none]) s)) (cM v0 v9 v5 vc vd vi v2) (some (jF v0 v9 v5 vc vd vi v2)):=R.tp (cF (bO 9 (x_call n8 (g8 (gJ (x_call sX (Ld (pZ 0 eI v0 rM rfl) (g8 (gJ (lQ (lQ (ao 1 (zE eI) v9 rfl) (bw (.int 1) eI (1:Int) rfl)) (ao 8 (zE eI) v2 rfl))) cU)))) (g8 (bw (.int 4) eI (4:Int) rfl) cU))) (fun _=>rfl) fun v1=>(cF (Z6 10 11 (yq (lR (j4 (ao 9 (lE eI) v1 rfl)) (bw (.int 0) eI (0:Int) rfl)) (GQ (bw (.int 1) eI (1:Int) rfl) (ao 2 (zE eI) v5 rfl))) (yq (lR (j4 (ao 9 (lE eI) v1 rfl)) (bw (.int 1) eI (1:Int) rfl)) (GQ (bw (.int 1) eI (1:Int) rfl) (ao 2 (zE eI) v5 rfl))) fun vj vk=>(cF (bO 12 (lR (nC (lZ (gk (gJ (lQ (bw (.int 1) eI (1:Int) rfl) (iB (lR (j4 (ao 9 (lE eI) v1 rfl)) (bw (.int 2) eI (2:Int) rfl)) 3 (by decide)))) (gk (gJ (lQ (bw (.int 1) eI (1:Int) rfl) (iB (lR (j4 (ao 9 (lE eI) v1 rfl)) (bw (.int 2) eI (2:Int) rfl)) 9 (by decide)))) (gk (gJ (lQ (bw (.int 1) eI (1:Int) rfl) (iB (lR (j4 (ao 9 (lE eI) v1 rfl)) (bw (.int 2) eI (2:Int) rfl)) 1000 (by decide)))) (gK eI)))) (zI rfl))) (iB (lR (j4 (ao 5 (lE eI) vc rfl)) (bw (.int 4) eI (4:Int) rfl)) 3 (by decide))) (fun _=>rfl) fun vl=>(cF (Ae (fun vi:(List bF)=>[some n6,some ((zE eI) v9),some ((zE eI) v5),some ((zE eI) va),some ((zE eI) vb),some ((oE eI) vc),some ((oE eS) vd),some ((oE aY) vi),some ((zE eI) v2),some ((oE eI) v1),some ((zE eI) vj),some ((zE eI) vk),some ((zE eI) vl),none,none]) (ig (Ss (by decide) (ao 10 (zE eI) vj rfl) (ao 11 (zE eI) vk rfl))) (cF (Ad 7 vi rfl (wR (Lb (bw (.int 0) eI (0:Int) rfl) (ao 12 (zE eI) vl rfl)) (lR (j4 (ao 6 (lE eS) vd rfl)) (Z5 (ao 10 (zE eI) vj rfl) (ao 11 (zE eI) vk rfl))) (lR (j4 (ao 6 (lE eS) vd rfl)) (GQ (ao 10 (zE eI) vj rfl) (ao 11 (zE eI) vk rfl))) (lR (nC (lZ (gk (bw (.int 0) eI (0:Int) rfl) (gk (bw (.int 2) eI (2:Int) rfl) (gk (bw (.int 10) eI (10:Int) rfl) (gK eI)))) (zI rfl))) (iB (lR (j4 (ao 9 (lE eI) v1 rfl)) (bw (.int 3) eI (3:Int) rfl)) 3 (by decide)))) fun vi=>(fB (cI vi rfl)))) (fB (cI vi rfl)) fun vi=>(fB (cI vi rfl))))))))))
def bQ (v0:(List Int)) (v9:Int) (v5:Int) (vd:(List Str)) (vm:(List gY)) (v2:Int):(List gY):=(let v1:=(aV (bh v0 ((v9+(1:Int))+v2)) (8:Int));(let y4:=((at' v1 (5:Int)) % (if v5 > (1:Int) then v5 else (1:Int)));let y5:=((at' v1 (6:Int)) % (if v5 > (1:Int) then v5 else (1:Int)));let vj:=y4;let vk:=y5;(let vm:(List gY):=(if (!decide (vj=vk))=true then (let vm:=vm++[((at' vd (if vk < vj then vk else vj)),(at' vd (if vk > vj then vk else vj)),(at' [(2:Int),(10:Int)] ((at' v1 (7:Int)) % (2:Int))))];vm) else vm);vm)))
def jG (v0:(List Int)) (v9:Int) (v5:Int) (vd:(List Str)) (vm:(List gY)) (v2:Int):Prop:=(((kJ v0 ((v9+(1:Int))+v2))/\(iQ (bh v0 ((v9+(1:Int))+v2)) (8:Int)))/\(let v1:=(aV (bh v0 ((v9+(1:Int))+v2)) (8:Int));(((In v1.length (5:Int)/\0 < (if v5 > (1:Int) then v5 else (1:Int)))/\(In v1.length (6:Int)/\0 < (if v5 > (1:Int) then v5 else (1:Int))))/\(let y4:=((at' v1 (5:Int)) % (if v5 > (1:Int) then v5 else (1:Int)));let y5:=((at' v1 (6:Int)) % (if v5 > (1:Int) then v5 else (1:Int)));let vj:=y4;let vk:=y5;((!decide (vj=vk))=true->((In vd.length (if vk < vj then vk else vj)/\(In vd.length (if vk > vj then vk else vj)/\(In v1.length (7:Int)/\In [(2:Int),(10:Int)].length ((at' v1 (7:Int)) % (2:Int)))))/\Eh vm.length))))))
theorem Ba (v0:(List Int)) {n6:Bx} (rM:Lp n6 (v0.map eI)) (v9:Int) (v5:Int) (va:Int) (vb:Int) (vc:(List Int)) (vd:(List Str)) (vi:(List bF)) (v6:(List bF)) (vm:(List gY)) (v2:Int):RP oR [some n6,some ((zE eI) v9),some ((zE eI) v5),some ((zE eI) va),some ((zE eI) vb),some ((oE eI) vc),some ((oE eS) vd),some ((oE aY) vi),some ((zE eI) v2),none,none,none,none,some ((oE aY) v6),some ((oE dH) vm)] (fun s=>Out.nx ((fun vm:(List gY)=>[some n6,some ((zE eI) v9),some ((zE eI) v5),some ((zE eI) va),some ((zE eI) vb),some ((oE eI) vc),some ((oE eS) vd),some ((oE aY) vi),none,none,none,none,none,some ((oE aY) v6),some ((oE dH) vm)]) s)) (bQ v0 v9 v5 vd vm v2) (some (jG v0 v9 v5 vd vm v2)):=R.tp (cF (bO 9 (x_call n8 (g8 (gJ (x_call sX (Ld (pZ 0 eI v0 rM rfl) (g8 (gJ (lQ (lQ (ao 1 (zE eI) v9 rfl) (bw (.int 1) eI (1:Int) rfl)) (ao 8 (zE eI) v2 rfl))) cU)))) (g8 (bw (.int 8) eI (8:Int) rfl) cU))) (fun _=>rfl) fun v1=>(cF (Z6 10 11 (yq (lR (j4 (ao 9 (lE eI) v1 rfl)) (bw (.int 5) eI (5:Int) rfl)) (GQ (bw (.int 1) eI (1:Int) rfl) (ao 2 (zE eI) v5 rfl))) (yq (lR (j4 (ao 9 (lE eI) v1 rfl)) (bw (.int 6) eI (6:Int) rfl)) (GQ (bw (.int 1) eI (1:Int) rfl) (ao 2 (zE eI) v5 rfl))) fun vj vk=>(cF (Ae (fun vm:(List gY)=>[some n6,some ((zE eI) v9),some ((zE eI) v5),some ((zE eI) va),some ((zE eI) vb),some ((oE eI) vc),some ((oE eS) vd),some ((oE aY) vi),some ((zE eI) v2),some ((oE eI) v1),some ((zE eI) vj),some ((zE eI) vk),none,some ((oE aY) v6),some ((oE dH) vm)]) (ig (Ss (by decide) (ao 10 (zE eI) vj rfl) (ao 11 (zE eI) vk rfl))) (cF (Ad 14 vm rfl (j5 (lR (j4 (ao 6 (lE eS) vd rfl)) (Z5 (ao 10 (zE eI) vj rfl) (ao 11 (zE eI) vk rfl))) (lR (j4 (ao 6 (lE eS) vd rfl)) (GQ (ao 10 (zE eI) vj rfl) (ao 11 (zE eI) vk rfl))) (lR (nC (lZ (gk (bw (.int 2) eI (2:Int) rfl) (gk (bw (.int 10) eI (10:Int) rfl) (gK eI))) (zI rfl))) (iB (lR (j4 (ao 9 (lE eI) v1 rfl)) (bw (.int 7) eI (7:Int) rfl)) 2 (by decide)))) fun vm=>(fB (cI vm rfl)))) (fB (cI vm rfl)) fun vm=>(fB (cI vm rfl))))))))
def oU (v0:(List Int)) (v9:Int) (v5:Int) (va:Int) (vb:Int) (vc:(List Int)) (vd:(List Str)) (vi:(List bF)):nD:=(let v6:=((p8 aY (Eu vi)).map fun q3:bF=>(((0:Int) - q3.1),q3.2.1,q3.2.2.1,q3.2.2.2));(let vm:=([]:List gY);(let vm:(List gY):=((rng 0 vb.toNat).foldl (fun (vm:(List gY)) (v2:Int)=>(bQ v0 v9 v5 vd vm v2)) vm);(vd,v6,(p8 dH (Eu vm))))))
def oV (v0:(List Int)) (v9:Int) (v5:Int) (va:Int) (vb:Int) (vc:(List Int)) (vd:(List Str)) (vi:(List bF)):Prop:=(((vi.length<=64/\vi.length < 64)/\(p8 aY (Eu vi)).length<=100000)/\(let v6:=((p8 aY (Eu vi)).map fun q3:bF=>(((0:Int) - q3.1),q3.2.1,q3.2.2.1,q3.2.2.2));(let vm:=([]:List gY);((Rg vb/\rZ (fun (vm:(List gY)) (v2:Int)=>(bQ v0 v9 v5 vd vm v2)) (fun (vm:(List gY)) (v2:Int)=>some (jG v0 v9 v5 vd vm v2)) (rng 0 vb.toNat) vm)/\(let vm:(List gY):=((rng 0 vb.toNat).foldl (fun (vm:(List gY)) (v2:Int)=>(bQ v0 v9 v5 vd vm v2)) vm);(vm.length<=64/\vm.length < 64))))))
def tO:Ev->Option Out:=(aF (setG 13 (fU (Cm (CT (N5 (gv 7)))) (jD 4 (aP (gC 0) (aP (gC 1) (aP (gC 2) (aP (gC 3) jY))))) rA (bZ iz (aq (b2 subB (cB (.int 0)) (gv 0)) (aq (gv 1) (aq (gv 2) (aq (gv 3) aG))))) [] 4)) (aF (setG 14 (bZ nq aG)) (aF (xU (S7 (aq (gv 4) aG)) (gC 8) oR) (aF (mG (bZ iz (aq (b1 ql (bZ iZ (aq (gv 6) aG))) (aq (b1 ql (bZ iZ (aq (gv 13) aG))) (aq (b1 ql (bZ iZ (aq (CT (N5 (gv 14))) aG))) aG))))) lq))))
theorem Bb (v0:(List Int)) {n6:Bx} (rM:Lp n6 (v0.map eI)) (v9:Int) (v5:Int) (va:Int) (vb:Int) (vc:(List Int)) (vd:(List Str)) (vi:(List bF)):RP tO [some n6,some ((zE eI) v9),some ((zE eI) v5),some ((zE eI) va),some ((zE eI) vb),some ((oE eI) vc),some ((oE eS) vd),some ((oE aY) vi),none,none,none,none,none,none,none] (fun r=>Out.rt ((zE dF) r)) (oU v0 v9 v5 va vb vc vd vi) (some (oV v0 v9 v5 va vb vc vd vi)):=R.tp (bO 13 (rY (Dp (nC (Wb (Wa (j4 (ao 7 (lE aY) vi rfl)))))) _ (fun _=>rfl) (fun q3:bF=>(wR (Lb (bw (.int 0) eI (0:Int) rfl) (ao 0 (zE eI) q3.1 rfl)) (ao 1 (zE eS) q3.2.1 rfl) (ao 2 (zE eS) q3.2.2.1 rfl) (ao 3 (zE eI) q3.2.2.2 rfl))) fun _=>rfl) (fun _=>rfl) fun v6=>(bO 14 (lZ (gK dH) (zI rfl)) (fun _=>rfl) fun vm=>(Lf (fun vm:(List gY)=>[some n6,some ((zE eI) v9),some ((zE eI) v5),some ((zE eI) va),some ((zE eI) vb),some ((oE eI) vc),some ((oE eS) vd),some ((oE aY) vi),none,none,none,none,none,some ((oE aY) v6),some ((oE dH) vm)]) vm rfl (GR (ao 4 (zE eI) vb rfl)) _ (fun _ _=>rfl) (fun (vm:(List gY)) (v2:Int)=>(Ba v0 rM v9 v5 va vb vc vd vi v6 vm v2).r) fun vm=>(jE (fun r=>r) (j5 (gJ (lA (j4 (ao 6 (lE eS) vd rfl)))) (gJ (lA (j4 (ao 13 (lE aY) v6 rfl)))) (gJ (lA (nC (Wb (Wa (j4 (ao 14 (lE dH) vm rfl)))))))) (fun _=>rfl) fun _=>rfl))))
def oW (v0:(List Int)) (v9:Int) (v5:Int) (va:Int) (vb:Int) (vc:(List Int)) (vd:(List Str)):nD:=(let vi:=([]:List bF);(let vi:(List bF):=((rng 0 va.toNat).foldl (fun (vi:(List bF)) (v2:Int)=>(cM v0 v9 v5 vc vd vi v2)) vi);(oU v0 v9 v5 va vb vc vd vi)))
def oX (v0:(List Int)) (v9:Int) (v5:Int) (va:Int) (vb:Int) (vc:(List Int)) (vd:(List Str)):Prop:=(let vi:=([]:List bF);((Rg va/\rZ (fun (vi:(List bF)) (v2:Int)=>(cM v0 v9 v5 vc vd vi v2)) (fun (vi:(List bF)) (v2:Int)=>some (jF v0 v9 v5 vc vd vi v2)) (rng 0 va.toNat) vi)/\(let vi:(List bF):=((rng 0 va.toNat).foldl (fun (vi:(List bF)) (v2:Int)=>(cM v0 v9 v5 vc vd vi v2)) vi);(oV v0 v9 v5 va vb vc vd vi))))
def tQ:Ev->Option Out:=(aF (setG 7 (bZ nq aG)) (aF (xU (S7 (aq (gv 3) aG)) (gC 8) oO) tO))
theorem Bc (v0:(List Int)) {n6:Bx} (rM:Lp n6 (v0.map eI)) (v9:Int) (v5:Int) (va:Int) (vb:Int) (vc:(List Int)) (vd:(List Str)):RP tQ [some n6,some ((zE eI) v9),some ((zE eI) v5),some ((zE eI) va),some ((zE eI) vb),some ((oE eI) vc),some ((oE eS) vd),none,none,none,none,none,none,none,none] (fun r=>Out.rt ((zE dF) r)) (oW v0 v9 v5 va vb vc vd) (some (oX v0 v9 v5 va vb vc vd)):=R.tp (bO 7 (lZ (gK aY) (zI rfl)) (fun _=>rfl) fun vi=>(Lf (fun vi:(List bF)=>[some n6,some ((zE eI) v9),some ((zE eI) v5),some ((zE eI) va),some ((zE eI) vb),some ((oE eI) vc),some ((oE eS) vd),some ((oE aY) vi),none,none,none,none,none,none,none]) vi rfl (GR (ao 3 (zE eI) va rfl)) _ (fun _ _=>rfl) (fun (vi:(List bF)) (v2:Int)=>(Az v0 rM v9 v5 va vb vc vd vi v2).r) fun vi=>(Bb v0 rM v9 v5 va vb vc vd vi).r))
def lY (v0:(List Int)) (v9:Int) (v5:Int) (va:Int) (vb:Int) (vc:(List Int)):nD:=(let vd:=(ni (cg vc v5));(oW v0 v9 v5 va vb vc vd))
def oY (v0:(List Int)) (v9:Int) (v5:Int) (va:Int) (vb:Int) (vc:(List Int)):Prop:=(((qI vc v5)/\(cg vc v5).length < 64)/\(let vd:=(ni (cg vc v5));(oX v0 v9 v5 va vb vc vd)))
def Bd:Ev->Option Out:=(aF (setG 6 (bZ Cr (aq (fP 2 jo (aq (gv 5) (aq (gv 2) aG))) aG))) tQ)
theorem Bf (v0:(List Int)) {n6:Bx} (rM:Lp n6 (v0.map eI)) (v9:Int) (v5:Int) (va:Int) (vb:Int) (vc:(List Int)):RP Bd [some n6,some ((zE eI) v9),some ((zE eI) v5),some ((zE eI) va),some ((zE eI) vb),some ((oE eI) vc),none,none,none,none,none,none,none,none,none] (fun r=>Out.rt ((zE dF) r)) (lY v0 v9 v5 va vb vc) (some (oY v0 v9 v5 va vb vc)):=R.tp (bO 6 (Qx (nC (x_call LR (Ld (j4 (ao 5 (lE eI) vc rfl)) (g8 (ao 2 (zE eI) v5 rfl) cU))))) (fun _=>rfl) fun vd=>(Bc v0 rM v9 v5 va vb vc vd).r)
def jB (v0:(List Int)) (v9:Int) (v5:Int) (va:Int) (vb:Int):nD:=(let vc:=(aV (bh v0 v9) (6:Int));(lY v0 v9 v5 va vb vc))
def pJ (v0:(List Int)) (v9:Int) (v5:Int) (va:Int) (vb:Int):Prop:=(((kJ v0 v9)/\(iQ (bh v0 v9) (6:Int)))/\(let vc:=(aV (bh v0 v9) (6:Int));(oY v0 v9 v5 va vb vc)))
theorem Jp (v0:(List Int)) {n6:Bx} (rM:Lp n6 (v0.map eI)) (v9:Int) (v5:Int) (va:Int) (vb:Int):RP pD [some n6,some ((zE eI) v9),some ((zE eI) v5),some ((zE eI) va),some ((zE eI) vb),none,none,none,none,none,none,none,none,none,none] (fun r=>Out.rt ((zE dF) r)) (jB v0 v9 v5 va vb) (some (pJ v0 v9 v5 va vb)):=R.tp (bO 5 (x_call n8 (g8 (gJ (x_call sX (Ld (pZ 0 eI v0 rM rfl) (g8 (ao 1 (zE eI) v9 rfl) cU)))) (g8 (bw (.int 6) eI (6:Int) rfl) cU))) (fun _=>rfl) fun vc=>(Bf v0 rM v9 v5 va vb vc).r)
theorem Jq:∀ v bs,(aL eI (aZ eI (aZ eI (aZ eI (aZ eI aN))))) v bs->bs.length=5/\(hold (some (pJ v.1 v.2.1 v.2.2.1 v.2.2.2.1 v.2.2.2.2.1))->jr (bs.map lend)=some ((zE dF) (jB v.1 v.2.1 v.2.2.1 v.2.2.2.1 v.2.2.2.2.1))):=by
 rintro⟨v0,v9,v5,va,vb,_⟩ _ ⟨n6,_,rfl,rM,⟨_,rfl,⟨_,rfl,⟨_,rfl,⟨_,rfl,rfl⟩⟩⟩⟩⟩
 exact⟨rfl,fun h=>j6 (g:=pD) (n:=15) (bs:=[lend n6,.z (eI v9),.z (eI v5),.z (eI va),.z (eI vb)]) (Jp v0 (GP rM) v9 v5 va vb).r h⟩
end
end G26
end
section
set_option synthInstance.maxSize 100000
namespace G26
open PySem PySem.Spec PyProof.Rows L2 P1
noncomputable section
def iy (v5:Int):(List Str):=((rng 0 v5.toNat).map fun v2:Int=>(("b" : Str)++(ch ("cdefghijkl" : Str) v2)))
def mY (v5:Int):Prop:=((Rg v5/\(rng 0 v5.toNat).length<=100000)/\(∀ v2∈(rng 0 v5.toNat),(In ("cdefghijkl" : Str).length v2/\Eh (("b" : Str).length+(ch ("cdefghijkl" : Str) v2).length))))
theorem yI (v5:Int):RP jU [some ((zE eI) v5)] (fun r=>Out.rt ((oE eS) r)) (iy v5) (some (mY v5)):=R.tp (jE (fun r=>r) (wU (GR (ao 0 (zE eI) v5 rfl)) _ (fun _=>rfl) (fun v2:Int=>(gJ (Ol (bw (.str "b") eS ("b" : Str) rfl) (Qv (bw (.str "cdefghijkl") eS ("cdefghijkl" : Str) rfl) (ao 0 (zE eI) v2 rfl)))))) (fun _=>rfl) fun _=>rfl)
theorem yJ:∀ v bs,(aZ eI aN) v bs->bs.length=1/\(hold (some (mY v.1))->d9 (bs.map lend)=some ((oE eS) (iy v.1))):=by
 rintro⟨v5,_⟩ _ ⟨_,rfl,rfl⟩
 exact⟨rfl,fun h=>j6 (g:=jU) (n:=1) (bs:=[.z (eI v5)]) (yI v5).r h⟩
end
end G26
end
section
set_option synthInstance.maxSize 100000
namespace G26
open PySem PySem.Spec PyProof.Rows L2 P1
noncomputable section
def aR (vq:(List Str)):(List (Str×Str)):=(mkD (vq.map fun vr:Str=>(vr,vr)))
def pK (vq:(List Str)):Prop:=(vq.length < 1000/\vq.length<=100000)
theorem Jr (vq:(List Str)):RP pF [some ((zE (eT eS)) vq)] (fun r=>Out.rt ((mE eS) r)) (aR vq) (some (pK vq)):=R.tp (jE (fun r=>r) (Y6 (Le (ao 0 (zE (eT eS)) vq rfl)) (rY (Le (ao 0 (zE (eT eS)) vq rfl)) _ (fun _=>rfl) (fun vr:Str=>(Y5 (ao 0 (zE eS) vr rfl) (ao 0 (zE eS) vr rfl))) fun _=>rfl)) (fun _=>rfl) fun _=>rfl)
theorem Js:∀ v bs,(aZ (eT eS) aN) v bs->bs.length=1/\(hold (some (pK v.1))->jt (bs.map lend)=some ((mE eS) (aR v.1))):=by
 rintro⟨vq,_⟩ _ ⟨_,rfl,rfl⟩
 exact⟨rfl,fun h=>j6 (g:=pF) (n:=1) (bs:=[.z ((eT eS) vq)]) (Jr vq).r h⟩
end
end G26
end
section
set_option synthInstance.maxSize 100000
namespace G26
open PySem PySem.Spec PyProof.Rows L2 P1
noncomputable section
def jg (vp:(List (Str×Str))) (vx:Str) (vy:Str) (s1:Unit) (vz:gY):Lg (Unit) (Option gY):=(if (((decide ((look vp vz.1)=vx))&&(decide ((look vp vz.2.1)=vy)))||((decide ((look vp vz.1)=vy))&&(decide ((look vp vz.2.1)=vx))))=true then (Lg.rt (some vz)) else (Lg.nx ()))
def rN (vp:(List (Str×Str))) (vx:Str) (vy:Str) (s1:Unit) (vz:gY):Prop:=((has vp vz.1=true/\((decide ((look vp vz.1)=vx))=true->has vp vz.2.1=true))/\(((decide ((look vp vz.1)=vx))&&(decide ((look vp vz.2.1)=vy)))=false->(has vp vz.1=true/\((decide ((look vp vz.1)=vy))=true->has vp vz.2.1=true))))
theorem zQ (vw:(List gY)) (vp:(List (Str×Str))) (vx:Str) (vy:Str) (s1:Unit) (vz:gY):RP rK [some ((zE (eT dH)) vw),some ((nE eS) vp),some ((zE eS) vx),some ((zE eS) vy),some ((zE dH) vz)] (cC (fun s1:Unit=>[some ((zE (eT dH)) vw),some ((nE eS) vp),some ((zE eS) vx),some ((zE eS) vy),none]) (zE (eO dH))) (jg vp vx vy s1 vz) (some (rN vp vx vy s1 vz)):=R.tp (cF (vZ (YK (Z0 (ig (x_eq (by decide) (iD (ao 1 (nE eS) vp rfl) (mJ (ao 4 (zE dH) vz rfl) (fun q=>q.1) eS 0 fun _=>rfl)) (ao 2 (zE eS) vx rfl))) (ig (x_eq (by decide) (iD (ao 1 (nE eS) vp rfl) (mJ (ao 4 (zE dH) vz rfl) (fun q=>q.2.1) eS 1 fun _=>rfl)) (ao 3 (zE eS) vy rfl)))) (Z0 (ig (x_eq (by decide) (iD (ao 1 (nE eS) vp rfl) (mJ (ao 4 (zE dH) vz rfl) (fun q=>q.1) eS 0 fun _=>rfl)) (ao 3 (zE eS) vy rfl))) (ig (x_eq (by decide) (iD (ao 1 (nE eS) vp rfl) (mJ (ao 4 (zE dH) vz rfl) (fun q=>q.2.1) eS 1 fun _=>rfl)) (ao 2 (zE eS) vx rfl))))) (cF (jE .rt (Og (ao 4 (zE dH) vz rfl)) (fun _=>rfl) fun _=>rfl)) (fB (fB (cI (.nx ()) rfl)))))
def dY (vw:(List gY)) (vp:(List (Str×Str))) (vx:Str) (vy:Str):(Option gY):=(behind (zH (fun (s1:Unit) (vz:gY)=>((jg vp vx vy s1 vz):Lg (Unit) (Option gY))) vw ()) (fun r=>r) fun s1:Unit=>none)
def oh (vw:(List gY)) (vp:(List (Str×Str))) (vx:Str) (vy:Str):Prop:=(GX (fun (s1:Unit) (vz:gY)=>((jg vp vx vy s1 vz):Lg (Unit) (Option gY))) (fun (s1:Unit) (vz:gY)=>some (rN vp vx vy s1 vz)) vw ()/\(Iv (zH (fun (s1:Unit) (vz:gY)=>((jg vp vx vy s1 vz):Lg (Unit) (Option gY))) vw ()) fun s1:Unit=>True))
theorem Fx (vw:(List gY)) (vp:(List (Str×Str))) (vx:Str) (vy:Str):RP nQ [some ((zE (eT dH)) vw),some ((nE eS) vp),some ((zE eS) vx),some ((zE eS) vy),none] (fun r=>Out.rt ((zE (eO dH)) r)) (dY vw vp vx vy) (some (oh vw vp vx vy)):=R.tp (YZ 0 vw (V4 rfl) (fun s1:Unit=>[some ((zE (eT dH)) vw),some ((nE eS) vp),some ((zE eS) vx),some ((zE eS) vy),none]) () rfl _ (fun _ _=>rfl) (fun (s1:Unit) (vz:gY)=>((zQ vw vp vx vy s1 vz).r:R _ _ (cC (fun s1:Unit=>[some ((zE (eT dH)) vw),some ((nE eS) vp),some ((zE eS) vx),some ((zE eS) vy),none]) (zE (eO dH))))) (fun r=>r) (fun _=>rfl) fun s1=>(jE (fun r=>r) abL (fun _=>rfl) fun _=>rfl))
theorem Fy:∀ v bs,(aZ (eT dH) (aM eS (aZ eS (aZ eS aN)))) v bs->bs.length=4/\(hold (some (oh v.1 v.2.1 v.2.2.1 v.2.2.2.1))->iG (bs.map lend)=some ((zE (eO dH)) (dY v.1 v.2.1 v.2.2.1 v.2.2.2.1))):=by
 rintro⟨vw,vp,vx,vy,_⟩ _ ⟨_,rfl,⟨_,_,rfl,(rfl|rfl),⟨_,rfl,⟨_,rfl,rfl⟩⟩⟩⟩
 all_goals exact⟨rfl,fun h=>j6 (g:=nQ) (n:=5) (bs:=[.z ((eT dH) vw),nE eS vp,.z (eS vx),.z (eS vy)]) (Fx vw vp vx vy).r h⟩
end
end G26
end
section
set_option synthInstance.maxSize 100000
namespace G26
open PySem PySem.Spec PyProof.Rows L2 P1
noncomputable section
def fD (vx:Str) (vy:Str) (yN:Str) (vp:(List (Str×Str))) (vr:Str):(List (Str×Str)):=(let vp:(List (Str×Str)):=(if ((decide ((look vp vr)=vx))||(decide ((look vp vr)=vy)))=true then (let vp:=put vp vr yN;vp) else vp);vp)
def oZ (vx:Str) (vy:Str) (yN:Str) (vp:(List (Str×Str))) (vr:Str):Prop:=((has vp vr=true/\((decide ((look vp vr)=vx))=false->has vp vr=true))/\(((decide ((look vp vr)=vx))||(decide ((look vp vr)=vy)))=true->vp.length < 1000))
theorem Bg {a_:Addr} (vx:Str) (vy:Str) (yN:Str) (vp:(List (Str×Str))) (vr:Str):RP tK [some ((mW (some a_) eS) vp),some ((zE eS) vx),some ((zE eS) vy),some ((zE eS) yN),some ((zE eS) vr)] (fun s=>Out.nx ((fun vp:(List (Str×Str))=>[some ((mW (some a_) eS) vp),some ((zE eS) vx),some ((zE eS) vy),some ((zE eS) yN),none]) s)) (fD vx vy yN vp vr) (some (oZ vx vy yN vp vr)):=R.tp (cF (Ae (fun vp:(List (Str×Str))=>[some ((mW (some a_) eS) vp),some ((zE eS) vx),some ((zE eS) vy),some ((zE eS) yN),some ((zE eS) vr)]) (YK (ig (x_eq (by decide) (iD (ao 0 (nE eS) vp rfl) (ao 4 (zE eS) vr rfl)) (ao 1 (zE eS) vx rfl))) (ig (x_eq (by decide) (iD (ao 0 (nE eS) vp rfl) (ao 4 (zE eS) vr rfl)) (ao 2 (zE eS) vy rfl)))) (cF (Y4 (some a_) 0 vp rfl (ao 3 (zE eS) yN rfl) (ao 4 (zE eS) vr rfl) fun vp=>(fB (cI vp rfl)))) (fB (cI vp rfl)) fun vp=>(fB (cI vp rfl))))
def bL (vp:(List (Str×Str))) (vx:Str) (vy:Str):(List (Str×Str)):=(let yN:=(if Ay vy vx=true then vy else vx);(let vp:(List (Str×Str)):=((vp.map (·.1)).foldl (fun (vp:(List (Str×Str))) (vr:Str)=>(fD vx vy yN vp vr)) vp);vp))
def pN (vp:(List (Str×Str))) (vx:Str) (vy:Str):Prop:=(let yN:=(if Ay vy vx=true then vy else vx);rZ (fun (vp:(List (Str×Str))) (vr:Str)=>(fD vx vy yN vp vr)) (fun (vp:(List (Str×Str))) (vr:Str)=>some (oZ vx vy yN vp vr)) (vp.map (·.1)) vp)
def sY {a_:Addr} (vp:(List (Str×Str))) (vx:Str) (vy:Str):R pG [some ((mW (some a_) eS) vp),some ((zE eS) vx),some ((zE eS) vy),none,none] (fun m'=>Out.nx [some ((mW (some a_) eS) m'),some ((zE eS) vx),some ((zE eS) vy),none,none]):=(cF (bO 3 (Wc (ao 1 (zE eS) vx rfl) (ao 2 (zE eS) vy rfl)) (fun _=>rfl) fun yN=>(cF (Lf (fun vp:(List (Str×Str))=>[some ((mW (some a_) eS) vp),some ((zE eS) vx),some ((zE eS) vy),some ((zE eS) yN),none]) vp rfl (adY (Y7 (ao 0 (nE eS) vp rfl))) _ (fun _ _=>rfl) (fun (vp:(List (Str×Str))) (vr:Str)=>(Bg vx vy yN vp vr).r) fun vp=>(fB (cI vp rfl))))))
theorem Fz {a_:Addr} (vp:(List (Str×Str))) (vx:Str) (vy:Str):(sY (a_:=a_) vp vx vy).v=bL vp vx vy:=by kernel_rfl
theorem FJ {a_:Addr} (vp:(List (Str×Str))) (vx:Str) (vy:Str):(sY (a_:=a_) vp vx vy).D=some (pN vp vx vy):=by kernel_rfl
theorem Jt:∀ (vp:(List (Str×Str))) v bs,(aZ eS (aZ eS aN)) v bs->bs.length=2/\bs.all ZQ=true/\(hold (some (pN vp v.1 v.2.1))->∀ a,ju a (vp.map fun q=>(q.1,eS q.2)) bs=some ((bL vp v.1 v.2.1).map fun q=>(q.1,eS q.2))):=by
 rintro vp ⟨vx,vy,_⟩ _ ⟨_,rfl,⟨_,rfl,rfl⟩⟩
 exact⟨rfl,rfl,fun h a=>(Y8 (g:=pG) (n:=5) (bs:=[.z (eS vx),.z (eS vy)]) (sY (a_:=a) vp vx vy) ((congrArg hold (FJ (a_:=a) vp vx vy)).mpr h) (fun _=>rfl)).trans (congrArg (fun r:(List (Str×Str))=>some (r.map fun q=>(q.1,eS q.2))) (Fz (a_:=a) vp vx vy))⟩
end
end G26
end
section
set_option synthInstance.maxSize 100000
namespace G26
open PySem PySem.Spec PyProof.Rows L2 P1
noncomputable section
def aX (vp:(List (Str×Str))) (yN:Str):(List Str):=(((vp.map (·.1)).filter fun vr:Str=>(decide ((look vp vr)=yN))).map fun vr:Str=>vr)
def qX (vp:(List (Str×Str))) (yN:Str):Prop:=((vp.map (·.1)).length<=100000/\(∀ vr∈(vp.map (·.1)),has vp vr=true))
theorem FN (vp:(List (Str×Str))) (yN:Str):RP nR [some ((nE eS) vp),some ((zE eS) yN)] (fun r=>Out.rt ((zE (eT eS)) r)) (aX vp yN) (some (qX vp yN)):=R.tp (jE (fun r=>r) (lA (nC (Qy (ad0 (ao 0 (nE eS) vp rfl)) _ (fun _=>rfl) (fun vr:Str=>(ig (x_eq (by decide) (iD (ao 1 (nE eS) vp rfl) (ao 2 (zE eS) vr rfl)) (ao 0 (zE eS) yN rfl)))) (fun vr:Str=>(ao 2 (zE eS) vr rfl))))) (fun _=>rfl) fun _=>rfl)
theorem FP:∀ v bs,(aM eS (aZ eS aN)) v bs->bs.length=2/\(hold (some (qX v.1 v.2.1))->iH (bs.map lend)=some ((zE (eT eS)) (aX v.1 v.2.1))):=by
 rintro⟨vp,yN,_⟩ _ ⟨_,_,rfl,(rfl|rfl),⟨_,rfl,rfl⟩⟩
 all_goals exact⟨rfl,fun h=>j6 (g:=nR) (n:=2) (bs:=[nE eS vp,.z (eS yN)]) (FN vp yN).r h⟩
end
end G26
end
section
set_option synthInstance.maxSize 100000
namespace G26
open PySem PySem.Spec PyProof.Rows L2 P1
noncomputable section
def aW (vp:(List (Str×Str))):(List (List Str)):=(((vp.map (·.1)).filter fun vr:Str=>(decide ((look vp vr)=vr))).map fun vr:Str=>(aX vp vr))
def pP (vp:(List (Str×Str))):Prop:=((vp.map (·.1)).length<=100000/\(∀ vr∈(vp.map (·.1)),(has vp vr=true/\((decide ((look vp vr)=vr))=true->(qX vp vr)))))
theorem Ju (vp:(List (Str×Str))):RP pH [some ((nE eS) vp)] (fun r=>Out.rt ((oE (eT eS)) r)) (aW vp) (some (pP vp)):=R.tp (jE (fun r=>r) (Qy (ad0 (ao 0 (nE eS) vp rfl)) _ (fun _=>rfl) (fun vr:Str=>(ig (x_eq (by decide) (iD (ao 0 (nE eS) vp rfl) (ao 1 (zE eS) vr rfl)) (ao 1 (zE eS) vr rfl)))) (fun vr:Str=>(gJ (x_call FP (abZ (ao 0 (nE eS) vp rfl) (g8 (ao 1 (zE eS) vr rfl) cU)))))) (fun _=>rfl) fun _=>rfl)
theorem Jv:∀ v bs,(aM eS aN) v bs->bs.length=1/\(hold (some (pP v.1))->jw (bs.map lend)=some ((oE (eT eS)) (aW v.1))):=by
 rintro⟨vp,_⟩ _ ⟨_,_,rfl,(rfl|rfl),rfl⟩
 all_goals exact⟨rfl,fun h=>j6 (g:=pH) (n:=1) (bs:=[nE eS vp]) (Ju vp).r h⟩
end
end G26
end
section
set_option synthInstance.maxSize 100000
namespace G26
open PySem PySem.Spec PyProof.Rows L2 P1
noncomputable section
def cN (vw:(List gY)) (s2:(List (Str×Str))×(List bF)×(List cj)) (vu:bF):(List (Str×Str))×(List bF)×(List cj):=(let vx:=(look s2.1 vu.2.1);(let vy:=(look s2.1 vu.2.2.1);(let s4:(List (Str×Str))×(List bF)×(List cj):=(if (!decide (vx=vy))=true then (let vz:=(dY vw s2.1 vx vy);(let s3:(List (Str×Str))×(List bF)×(List cj):=(if vz.isNone=true then (let vp:=(bL s2.1 vx vy);(let vs:=s2.2.1++[vu];(vp,vs,s2.2.2))) else (let vt:=s2.2.2++[(vu,vz)];(s2.1,s2.2.1,vt)));(s3.1,s3.2.1,s3.2.2))) else (s2.1,s2.2.1,s2.2.2));(s4.1,s4.2.1,s4.2.2))))
def o7 (vw:(List gY)) (s2:(List (Str×Str))×(List bF)×(List cj)) (vu:bF):Prop:=(has s2.1 vu.2.1=true/\(let vx:=(look s2.1 vu.2.1);(has s2.1 vu.2.2.1=true/\(let vy:=(look s2.1 vu.2.2.1);((!decide (vx=vy))=true->((oh vw s2.1 vx vy)/\(let vz:=(dY vw s2.1 vx vy);((vz.isNone=true->((pN s2.1 vx vy)/\(let vp:=(bL s2.1 vx vy);Eh s2.2.1.length)))/\(vz.isNone=false->Eh s2.2.2.length)))))))))
theorem Bh (vo:nD) (vq:(List Str)) (vv:(List bF)) (vw:(List gY)) (s2:(List (Str×Str))×(List bF)×(List cj)) (vu:bF):RP tL [some ((zE dF) vo),some ((zE (eT eS)) vq),some ((zE (eT aY)) vv),some ((zE (eT dH)) vw),some ((mE eS) s2.1),some ((oE aY) s2.2.1),some ((oE ji) s2.2.2),some ((zE aY) vu),none,none,none] (fun s=>Out.nx ((fun s2:(List (Str×Str))×(List bF)×(List cj)=>[some ((zE dF) vo),some ((zE (eT eS)) vq),some ((zE (eT aY)) vv),some ((zE (eT dH)) vw),some ((mE eS) s2.1),some ((oE aY) s2.2.1),some ((oE ji) s2.2.2),none,none,none,none]) s)) (cN vw s2 vu) (some (o7 vw s2 vu)):=R.tp (cF (bO 8 (iD (ao 4 (nE eS) s2.1 rfl) (mJ (ao 7 (zE aY) vu rfl) (fun q=>q.2.1) eS 1 fun _=>rfl)) (fun _=>rfl) fun vx=>(cF (bO 9 (iD (ao 4 (nE eS) s2.1 rfl) (mJ (ao 7 (zE aY) vu rfl) (fun q=>q.2.2.1) eS 2 fun _=>rfl)) (fun _=>rfl) fun vy=>(cF (Ae (fun s4:(List (Str×Str))×(List bF)×(List cj)=>[some ((zE dF) vo),some ((zE (eT eS)) vq),some ((zE (eT aY)) vv),some ((zE (eT dH)) vw),some ((mE eS) s4.1),some ((oE aY) s4.2.1),some ((oE ji) s4.2.2),some ((zE aY) vu),some ((zE eS) vx),some ((zE eS) vy),none]) (ig (Ss (by decide) (ao 8 (zE eS) vx rfl) (ao 9 (zE eS) vy rfl))) (cF (bO 10 (x_call Fy (g8 (ao 3 (zE (eT dH)) vw rfl) (abZ (ao 4 (nE eS) s2.1 rfl) (g8 (ao 8 (zE eS) vx rfl) (g8 (ao 9 (zE eS) vy rfl) cU))))) (fun _=>rfl) fun vz=>(cF (Ae (fun s3:(List (Str×Str))×(List bF)×(List cj)=>[some ((zE dF) vo),some ((zE (eT eS)) vq),some ((zE (eT aY)) vv),some ((zE (eT dH)) vw),some ((mE eS) s3.1),some ((oE aY) s3.2.1),some ((oE ji) s3.2.2),some ((zE aY) vu),some ((zE eS) vx),some ((zE eS) vy),some ((zE (eO dH)) vz)]) (ig (adS (ao 10 (zE (eO dH)) vz rfl) fun _=>rfl)) (cF (ab1 none 4 s2.1 rfl Jt (g8 (ao 8 (zE eS) vx rfl) (g8 (ao 9 (zE eS) vy rfl) cU)) fun vp=>(cF (Ad 5 s2.2.1 rfl (ao 7 (zE aY) vu rfl) fun vs=>(fB (cI (vp,vs,s2.2.2) rfl)))))) (cF (Ad 6 s2.2.2 rfl (Oi (ao 7 (zE aY) vu rfl) (ao 10 (zE (eO dH)) vz rfl)) fun vt=>(fB (cI (s2.1,s2.2.1,vt) rfl)))) fun s3=>(fB (cI (s3.1,s3.2.1,s3.2.2) rfl)))))) (fB (cI (s2.1,s2.2.1,s2.2.2) rfl)) fun s4=>(fB (cI (s4.1,s4.2.1,s4.2.2) rfl))))))))
def aO (vo:nD):ab8:=(let q1:=vo;(let vp:=(aR q1.1);(let vs:=([]:List bF);(let vt:=([]:List cj);(let s2:(List (Str×Str))×(List bF)×(List cj):=(q1.2.1.foldl (fun (s2:(List (Str×Str))×(List bF)×(List cj)) (vu:bF)=>(cN q1.2.2 s2 vu)) (vp,vs,vt));((aW s2.1),s2.2.1,s2.2.2))))))
def cG (vo:nD):Prop:=(let q1:=vo;((pK q1.1)/\(let vp:=(aR q1.1);(let vs:=([]:List bF);(let vt:=([]:List cj);(rZ (fun (s2:(List (Str×Str))×(List bF)×(List cj)) (vu:bF)=>(cN q1.2.2 s2 vu)) (fun (s2:(List (Str×Str))×(List bF)×(List cj)) (vu:bF)=>some (o7 q1.2.2 s2 vu)) q1.2.1 (vp,vs,vt)/\(let s2:(List (Str×Str))×(List bF)×(List cj):=(q1.2.1.foldl (fun (s2:(List (Str×Str))×(List bF)×(List cj)) (vu:bF)=>(cN q1.2.2 s2 vu)) (vp,vs,vt));(pP s2.1))))))))
theorem Jw (vo:nD):RP pI [some ((zE dF) vo),none,none,none,none,none,none,none,none,none,none] (fun r=>Out.rt ((zE yw) r)) (aO vo) (some (cG vo)):=R.tp (vY (ao 0 (zE dF) vo rfl) _ (fun _=>rfl) fun q1=>(bO 4 (x_call Js (g8 (ao 1 (zE (eT eS)) q1.1 rfl) cU)) (fun _=>rfl) fun vp=>(bO 5 (lZ (gK aY) (zI rfl)) (fun _=>rfl) fun vs=>(bO 6 (lZ (gK ji) (zI rfl)) (fun _=>rfl) fun vt=>(Iw 2 q1.2.1 (V4 rfl) (fun s2:(List (Str×Str))×(List bF)×(List cj)=>[some ((zE dF) vo),some ((zE (eT eS)) q1.1),some ((zE (eT aY)) q1.2.1),some ((zE (eT dH)) q1.2.2),some ((mE eS) s2.1),some ((oE aY) s2.2.1),some ((oE ji) s2.2.2),none,none,none,none]) (vp,vs,vt) rfl _ (fun _ _=>rfl) (fun (s2:(List (Str×Str))×(List bF)×(List cj)) (vu:bF)=>(Bh vo q1.1 q1.2.1 q1.2.2 s2 vu).r) fun s2=>(Ot 5 [some ((zE dF) vo),some ((zE (eT eS)) q1.1),some ((zE (eT aY)) q1.2.1),some ((zE (eT dH)) q1.2.2),some ((mE eS) s2.1),some ((zE (eL aY)) s2.2.1),some ((oE ji) s2.2.2),none,none,none,none] rfl (Ot 6 [some ((zE dF) vo),some ((zE (eT eS)) q1.1),some ((zE (eT aY)) q1.2.1),some ((zE (eT dH)) q1.2.2),some ((mE eS) s2.1),some ((zE (eL aY)) s2.2.1),some ((zE (eL ji)) s2.2.2),none,none,none,none] rfl (jE (fun r=>r) (j5 (Sq (x_call Jv (abZ (ao 4 (nE eS) s2.1 rfl) cU))) (ao 5 (zE (eL aY)) s2.2.1 rfl) (ao 6 (zE (eL ji)) s2.2.2 rfl)) (fun _=>rfl) fun _=>rfl))))))))
theorem eV:∀ v bs,(aZ dF aN) v bs->bs.length=1/\(hold (some (cG v.1))->bB (bs.map lend)=some ((zE yw) (aO v.1))):=by
 rintro⟨vo,_⟩ _ ⟨_,rfl,rfl⟩
 exact⟨rfl,fun h=>j6 (g:=pI) (n:=11) (bs:=[.z (dF vo)]) (Jw vo).r h⟩
end
end G26
end
section
set_option synthInstance.maxSize 100000
namespace G26
open PySem PySem.Spec PyProof.Rows L2 P1
noncomputable section
def jQ (v8:nD) (vd:(List Str)):nD:=(let vn:=(Z8 (v8.1.zip vd));(let va:=(v8.2.1.map fun q1:bF=>(q1.1,(look vn q1.2.1),(look vn q1.2.2.1),q1.2.2.2));(vd,va,(v8.2.2.map fun q2:gY=>((look vn q2.1),(look vn q2.2.1),q2.2.2)))))
def ou (v8:nD) (vd:(List Str)):Prop:=((v8.1.length<=vd.length/\v8.1.length<=1000)/\(let vn:=(Z8 (v8.1.zip vd));((v8.2.1.length<=100000/\(∀ q1∈v8.2.1,(has vn q1.2.1=true/\has vn q1.2.2.1=true)))/\(let va:=(v8.2.1.map fun q1:bF=>(q1.1,(look vn q1.2.1),(look vn q1.2.2.1),q1.2.2.2));(v8.2.2.length<=100000/\(∀ q2∈v8.2.2,(has vn q2.1=true/\has vn q2.2.1=true)))))))
theorem FQ (v8:nD) (vd:(List Str)) {b_1:Bx} (h_1:Lp b_1 (vd.map eS)):RP nT [some ((zE dF) v8),some b_1,none,none] (fun r=>Out.rt ((zE dF) r)) (jQ v8 vd) (some (ou v8 vd)):=R.tp (bO 2 (Wh (mJ (ao 0 (zE dF) v8 rfl) (fun q=>q.1) (eT eS) 0 fun _=>rfl) (pZ 1 eS vd h_1 rfl)) (fun _=>rfl) fun vn=>(bO 3 (wU (Le (mJ (ao 0 (zE dF) v8 rfl) (fun q=>q.2.1) (eT aY) 1 fun _=>rfl)) _ (fun _=>rfl) (fun q1:bF=>(wR (ao 1 (zE eI) q1.1 rfl) (iD (ao 0 (nE eS) vn rfl) (ao 2 (zE eS) q1.2.1 rfl)) (iD (ao 0 (nE eS) vn rfl) (ao 3 (zE eS) q1.2.2.1 rfl)) (ao 4 (zE eI) q1.2.2.2 rfl)))) (fun _=>rfl) fun va=>(jE (fun r=>r) (j5 (gJ (lA (pZ 1 eS vd h_1 rfl))) (gJ (lA (j4 (ao 3 (lE aY) va rfl)))) (gJ (lA (nC (wU (Le (mJ (ao 0 (zE dF) v8 rfl) (fun q=>q.2.2) (eT dH) 2 fun _=>rfl)) _ (fun _=>rfl) (fun q2:gY=>(j5 (iD (ao 0 (nE eS) vn rfl) (ao 1 (zE eS) q2.1 rfl)) (iD (ao 0 (nE eS) vn rfl) (ao 2 (zE eS) q2.2.1 rfl)) (ao 3 (zE eI) q2.2.2 rfl)))))))) (fun _=>rfl) fun _=>rfl)))
theorem FT:∀ v bs,(aZ dF (aL eS aN)) v bs->bs.length=2/\(hold (some (ou v.1 v.2.1))->iI (bs.map lend)=some ((zE dF) (jQ v.1 v.2.1))):=by
 rintro⟨v8,vd,_⟩ _ ⟨_,rfl,⟨b_1,_,rfl,h_1,rfl⟩⟩
 exact⟨rfl,fun h=>j6 (g:=nT) (n:=4) (bs:=[.z (dF v8),lend b_1]) (FQ v8 vd (GP h_1)).r h⟩
end
end G26
end
section
set_option synthInstance.maxSize 100000
namespace G26
open PySem PySem.Spec PyProof.Rows L2 P1
noncomputable section
def bV (vn:(List (Str×Str))) (qY:(List cj)) (q3:cj):(List cj):=(let q4:=q3.1;(let qY:=qY++[((q4.1,(look vn q4.2.1),(look vn q4.2.2.1),q4.2.2.2),(some ((look vn (q3.2.getD default).1),(look vn (q3.2.getD default).2.1),(q3.2.getD default).2.2)))];qY))
def gn (vn:(List (Str×Str))) (qY:(List cj)) (q3:cj):Prop:=(let q4:=q3.1;(((has vn q4.2.1=true/\has vn q4.2.2.1=true)/\((q3.2.isSome=true/\has vn (q3.2.getD default).1=true)/\((q3.2.isSome=true/\has vn (q3.2.getD default).2.1=true)/\q3.2.isSome=true)))/\Eh qY.length))
theorem sZ (v8:nD) (vd:(List Str)) (vn:(List (Str×Str))) (va5:(List (List Str))) (va6:(List bF)) (va7:(List cj)) (Td:(List (List Str))) (Te:(List bF)) (qY:(List cj)) (q3:cj):RP mL [some ((zE dF) v8),some ((oE eS) vd),some ((mE eS) vn),some ((zE (eL (eT eS))) va5),some ((zE (eL aY)) va6),some ((zE (eL ji)) va7),some ((oE (eT eS)) Td),some ((oE aY) Te),some ((oE ji) qY),some ((zE aY) q3.1),some ((zE (eO dH)) q3.2),none,none,none,none] (fun s=>Out.nx ((fun qY:(List cj)=>[some ((zE dF) v8),some ((oE eS) vd),some ((mE eS) vn),some ((zE (eL (eT eS))) va5),some ((zE (eL aY)) va6),some ((zE (eL ji)) va7),some ((oE (eT eS)) Td),some ((oE aY) Te),some ((oE ji) qY),none,none,none,none,none,none]) s)) (bV vn qY q3) (some (gn vn qY q3)):=R.tp (cF (vY (ao 9 (zE aY) q3.1 rfl) _ (fun _=>rfl) fun q4=>(cF (Ad 8 qY rfl (Oi (wR (ao 11 (zE eI) q4.1 rfl) (iD (ao 2 (nE eS) vn rfl) (ao 12 (zE eS) q4.2.1 rfl)) (iD (ao 2 (nE eS) vn rfl) (ao 13 (zE eS) q4.2.2.1 rfl)) (ao 14 (zE eI) q4.2.2.2 rfl)) (Og (j5 (iD (ao 2 (nE eS) vn rfl) (mJ (VH (ao 10 (zE (eO dH)) q3.2 rfl)) (fun q=>q.1) eS 0 fun _=>rfl)) (iD (ao 2 (nE eS) vn rfl) (mJ (VH (ao 10 (zE (eO dH)) q3.2 rfl)) (fun q=>q.2.1) eS 1 fun _=>rfl)) (mJ (VH (ao 10 (zE (eO dH)) q3.2 rfl)) (fun q=>q.2.2) eI 2 fun _=>rfl)))) fun qY=>(fB (cI qY rfl))))))
def cZ (v8:nD):Bool:=(let vd:=(iy (v8.1.length:Int));(let vn:=(Z8 (v8.1.zip vd));(let q1:=(aO v8);(let Td:=(q1.1.map fun Mu:(List Str)=>(Mu.map fun vh:Str=>(look vn vh)));(let Te:=(q1.2.1.map fun q2:bF=>(q2.1,(look vn q2.2.1),(look vn q2.2.2.1),q2.2.2.2));(let qY:=([]:List cj);(let qY:(List cj):=(q1.2.2.foldl (fun (qY:(List cj)) (q3:cj)=>(bV vn qY q3)) qY);(decide ((aO (jQ v8 vd))=(Td,Te,qY))))))))))
def fZ (v8:nD):Prop:=((mY (v8.1.length:Int))/\(let vd:=(iy (v8.1.length:Int));((v8.1.length<=vd.length/\v8.1.length<=1000)/\(let vn:=(Z8 (v8.1.zip vd));((cG v8)/\(let q1:=(aO v8);((q1.1.length<=100000/\(∀ Mu∈q1.1,(Mu.length<=100000/\(∀ vh∈Mu,has vn vh=true))))/\(let Td:=(q1.1.map fun Mu:(List Str)=>(Mu.map fun vh:Str=>(look vn vh)));((q1.2.1.length<=100000/\(∀ q2∈q1.2.1,(has vn q2.2.1=true/\has vn q2.2.2.1=true)))/\(let Te:=(q1.2.1.map fun q2:bF=>(q2.1,(look vn q2.2.1),(look vn q2.2.2.1),q2.2.2.2));(let qY:=([]:List cj);(rZ (fun (qY:(List cj)) (q3:cj)=>(bV vn qY q3)) (fun (qY:(List cj)) (q3:cj)=>some (gn vn qY q3)) q1.2.2 qY/\(let qY:(List cj):=(q1.2.2.foldl (fun (qY:(List cj)) (q3:cj)=>(bV vn qY q3)) qY);((ou v8 vd)/\(cG (jQ v8 vd))))))))))))))))
theorem vQ (v8:nD):RP iT [some ((zE dF) v8),none,none,none,none,none,none,none,none,none,none,none,none,none,none] (fun r=>Out.rt ((zE eB) r)) (cZ v8) (some (fZ v8)):=R.tp (bO 1 (x_call yJ (g8 (gJ (zG (mJ (ao 0 (zE dF) v8 rfl) (fun q=>q.1) (eT eS) 0 fun _=>rfl))) cU)) (fun _=>rfl) fun vd=>(bO 2 (Wh (mJ (ao 0 (zE dF) v8 rfl) (fun q=>q.1) (eT eS) 0 fun _=>rfl) (j4 (ao 1 (lE eS) vd rfl))) (fun _=>rfl) fun vn=>(vY (x_call eV (g8 (ao 0 (zE dF) v8 rfl) cU)) _ (fun _=>rfl) fun q1=>(bO 6 (wU (Dp (rE (ao 3 (zE (eL (eT eS))) q1.1 rfl))) _ (fun _=>rfl) (fun Mu:(List Str)=>(gJ (lA (nC (wU (Le (ao 1 (zE (eT eS)) Mu rfl)) _ (fun _=>rfl) (fun vh:Str=>(iD (ao 0 (nE eS) vn rfl) (ao 1 (zE eS) vh rfl))))))))) (fun _=>rfl) fun Td=>(bO 7 (wU (Dp (rE (ao 4 (zE (eL aY)) q1.2.1 rfl))) _ (fun _=>rfl) (fun q2:bF=>(wR (ao 1 (zE eI) q2.1 rfl) (iD (ao 0 (nE eS) vn rfl) (ao 2 (zE eS) q2.2.1 rfl)) (iD (ao 0 (nE eS) vn rfl) (ao 3 (zE eS) q2.2.2.1 rfl)) (ao 4 (zE eI) q2.2.2.2 rfl)))) (fun _=>rfl) fun Te=>(bO 8 (lZ (gK ji) (zI rfl)) (fun _=>rfl) fun qY=>(Iw 5 q1.2.2 (Om rfl) (fun qY:(List cj)=>[some ((zE dF) v8),some ((oE eS) vd),some ((mE eS) vn),some ((zE (eL (eT eS))) q1.1),some ((zE (eL aY)) q1.2.1),some ((zE (eL ji)) q1.2.2),some ((oE (eT eS)) Td),some ((oE aY) Te),some ((oE ji) qY),none,none,none,none,none,none]) qY rfl _ (fun _ _=>rfl) (fun (qY:(List cj)) (q3:cj)=>(sZ v8 vd vn q1.1 q1.2.1 q1.2.2 Td Te qY q3).r) fun qY=>(Ot 6 [some ((zE dF) v8),some ((oE eS) vd),some ((mE eS) vn),some ((zE (eL (eT eS))) q1.1),some ((zE (eL aY)) q1.2.1),some ((zE (eL ji)) q1.2.2),some ((zE (eL (eT eS))) Td),some ((oE aY) Te),some ((oE ji) qY),none,none,none,none,none,none] rfl (Ot 7 [some ((zE dF) v8),some ((oE eS) vd),some ((mE eS) vn),some ((zE (eL (eT eS))) q1.1),some ((zE (eL aY)) q1.2.1),some ((zE (eL ji)) q1.2.2),some ((zE (eL (eT eS))) Td),some ((zE (eL aY)) Te),some ((oE ji) qY),none,none,none,none,none,none] rfl (Ot 8 [some ((zE dF) v8),some ((oE eS) vd),some ((mE eS) vn),some ((zE (eL (eT eS))) q1.1),some ((zE (eL aY)) q1.2.1),some ((zE (eL ji)) q1.2.2),some ((zE (eL (eT eS))) Td),some ((zE (eL aY)) Te),some ((zE (eL ji)) qY),none,none,none,none,none,none] rfl (jE (fun r=>r) (x_eq (by decide) (x_call eV (g8 (gJ (x_call FT (g8 (ao 0 (zE dF) v8 rfl) (Ld (j4 (ao 1 (lE eS) vd rfl)) cU)))) cU)) (j5 (ao 6 (zE (eL (eT eS))) Td rfl) (ao 7 (zE (eL aY)) Te rfl) (ao 8 (zE (eL ji)) qY rfl))) (fun _=>rfl) fun _=>rfl)))))))))))
theorem vR:∀ v bs,(aZ dF aN) v bs->bs.length=1/\(hold (some (fZ v.1))->cV (bs.map lend)=some ((zE eB) (cZ v.1))):=by
 rintro⟨v8,_⟩ _ ⟨_,rfl,rfl⟩
 exact⟨rfl,fun h=>j6 (g:=iT) (n:=15) (bs:=[.z (dF v8)]) (vQ v8).r h⟩
end
end G26
end
section
set_option synthInstance.maxSize 100000
namespace G26
open PySem PySem.Spec PyProof.Rows L2 P1
noncomputable section
def eX  (v6:(List (List Str))) (q1:bF):(List (List Str)):=(let QC:=(at' ((v6.filter fun o8:(List Str)=>(decide (q1.2.1∈o8))).map fun o8:(List Str)=>o8) (0:Int));(let QD:=(at' ((v6.filter fun o8:(List Str)=>(decide (q1.2.2.1∈o8))).map fun o8:(List Str)=>o8) (0:Int));(let v6:(List (List Str)):=(if (!decide (QC=QD))=true then (let v6:=(((v6.filter fun o8:(List Str)=>(!tX o8 [QC,QD])).map fun o8:(List Str)=>o8)++[(ni (QC++QD))]);v6) else v6);v6)))
def kO  (v6:(List (List Str))) (q1:bF):Prop:=((v6.length<=100000/\In ((v6.filter fun o8:(List Str)=>(decide (q1.2.1∈o8))).map fun o8:(List Str)=>o8).length (0:Int))/\(let QC:=(at' ((v6.filter fun o8:(List Str)=>(decide (q1.2.1∈o8))).map fun o8:(List Str)=>o8) (0:Int));((v6.length<=100000/\In ((v6.filter fun o8:(List Str)=>(decide (q1.2.2.1∈o8))).map fun o8:(List Str)=>o8).length (0:Int))/\(let QD:=(at' ((v6.filter fun o8:(List Str)=>(decide (q1.2.2.1∈o8))).map fun o8:(List Str)=>o8) (0:Int));((!decide (QC=QD))=true->((v6.length<=100000/\(Eh (QC.length+QD.length)/\(QC++QD).length < 64))/\Eh (((v6.filter fun o8:(List Str)=>(!tX o8 [QC,QD])).map fun o8:(List Str)=>o8).length+[(ni (QC++QD))].length)))))))
theorem DP (vd:(List Str)) (va:(List bF)) {b_1:Bx} (h_1:Lp b_1 (va.map aY)) (v6:(List (List Str))) (q1:bF):RP uO [some ((zE (eT eS)) vd),some b_1,some ((oE (eL eS)) v6),some ((zE eI) q1.1),some ((zE eS) q1.2.1),some ((zE eS) q1.2.2.1),some ((zE eI) q1.2.2.2),none,none] (fun s=>Out.nx ((fun v6:(List (List Str))=>[some ((zE (eT eS)) vd),some b_1,some ((oE (eL eS)) v6),none,none,none,none,none,none]) s)) (eX  v6 q1) (some (kO  v6 q1)):=R.tp (cF (bO 7 (lR (nC (rG (Dp (j4 (ao 2 (lE (eL eS)) v6 rfl))) _ (fun _=>rfl) (fun o8:(List Str)=>(ig (adW (ao 0 (zE eS) q1.2.1 rfl) (rE (ao 1 (zE (eL eS)) o8 rfl))))) (fun o8:(List Str)=>(ao 1 (zE (eL eS)) o8 rfl)) (fun _=>rfl) fun _=>rfl)) (bw (.int 0) eI (0:Int) rfl)) (fun _=>rfl) fun QC=>(cF (bO 8 (lR (nC (rG (Dp (j4 (ao 2 (lE (eL eS)) v6 rfl))) _ (fun _=>rfl) (fun o8:(List Str)=>(ig (adW (ao 0 (zE eS) q1.2.2.1 rfl) (rE (ao 1 (zE (eL eS)) o8 rfl))))) (fun o8:(List Str)=>(ao 1 (zE (eL eS)) o8 rfl)) (fun _=>rfl) fun _=>rfl)) (bw (.int 0) eI (0:Int) rfl)) (fun _=>rfl) fun QD=>(cF (Ae (fun v6:(List (List Str))=>[some ((zE (eT eS)) vd),some b_1,some ((oE (eL eS)) v6),some ((zE eI) q1.1),some ((zE eS) q1.2.1),some ((zE eS) q1.2.2.1),some ((zE eI) q1.2.2.2),some ((zE (eL eS)) QC),some ((zE (eL eS)) QD)]) (ig (ZX (by decide) (rE (ao 7 (zE (eL eS)) QC rfl)) (rE (ao 8 (zE (eL eS)) QD rfl)))) (cF (bO 2 (Ir (nC (rG (Dp (j4 (ao 2 (lE (eL eS)) v6 rfl))) _ (fun _=>rfl) (fun o8:(List Str)=>(ig (ab2 (by decide) (ao 2 (zE (eL eS)) o8 rfl) (nC (lZ (gk (ao 0 (zE (eL eS)) QC rfl) (gk (ao 1 (zE (eL eS)) QD rfl) (gK (eL eS)))) (zI rfl)))))) (fun o8:(List Str)=>(ao 2 (zE (eL eS)) o8 rfl)) (fun _=>rfl) fun _=>rfl)) (nC (lZ (gk (Sq (Qx (nC (Ir (rE (ao 7 (zE (eL eS)) QC rfl)) (rE (ao 8 (zE (eL eS)) QD rfl)))))) (gK (eL eS))) (zI rfl)))) (fun _=>rfl) fun v6=>(fB (cI v6 rfl)))) (fB (cI v6 rfl)) fun v6=>(fB (cI v6 rfl))))))))
def oK (vd:(List Str)) (va:(List bF)):(List (List Str)):=(let v6:=(vd.map fun vh:Str=>[vh]);(let v6:(List (List Str)):=(va.foldl (fun (v6:(List (List Str))) (q1:bF)=>(eX  v6 q1)) v6);(su (v6.map fun o8:(List Str)=>o8))))
def qJ (vd:(List Str)) (va:(List bF)):Prop:=(vd.length<=100000/\(let v6:=(vd.map fun vh:Str=>[vh]);(rZ (fun (v6:(List (List Str))) (q1:bF)=>(eX  v6 q1)) (fun (v6:(List (List Str))) (q1:bF)=>some (kO  v6 q1)) va v6/\(let v6:(List (List Str)):=(va.foldl (fun (v6:(List (List Str))) (q1:bF)=>(eX  v6 q1)) v6);(v6.length<=100000/\((v6.map fun o8:(List Str)=>o8).length < 64/\∀ x∈(v6.map fun o8:(List Str)=>o8),x.isEmpty=false))))))
theorem Ma (vd:(List Str)) (va:(List bF)) {b_1:Bx} (h_1:Lp b_1 (va.map aY)):RP qD [some ((zE (eT eS)) vd),some b_1,none,none,none,none,none,none,none] (fun r=>Out.rt ((oE (eT eS)) r)) (oK vd va) (some (qJ vd va)):=R.tp (bO 2 (rY (Le (ao 0 (zE (eT eS)) vd rfl)) _ (fun _=>rfl) (fun vh:Str=>(Sq (lZ (gk (ao 0 (zE eS) vh rfl) (gK eS)) (zI rfl)))) fun _=>rfl) (fun _=>rfl) fun v6=>(Iw 1 va (abX h_1 rfl) (fun v6:(List (List Str))=>[some ((zE (eT eS)) vd),some b_1,some ((oE (eL eS)) v6),none,none,none,none,none,none]) v6 rfl _ (fun _ _=>rfl) (fun (v6:(List (List Str))) (q1:bF)=>(DP vd va h_1 v6 q1).r) fun v6=>(jE (fun r=>r) (Zb (nC (rY (Dp (j4 (ao 2 (lE (eL eS)) v6 rfl))) _ (fun _=>rfl) (fun o8:(List Str)=>(gJ (lA (rE (ao 0 (zE (eL eS)) o8 rfl))))) fun _=>rfl))) (fun _=>rfl) fun _=>rfl)))
theorem Mf:∀ v bs,(aZ (eT eS) (aL aY aN)) v bs->bs.length=2/\(hold (some (qJ v.1 v.2.1))->j7 (bs.map lend)=some ((oE (eT eS)) (oK v.1 v.2.1))):=by
 rintro⟨vd,va,_⟩ _ ⟨_,rfl,⟨b_1,_,rfl,h_1,rfl⟩⟩
 exact⟨rfl,fun h=>j6 (g:=qD) (n:=9) (bs:=[.z ((eT eS) vd),lend b_1]) (Ma vd va (GP h_1)).r h⟩
end
end G26
end
section
set_option synthInstance.maxSize 100000
namespace G26
open PySem PySem.Spec PyProof.Rows L2 P1
noncomputable section
def gB (v8:nD):Bool:=(let q1:=v8;(let q2:=(aO v8);(if (!decide ((q2.2.1.length:Int)=((q1.1.length:Int) - (q2.1.length:Int))))=true then false else (if (!decide ((aO (q1.1,q2.2.1,([]:List gY)))=(q2.1,q2.2.1,([]:List cj))))=true then false else (if (!decide ((oK q1.1 q2.2.1)=q2.1))=true then false else (decide ((aO (q1.1,q2.2.1,q1.2.2))=(q2.1,q2.2.1,([]:List cj)))))))))
def jh (v8:nD):Prop:=(let q1:=v8;((cG v8)/\(let q2:=(aO v8);((!decide ((q2.2.1.length:Int)=((q1.1.length:Int) - (q2.1.length:Int))))=false->((cG (q1.1,q2.2.1,([]:List gY)))/\((!decide ((aO (q1.1,q2.2.1,([]:List gY)))=(q2.1,q2.2.1,([]:List cj))))=false->((qJ q1.1 q2.2.1)/\((!decide ((oK q1.1 q2.2.1)=q2.1))=false->(cG (q1.1,q2.2.1,q1.2.2))))))))))
theorem zR (v8:nD):RP lH [some ((zE dF) v8),none,none,none,none,none,none] (fun r=>Out.rt ((zE eB) r)) (gB v8) (some (jh v8)):=R.tp (vY (ao 0 (zE dF) v8 rfl) _ (fun _=>rfl) fun q1=>(vY (x_call eV (g8 (ao 0 (zE dF) v8 rfl) cU)) _ (fun _=>rfl) fun q2=>(vZ (ig (Ss (by decide) (x_len (rE (ao 5 (zE (eL aY)) q2.2.1 rfl))) (Lb (zG (ao 1 (zE (eT eS)) q1.1 rfl)) (x_len (rE (ao 4 (zE (eL (eT eS))) q2.1 rfl)))))) (cF (jE (fun r=>r) (bw (.bl false) eB false rfl) (fun _=>rfl) fun _=>rfl)) (fB (vZ (ig (Ss (by decide) (x_call eV (g8 (j5 (ao 1 (zE (eT eS)) q1.1 rfl) (gJ (lA (rE (ao 5 (zE (eL aY)) q2.2.1 rfl)))) (abO dH)) cU)) (j5 (ao 4 (zE (eL (eT eS))) q2.1 rfl) (ao 5 (zE (eL aY)) q2.2.1 rfl) (Sq (lZ (gK ji) (zI rfl)))))) (cF (jE (fun r=>r) (bw (.bl false) eB false rfl) (fun _=>rfl) fun _=>rfl)) (fB (vZ (ig (ZX (by decide) (nC (x_call Mf (g8 (ao 1 (zE (eT eS)) q1.1 rfl) (Ld (rE (ao 5 (zE (eL aY)) q2.2.1 rfl)) cU)))) (rE (ao 4 (zE (eL (eT eS))) q2.1 rfl)))) (cF (jE (fun r=>r) (bw (.bl false) eB false rfl) (fun _=>rfl) fun _=>rfl)) (fB (jE (fun r=>r) (x_eq (by decide) (x_call eV (g8 (j5 (ao 1 (zE (eT eS)) q1.1 rfl) (gJ (lA (rE (ao 5 (zE (eL aY)) q2.2.1 rfl)))) (ao 3 (zE (eT dH)) q1.2.2 rfl)) cU)) (j5 (ao 4 (zE (eL (eT eS))) q2.1 rfl) (ao 5 (zE (eL aY)) q2.2.1 rfl) (Sq (lZ (gK ji) (zI rfl))))) (fun _=>rfl) fun _=>rfl)))))))))
theorem zT:∀ v bs,(aZ dF aN) v bs->bs.length=1/\(hold (some (jh v.1))->fK (bs.map lend)=some ((zE eB) (gB v.1))):=by
 rintro⟨v8,_⟩ _ ⟨_,rfl,rfl⟩
 exact⟨rfl,fun h=>j6 (g:=lH) (n:=7) (bs:=[.z (dF v8)]) (zR v8).r h⟩
end
end G26
end
section
set_option synthInstance.maxSize 100000
namespace G26
open PySem PySem.Spec PyProof.Rows L2 P1
noncomputable section
def cQ (w5:Int) (vm:(List cj)) (q5:cj):(List cj):=(let vm:=vm++[(((q5.1.1+w5),(q5.1.2.1,q5.1.2.2.1,q5.1.2.2.2).1,(q5.1.2.1,q5.1.2.2.1,q5.1.2.2.2).2.1,(q5.1.2.1,q5.1.2.2.1,q5.1.2.2.2).2.2),q5.2)];vm)
def mZ (w5:Int) (vm:(List cj)) (q5:cj):Prop:=Eh vm.length
theorem tu (v8:nD) (w5:Int) (vd:(List Str)) (va:(List bF)) (vb:(List gY)) (va5:(List (List Str))) (va6:(List bF)) (va7:(List cj)) (Sy:(List bF)) (v6:ab8) (Wj:(List bF)) (vm:(List cj)) (q5:cj):RP mO [some ((zE dF) v8),some ((zE eI) w5),some ((zE (eT eS)) vd),some ((zE (eT aY)) va),some ((zE (eT dH)) vb),some ((zE (eL (eT eS))) va5),some ((zE (eL aY)) va6),some ((zE (eL ji)) va7),some ((zE (eT aY)) Sy),some ((zE yw) v6),some ((oE aY) Wj),some ((oE ji) vm),some ((zE aY) q5.1),some ((zE (eO dH)) q5.2)] (fun s=>Out.nx ((fun vm:(List cj)=>[some ((zE dF) v8),some ((zE eI) w5),some ((zE (eT eS)) vd),some ((zE (eT aY)) va),some ((zE (eT dH)) vb),some ((zE (eL (eT eS))) va5),some ((zE (eL aY)) va6),some ((zE (eL ji)) va7),some ((zE (eT aY)) Sy),some ((zE yw) v6),some ((oE aY) Wj),some ((oE ji) vm),none,none]) s)) (cQ w5 vm q5) (some (mZ w5 vm q5)):=R.tp (cF (Ad 11 vm rfl (Oi (gJ (ab7 (e3:=aY) (abP (gJ (lQ (mJ (ao 12 (zE aY) q5.1 rfl) (fun q=>q.1) eI 0 fun _=>rfl) (ao 1 (zE eI) w5 rfl)))) (adV (ao 12 (zE aY) q5.1 rfl) (fun q=>(q.2.1,q.2.2.1,q.2.2.2)) dH (some (1:Int)) none rfl rfl fun _=>rfl) (fun x y=>(x,y.1,y.2.1,y.2.2)) fun _ _=>rfl)) (ao 13 (zE (eO dH)) q5.2 rfl)) fun vm=>(fB (cI vm rfl))))
def fu (v8:nD) (w5:Int):Bool:=(let q1:=v8;(let q2:=(aO v8);(let Sy:=(q1.2.1.map fun q3:bF=>((q3.1+w5),q3.2.1,q3.2.2.1,q3.2.2.2));(let v6:=(aO (q1.1,Sy,q1.2.2));(let Wj:=(q2.2.1.map fun q4:bF=>((q4.1+w5),q4.2.1,q4.2.2.1,q4.2.2.2));(let vm:=([]:List cj);(let vm:(List cj):=(q2.2.2.foldl (fun (vm:(List cj)) (q5:cj)=>(cQ w5 vm q5)) vm);(decide (v6=(q2.1,Wj,vm))))))))))
def gj (v8:nD) (w5:Int):Prop:=(let q1:=v8;((cG v8)/\(let q2:=(aO v8);(q1.2.1.length<=100000/\(let Sy:=(q1.2.1.map fun q3:bF=>((q3.1+w5),q3.2.1,q3.2.2.1,q3.2.2.2));((cG (q1.1,Sy,q1.2.2))/\(let v6:=(aO (q1.1,Sy,q1.2.2));(q2.2.1.length<=100000/\(let Wj:=(q2.2.1.map fun q4:bF=>((q4.1+w5),q4.2.1,q4.2.2.1,q4.2.2.2));(let vm:=([]:List cj);rZ (fun (vm:(List cj)) (q5:cj)=>(cQ w5 vm q5)) (fun (vm:(List cj)) (q5:cj)=>some (mZ w5 vm q5)) q2.2.2 vm))))))))))
theorem vU (v8:nD) (w5:Int):RP iU [some ((zE dF) v8),some ((zE eI) w5),none,none,none,none,none,none,none,none,none,none,none,none] (fun r=>Out.rt ((zE eB) r)) (fu v8 w5) (some (gj v8 w5)):=R.tp (vY (ao 0 (zE dF) v8 rfl) _ (fun _=>rfl) fun q1=>(vY (x_call eV (g8 (ao 0 (zE dF) v8 rfl) cU)) _ (fun _=>rfl) fun q2=>(bO 8 (lA (nC (rY (Le (ao 3 (zE (eT aY)) q1.2.1 rfl)) _ (fun _=>rfl) (fun q3:bF=>(wR (gJ (lQ (ao 1 (zE eI) q3.1 rfl) (ao 0 (zE eI) w5 rfl))) (ao 2 (zE eS) q3.2.1 rfl) (ao 3 (zE eS) q3.2.2.1 rfl) (ao 4 (zE eI) q3.2.2.2 rfl))) fun _=>rfl))) (fun _=>rfl) fun Sy=>(bO 9 (x_call eV (g8 (j5 (ao 2 (zE (eT eS)) q1.1 rfl) (ao 8 (zE (eT aY)) Sy rfl) (ao 4 (zE (eT dH)) q1.2.2 rfl)) cU)) (fun _=>rfl) fun v6=>(bO 10 (rY (Dp (rE (ao 6 (zE (eL aY)) q2.2.1 rfl))) _ (fun _=>rfl) (fun q4:bF=>(wR (gJ (lQ (ao 1 (zE eI) q4.1 rfl) (ao 0 (zE eI) w5 rfl))) (ao 2 (zE eS) q4.2.1 rfl) (ao 3 (zE eS) q4.2.2.1 rfl) (ao 4 (zE eI) q4.2.2.2 rfl))) fun _=>rfl) (fun _=>rfl) fun Wj=>(bO 11 (lZ (gK ji) (zI rfl)) (fun _=>rfl) fun vm=>(Iw 7 q2.2.2 (Om rfl) (fun vm:(List cj)=>[some ((zE dF) v8),some ((zE eI) w5),some ((zE (eT eS)) q1.1),some ((zE (eT aY)) q1.2.1),some ((zE (eT dH)) q1.2.2),some ((zE (eL (eT eS))) q2.1),some ((zE (eL aY)) q2.2.1),some ((zE (eL ji)) q2.2.2),some ((zE (eT aY)) Sy),some ((zE yw) v6),some ((oE aY) Wj),some ((oE ji) vm),none,none]) vm rfl _ (fun _ _=>rfl) (fun (vm:(List cj)) (q5:cj)=>(tu v8 w5 q1.1 q1.2.1 q1.2.2 q2.1 q2.2.1 q2.2.2 Sy v6 Wj vm q5).r) fun vm=>(Ot 10 [some ((zE dF) v8),some ((zE eI) w5),some ((zE (eT eS)) q1.1),some ((zE (eT aY)) q1.2.1),some ((zE (eT dH)) q1.2.2),some ((zE (eL (eT eS))) q2.1),some ((zE (eL aY)) q2.2.1),some ((zE (eL ji)) q2.2.2),some ((zE (eT aY)) Sy),some ((zE yw) v6),some ((zE (eL aY)) Wj),some ((oE ji) vm),none,none] rfl (Ot 11 [some ((zE dF) v8),some ((zE eI) w5),some ((zE (eT eS)) q1.1),some ((zE (eT aY)) q1.2.1),some ((zE (eT dH)) q1.2.2),some ((zE (eL (eT eS))) q2.1),some ((zE (eL aY)) q2.2.1),some ((zE (eL ji)) q2.2.2),some ((zE (eT aY)) Sy),some ((zE yw) v6),some ((zE (eL aY)) Wj),some ((zE (eL ji)) vm),none,none] rfl (jE (fun r=>r) (x_eq (by decide) (ao 9 (zE yw) v6 rfl) (j5 (ao 5 (zE (eL (eT eS))) q2.1 rfl) (ao 10 (zE (eL aY)) Wj rfl) (ao 11 (zE (eL ji)) vm rfl))) (fun _=>rfl) fun _=>rfl))))))))))
theorem vV:∀ v bs,(aZ dF (aZ eI aN)) v bs->bs.length=2/\(hold (some (gj v.1 v.2.1))->cW (bs.map lend)=some ((zE eB) (fu v.1 v.2.1))):=by
 rintro⟨v8,w5,_⟩ _ ⟨_,rfl,⟨_,rfl,rfl⟩⟩
 exact⟨rfl,fun h=>j6 (g:=iU) (n:=14) (bs:=[.z (dF v8),.z (eI w5)]) (vU v8 w5).r h⟩
end
end G26
end
section
set_option synthInstance.maxSize 100000
namespace G26
open PySem PySem.Spec PyProof.Rows L2 P1
noncomputable section
def dN (v8:nD) (vj:Str) (vk:Str):Bool:=(let q1:=v8;(let Wm:=((if Ay vk vj=true then vk else vj),(if Ay vj vk=true then vk else vj),(100:Int));(let Z9:=(aO v8);(let v6:=(aO (q1.1,q1.2.1,(p8 dH (q1.2.2++[Wm]))));(let Ov:=((v6.2.2.filter fun q2:cj=>(decide (q2.2=(some Wm)))).map fun q2:cj=>q2.1);(if (decide (Ov=([]:List bF)))=true then (decide (v6=Z9)) else (let Mu:=(cut q1.2.1 none (some (Wz (at' Ov (0:Int)) q1.2.1:Int)));(let vaj:=((Z9.2.1.filter fun yK:bF=>(tX yK Mu)).map fun yK:bF=>yK);(decide (vaj=((v6.2.1.filter fun yK:bF=>(tX yK Mu)).map fun yK:bF=>yK)))))))))))
def dO (v8:nD) (vj:Str) (vk:Str):Prop:=(let q1:=v8;(let Wm:=((if Ay vk vj=true then vk else vj),(if Ay vj vk=true then vk else vj),(100:Int));((cG v8)/\(let Z9:=(aO v8);(((Eh (q1.2.2.length+[Wm].length)/\(q1.2.2++[Wm]).length < 64)/\(cG (q1.1,q1.2.1,(p8 dH (q1.2.2++[Wm])))))/\(let v6:=(aO (q1.1,q1.2.1,(p8 dH (q1.2.2++[Wm]))));(v6.2.2.length<=100000/\(let Ov:=((v6.2.2.filter fun q2:cj=>(decide (q2.2=(some Wm)))).map fun q2:cj=>q2.1);((decide (Ov=([]:List bF)))=false->((In Ov.length (0:Int)/\(at' Ov (0:Int))∈q1.2.1)/\(let Mu:=(cut q1.2.1 none (some (Wz (at' Ov (0:Int)) q1.2.1:Int)));(Z9.2.1.length<=100000/\(let vaj:=((Z9.2.1.filter fun yK:bF=>(tX yK Mu)).map fun yK:bF=>yK);v6.2.1.length<=100000)))))))))))))
theorem u5 (v8:nD) (vj:Str) (vk:Str):RP iu [some ((zE dF) v8),some ((zE eS) vj),some ((zE eS) vk),none,none,none,none,none,none,none,none,none] (fun r=>Out.rt ((zE eB) r)) (dN v8 vj vk) (some (dO v8 vj vk)):=R.tp (vY (ao 0 (zE dF) v8 rfl) _ (fun _=>rfl) fun q1=>(bO 6 (j5 (gJ (Wc (ao 1 (zE eS) vj rfl) (ao 2 (zE eS) vk rfl))) (gJ (ab0 (ao 1 (zE eS) vj rfl) (ao 2 (zE eS) vk rfl))) (bw (.int 100) eI (100:Int) rfl)) (fun _=>rfl) fun Wm=>(bO 7 (x_call eV (g8 (ao 0 (zE dF) v8 rfl) cU)) (fun _=>rfl) fun Z9=>(bO 8 (x_call eV (g8 (j5 (ao 3 (zE (eT eS)) q1.1 rfl) (ao 4 (zE (eT aY)) q1.2.1 rfl) (gJ (lA (nC (Y0 (VP (ao 5 (zE (eT dH)) q1.2.2 rfl) (Oj (gk (ao 6 (zE dH) Wm rfl) (gK dH)) (zI rfl)))))))) cU)) (fun _=>rfl) fun v6=>(bO 9 (rG (Dp (rE (mJ (ao 8 (zE yw) v6 rfl) (fun q=>q.2.2) (eL ji) 2 fun _=>rfl))) _ (fun _=>rfl) (fun q2:cj=>(ig (x_eq (by decide) (ao 2 (zE (eO dH)) q2.2 rfl) (Og (ao 0 (zE dH) Wm rfl))))) (fun q2:cj=>(ao 1 (zE aY) q2.1 rfl)) (fun _=>rfl) fun _=>rfl) (fun _=>rfl) fun Ov=>(vZ (ig (ZW (by decide) (j4 (ao 9 (lE aY) Ov rfl)) (nC (lZ (gK aY) (zI rfl))))) (cF (jE (fun r=>r) (x_eq (by decide) (ao 8 (zE yw) v6 rfl) (ao 7 (zE yw) Z9 rfl)) (fun _=>rfl) fun _=>rfl)) (fB (bO 10 (adT (ao 4 (zE (eT aY)) q1.2.1 rfl) YM (YQ (Zc (by decide) (ao 4 (zE (eT aY)) q1.2.1 rfl) (lR (j4 (ao 9 (lE aY) Ov rfl)) (bw (.int 0) eI (0:Int) rfl))))) (fun _=>rfl) fun Mu=>(bO 11 (rG (Dp (rE (mJ (ao 7 (zE yw) Z9 rfl) (fun q=>q.2.1) (eL aY) 1 fun _=>rfl))) _ (fun _=>rfl) (fun yK:bF=>(ig (Wd (by decide) (ao 1 (zE aY) yK rfl) (ao 0 (zE (eT aY)) Mu rfl)))) (fun yK:bF=>(ao 1 (zE aY) yK rfl)) (fun _=>rfl) fun _=>rfl) (fun _=>rfl) fun vaj=>(jE (fun r=>r) (ZW (by decide) (j4 (ao 11 (lE aY) vaj rfl)) (nC (rG (Dp (rE (mJ (ao 8 (zE yw) v6 rfl) (fun q=>q.2.1) (eL aY) 1 fun _=>rfl))) _ (fun _=>rfl) (fun yK:bF=>(ig (Wd (by decide) (ao 1 (zE aY) yK rfl) (ao 0 (zE (eT aY)) Mu rfl)))) (fun yK:bF=>(ao 1 (zE aY) yK rfl)) (fun _=>rfl) fun _=>rfl))) (fun _=>rfl) fun _=>rfl))))))))))
theorem u6:∀ v bs,(aZ dF (aZ eS (aZ eS aN))) v bs->bs.length=3/\(hold (some (dO v.1 v.2.1 v.2.2.1))->cJ (bs.map lend)=some ((zE eB) (dN v.1 v.2.1 v.2.2.1))):=by
 rintro⟨v8,vj,vk,_⟩ _ ⟨_,rfl,⟨_,rfl,⟨_,rfl,rfl⟩⟩⟩
 exact⟨rfl,fun h=>j6 (g:=iu) (n:=12) (bs:=[.z (dF v8),.z (eS vj),.z (eS vk)]) (u5 v8 vj vk).r h⟩
end
end G26
end
section
set_option synthInstance.maxSize 100000
namespace G26
open PySem PySem.Spec PyProof.Rows L2 P1
noncomputable section
def Mg (v0:(List Int)):Bool:=(let v1:=(aV (bh v0 (0:Int)) (13:Int));(let v8:=(jB v0 (0:Int) ((at' v1 (6:Int)) % (10:Int)) ((at' v1 (7:Int)) % (15:Int)) ((at' v1 (8:Int)) % (7:Int)));(let q1:=v8;(if ((!(cZ v8))||(!(gB v8)))=true then false else (let vab:=(Ax ((q1.2.1.map fun yK:bF=>yK.1)++[(0:Int)]));(if (!(fu v8 ((at' v1 (9:Int)) % ((1001:Int) - vab))))=true then false else (let q2:=(aO v8);(let v6:=(aO ((q1.1++[("zzzzzzzz" : Str)]),q1.2.1,q1.2.2));(if (!decide (v6=((q2.1++[[("zzzzzzzz" : Str)]]),q2.2.1,q2.2.2)))=true then false else (if (decide ((q1.1.length:Int) < (2:Int)))=true then true else (let vj:=((at' v1 (10:Int)) % (q1.1.length:Int));(let vk:=(((vj+(1:Int))+((at' v1 (11:Int)) % ((q1.1.length:Int) - (1:Int)))) % (q1.1.length:Int));(dN v8 (at' q1.1 vj) (at' q1.1 vk))))))))))))))
def Mh (v0:(List Int)):Prop:=(((kJ v0 (0:Int))/\(iQ (bh v0 (0:Int)) (13:Int)))/\(let v1:=(aV (bh v0 (0:Int)) (13:Int));(((In v1.length (6:Int)/\(In v1.length (7:Int)/\In v1.length (8:Int)))/\(pJ v0 (0:Int) ((at' v1 (6:Int)) % (10:Int)) ((at' v1 (7:Int)) % (15:Int)) ((at' v1 (8:Int)) % (7:Int))))/\(let v8:=(jB v0 (0:Int) ((at' v1 (6:Int)) % (10:Int)) ((at' v1 (7:Int)) % (15:Int)) ((at' v1 (8:Int)) % (7:Int)));(let q1:=v8;(((fZ v8)/\((!(cZ v8))=false->(jh v8)))/\(((!(cZ v8))||(!(gB v8)))=false->(((q1.2.1.length<=100000/\Eh ((q1.2.1.map fun yK:bF=>yK.1).length+[(0:Int)].length))/\0 < ((q1.2.1.map fun yK:bF=>yK.1)++[(0:Int)]).length)/\(let vab:=(Ax ((q1.2.1.map fun yK:bF=>yK.1)++[(0:Int)]));(((In v1.length (9:Int)/\0 < ((1001:Int) - vab))/\(gj v8 ((at' v1 (9:Int)) % ((1001:Int) - vab))))/\((!(fu v8 ((at' v1 (9:Int)) % ((1001:Int) - vab))))=false->((cG v8)/\(let q2:=(aO v8);((Eh (q1.1.length+[("zzzzzzzz" : Str)].length)/\(cG ((q1.1++[("zzzzzzzz" : Str)]),q1.2.1,q1.2.2)))/\(let v6:=(aO ((q1.1++[("zzzzzzzz" : Str)]),q1.2.1,q1.2.2));(Eh (q2.1.length+[[("zzzzzzzz" : Str)]].length)/\((!decide (v6=((q2.1++[[("zzzzzzzz" : Str)]]),q2.2.1,q2.2.2)))=false->((decide ((q1.1.length:Int) < (2:Int)))=false->((In v1.length (10:Int)/\0 < (q1.1.length:Int))/\(let vj:=((at' v1 (10:Int)) % (q1.1.length:Int));(((In v1.length (11:Int)/\0 < ((q1.1.length:Int) - (1:Int)))/\0 < (q1.1.length:Int))/\(let vk:=(((vj+(1:Int))+((at' v1 (11:Int)) % ((q1.1.length:Int) - (1:Int)))) % (q1.1.length:Int));((In q1.1.length vj/\In q1.1.length vk)/\(dO v8 (at' q1.1 vj) (at' q1.1 vk)))))))))))))))))))))))))
theorem aei (v0:(List Int)) {n6:Bx} (rM:Lp n6 (v0.map eI)):RP Qz [some n6,none,none,none,none,none,none,none,none,none,none,none,none] (fun r=>Out.rt ((zE eB) r)) (Mg v0) (some (Mh v0)):=R.tp (bO 1 (x_call n8 (g8 (gJ (x_call sX (Ld (pZ 0 eI v0 rM rfl) (g8 (bw (.int 0) eI (0:Int) rfl) cU)))) (g8 (bw (.int 13) eI (13:Int) rfl) cU))) (fun _=>rfl) fun v1=>(bO 2 (x_call Jq (Ld (pZ 0 eI v0 rM rfl) (g8 (bw (.int 0) eI (0:Int) rfl) (g8 (iB (lR (j4 (ao 1 (lE eI) v1 rfl)) (bw (.int 6) eI (6:Int) rfl)) 10 (by decide)) (g8 (iB (lR (j4 (ao 1 (lE eI) v1 rfl)) (bw (.int 7) eI (7:Int) rfl)) 15 (by decide)) (g8 (iB (lR (j4 (ao 1 (lE eI) v1 rfl)) (bw (.int 8) eI (8:Int) rfl)) 7 (by decide)) cU)))))) (fun _=>rfl) fun v8=>(vY (ao 2 (zE dF) v8 rfl) _ (fun _=>rfl) fun q1=>(vZ (YK (VL (abN (x_call vR (g8 (ao 2 (zE dF) v8 rfl) cU)))) (VL (abN (x_call zT (g8 (ao 2 (zE dF) v8 rfl) cU))))) (cF (jE (fun r=>r) (bw (.bl false) eB false rfl) (fun _=>rfl) fun _=>rfl)) (fB (bO 6 (ab6 (nC (Ir (nC (rY (Le (ao 4 (zE (eT aY)) q1.2.1 rfl)) _ (fun _=>rfl) (fun yK:bF=>(mJ (ao 0 (zE aY) yK rfl) (fun q=>q.1) eI 0 fun _=>rfl)) fun _=>rfl)) (nC (lZ (gk (bw (.int 0) eI (0:Int) rfl) (gK eI)) (zI rfl)))))) (fun _=>rfl) fun vab=>(vZ (VL (abN (x_call vV (g8 (ao 2 (zE dF) v8 rfl) (g8 (yq (lR (j4 (ao 1 (lE eI) v1 rfl)) (bw (.int 9) eI (9:Int) rfl)) (Lb (bw (.int 1001) eI (1001:Int) rfl) (ao 6 (zE eI) vab rfl))) cU))))) (cF (jE (fun r=>r) (bw (.bl false) eB false rfl) (fun _=>rfl) fun _=>rfl)) (fB (vY (x_call eV (g8 (ao 2 (zE dF) v8 rfl) cU)) _ (fun _=>rfl) fun q2=>(bO 10 (x_call eV (g8 (j5 (gJ (VP (ao 3 (zE (eT eS)) q1.1 rfl) (Oj (gk (bw (.str "zzzzzzzz") eS ("zzzzzzzz" : Str) rfl) (gK eS)) (zI rfl)))) (ao 4 (zE (eT aY)) q1.2.1 rfl) (ao 5 (zE (eT dH)) q1.2.2 rfl)) cU)) (fun _=>rfl) fun v6=>(vZ (ig (Ss (by decide) (ao 10 (zE yw) v6 rfl) (j5 (Sq (Ir (rE (ao 7 (zE (eL (eT eS))) q2.1 rfl)) (nC (lZ (gk (Oj (gk (bw (.str "zzzzzzzz") eS ("zzzzzzzz" : Str) rfl) (gK eS)) (zI rfl)) (gK (eT eS))) (zI rfl))))) (ao 8 (zE (eL aY)) q2.2.1 rfl) (ao 9 (zE (eL ji)) q2.2.2 rfl)))) (cF (jE (fun r=>r) (bw (.bl false) eB false rfl) (fun _=>rfl) fun _=>rfl)) (fB (vZ (ig (VJ (zG (ao 3 (zE (eT eS)) q1.1 rfl)) (bw (.int 2) eI (2:Int) rfl))) (cF (jE (fun r=>r) (bw (.bl true) eB true rfl) (fun _=>rfl) fun _=>rfl)) (fB (bO 11 (yq (lR (j4 (ao 1 (lE eI) v1 rfl)) (bw (.int 10) eI (10:Int) rfl)) (zG (ao 3 (zE (eT eS)) q1.1 rfl))) (fun _=>rfl) fun vj=>(bO 12 (yq (lQ (lQ (ao 11 (zE eI) vj rfl) (bw (.int 1) eI (1:Int) rfl)) (yq (lR (j4 (ao 1 (lE eI) v1 rfl)) (bw (.int 11) eI (11:Int) rfl)) (Lb (zG (ao 3 (zE (eT eS)) q1.1 rfl)) (bw (.int 1) eI (1:Int) rfl)))) (zG (ao 3 (zE (eT eS)) q1.1 rfl))) (fun _=>rfl) fun vk=>(jE (fun r=>r) (x_call u6 (g8 (ao 2 (zE dF) v8 rfl) (g8 (Z2 (ao 3 (zE (eT eS)) q1.1 rfl) (ao 11 (zE eI) vj rfl)) (g8 (Z2 (ao 3 (zE (eT eS)) q1.1 rfl) (ao 12 (zE eI) vk rfl)) cU)))) (fun _=>rfl) fun _=>rfl)))))))))))))))))
theorem aac:∀ v bs,(aL eI aN) v bs->bs.length=1/\(hold (some (Mh v.1))->qF (bs.map lend)=some ((zE eB) (Mg v.1))):=by
 rintro⟨v0,_⟩ _ ⟨n6,_,rfl,rM,rfl⟩
 exact⟨rfl,fun h=>j6 (g:=Qz) (n:=13) (bs:=[lend n6]) (aei v0 (GP rM)).r h⟩
theorem aad (h:∀ ns:List Int,ns.length<=63->Mh ns/\Mg ns=true):(∀ ns:List Int,ns.length<=63->qF [.z (.lst (ns.map .int))]=some (.z (.bl true)))/\∀ ns:List Int,ns.length<=63->qF [.l (ns.map .int)]=some (.z (.bl true)):=
 ⟨fun ns hn=>((aac (ns,()) [.z (.lst (ns.map .int))] ⟨_,_,rfl,rfl,rfl⟩).2 (h ns hn).1).trans (by rw[(h ns hn).2]),fun ns hn=>((aac (ns,()) [.l (ns.map .int)] ⟨_,_,rfl,rfl,rfl⟩).2 (h ns hn).1).trans (by rw[(h ns hn).2])⟩
end
theorem Jx (script:List Int) (k:Int) (h0:0<=k) (h1:k<=1000):kJ script k:=by
 unfold kJ
 exact⟨fun h=>in_of h0 (by simpa using h),fun _=>Z7 h0 (by omega)⟩
theorem Wn (k:Nat) (s:Int×List Int×Int) (hk:k < 1000) (h:(0<=s.1/\s.1 < 1999999973)/\s.2.1.length=k/\(∀ x∈s.2.1,0<=x)/\0<=s.2.2):lM s k/\(0<=(cP s k).1/\(cP s k).1 < 1999999973)/\(cP s k).2.1.length=k+1/\(∀ x∈(cP s k).2.1,0<=x)/\0<=(cP s k).2.2:=by
 obtain⟨h1,h2,h3,h4⟩:=h
 have hin:In 2 (if (decide ((0:Int) < s.2.2))=true then (1:Int) else 0):=by split<;>exact in_of (by omega) (by omega)
 refine⟨⟨Z7 h1.1 (by omega),hin,?_⟩,oG _ (by decide),?_,?_,Int.ediv_nonneg h4 (by decide)⟩
 ·show s.2.1.length<=1000000
  omega
 ·show (s.2.1++[_]).length=k+1
  rw[z0,h2];rfl
 ·intro x hx
  rcases List.mem_append.mp hx with hx|hx
  ·exact h3 x hx
  ·cases List.mem_singleton.mp hx
   have:=qR (xs:=[((((s.1 * ((s.1 % (65521:Int))+(40487:Int)))+((7:Int) * k))+(5:Int)) % (1999999973:Int)),(s.2.2 % (1000000:Int))]) hin
   simp only[Q2,jv,or_false] at this
   rcases this with e|e<;>rw[e]
   ·exact (oG _ (by decide)).1
   ·exact (oG _ (by decide)).1
theorem Jy (c m:Int) (h0:0<=m) (h1:m<=1000):iQ c m/\(aV c m).length=m.toNat/\∀ x∈aV c m,0<=x:=by
 have key:∀ st dg:Int,(0<=st/\st < 1999999973)->0<=dg->nJ c m [] st dg/\(lN c m [] st dg).length=m.toNat/\∀ x∈lN c m [] st dg,0<=x:=fun st dg hs hd=>by
  have:=yu (P:=fun s k=>some (lM s k)) (fun k s=>(0<=s.1/\s.1 < 1999999973)/\s.2.1.length=k/\(∀ x∈s.2.1,0<=x)/\0<=s.2.2) (step:=fun s k=>cP s k) m.toNat (st,[],dg) ⟨hs,rfl,fun x h=>(by cases h),hd⟩ fun k s hk h=>Wn k s (by omega) h
  exact⟨⟨G4 h0 (by omega),this.1⟩,this.2.2.1,this.2.2.2.1⟩
 refine key _ _ (oG _ (by decide)) ?_
 dsimp only
 split<;>(try split)<;>omega
theorem tB {α:Type} {m:List (Str×α)} {x:Str}:has m x=true↔x∈m.map (·.1):=by
 unfold has
 rw[kf,Ki]
 constructor
 ·rintro⟨q,hq,h⟩;exact⟨q,hq,ja h⟩
 ·rintro⟨q,hq,h⟩;exact⟨q,hq,Zl h⟩
theorem Mi {α:Type} [Inhabited α] {pre rest:List (Str×α)} {n:Str} {h:α} (hn:n∉pre.map (·.1)):look (pre++(n,h)::rest) n=h:=by
 unfold look
 have:pre.find? (fun q=>decide (q.1=n))=none:=List.find?_eq_none.mpr fun q hq e=>hn (List.mem_map.mpr ⟨q,hq,ja e⟩)
 rw[List.find?_append,this]
 simp
theorem Ze {α:Type} {pre rest:List (Str×α)} {n:Str} {h v:α} (hn:n∉pre.map (·.1)) (hr:n∉rest.map (·.1)):put (pre++(n,h)::rest) n v=pre++(n,v)::rest:=by
 unfold put
 rw[zo (tB.mpr (by simp))]
 have fix:∀ l:List (Str×α),n∉l.map (·.1)->l.map (fun q=>if q.1=n then (q.1,v) else q)=l:=fun l hl=>by
  conv=>rhs;rw[<-List.map_id l]
  refine QQ fun q hq=>?_
  rw[zw fun e=>hl (List.mem_map.mpr ⟨q,hq,e⟩)]
  rfl
 rw[ZO,zk,fix pre hn,fix rest hr]
 simp
theorem zU {α:Type} [Inhabited α] {m:List (Str×α)} {x:Str} (h:x∈m.map (·.1)):(x,look m x)∈m:=by
 unfold look
 cases hf:m.find? fun q=>decide (q.1=x) with
 |none=>
  obtain⟨q,hq,rfl⟩:=List.mem_map.mp h
  have:=List.find?_eq_none.mp hf q hq
  simp at this
 |some q=>
  have h1:=List.mem_of_find?_eq_some hf
  have h2:q.1=x:=by simpa using List.find?_some hf
  show (x,q.2)∈m
  rw[<-h2];exact h1
theorem qK {α:Type} [Inhabited α] {m:List (Str×α)} (nd:(m.map (·.1)).Nodup) {q:Str×α} (h:q∈m):look m q.1=q.2:=by
 obtain⟨pre,rest,rfl⟩:=List.append_of_mem h
 have:q.1∉pre.map (·.1):=fun e=>by
  rw[ZO,zk,Kk] at nd
  exact nd.2.2 _ e _ (zh ..) rfl
 exact Mi this
def mn (one other:Str):Str:=if Ay other one=true then other else one
def jn (one other h:Str):Str:=if h=one\/h=other then mn one other else h
theorem G9 (a b:Str):mn a b=a\/mn a b=b:=by unfold mn;split;exact .inr rfl;exact .inl rfl
def jm (m:List (Str×Str)) (one other:Str):List (Str×Str):=m.map fun q=>(q.1,jn one other q.2)
theorem QF (m:List (Str×Str)) (one other:Str):(jm m one other).map (·.1)=m.map (·.1):=by unfold jm;rw[Zs];rfl
theorem Zf {m:List (Str×Str)} {one other x:Str} (nd:(m.map (·.1)).Nodup) (h:x∈m.map (·.1)):look (jm m one other) x=jn one other (look m x):=by
 have h1:=zU h
 have:(x,jn one other (look m x))∈jm m one other:=List.mem_map.mpr ⟨_,h1,rfl⟩
 exact qK (by rw[QF];exact nd) this
theorem join_loop (one other:Str):∀ (post pre:List (Str×Str)),((pre++post).map (·.1)).Nodup->(pre++post).length < 1000 →
  rZ (fun (heads:(List (Str×Str))) (name:Str)=>(fD one other (mn one other) heads name)) (fun (heads:(List (Str×Str))) (name:Str)=>some (oZ one other (mn one other) heads name)) (post.map (·.1)) (pre++post) ∧
  (post.map (·.1)).foldl (fun (heads:(List (Str×Str))) (name:Str)=>(fD one other (mn one other) heads name)) (pre++post)=pre++jm post one other
 |[],pre,_,_=>⟨trivial,rfl⟩
 |(n,h)::rest,pre,nd,hl=>by
  have hn:n∉pre.map (·.1):=fun e=>by
   rw[ZO,zk,Kk] at nd
   exact nd.2.2 _ e _ (zh ..) rfl
  have hr:n∉rest.map (·.1):=by
   rw[ZO,zk,Kk,List.nodup_cons] at nd
   exact nd.2.1.1
  have hh:has (pre++(n,h)::rest) n=true:=tB.mpr (by simp)
  have e:fD one other (mn one other) (pre++(n,h)::rest) n=pre++(n,jn one other h)::rest:=by
   unfold fD
   dsimp only
   rw[Mi hn]
   unfold jn
   by_cases q:h=one\/h=other
   ·rw[zo q,zo (by simpa using q),Ze hn hr]
   ·rw[zw q,zw (by simpa using q)]
  have ih:=join_loop one other rest (pre++[(n,jn one other h)]) (by simpa using nd) (by simpa using hl)
  rw[KA] at ih
  refine⟨⟨⟨⟨hh,fun _=>hh⟩,fun _=>hl⟩,?_⟩,?_⟩
  ·show rZ _ _ _ (fD one other (mn one other) (pre++(n,h)::rest) n)
   rw[e];exact ih.1
  ·rw[zk,z4,e]
   rw[show pre++(n,jn one other h)::rest=pre++([(n,jn one other h)]++rest) by simp,ih.2]
   unfold jm
   simp
theorem tD {m:List (Str×Str)} (one other:Str) (nd:(m.map (·.1)).Nodup) (hl:m.length < 1000):pN m one other/\bL m one other=jm m one other:=join_loop one other m [] nd hl
theorem Jz:∀ (qs m:List (Str×Str)),((m++qs).map (·.1)).Nodup->qs.foldl (fun m q=>put m q.1 q.2) m=m++qs
 |[],m,_=>by simp
 |q::qs,m,nd=>by
  rw[z4]
  have:put m q.1 q.2=m++[q]:=by
   unfold put
   rw[zw]
   intro e
   have e:=tB.mp e
   rw[ZO,zk,Kk] at nd
   exact nd.2.2 _ e _ (zh ..) rfl
  rw[this,Jz qs (m++[q]) (by simpa using nd)]
  simp
theorem pQ (names:List Str) (nd:names.Nodup) (hl:names.length < 1000):pK names/\aR names=names.map fun n=>(n,n):=by
 refine⟨⟨hl,by omega⟩,?_⟩
 unfold aR mkD
 rw[Jz _ [] (by rw[ku,Zs];show (names.map id).Nodup;rw[List.map_id];exact nd)]
 rfl
structure Hd (names:List Str) (m:List (Str×Str)):Prop where
 keys:m.map (·.1)=names
 nd:names.Nodup
 len:names.length < 1000
 mem:∀ x∈names,look m x∈names
 idem:∀ x∈names,look m (look m x)=look m x
theorem Hd.kn {names:List Str} {m:List (Str×Str)} (h:Hd names m):(m.map (·.1)).Nodup:=by rw[h.keys];exact h.nd
theorem Hd.ml {names:List Str} {m:List (Str×Str)} (h:Hd names m):m.length < 1000:=by rw[<-zi (f:=(·.1)),h.keys];exact h.len
theorem Hd.has {names:List Str} {m:List (Str×Str)} (h:Hd names m) {x:Str} (hx:x∈names):has m x=true:=tB.mpr (by rw[h.keys];exact hx)
theorem Hd.lone {names:List Str} (nd:names.Nodup) (hl:names.length < 1000):Hd names (names.map fun n=>(n,n)):=by
 have k:(names.map fun n=>(n,n)).map (·.1)=names:=by rw[Zs];show names.map id=names;rw[List.map_id]
 have lk:∀ x∈names,look (names.map fun n=>(n,n)) x=x:=fun x hx=>qK (q:=(x,x)) (by rw[k];exact nd) (List.mem_map.mpr ⟨x,hx,rfl⟩)
 exact⟨k,nd,hl,fun x hx=>by rw[lk x hx];exact hx,fun x hx=>by rw[lk x hx,lk x hx]⟩
theorem vD {names:List Str} (nd:names.Nodup) {x:Str} (hx:x∈names):look (names.map fun n=>(n,n)) x=x:=
 qK (q:=(x,x)) (by rw[Zs];show (names.map id).Nodup;rw[List.map_id];exact nd) (List.mem_map.mpr ⟨x,hx,rfl⟩)
theorem Hd.yL {names:List Str} {m:List (Str×Str)} (h:Hd names m) {one other x:Str} (hx:x∈names):look (jm m one other) x=jn one other (look m x):=Zf h.kn (by rw[h.keys];exact hx)
theorem Hd.join {names:List Str} {m:List (Str×Str)} (h:Hd names m) {a b:Str} (ha:a∈names) (hb:b∈names):Hd names (jm m (look m a) (look m b)):=by
 have m1:=h.mem a ha
 have m2:=h.mem b hb
 refine⟨(QF _ _ _).trans h.keys,h.nd,h.len,fun x hx=>?_,fun x hx=>?_⟩
 ·rw[h.yL hx]
  unfold jn
  split
  ·rcases G9 (look m a) (look m b) with e|e<;>rw[e]<;>assumption
  ·exact h.mem x hx
 ·have hx':jn (look m a) (look m b) (look m x)∈names:=by
   unfold jn
   split
   ·rcases G9 (look m a) (look m b) with e|e<;>rw[e]<;>assumption
   ·exact h.mem x hx
  rw[h.yL hx,h.yL hx']
  unfold jn
  by_cases q:look m x=look m a\/look m x=look m b
  ·rw[zo q]
   rcases G9 (look m a) (look m b) with e|e
   ·rw[e,h.idem a ha,zo (.inl rfl)]
   ·rw[e,h.idem b hb,zo (.inr rfl)]
  ·rw[zw q,h.idem x hx,zw q]
theorem Zg {m:List (Str×Str)} (a:Str):jm m a a=m:=by
 unfold jm
 conv=>rhs;rw[<-List.map_id m]
 refine QQ fun q _=>?_
 unfold jn mn
 have:Ay a a=false:=by simp[Ay]
 rw[this]
 by_cases e:q.2=a
 ·rw[zo (.inl e),zw (by decide),<-e];rfl
 ·rw[zw (by simp[e])];rfl
def Bj (names:List Str) (m:List (Str×Str)):List Str:=names.filter fun x=>decide (look m x=x)
theorem Aj {p q:Str->Bool} {c:Str}:∀ {l:List Str},l.Nodup->c∈l->p c=true->(∀ x∈l,q x=(p x&&decide (x≠c)))->(l.filter q).length+1=(l.filter p).length
 |[],_,h,_,_=>by cases h
 |x::l,nd,hc,hp,hq=>by
  have hx:=hq x (zh ..)
  obtain⟨nx,nd'⟩:=List.nodup_cons.mp nd
  rcases List.mem_cons.mp hc with rfl|hc
  ·have e:l.filter q=l.filter p:=Kx fun y hy=>by
    rw[hq y (zg _ hy)]
    have:y≠c:=fun e=>nx (e▸hy)
    simp[this]
   rw[j3,j3,hx,hp]
   simp[e]
  ·have ih:=Aj (p:=p) (q:=q) nd' hc hp fun y hy=>hq y (zg _ hy)
   have:x≠c:=fun e=>nx (e▸hc)
   rw[j3,j3,hx]
   cases p x<;>simp[this]<;>omega
theorem Hd.Wo {names:List Str} {m:List (Str×Str)} (h:Hd names m) {a b:Str} (ha:a∈names) (hb:b∈names) (hne:look m a≠look m b):(Bj names (jm m (look m a) (look m b))).length+1=(Bj names m).length:=by
 have m1:=h.mem a ha
 have m2:=h.mem b hb
 have i1:=h.idem a ha
 have i2:=h.idem b hb
 have key:∀ c,c∈names->look m c=c->(c=look m a/\mn (look m a) (look m b)=look m b\/c=look m b/\mn (look m a) (look m b)=look m a)->(Bj names (jm m (look m a) (look m b))).length+1=(Bj names m).length:=fun c hc ahf hcase=>by
  refine Aj h.nd hc (Zl ahf) fun x hx=>?_
  rw[h.yL hx]
  rw[kP]
  simp only[Zp,ZN]
  unfold jn
  by_cases q:look m x=look m a\/look m x=look m b
  ·rw[zo q]
   rcases hcase with⟨rfl,e⟩|⟨rfl,e⟩
   ·rw[e]
    constructor
    ·rintro rfl;exact⟨i2,fun z=>hne z.symm⟩
    ·rintro⟨e1,e2⟩
     rcases q with q|q
     ·exact absurd (e1.symm.trans q) e2
     ·exact q.symm.trans e1
   ·rw[e]
    constructor
    ·rintro rfl;exact⟨i1,hne⟩
    ·rintro⟨e1,e2⟩
     rcases q with q|q
     ·exact q.symm.trans e1
     ·exact absurd (e1.symm.trans q) e2
  ·rw[zw q]
   constructor
   ·intro e1
    refine⟨e1,fun e2=>q ?_⟩
    rcases hcase with⟨rfl,_⟩|⟨rfl,_⟩
    ·exact .inl (e1.trans e2)
    ·exact .inr (e1.trans e2)
   ·exact fun e1=>e1.1
 rcases G9 (look m a) (look m b) with e|e
 ·exact key (look m b) m2 i2 (.inr ⟨rfl,e⟩)
 ·exact key (look m a) m1 i1 (.inl ⟨rfl,e⟩)
theorem QG {names:List Str} {m:List (Str×Str)} (h:Hd names m):pP m/\(aW m).length=(Bj names m).length:=by
 have hl:=h.len
 refine⟨⟨by rw[h.keys];omega,fun x hx=>⟨tB.mpr hx,fun _=>⟨by rw[h.keys];omega,fun y hy=>tB.mpr hy⟩⟩⟩,?_⟩
 unfold aW Bj
 rw[zi,h.keys]
abbrev jV:=Int×Str×Str×Int
def Rs (names:List Str) (rs:List jV):Prop:=∀ r∈rs,r.2.1∈names/\r.2.2.1∈names
def jb (m:List (Str×Str)) (r:jV):List (Str×Str):=jm m (look m r.2.1) (look m r.2.2.1)
def hb (names:List Str) (rs:List jV):List (Str×Str):=rs.foldl jb (aR names)
theorem hd0 {names:List Str} (nd:names.Nodup) (hl:names.length < 1000):Hd names (aR names):=by rw[(pQ names nd hl).2];exact Hd.lone nd hl
theorem Zh (names:List Str) (rs:List jV) (r:jV):hb names (rs++[r])=jb (hb names rs) r:=Kt (l:=rs) (l':=[r])
theorem pig:∀ {xs ys:List Str},xs.Nodup->(∀ x∈xs,x∈ys)->xs.length<=ys.length
 |[],_,_,_=>qA _
 |x::xs,ys,nd,h=>by
  obtain⟨n1,n2⟩:=List.nodup_cons.mp nd
  have hx:=h x (zh ..)
  have:=pig (ys:=ys.erase x) n2 fun z hz=>(List.mem_erase_of_ne (fun e:z=x=>n1 (e▸hz))).mpr (h z (zg _ hz))
  rw[List.length_erase_of_mem hx] at this
  have:=List.length_pos_of_mem hx
  rw[qk]
  omega
structure PH (names:List Str) (P:List (List Str)) (m:List (Str×Str)):Prop where
 sub:∀ p∈P,∀ y∈p,y∈names
 cov:∀ x∈names,∃ p∈P,x∈p
 cls:∀ p∈P,∀ x∈p,∀ y∈names,(y∈p↔look m x=look m y)
 ne:∀ p∈P,p≠[]
 nd:∀ p∈P,p.Nodup
 uni:∀ p∈P,∀ q∈P,∀ x,x∈p->x∈q->p=q
 len:P.length<=names.length
 pn:P.Nodup
 srt:∀ p∈P,p.Pairwise rB
theorem ph0 {names:List Str} (nd:names.Nodup) (hl:names.length < 1000):PH names (names.map fun name:Str=>[name]) (aR names):=by
 rw[(pQ names nd hl).2]
 have inv:∀ p,p∈(names.map fun name:Str=>[name])->∃ n∈names,p=[n]:=fun p hp=>by
  obtain⟨n,hn,e⟩:=List.mem_map.mp hp
  exact⟨n,hn,e.symm⟩
 refine⟨fun p hp y hy=>?_,fun x hx=>⟨[x],List.mem_map.mpr ⟨x,hx,rfl⟩,List.mem_singleton.mpr rfl⟩,fun p hp x hx y hy=>?_,fun p hp e=>?_,fun p hp=>?_,fun p hp q hq x h1 h2=>?_,by rw[zi];exact zl _,?_,fun p hp=>?_⟩
 ·obtain⟨n,hn,rfl⟩:=inv p hp
  cases List.mem_singleton.mp hy;exact hn
 ·obtain⟨n,hn,rfl⟩:=inv p hp
  cases List.mem_singleton.mp hx
  rw[vD nd hn,vD nd hy,List.mem_singleton]
  exact⟨fun e=>e.symm,fun e=>e.symm⟩
 ·obtain⟨n,hn,rfl⟩:=inv p hp
  cases e
 ·obtain⟨n,hn,rfl⟩:=inv p hp
  exact List.nodup_cons.mpr ⟨fun z=>(by cases z),K2⟩
 ·obtain⟨n,hn,rfl⟩:=inv p hp
  obtain⟨n',hn',rfl⟩:=inv q hq
  cases List.mem_singleton.mp h1
  cases List.mem_singleton.mp h2
  rfl
 ·unfold List.Nodup
  rw[Kj]
  exact nd.imp fun h e=>h (by injection e)
 ·obtain⟨n,hn,rfl⟩:=inv p hp
  exact List.pairwise_singleton _ _
theorem pick {P:List (List Str)} {a:Str} (h:∃ p∈P,a∈p):In ((P.filter fun part:(List Str)=>(decide (a∈part))).map fun part:(List Str)=>part).length (0:Int)/\at' ((P.filter fun part:(List Str)=>(decide (a∈part))).map fun part:(List Str)=>part) (0:Int)∈P/\a∈at' ((P.filter fun part:(List Str)=>(decide (a∈part))).map fun part:(List Str)=>part) (0:Int):=by
 obtain⟨p,hp,ha⟩:=h
 have m:p∈((P.filter fun part:(List Str)=>(decide (a∈part))).map fun part:(List Str)=>part):=List.mem_map.mpr ⟨p,List.mem_filter.mpr ⟨hp,Zl ha⟩,rfl⟩
 have i:In ((P.filter fun part:(List Str)=>(decide (a∈part))).map fun part:(List Str)=>part).length (0:Int):=IV (k:=0) (List.length_pos_of_mem m)
 refine⟨i,?_⟩
 obtain⟨q,hq,e⟩:=List.mem_map.mp (qR i)
 rw[<-e]
 exact⟨(List.mem_filter.mp hq).1,ja (List.mem_filter.mp hq).2⟩
theorem comb {names:List Str} {P:List (List Str)} {m:List (Str×Str)} (h:Hd names m) (p:PH names P m) {one other:List Str} {a b:Str} (h1:one∈P) (h2:other∈P) (ha:a∈one) (hb:b∈other) (hne:one≠other) :
  (one++other).length<=names.length/\PH names (((P.filter fun part:(List Str)=>(!tX part [one,other])).map fun part:(List Str)=>part)++[(ni (one++other))]) (jm m (look m a) (look m b)):=by
 have an:=p.sub _ h1 _ ha
 have bn:=p.sub _ h2 _ hb
 have ndq:(one++other).Nodup:=List.nodup_append.mpr ⟨p.nd _ h1,p.nd _ h2,fun x hx y hy e=>hne (p.uni _ h1 _ h2 x hx (e▸hy))⟩
 have acf:∀ x∈one++other,x∈names:=fun x hx=>(List.mem_append.mp hx).elim (p.sub _ h1 _) (p.sub _ h2 _)
 have c1:∀ y∈names,(y∈one↔look m y=look m a):=fun y hy=>(p.cls _ h1 _ ha y hy).trans ⟨Eq.symm,Eq.symm⟩
 have c2:∀ y∈names,(y∈other↔look m y=look m b):=fun y hy=>(p.cls _ h2 _ hb y hy).trans ⟨Eq.symm,Eq.symm⟩
 have old:∀ q,q∈((P.filter fun part:(List Str)=>(!tX part [one,other])).map fun part:(List Str)=>part)↔q∈P/\q≠one/\q≠other:=fun q=>by
  rw[Qr,JE,QR,<-Bool.not_eq_true,rJ]
  simp
 have mq:∀ y,y∈ni (one++other)↔y∈one\/y∈other:=fun y=>(jq _).mem_iff.trans List.mem_append
 have far:∀ q,q∈P->q≠one->q≠other->∀ x∈q,look m x≠look m a/\look m x≠look m b:=fun q hq n1 n2 x hx=>by
  have xn:=p.sub _ hq _ hx
  exact⟨fun e=>n1 (p.uni _ hq _ h1 x hx ((c1 x xn).mpr e)),fun e=>n2 (p.uni _ hq _ h2 x hx ((c2 x xn).mpr e))⟩
 refine⟨pig ndq acf,⟨fun q hq y hy=>?_,fun x hx=>?_,fun q hq x hx y hy=>?_,fun q hq=>?_,fun q hq=>?_,fun q hq q' hq' x hx hx'=>?_,?_,?_,fun q hq=>?_⟩⟩
 ·rcases List.mem_append.mp hq with hq|hq
  ·exact p.sub _ ((old q).mp hq).1 _ hy
  ·cases List.mem_singleton.mp hq
   exact acf y ((jq _).mem_iff.mp hy)
 ·obtain⟨q,hq,hx'⟩:=p.cov x hx
  by_cases e:q=one\/q=other
  ·refine⟨_,List.mem_append.mpr (.inr (List.mem_singleton.mpr rfl)),(mq x).mpr ?_⟩
   rcases e with rfl|rfl
   ·exact .inl hx'
   ·exact .inr hx'
  ·exact⟨q,List.mem_append.mpr (.inl ((old q).mpr ⟨hq,fun z=>e (.inl z),fun z=>e (.inr z)⟩)),hx'⟩
 ·rcases List.mem_append.mp hq with hq|hq
  ·obtain⟨hq,n1,n2⟩:=(old q).mp hq
   have xn:=p.sub _ hq _ hx
   have f:=far q hq n1 n2 x hx
   rw[h.yL xn,h.yL hy,p.cls _ hq _ hx y hy]
   unfold jn
   rw[zw (fun z=>z.elim f.1 f.2)]
   by_cases e:look m y=look m a\/look m y=look m b
   ·rw[zo e]
    constructor
    ·intro z;rw[z] at f;exact absurd e (fun w=>w.elim f.1 f.2)
    ·intro z
     rcases G9 (look m a) (look m b) with w|w<;>rw[w] at z
     ·exact absurd z f.1
     ·exact absurd z f.2
   ·rw[zw e]
  ·cases List.mem_singleton.mp hq
   have xq:=(mq x).mp hx
   have xn:=acf x (List.mem_append.mpr xq)
   rw[mq,h.yL xn,h.yL hy,c1 y hy,c2 y hy]
   unfold jn
   rw[zo (xq.elim (fun z=>.inl ((c1 x xn).mp z)) (fun z=>.inr ((c2 x xn).mp z)))]
   by_cases e:look m y=look m a\/look m y=look m b
   ·rw[zo e];exact⟨fun _=>rfl,fun _=>e⟩
   ·rw[zw e]
    refine⟨fun z=>absurd z e,fun z=>?_⟩
    rcases G9 (look m a) (look m b) with w|w<;>rw[w] at z
    ·exact .inl z.symm
    ·exact .inr z.symm
 ·rcases List.mem_append.mp hq with hq|hq
  ·exact p.ne _ ((old q).mp hq).1
  ·cases List.mem_singleton.mp hq
   intro e
   have:=(mq a).mpr (.inl ha)
   rw[e] at this
   cases this
 ·rcases List.mem_append.mp hq with hq|hq
  ·exact p.nd _ ((old q).mp hq).1
  ·cases List.mem_singleton.mp hq
   exact (jq _).nodup_iff.mpr ndq
 ·have key:∀ q,q∈P->q≠one->q≠other->x∈q->x∈ni (one++other)->False:=fun q hq n1 n2 e1 e2=>
   ((mq x).mp e2).elim (fun z=>n1 (p.uni _ hq _ h1 x e1 z)) (fun z=>n2 (p.uni _ hq _ h2 x e1 z))
  rcases List.mem_append.mp hq with hq|hq<;>rcases List.mem_append.mp hq' with hq'|hq'
  ·exact p.uni _ ((old q).mp hq).1 _ ((old q').mp hq').1 x hx hx'
  ·cases List.mem_singleton.mp hq'
   obtain⟨z,n1,n2⟩:=(old q).mp hq
   exact (key q z n1 n2 hx hx').elim
  ·cases List.mem_singleton.mp hq
   obtain⟨z,n1,n2⟩:=(old q').mp hq'
   exact (key q' z n1 n2 hx' hx).elim
  ·exact (List.mem_singleton.mp hq).trans (List.mem_singleton.mp hq').symm
 ·rw[z0,Qr]
  have:(P.filter fun part:(List Str)=>(!tX part [one,other])).length < P.length:=by
   rw[List.length_filter_lt_length_iff_exists]
   refine⟨one,h1,?_⟩
   rw[QR,Bool.not_eq_false]
   exact rJ.mpr (zh ..)
  have:=p.len
  show _+1<=_
  omega
 ·rw[Kk]
  refine⟨by rw[Qr];exact p.pn.filter _,List.nodup_cons.mpr ⟨fun z=>(by cases z),K2⟩,fun x hx y hy e=>?_⟩
  cases List.mem_singleton.mp hy
  obtain⟨z,n1,n2⟩:=(old x).mp hx
  have:a∈x:=by rw[e];exact (mq a).mpr (.inl ha)
  exact n1 (p.uni _ z _ h1 a this ha)
 ·rcases List.mem_append.mp hq with hq|hq
  ·exact p.srt _ ((old q).mp hq).1
  ·cases List.mem_singleton.mp hq
   exact wL _
theorem Ox {names:List Str} {P:List (List Str)} {m:List (Str×Str)} (h:Hd names m) (hl:names.length < 64) (p:PH names P m) {r:jV} (ha:r.2.1∈names) (hb:r.2.2.1∈names) :
  kO P r/\PH names (eX P r) (jm m (look m r.2.1) (look m r.2.2.1)):=by
 obtain⟨i1,o1,a1⟩:=pick (p.cov _ ha)
 obtain⟨i2,o2,a2⟩:=pick (p.cov _ hb)
 have pl:=p.len
 unfold kO eX
 dsimp only
 generalize at' ((P.filter fun part:(List Str)=>(decide (r.2.1∈part))).map fun part:(List Str)=>part) (0:Int)=one at *
 generalize at' ((P.filter fun part:(List Str)=>(decide (r.2.2.1∈part))).map fun part:(List Str)=>part) (0:Int)=other at *
 by_cases e:one=other
 ·subst e
  refine⟨⟨⟨by omega,i1⟩,⟨by omega,i2⟩,fun z=>by simp at z⟩,?_⟩
  rw[zw (by simp),(p.cls _ o1 _ a1 _ hb).mp a2,Zg]
  exact p
 ·obtain⟨c1,c2⟩:=comb h p o1 o2 a1 a2 e
  rw[z0] at c1
  refine⟨⟨⟨by omega,i1⟩,⟨by omega,i2⟩,fun _=>⟨⟨by omega,?_,?_⟩,?_⟩⟩,?_⟩
  ·show _<=1000000
   omega
  ·rw[z0];omega
  ·have:=c2.len
   rw[z0] at this
   show _<=1000000
   omega
  ·rw[zo (by simp[e])]
   exact c2
theorem DQ {names:List Str} (hl:names.length < 64):∀ (rs:List jV) (P:List (List Str)) (m:List (Str×Str)),Rs names rs->Hd names m->PH names P m →
  rZ (fun (found:(List (List Str))) (q1:jV)=>(eX found q1)) (fun (found:(List (List Str))) (q1:jV)=>some (kO found q1)) rs P/\PH names (rs.foldl (fun (found:(List (List Str))) (q1:jV)=>(eX found q1)) P) (rs.foldl jb m)
 |[],_,_,_,_,p=>⟨trivial,p⟩
 |r::rs,P,m,hr,h,p=>by
  obtain⟨ha,hb⟩:=hr r (zh ..)
  obtain⟨d,q⟩:=Ox h hl p ha hb
  have ih:=DQ hl rs (eX P r) (jb m r) (fun x hx=>hr x (zg _ hx)) (h.join ha hb) q
  exact⟨⟨d,ih.1⟩,ih.2⟩
theorem Wq {names:List Str} (nd:names.Nodup) (hl:names.length < 64) {rs:List jV} (hr:Rs names rs):qJ names rs/\∃ P,oK names rs=su P/\PH names P (hb names rs):=by
 obtain⟨d,p⟩:=DQ hl rs _ _ hr (hd0 nd (by omega)) (ph0 nd (by omega))
 have pl:=p.len
 refine⟨⟨by omega,d,by show List.length _<=100000;exact z3 pl (by omega),by show (List.map _ _).length < 64;rw[zi];exact ye pl hl,fun x hx=>?_⟩,_,congrArg su (Qr _),p⟩
 obtain⟨y,hy,rfl⟩:=List.mem_map.mp hx
 have:=p.ne _ hy
 cases y
 ·exact absurd rfl this
 ·rfl
theorem DR (a:Str):rB a a:=by unfold rB;rw[ltCps_eq];simp
theorem Hf {a b c:Str} (h:rB a b) (h':rB b c):rB a c:=by
 unfold rB at *
 rw[ltCps_eq] at *
 simp only[Q4] at *
 exact List.le_trans (α:=Nat) h h'
theorem aae (a b:Str):rB (mn a b) a/\rB (mn a b) b:=by
 unfold mn
 by_cases h:Ay b a=true
 ·rw[zo h]
  exact⟨((lt_iff b a).mp h).1,DR b⟩
 ·rw[zw h]
  refine⟨DR a,?_⟩
  have h:Ay b a=false:=by simpa using h
  unfold Ay at h
  unfold rB
  rw[ltCps_eq]
  exact h
def Lst (names:List Str) (m:List (Str×Str)):Prop:=∀ x∈names,rB (look m x) x
theorem ahg {names:List Str} (nd:names.Nodup) (hl:names.length < 1000):Lst names (aR names):=fun x hx=>by
 rw[(pQ names nd hl).2,vD nd hx];exact DR x
theorem Lst.jb {names:List Str} {m:List (Str×Str)} (l:Lst names m) (h:Hd names m) (r:jV):Lst names (jb m r):=fun x hx=>by
 show rB (look (jm m (look m r.2.1) (look m r.2.2.1)) x) x
 rw[h.yL hx]
 unfold jn
 split
 ·rename_i e
  rcases e with e|e
  ·exact Hf (aae _ _).1 (e▸l x hx)
  ·exact Hf (aae _ _).2 (e▸l x hx)
 ·exact l x hx
theorem JB {α:Type} [DecidableEq α]:∀ {xs ys:List α},xs.Nodup->ys.Nodup->(∀ x,x∈xs↔x∈ys)->xs.Perm ys
 |[],ys,_,_,h=>by
  cases ys with
  |nil=>exact .refl _
  |cons y ys=>exact absurd ((h y).mpr (zh ..)) (by simp)
 |x::xs,ys,nx,ny,h=>by
  obtain⟨n1,n2⟩:=List.nodup_cons.mp nx
  have hx:=(h x).mp (zh ..)
  refine (List.Perm.cons x (JB (ys:=ys.erase x) n2 (ny.erase x) fun z=>?_)).trans (List.perm_cons_erase hx).symm
  constructor
  ·intro hz
   have:z≠x:=fun e=>n1 (e▸hz)
   exact (List.mem_erase_of_ne this).mpr ((h z).mp (zg _ hz))
  ·intro hz
   have hne:z≠x:=fun e=>by subst e;exact (List.Nodup.not_mem_erase ny) hz
   have:=(h z).mpr (List.mem_of_mem_erase hz)
   rcases List.mem_cons.mp this with e|e
   ·exact absurd e hne
   ·exact e
theorem Zi {a b:Str} {xs ys:List Str} (h:rB a b) (hne:a≠b):Lk (a::xs) (b::ys)=true:=by
 unfold Lk S1.uH
 show (!S1.oM (Sum.inr b::kT ys) (Sum.inr a::kT xs))=true
 unfold S1.oM
 rw[zw (fun e=>hne (Sum.inr.inj e).symm)]
 unfold S1.PN
 unfold rB at h
 rw[ltCps_eq] at h
 simpa using h
theorem Zj {names:List Str} (so:names.Pairwise rB) {m:List (Str×Str)} (h:Hd names m) (l:Lst names m) {P:List (List Str)} (p:PH names P m):aW m=su P:=by
 have ks:=h.keys
 have under:∀ q∈P,∀ x∈q,aX m (look m x)=q:=fun q hq x hx=>by
  unfold aX
  rw[Qr,ks]
  refine HX (JB (h.nd.filter _) (p.nd _ hq) fun z=>?_) (so.filter _) (p.srt _ hq)
  rw[JE,Zp]
  constructor
  ·rintro⟨hz,e⟩;exact (p.cls q hq x hx z hz).mpr e.symm
  ·intro hz
   have zn:=p.sub _ hq _ hz
   exact⟨zn,((p.cls q hq x hx z zn).mp hz).symm⟩
 have first:∀ n∈names,look m n=n->∃ t,aX m n=n::t:=fun n hn e=>by
  have hmem:n∈aX m n:=by
   unfold aX
   rw[Qr,ks,JE,Zp]
   exact⟨hn,e⟩
  have hso:(aX m n).Pairwise rB:=by
   unfold aX
   rw[Qr,ks]
   exact so.filter _
  cases hc:aX m n with
  |nil=>rw[hc] at hmem;cases hmem
  |cons y t=>
   have hy:y∈aX m n:=by rw[hc];exact zh ..
   unfold aX at hy
   rw[Qr,ks,JE,Zp] at hy
   have h1:rB n y:=by have:=l y hy.1;rw[hy.2] at this;exact this
   rw[hc] at hmem hso
   rcases List.mem_cons.mp hmem with e2|e2
   ·exact⟨t,by rw[e2]⟩
   ·have:=xW h1 ((List.pairwise_cons.mp hso).1 n e2)
    exact⟨t,by rw[this]⟩
 refine Sw (JB ?_ p.pn fun q=>?_) ?_
 ·unfold aW List.Nodup
  rw[ks,Kj]
  refine kc ?_ (h.nd.filter _)
  intro a b ha hb hne e
  rw[JE,Zp] at ha hb
  obtain⟨t1,e1⟩:=first a ha.1 ha.2
  obtain⟨t2,e2⟩:=first b hb.1 hb.2
  rw[e1,e2] at e
  exact hne (by injection e)
 ·unfold aW
  rw[ks,Ki]
  constructor
  ·rintro⟨n,hn,rfl⟩
   rw[JE,Zp] at hn
   obtain⟨q,hq,hx⟩:=p.cov n hn.1
   have:=under q hq n hx
   rw[hn.2] at this
   rw[this];exact hq
  ·intro hq
   cases hc:q with
   |nil=>exact absurd hc (p.ne _ hq)
   |cons x t=>
    have hx:x∈q:=by rw[hc];exact zh ..
    have xn:=p.sub _ hq _ hx
    refine⟨look m x,List.mem_filter.mpr ⟨h.mem x xn,Zl (h.idem x xn)⟩,?_⟩
    rw[under q hq x hx,hc]
 ·unfold aW
  rw[ks,Kj]
  have both:(names.filter fun name:Str=>decide (look m name=name)).Pairwise fun a b=>rB a b/\a≠b:=(so.filter _).and (h.nd.filter _)
  refine kc ?_ both
  intro a b ha hb hab
  rw[JE,Zp] at ha hb
  obtain⟨t1,e1⟩:=first a ha.1 ha.2
  obtain⟨t2,e2⟩:=first b hb.1 hb.2
  rw[e1,e2]
  exact Zi hab.1 hab.2
abbrev Bar:=Str×Str×Int
abbrev JS:=(List (Str×Str))×(List jV)×(List (jV×Option Bar))
abbrev qL (bars:List Bar):JS->jV->JS:=fun s2 reason=>cN bars s2 reason
def cT (bars:List Bar) (names:List Str) (rs:List jV):JS:=rs.foldl (qL bars) (aR names,[],[])
theorem eY (names:List Str) (rs:List jV) (bars:List Bar):aO (names,rs,bars)=(aW (cT bars names rs).1,(cT bars names rs).2.1,(cT bars names rs).2.2):=rfl
theorem Hg (bars:List Bar) (s:JS) (r:jV):(qL bars s r=s)\/(∃ m',(∀ b,qL bars (s.1,s.2.1,b) r=(m',s.2.1++[r],b))/\qL bars s r=(m',s.2.1++[r],s.2.2))\/∃ q,(∀ b,qL bars (s.1,s.2.1,b) r=(s.1,s.2.1,b++[(r,q)]))/\qL bars s r=(s.1,s.2.1,s.2.2++[(r,q)]):=by
 obtain⟨m,k,b⟩:=s
 unfold qL cN
 dsimp only
 by_cases e:look m r.2.1=look m r.2.2.1
 ·left;simp[e]
 ·right
  by_cases q:(dY bars m (look m r.2.1) (look m r.2.2.1)).isNone=true
  ·left;exact⟨bL m (look m r.2.1) (look m r.2.2.1),fun b=>by simp[e,q],by simp[e,q]⟩
  ·right;exact⟨dY bars m (look m r.2.1) (look m r.2.2.1),fun b=>by simp[e,q],by simp[e,q]⟩
theorem nM (bars:List Bar):∀ (post:List jV) (s:JS),∃ K B,(post.foldl (qL bars) s).2.1=s.2.1++K/\(post.foldl (qL bars) s).2.2=s.2.2++B/\(∀ r∈K,r∈post)/\(∀ q∈B,q.1∈post)/\(post.Nodup->∀ q∈B,q.1∉K)
 |[],s=>⟨[],[],by simp,by simp,fun r h=>(by cases h),fun r h=>(by cases h),fun _ r h=>(by cases h)⟩
 |r::post,s=>by
  obtain⟨K,B,h1,h2,h3,h4,h5⟩:=nM bars post (qL bars s r)
  rw[z4]
  rcases Hg bars s r with e|⟨m',_,e⟩|⟨q,_,e⟩
  ·rw[e] at h1 h2 ⊢
   exact⟨K,B,h1,h2,fun x hx=>zg _ (h3 x hx),fun x hx=>zg _ (h4 x hx),fun nd=>h5 (List.nodup_cons.mp nd).2⟩
  ·rw[e] at h1 h2 ⊢
   refine⟨r::K,B,by rw[h1];simp,h2,fun x hx=>?_,fun x hx=>zg _ (h4 x hx),fun nd x hx hm=>?_⟩
   ·rcases List.mem_cons.mp hx with rfl|hx
    ·exact zh ..
    ·exact zg _ (h3 x hx)
   ·obtain⟨n1,n2⟩:=List.nodup_cons.mp nd
    rcases List.mem_cons.mp hm with z|z
    ·exact n1 (z▸h4 x hx)
    ·exact h5 n2 x hx z
  ·rw[e] at h1 h2 ⊢
   refine⟨K,(r,q)::B,h1,by rw[h2];simp,fun x hx=>zg _ (h3 x hx),fun x hx=>?_,fun nd x hx hm=>?_⟩
   ·rcases List.mem_cons.mp hx with rfl|hx
    ·exact zh ..
    ·exact zg _ (h4 x hx)
   ·obtain⟨n1,n2⟩:=List.nodup_cons.mp nd
    rcases List.mem_cons.mp hx with rfl|hx
    ·exact n1 (h3 _ hm)
    ·exact h5 n2 x hx hm
theorem DW {α:Type} {p:α->Bool} {xs ys:List α} (h1:∀ x∈xs,p x=true) (h2:∀ y∈ys,p y=false):(xs++ys).filter p=xs:=by
 rw[km,List.filter_eq_self.mpr h1,List.filter_eq_nil_iff.mpr (fun y hy=>by rw[h2 y hy];exact z5),jS]
theorem DX (bars:List Bar) (names:List Str) {pre post:List jV} (dis:∀ r∈post,r∉pre):(cT bars names (pre++post)).2.1.filter (fun r=>tX r pre)=(cT bars names pre).2.1/\(cT bars names (pre++post)).2.2.filter (fun q=>tX q.1 pre)=(cT bars names pre).2.2:=by
 obtain⟨K0,B0,a1,a2,a3,a4,_⟩:=nM bars pre (aR names,[],[])
 obtain⟨K,B,h1,h2,h3,h4,_⟩:=nM bars post (cT bars names pre)
 have e:cT bars names (pre++post)=post.foldl (qL bars) (cT bars names pre):=Kt ..
 have k0:(cT bars names pre).2.1=K0:=a1
 have b0:(cT bars names pre).2.2=B0:=a2
 rw[e,h1,h2]
 constructor
 ·refine DW (fun x hx=>rJ.mpr (a3 x (k0▸hx))) fun y hy=>?_
  cases hq:tX y pre with
  |false=>rfl
  |true=>exact absurd (rJ.mp hq) (dis y (h3 y hy))
 ·refine DW (fun x hx=>rJ.mpr (a4 x (b0▸hx))) fun y hy=>?_
  cases hq:tX y.1 pre with
  |false=>rfl
  |true=>exact absurd (rJ.mp hq) (dis y.1 (h4 y hy))
theorem zV {α σ τ:Type} {step:σ->α->Lg σ τ} {P:σ->α->Option Prop}:∀ (xs:List α) (s:σ),(∀ s x,x∈xs->hold (P s x))->GX step P xs s
 |[],_,_=>trivial
 |x::xs,s,h=>by
  refine⟨h s x (zh ..),?_⟩
  cases step s x with
  |nx s'=>exact zV xs s' fun s y hy=>h s y (zg _ hy)
  |ct s'=>exact zV xs s' fun s y hy=>h s y (zg _ hy)
  |bk s'=>trivial
  |rt s'=>trivial
theorem acg {names:List Str} {m:List (Str×Str)} (h:Hd names m) {bars:List Bar} (hbs:∀ b∈bars,b.1∈names/\b.2.1∈names) (one other:Str):oh bars m one other:=by
 refine⟨zV _ _ fun s x hx=>?_,?_⟩
 ·have h1:=h.has (hbs x hx).1
  have h2:=h.has (hbs x hx).2
  exact⟨⟨h1,fun _=>h2⟩,fun _=>⟨h1,fun _=>h2⟩⟩
 ·unfold Iv
  split<;>trivial
structure JI (names:List Str) (n:Nat) (s:JS):Prop where
 h:Hd names s.1
 l:Lst names s.1
 e:s.1=hb names s.2.1
 rs:Rs names s.2.1
 kl:s.2.1.length<=n
 bl:s.2.2.length<=n
theorem kW {names:List Str} (nd:names.Nodup) (hl:names.length < 64) {bars:List Bar} (hbs:∀ b∈bars,b.1∈names/\b.2.1∈names) {rs:List jV} (hr:Rs names rs) (rl:rs.length < 64):cG (names,rs,bars)/\JI names rs.length (cT bars names rs):=by
 have:=yt (P:=fun s2 reason=>some (o7 bars s2 reason)) (step:=qL bars) (fun k s=>JI names k s) rs 0 (aR names,[],[]) ⟨hd0 nd (by omega),ahg nd (by omega),rfl,fun r h=>(by cases h),zl _,zl _⟩ fun k r s hk i=>by
  obtain⟨m,kp,ba⟩:=s
  have hm:r∈rs:=ZY hk
  have hkl:k < rs.length:=(List.getElem?_eq_some_iff.mp hk).1
  obtain⟨ha,hb'⟩:=hr r hm
  rw[JP] at i
  have ih:Hd names m:=i.h
  have ikl:kp.length<=k:=i.kl
  have ibl:ba.length<=k:=i.bl
  have j:=tD (look m r.2.1) (look m r.2.2.1) ih.kn ih.ml
  refine⟨⟨ih.has ha,ih.has hb',fun _=>⟨acg ih hbs _ _,fun _=>⟨j.1,?_⟩,fun _=>?_⟩⟩,?_⟩
  ·show kp.length<=1000000
   omega
  ·show ba.length<=1000000
   omega
  rw[JP]
  by_cases e:look m r.2.1=look m r.2.2.1
  ·have:qL bars (m,kp,ba) r=(m,kp,ba):=by unfold qL cN;simp[e]
   rw[this]
   exact⟨ih,i.l,i.e,i.rs,by show kp.length<=_;omega,by show ba.length<=_;omega⟩
  ·by_cases q:(dY bars m (look m r.2.1) (look m r.2.2.1)).isNone=true
   ·have:qL bars (m,kp,ba) r=(jb m r,kp++[r],ba):=by unfold qL cN;simp only[j.2];simp[e,q];rfl
    rw[this]
    refine⟨ih.join ha hb',i.l.jb ih r,?_,?_,by rw[z0];show kp.length+1<=_;omega,by show ba.length<=_;omega⟩
    ·show jb m r=hb names (kp++[r])
     rw[Zh,<-i.e]
    ·intro x hx
     rcases List.mem_append.mp hx with hx|hx
     ·exact i.rs x hx
     ·cases List.mem_singleton.mp hx;exact⟨ha,hb'⟩
   ·have:qL bars (m,kp,ba) r=(m,kp,ba++[(r,dY bars m (look m r.2.1) (look m r.2.2.1))]):=by unfold qL cN;simp[e,q]
    rw[this]
    exact⟨ih,i.l,i.e,i.rs,by show kp.length<=_;omega,by rw[z0];show ba.length+1<=_;omega⟩
 rw[JP] at this
 exact⟨⟨(pQ names nd (by omega)).1,this.1,(QG this.2.h).1⟩,this.2⟩
theorem foldl_size {α:Type} (c:Array α):∀ (n:Nat) (a:Array α),((List.replicate n c).foldl (·++·) a).size=a.size+n * c.size
 |0,a=>by simp
 |n+1,a=>by
  rw[List.replicate_succ,z4,foldl_size c n,KB,Nat.succ_mul]
  omega
theorem HD (x:Str) (k:Int):(Txt.mul x k).length<=x.length * k.toNat:=by
 unfold Txt.mul
 split
 ·exact qA _
 split
 ·rename_i h0 h
  simp only[Bool.or_eq_true,beq_iff_eq] at h
  rcases h with h|h
  ·subst h;simp
  ·rw[h];simp
 ·show (Array.size _)<=_
  rw[foldl_size]
  have:x.cps.size=x.length:=rfl
  rw[this,Nat.mul_comm]
  simp
def LT:Str:=("abcdefghijklmnopqrstuvwxyz" : Str)
theorem Oz:LT.length=26:=by decide +kernel
theorem o9 {n:Nat} (h:n<=1000):Eh n:=z3 h (by decide)
theorem OD (xs:List Int) (hl:6<=xs.length) (stem:Str) (hs:stem.length<=5) (at_:Int) (k:Nat) (found:List Str) (hk:k < 200) (h:found.length=k/\∀ n∈found,n.length<=12):mV xs LT stem at_ found k/\(gQ xs LT stem at_ found k).length=k+1/\∀ n∈gQ xs LT stem at_ found k,n.length<=12:=by
 have s1:=z3 (slice_le stem none (some at_)) hs
 have s2:=z3 (slice_le stem (some at_) none) hs
 have c1:=Dr LT ((↑k+at' xs 2) % 15)
 have m8:=oG (k:Int) (m:=8) (by decide)
 have hd:(0:Int)<=(k:Int) / 8/\(k:Int) / 8 < 26:=by omega
 refine⟨⟨⟨in_of (by decide) (by omega),sy (by decide) (by rw[Oz];decide)⟩,⟨o9 (by omega),o9 (by rw[uN];omega)⟩,⟨in_of (by decide) (by omega),fun _=>⟨in_of hd.1 (by rw[Oz];exact hd.2),by omega,by omega,by rw[Dr];decide⟩⟩,o9 (by omega)⟩,?_⟩
 have key:∀ n:Str,n.length<=12->(found++[n]).length=k+1/\∀ m∈found++[n],m.length<=12:=fun n hn=>⟨by simp[h.1],fun m hm=>by
  rcases List.mem_append.mp hm with hm|hm
  ·exact h.2 m hm
  ·cases List.mem_singleton.mp hm;exact hn⟩
 unfold gQ
 dsimp only
 split
 ·exact key _ (by have:=HD (ch LT ((k:Int) / 8)) (1+(k:Int) % 8);rw[Dr] at this;exact z3 this (by omega))
 ·exact key _ (by rw[uN,uN,c1];omega)
theorem ach (xs:List Str) (n:Nat) (h:∀ x∈xs,x.length<=n):(Txt.join "" xs).length<=xs.length * n:=by
 have h1:=StrLaws.join_length_le ("" : Str) xs
 rw[<-StrLaws.glued_eq_join] at h1
 have h2:(xs.map (·.length)).sum<=xs.length * n:=by
  clear h1
  induction xs with
  |nil=>simp
  |cons a l ih=>
   have:=ih fun x hx=>h x (zg _ hx)
   have:=h a (zh ..)
   simp only[zk,List.sum_cons,qk,Nat.succ_mul]
   omega
 have h3:("" : Str).length=0:=rfl
 rw[h3,Nat.mul_zero] at h1
 exact z3 h1 (by omega)
theorem ahh (xs:List Str) (h:∀ x∈xs,x.length=1):(xs.map (·.length)).sum=xs.length:=by
 induction xs with
 |nil=>rfl
 |cons a l ih=>
  have:=ih fun x hx=>h x (zg _ hx)
  have:=h a (zh ..)
  simp only[zk,List.sum_cons,qk]
  omega
theorem Wr (xs:List Int) (hl:6<=xs.length) (many:Int) (h0:0<=many) (h1:many<=200):qI xs many/\(cg xs many).length=many.toNat/\∀ n∈cg xs many,n.length<=12:=by
 have m6:=oG (at' xs 0) (m:=6) (by decide)
 have st:∀ stem:Str,stem.length<=5->qg xs many LT stem/\(mX xs many LT stem).length=many.toNat/\∀ n∈mX xs many LT stem,n.length<=12:=fun stem hs=>by
  have:=yu (P:=fun f k=>some (mV xs LT stem (at' xs 1 % ((stem.length:Int)+1)) f k)) (step:=fun f k=>gQ xs LT stem (at' xs 1 % ((stem.length:Int)+1)) f k) (fun k s=>s.length=k/\∀ n∈s,n.length<=12) many.toNat [] ⟨rfl,fun n h=>(by cases h)⟩ fun k s hk h=>OD xs hl stem hs _ k s (by omega) h
  exact⟨⟨⟨in_of (by decide) (by omega),by omega⟩,G4 h0 (by omega),this.1⟩,this.2⟩
 have c1:∀ x∈((rng 0 (at' xs 0 % 6).toNat).map fun k_:Int=>ch LT (at' xs k_ / 40 % 26)),x.length=1:=fun x hx=>by
  obtain⟨k,_,rfl⟩:=List.mem_map.mp hx
  exact Dr _ _
 have:=st (Txt.join "" ((rng 0 (at' xs 0 % 6).toNat).map fun k_:Int=>ch LT (at' xs k_ / 40 % 26))) (by
  have:=ach _ 1 fun x hx=>Nat.le_of_eq (c1 x hx)
  rw[zi,mK] at this
  omega)
 refine⟨⟨⟨⟨⟨⟨in_of (by decide) (by omega),G4 m6.1 (by omega)⟩,by rw[mK];omega⟩,fun k hk=>?_⟩,?_⟩,this.1⟩,this.2⟩
 ·obtain⟨j,hj,rfl⟩:=IW hk
  exact⟨in_of (by omega) (by omega),sy (by decide) (by rw[show ("abcdefghijklmnopqrstuvwxyz" : Str)=LT from rfl,Oz];decide)⟩
 ·rw[show ("abcdefghijklmnopqrstuvwxyz" : Str)=LT from rfl,ahh _ c1,zi,mK]
  have h3:("" : Str).length=0:=rfl
  rw[h3]
  omega
def nmF (xs:List Int) (stem:Str) (at_:Int) (k:Int):Str:=if (decide (((at' xs (3:Int)) % (3:Int))=(1:Int)))=true then (Txt.mul (ch LT (k / (8:Int))) ((1:Int)+(k % (8:Int)))) else (((Txt.slice stem none (some at_))++(ch LT ((k+(at' xs (2:Int))) % (15:Int))))++(Txt.slice stem (some at_) none))
theorem DY {α β:Type} (g:β->α):∀ (l:List β) (f:List α),l.foldl (fun f k=>f++[g k]) f=f++l.map g
 |[],f=>by simp
 |k::l,f=>by rw[z4,DY g l];simp
theorem Ea (xs:List Int) (many:Int):∃ stem at_,cg xs many=(rng 0 many.toNat).map (nmF xs stem at_):=by
 refine⟨_,_,(DY (nmF xs _ _) _ []).trans (ku _)⟩
theorem OJ {a b m m':Str} (h:(a++m)++b=(a++m')++b):m=m':=by
 have h:=congrArg (fun s:Str=>s.cps.toList) h
 have h:((a.cps++m.cps)++b.cps).toList=((a.cps++m'.cps)++b.cps).toList:=h
 simp only[Array.toList_append] at h
 have:=Yf (List.append_cancel_right h)
 cases m;cases m'
 congr 1
 exact Array.ext' this
theorem acj:∀ i:Fin 30,∀ j:Fin 30,Txt.mul (ch LT ((i.val:Int) / 8)) (1+(i.val:Int) % 8)=Txt.mul (ch LT ((j.val:Int) / 8)) (1+(j.val:Int) % 8)->i=j:=by decide +kernel
theorem aej:∀ i:Fin 15,∀ j:Fin 15,ch LT (i.val:Int)=ch LT (j.val:Int)->i=j:=by decide +kernel
theorem acn {x y:Int} (hx:0<=x/\x < 15) (hy:0<=y/\y < 15) (h:ch LT x=ch LT y):x=y:=by
 have:=aej ⟨x.toNat,by omega⟩ ⟨y.toNat,by omega⟩ (by
  show ch LT ((x.toNat:Nat):Int)=ch LT ((y.toNat:Nat):Int)
  rw[Int.toNat_of_nonneg hx.1,Int.toNat_of_nonneg hy.1];exact h)
 have:=congrArg Fin.val this
 have:x.toNat=y.toNat:=this
 omega
theorem aco {xs:List Int} {stem:Str} {at_:Int} {i j:Nat} (hi:i < 15) (hj:j < 15) (h:nmF xs stem at_ i=nmF xs stem at_ j):i=j:=by
 unfold nmF at h
 by_cases e:(decide (((at' xs (3:Int)) % (3:Int))=(1:Int)))=true
 ·rw[zo e,zo e] at h
  exact congrArg Fin.val (acj ⟨i,by omega⟩ ⟨j,by omega⟩ h)
 ·rw[zw e,zw e] at h
  have:=acn (oG _ (by decide)) (oG _ (by decide)) (OJ h)
  omega
theorem acp {n:Nat} {g:Int->Str} (h:∀ i j:Nat,i < n->j < n->g i=g j->i=j):((rng 0 n).map g).Nodup:=by
 unfold rng
 rw[Zs]
 unfold List.Nodup
 rw[Kj]
 refine kc ?_ (y0 (n:=n))
 intro a b ha hb hne e
 refine hne (h a b (List.mem_range.mp ha) (List.mem_range.mp hb) ?_)
 have e:g (0+(a:Int))=g (0+(b:Int)):=e
 rwa [Int.zero_add,Int.zero_add] at e
theorem Ws (xs:List Int) (many:Int) (h:many<=15):(cg xs many).Nodup:=by
 obtain⟨stem,at_,e⟩:=Ea xs many
 rw[e]
 exact acp fun i j hi hj=>aco (by omega) (by omega)
theorem JC {n:Nat} {a b:Int} (ha:0<=a/\a < n) (hb:0<=b/\b < n):In n (if b < a then b else a):=by split<;>exact in_of (by omega) (by omega)
theorem JD {n:Nat} {a b:Int} (ha:0<=a/\a < n) (hb:0<=b/\b < n):In n (if b > a then b else a):=by split<;>exact in_of (by omega) (by omega)
theorem QH {many:Int} {n:Nat} (hn:n=many.toNat) {x y:Int} (h:(!decide (x % (if many > (1:Int) then many else (1:Int))=y % (if many > (1:Int) then many else (1:Int))))=true):(0<=x % (if many > (1:Int) then many else (1:Int))/\x % (if many > (1:Int) then many else (1:Int)) < n)/\(0<=y % (if many > (1:Int) then many else (1:Int))/\y % (if many > (1:Int) then many else (1:Int)) < n):=by
 by_cases e:many > 1
 ·rw[zo e] at h ⊢
  have h1:=oG x (m:=many) (by omega)
  have h2:=oG y (m:=many) (by omega)
  omega
 ·rw[zw e] at h
  simp at h
theorem Mj {many:Int}:0 < (if many > (1:Int) then many else (1:Int)):=by split<;>omega
theorem SJ (script:List Int) (at_ many:Int) (a0:0<=at_) (a1:at_<=500) (head:List Int) (hh:6<=head.length) (names:List Str) (hn:names.length=many.toNat) (k:Nat) (hk:k < 60) (told:List jV) (h:told.length<=k/\Rs names told) :
  jF script at_ many head names told k/\(cM script at_ many head names told k).length<=k+1/\Rs names (cM script at_ many head names told k):=by
 obtain⟨n1,n2,n3⟩:=Jy (bh script ((at_+(1:Int))+k)) 4 (by decide) (by decide)
 have n2:(aV (bh script ((at_+(1:Int))+k)) 4).length=4:=n2
 unfold jF cM
 dsimp only
 generalize aV (bh script ((at_+(1:Int))+k)) 4=xs at *
 have en:=fun x y=>QH (x:=x) (y:=y) hn
 have pm:=@Mj many
 generalize (if many > (1:Int) then many else (1:Int))=mm at *
 have ix:∀ i:Nat,i < 4->In xs.length (i:Int):=fun i hi=>IV (by omega)
 refine⟨⟨⟨Jx _ _ (by omega) (by omega),n1⟩,⟨⟨ix 0 (by decide),pm⟩,ix 1 (by decide),pm⟩,⟨⟨⟨ix 2 (by decide),ix 2 (by decide),ix 2 (by decide)⟩,in_of (by decide) (by omega)⟩,sy (by decide) (Int.le_refl 3)⟩,fun hne=>?_⟩,?_⟩
 ·have:=en _ _ hne
  exact⟨⟨JC this.1 this.2,JD this.1 this.2,ix 3 (by decide),sy (by decide) (by decide)⟩,o9 (by omega)⟩
 ·split
  ·rename_i hne
   have:=en _ _ hne
   refine⟨by rw[z0];show _+1<=_;omega,fun r hr=>?_⟩
   rcases List.mem_append.mp hr with hr|hr
   ·exact h.2 r hr
   ·cases List.mem_singleton.mp hr
    exact⟨qR (JC this.1 this.2),qR (JD this.1 this.2)⟩
  ·exact⟨by omega,h.2⟩
theorem SM (script:List Int) (at_ many:Int) (a0:0<=at_) (a1:at_<=500) (names:List Str) (hn:names.length=many.toNat) (k:Nat) (hk:k < 60) (shut:List (Str×Str×Int)) (h:shut.length<=k/\∀ b∈shut,b.1∈names/\b.2.1∈names) :
  jG script at_ many names shut k/\(bQ script at_ many names shut k).length<=k+1/\∀ b∈bQ script at_ many names shut k,b.1∈names/\b.2.1∈names:=by
 obtain⟨n1,n2,n3⟩:=Jy (bh script ((at_+(1:Int))+k)) 8 (by decide) (by decide)
 have n2:(aV (bh script ((at_+(1:Int))+k)) 8).length=8:=n2
 unfold jG bQ
 dsimp only
 generalize aV (bh script ((at_+(1:Int))+k)) 8=xs at *
 have en:=fun x y=>QH (x:=x) (y:=y) hn
 have pm:=@Mj many
 generalize (if many > (1:Int) then many else (1:Int))=mm at *
 have ix:∀ i:Nat,i < 8->In xs.length (i:Int):=fun i hi=>IV (by omega)
 refine⟨⟨⟨Jx _ _ (by omega) (by omega),n1⟩,⟨⟨ix 5 (by decide),pm⟩,ix 6 (by decide),pm⟩,fun hne=>?_⟩,?_⟩
 ·have:=en _ _ hne
  exact⟨⟨JC this.1 this.2,JD this.1 this.2,ix 7 (by decide),sy (by decide) (by decide)⟩,o9 (by omega)⟩
 ·split
  ·rename_i hne
   have:=en _ _ hne
   refine⟨by rw[z0];show _+1<=_;omega,fun r hr=>?_⟩
   rcases List.mem_append.mp hr with hr|hr
   ·exact h.2 r hr
   ·cases List.mem_singleton.mp hr
    exact⟨qR (JC this.1 this.2),qR (JD this.1 this.2)⟩
  ·exact⟨by omega,h.2⟩
structure Gr (g:(List Str)×(List jV)×(List (Str×Str×Int))):Prop where
 nd:g.1.Nodup
 len:g.1.length < 64
 rs:Rs g.1 g.2.1
 bs:∀ b∈g.2.2,b.1∈g.1/\b.2.1∈g.1
 rl:g.2.1.length < 64
 bl:g.2.2.length < 64
 so:g.1.Pairwise rB
 rn:g.2.1.Nodup
theorem Rs.turn {names:List Str} {rs:List jV} (h:Rs names rs):Rs names (rs.map fun q3:(Int×Str×Str×Int)=>(((0:Int) - q3.1),q3.2.1,q3.2.2.1,q3.2.2.2)):=fun r hr=>by
 obtain⟨q,hq,rfl⟩:=List.mem_map.mp hr
 exact h q hq
theorem SN (script:List Int) (at_ many reasons bars:Int) (a0:0<=at_) (a1:at_<=500) (m0:0<=many) (m1:many<=15) (r0:0<=reasons) (r1:reasons < 60) (b0:0<=bars) (b1:bars < 60):pJ script at_ many reasons bars/\Gr (jB script at_ many reasons bars):=by
 obtain⟨n1,n2,n3⟩:=Jy (bh script at_) 6 (by decide) (by decide)
 have n2:(aV (bh script at_) 6).length=6:=n2
 have key:∀ head:List Int,6<=head.length->oY script at_ many reasons bars head/\Gr (lY script at_ many reasons bars head):=fun head hh=>by
  obtain⟨k1,k2,k3⟩:=Wr head hh many m0 (by omega)
  have knd:=Ws head many m1
  have hn:(ni (cg head many)).length=many.toNat:=by rw[(jq _).length_eq,k2]
  have nd:(ni (cg head many)).Nodup:=(jq _).nodup_iff.mpr knd
  have c8:∀ names:List Str,names.length=many.toNat->names.Nodup->names.Pairwise rB->oX script at_ many reasons bars head names/\Gr (oW script at_ many reasons bars head names):=fun names hn nd so=>by
   obtain⟨t1,t2,t3⟩:=yu (P:=fun f k=>some (jF script at_ many head names f k)) (step:=fun f k=>cM script at_ many head names f k) (fun k s=>s.length<=k/\Rs names s) reasons.toNat [] ⟨zl 0,fun r h=>(by cases h)⟩ fun k s hk h=>SJ script at_ many a0 a1 head hh names hn k (by omega) s h
   obtain⟨s1,s2,s3⟩:=yu (P:=fun f k=>some (jG script at_ many names f k)) (step:=fun f k=>bQ script at_ many names f k) (fun k s=>s.length<=k/\∀ b∈s,b.1∈names/\b.2.1∈names) bars.toNat [] ⟨zl 0,fun r h=>(by cases h)⟩ fun k s hk h=>SM script at_ many a0 a1 names hn k (by omega) s h
   have sl:=ye s2 (show bars.toNat < 64 by omega)
   have c6:∀ told:List jV,told.length<=reasons.toNat->Rs names told->oV script at_ many reasons bars head names told/\Gr (oU script at_ many reasons bars head names told):=fun told tl tr=>by
    have dl:=yp told
    have sp:=(gM (e:=ZS eI eS eS eI) (Eu told)).length_eq
    refine⟨⟨⟨⟨by omega,by omega⟩,by rw[sp];omega⟩,⟨G4 b0 (by omega),s1⟩,JU sl,sl⟩,nd,?_,?_,?_,?_,?_,so,?_⟩
    ·show names.length < 64
     omega
    ·exact Rs.turn fun r hr=>tr r (pC.mp ((gM _).mem_iff.mp hr))
    ·exact fun b hb=>s3 b (pC.mp ((gM _).mem_iff.mp hb))
    ·show (List.map _ _).length < 64
     rw[zi,sp];omega
    ·show (p8 _ _).length < 64
     rw[(gM _).length_eq]
     exact ye (yp _) sl
    ·show (List.map _ _).Nodup
     unfold List.Nodup
     rw[Kj]
     refine ((gM (e:=ZS eI eS eS eI) (Eu told)).nodup_iff.mpr (zF told)).imp ?_
     intro a b hne e
     apply hne
     obtain⟨a1,a2,a3,a4⟩:=a
     obtain⟨b1,b2,b3,b4⟩:=b
     simp only[Prod.mk.injEq] at e ⊢
     exact⟨by omega,e.2⟩
   have:=c6 _ t2 t3
   exact⟨⟨⟨G4 r0 (by omega),t1⟩,this.1⟩,this.2⟩
  have:=c8 _ hn nd (wL _)
  exact⟨⟨⟨k1,by rw[k2];omega⟩,this.1⟩,this.2⟩
 have:=key _ (Nat.le_of_eq n2.symm)
 exact⟨⟨⟨Jx _ _ a0 (by omega),n1⟩,this.1⟩,this.2⟩
def bp (m:List (Str×Str)) (x y:Str) (b:Bar):Bool:=((decide (look m b.1=x))&&(decide (look m b.2.1=y)))||((decide (look m b.1=y))&&(decide (look m b.2.1=x)))
theorem QJ (m:List (Str×Str)) (x y:Str):∀ bars:List Bar,dY bars m x y=bars.find? (bp m x y)
 |[]=>rfl
 |b::bars=>by
  have ih:=QJ m x y bars
  unfold dY at ih ⊢
  unfold zH
  have e:jg m x y () b=if bp m x y b=true then Lg.rt (some b) else Lg.nx ():=rfl
  rw[e,QY]
  cases h:bp m x y b with
  |true=>rfl
  |false=>exact ih
theorem pq (bars:List Bar) (m:List (Str×Str)) (k:List jV) (bd:List (jV×Option Bar)) (r:jV):qL bars (m,k,bd) r=if look m r.2.1=look m r.2.2.1 then (m,k,bd) else
  match bars.find? (bp m (look m r.2.1) (look m r.2.2.1)) with
  |none=>(bL m (look m r.2.1) (look m r.2.2.1),k++[r],bd)
  |some q=>(m,k,bd++[(r,some q)]):=by
 unfold qL cN
 dsimp only
 rw[QJ]
 by_cases e:look m r.2.1=look m r.2.2.1
 ·simp[e]
 ·rw[zw e]
  cases h:bars.find? (bp m (look m r.2.1) (look m r.2.2.1)) with
  |none=>simp[e]
  |some q=>simp[e]
theorem wY {α:Type} {p q:α->Bool}:∀ {l:List α},(∀ x∈l,p x=q x)->l.find? p=l.find? q
 |[],_=>rfl
 |x::l,h=>by
  rw[QY,QY,h x (zh ..),wY fun y hy=>h y (zg _ hy)]
theorem JF {names:List Str} {bars:List Bar} {s:JS} {r:jV} (h:Hd names s.1) (ha:r.2.1∈names) (hb:r.2.2.1∈names):Hd names (qL bars s r).1:=by
 obtain⟨m,k,bd⟩:=s
 rw[pq]
 split
 ·exact h
 ·split
  ·rw[show (bL m (look m r.2.1) (look m r.2.2.1),k++[r],bd).1=_ from (tD _ _ h.kn h.ml).2]
   exact h.join ha hb
  ·exact h
theorem QK {names:List Str} {bars:List Bar}:∀ (rs:List jV) (s:JS),Rs names rs->Hd names s.1->Hd names (rs.foldl (qL bars) s).1
 |[],_,_,h=>h
 |r::rs,s,hr,h=>by
  obtain⟨ha,hb⟩:=hr r (zh ..)
  exact QK rs _ (fun x hx=>hr x (zg _ hx)) (JF h ha hb)
theorem Eb {names:List Str} (nd:names.Nodup) (hl:names.length < 1000) {bars:List Bar} {rs:List jV} (hr:Rs names rs):Hd names (cT bars names rs).1:=QK rs _ hr (hd0 nd hl)
structure Al (names:List Str) (φ:Str->Str):Prop where
 inj:∀ x∈names,∀ y∈names,φ x=φ y->x=y
 mono:∀ x∈names,∀ y∈names,Ay (φ x) (φ y)=Ay x y
def mR (φ:Str->Str) (ψ:Int->Int) (r:jV):jV:=(ψ r.1,φ r.2.1,φ r.2.2.1,r.2.2.2)
def mB (φ:Str->Str) (b:Bar):Bar:=(φ b.1,φ b.2.1,b.2.2)
def mM (φ:Str->Str) (m:List (Str×Str)):List (Str×Str):=m.map fun q=>(φ q.1,φ q.2)
def mQ (φ:Str->Str) (ψ:Int->Int) (q:jV×Option Bar):jV×Option Bar:=(mR φ ψ q.1,q.2.map (mB φ))
def mS (φ:Str->Str) (ψ:Int->Int) (s:JS):JS:=(mM φ s.1,s.2.1.map (mR φ ψ),s.2.2.map (mQ φ ψ))
section
variable {names:List Str} {φ:Str->Str} {ψ:Int->Int} (A:Al names φ)
include A
theorem Al.nd (nd:names.Nodup):(names.map φ).Nodup:=by
 have:∀ l:List Str,(∀ x∈l,x∈names)->l.Nodup->(l.map φ).Nodup:=by
  intro l
  induction l with
  |nil=>intro _ _;exact K2
  |cons x l ih=>
   intro hs hn
   obtain⟨h1,h2⟩:=List.nodup_cons.mp hn
   rw[zk]
   refine List.nodup_cons.mpr ⟨fun hm=>?_,ih (fun y hy=>hs y (zg _ hy)) h2⟩
   obtain⟨y,hy,e⟩:=List.mem_map.mp hm
   exact h1 (A.inj y (hs y (zg _ hy)) x (hs x (zh ..)) e▸hy)
 exact this names (fun x h=>h) nd
theorem Al.dec {x y:Str} (hx:x∈names) (hy:y∈names):decide (φ x=φ y)=decide (x=y):=by
 by_cases e:x=y
 ·simp[e]
 ·rw[qc e,qc fun h=>e (A.inj x hx y hy h)]
theorem Al.keys {m:List (Str×Str)} (h:Hd names m):(mM φ m).map (·.1)=names.map φ:=by
 unfold mM
 rw[<-h.keys,Zs,Zs]
 rfl
theorem Al.lk {m:List (Str×Str)} (h:Hd names m) {x:Str} (hx:x∈names):look (mM φ m) (φ x)=φ (look m x):=by
 have h1:=zU (m:=m) (by rw[h.keys];exact hx)
 have h2:(φ x,φ (look m x))∈mM φ m:=List.mem_map.mpr ⟨_,h1,rfl⟩
 exact qK (by rw[A.keys h];exact A.nd h.nd) h2
theorem Al.jm {m:List (Str×Str)} (h:Hd names m) {x y:Str} (hx:x∈names) (hy:y∈names):bL (mM φ m) (φ x) (φ y)=mM φ (bL m x y):=by
 rw[(tD _ _ (by rw[A.keys h];exact A.nd h.nd) (by rw[mM,zi];exact h.ml)).2,(tD _ _ h.kn h.ml).2]
 unfold G26.jm mM
 rw[Zs,Zs]
 refine QQ fun q hq=>?_
 have hq2:q.2∈names:=by
  have:=qK h.kn hq
  rw[<-this]
  exact h.mem _ (by rw[<-h.keys];exact List.mem_map.mpr ⟨q,hq,rfl⟩)
 show (φ q.1,jn (φ x) (φ y) (φ q.2))=(φ q.1,φ (jn x y q.2))
 have e:jn (φ x) (φ y) (φ q.2)=φ (jn x y q.2):=by
  unfold jn mn
  rw[A.mono y hy x hx]
  by_cases c:q.2=x\/q.2=y
  ·rw[zo c,zo (c.imp (fun z=>by rw[z]) fun z=>by rw[z])]
   split<;>rfl
  ·rw[zw c,zw fun z=>c (z.imp (A.inj _ hq2 _ hx) (A.inj _ hq2 _ hy))]
 rw[e]
theorem Al.step {bars:List Bar} (hbs:∀ b∈bars,b.1∈names/\b.2.1∈names) {s:JS} (h:Hd names s.1) {r:jV} (ha:r.2.1∈names) (hb:r.2.2.1∈names):qL (bars.map (mB φ)) (mS φ ψ s) (mR φ ψ r)=mS φ ψ (qL bars s r):=by
 obtain⟨m,k,bd⟩:=s
 show qL (bars.map (mB φ)) (mM φ m,k.map (mR φ ψ),bd.map (mQ φ ψ)) (mR φ ψ r)=_
 rw[pq,pq]
 have e1:look (mM φ m) (mR φ ψ r).2.1=φ (look m r.2.1):=A.lk h ha
 have e2:look (mM φ m) (mR φ ψ r).2.2.1=φ (look m r.2.2.1):=A.lk h hb
 have m1:=h.mem _ ha
 have m2:=h.mem _ hb
 rw[e1,e2]
 by_cases c:look m r.2.1=look m r.2.2.1
 ·rw[zo c,zo (by rw[c])]
  rfl
 ·rw[zw c,zw fun z=>c (A.inj _ m1 _ m2 z),List.find?_map]
  rw[wY (p:=bp (mM φ m) (φ (look m r.2.1)) (φ (look m r.2.2.1)) ∘ mB φ) (q:=bp m (look m r.2.1) (look m r.2.2.1)) fun b hb'=>by
   obtain⟨n1,n2⟩:=hbs b hb'
   show bp (mM φ m) _ _ (φ b.1,φ b.2.1,b.2.2)=_
   unfold bp
   dsimp only
   rw[A.lk h n1,A.lk h n2,A.dec (h.mem _ n1) m1,A.dec (h.mem _ n2) m2,A.dec (h.mem _ n1) m2,A.dec (h.mem _ n2) m1]]
  cases q:bars.find? (bp m (look m r.2.1) (look m r.2.2.1)) with
  |none=>
   show (bL (mM φ m) (φ (look m r.2.1)) (φ (look m r.2.2.1)),k.map (mR φ ψ)++[mR φ ψ r],bd.map (mQ φ ψ))=mS φ ψ (bL m (look m r.2.1) (look m r.2.2.1),k++[r],bd)
   rw[A.jm h m1 m2]
   unfold mS
   rw[ZO]
   rfl
  |some b=>
   show (mM φ m,k.map (mR φ ψ),bd.map (mQ φ ψ)++[(mR φ ψ r,some (mB φ b))])=mS φ ψ (m,k,bd++[(r,some b)])
   unfold mS
   rw[ZO]
   rfl
theorem Al.run {bars:List Bar} (hbs:∀ b∈bars,b.1∈names/\b.2.1∈names):∀ (rs:List jV) (s:JS),Rs names rs->Hd names s.1->(rs.map (mR φ ψ)).foldl (qL (bars.map (mB φ))) (mS φ ψ s)=mS φ ψ (rs.foldl (qL bars) s)
 |[],s,_,_=>rfl
 |r::rs,s,hr,h=>by
  obtain⟨ha,hb⟩:=hr r (zh ..)
  rw[zk,z4,z4,A.step hbs h ha hb]
  exact Al.run hbs rs _ (fun x hx=>hr x (zg _ hx)) (JF h ha hb)
theorem Al.under {m:List (Str×Str)} (h:Hd names m) {x:Str} (hx:x∈names):aX (mM φ m) (φ x)=(aX m x).map φ:=by
 unfold aX
 rw[A.keys h,Qr,Qr,h.keys,List.filter_map]
 congr 1
 refine Kx fun y hy=>?_
 show decide (look (mM φ m) (φ y)=φ x)=_
 rw[A.lk h hy,A.dec (h.mem _ hy) hx]
theorem Al.sets {m:List (Str×Str)} (h:Hd names m):aW (mM φ m)=(aW m).map fun p=>p.map φ:=by
 unfold aW
 rw[A.keys h,h.keys,List.filter_map,Zs,Zs]
 have e:(names.filter ((fun vr:Str=>decide (look (mM φ m) vr=vr)) ∘ φ))=names.filter fun vr:Str=>decide (look m vr=vr):=Kx fun y hy=>by
  show decide (look (mM φ m) (φ y)=φ y)=_
  rw[A.lk h hy,A.dec (h.mem _ hy) hy]
 rw[e]
 exact QQ fun y hy=>A.under h (List.mem_filter.mp hy).1
theorem Al.join (nd:names.Nodup) (hl:names.length < 1000) {bars:List Bar} (hbs:∀ b∈bars,b.1∈names/\b.2.1∈names) {rs:List jV} (hr:Rs names rs) :
  aO (names.map φ,rs.map (mR φ ψ),bars.map (mB φ))=((aO (names,rs,bars)).1.map (fun p=>p.map φ),(aO (names,rs,bars)).2.1.map (mR φ ψ),(aO (names,rs,bars)).2.2.map (mQ φ ψ)):=by
 rw[eY,eY]
 have h0:=hd0 nd hl
 have e0:aR (names.map φ)=mM φ (aR names):=by
  rw[(pQ _ (A.nd nd) (by rw[zi];exact hl)).2,(pQ names nd hl).2]
  unfold mM
  rw[Zs,Zs]
  rfl
 have e1:cT (bars.map (mB φ)) (names.map φ) (rs.map (mR φ ψ))=mS φ ψ (cT bars names rs):=by
  unfold cT
  rw[e0]
  exact A.run (ψ:=ψ) hbs rs (aR names,[],[]) hr h0
 rw[e1]
 show (aW (mM φ (cT bars names rs).1),_,_)=_
 rw[A.sets (Eb nd hl hr)]
 rfl
end
theorem yM {bars dW:List Bar} (hb:∀ m x y,bars.find? (bp m x y)=none->dW.find? (bp m x y)=none):∀ (post:List jV) (m:List (Str×Str)) (k k2:List jV) (bd b2:List (jV×Option Bar)),
  ∃ K,(post.foldl (qL bars) (m,k,bd)).2.1=k++K/\K.foldl (qL dW) (m,k2,b2)=((post.foldl (qL bars) (m,k,bd)).1,k2++K,b2)
 |[],m,k,k2,bd,b2=>⟨[],by simp,by simp⟩
 |r::post,m,k,k2,bd,b2=>by
  rw[z4,pq]
  by_cases c:look m r.2.1=look m r.2.2.1
  ·rw[zo c]
   exact yM hb post m k k2 bd b2
  ·rw[zw c]
   cases q:bars.find? (bp m (look m r.2.1) (look m r.2.2.1)) with
   |some b=>exact yM hb post m k k2 _ b2
   |none=>
    obtain⟨K,h1,h2⟩:=yM hb post (bL m (look m r.2.1) (look m r.2.2.1)) (k++[r]) (k2++[r]) bd b2
    refine⟨r::K,by rw[h1];simp,?_⟩
    rw[z4,pq,zw c,hb _ _ _ q]
    show K.foldl (qL dW) (bL m (look m r.2.1) (look m r.2.2.1),k2++[r],b2)=_
    rw[h2]
    simp
theorem Ed {bars dW:List Bar} (hb:∀ m x y,bars.find? (bp m x y)=none->dW.find? (bp m x y)=none) (names:List Str) (rs:List jV):aO (names,(cT bars names rs).2.1,dW)=(aW (cT bars names rs).1,(cT bars names rs).2.1,[]):=by
 obtain⟨K,h1,h2⟩:=yM hb rs (aR names) [] [] [] []
 have h1:(cT bars names rs).2.1=K:=h1
 have h2:cT dW names K=((cT bars names rs).1,K,[]):=h2
 rw[eY,h1,h2]
theorem cnt {names:List Str} {bars:List Bar}:∀ (rs:List jV) (s:JS),Rs names rs->Hd names s.1->(Bj names (rs.foldl (qL bars) s).1).length+(rs.foldl (qL bars) s).2.1.length=(Bj names s.1).length+s.2.1.length
 |[],_,_,_=>rfl
 |r::rs,s,hr,h=>by
  obtain⟨ha,hb⟩:=hr r (zh ..)
  rw[z4,cnt rs _ (fun x hx=>hr x (zg _ hx)) (JF h ha hb)]
  obtain⟨m,k,bd⟩:=s
  rw[pq]
  split
  ·rfl
  ·rename_i c
   split
   ·have h:Hd names m:=h
    have e:=h.Wo ha hb c
    rw[<-(tD (look m r.2.1) (look m r.2.2.1) h.kn h.ml).2] at e
    show (Bj names (bL m (look m r.2.1) (look m r.2.2.1))).length+(k++[r]).length=(Bj names m).length+k.length
    rw[z0,List.length_singleton]
    omega
   ·rfl
theorem Wt {names:List Str} (nd:names.Nodup) (hl:names.length < 1000) {bars:List Bar} {rs:List jV} (hr:Rs names rs):(aW (cT bars names rs).1).length+(cT bars names rs).2.1.length=names.length:=by
 rw[(QG (Eb nd hl hr)).2]
 have:=cnt (bars:=bars) rs (aR names,[],[]) hr (hd0 nd hl)
 have e:(Bj names (aR names)).length=names.length:=by
  unfold Bj
  rw[(pQ names nd hl).2,List.filter_eq_self.mpr fun x hx=>?_]
  rw[vD nd hx]
  exact Zl rfl
 exact this.trans (by rw[e];rfl)
section
variable {names:List Str} {z:Str} (hz:z∉names)
include hz
theorem JG {m:List (Str×Str)} (h:Hd names m):((m++[(z,z)]).map (·.1)).Nodup:=by
 rw[ZO,h.keys]
 refine List.nodup_append.mpr ⟨h.nd,by simp,fun x hx y hy e=>hz ?_⟩
 have:y=z:=by simpa using hy
 rw[<-this,<-e]
 exact hx
theorem nO {m:List (Str×Str)} (h:Hd names m) {x:Str} (hx:x∈names):look (m++[(z,z)]) x=look m x:=
 qK (q:=(x,look m x)) (JG hz h) (Q3 _ (zU (by rw[h.keys];exact hx)))
theorem O1 {m:List (Str×Str)} (h:Hd names m):look (m++[(z,z)]) z=z:=qK (q:=(z,z)) (JG hz h) (by simp)
theorem Ml (hl:names.length < 900) {bars:List Bar} (hbs:∀ b∈bars,b.1∈names/\b.2.1∈names):∀ (rs:List jV) (s:JS),Rs names rs->Hd names s.1->rs.foldl (qL bars) (s.1++[(z,z)],s.2)=((rs.foldl (qL bars) s).1++[(z,z)],(rs.foldl (qL bars) s).2)
 |[],_,_,_=>rfl
 |r::rs,s,hr,h=>by
  obtain⟨ha,hb⟩:=hr r (zh ..)
  rw[z4,z4,<-Ml hl hbs rs _ (fun x hx=>hr x (zg _ hx)) (JF h ha hb)]
  congr 1
  obtain⟨m,k,bd⟩:=s
  show qL bars (m++[(z,z)],k,bd) r=_
  rw[pq,pq,nO hz h ha,nO hz h hb]
  have m1:=h.mem _ ha
  have m2:=h.mem _ hb
  split
  ·rfl
  ·rw[wY (p:=bp (m++[(z,z)]) (look m r.2.1) (look m r.2.2.1)) (q:=bp m (look m r.2.1) (look m r.2.2.1)) fun b hb'=>by
    obtain⟨n1,n2⟩:=hbs b hb'
    unfold bp
    rw[nO hz h n1,nO hz h n2]]
   cases q:bars.find? (bp m (look m r.2.1) (look m r.2.2.1)) with
   |some b=>rfl
   |none=>
    show (bL (m++[(z,z)]) (look m r.2.1) (look m r.2.2.1),_)=(bL m (look m r.2.1) (look m r.2.2.1)++[(z,z)],_)
    rw[(tD _ _ (JG hz h) (by rw[z0,<-zi (f:=(·.1)),h.keys];simp;omega)).2,(tD _ _ h.kn h.ml).2]
    unfold jm
    rw[ZO]
    have:jn (look m r.2.1) (look m r.2.2.1) z=z:=zw fun q=>q.elim (fun e=>hz (e▸m1)) fun e=>hz (e▸m2)
    show (_++[(z,jn (look m r.2.1) (look m r.2.2.1) z)],_)=_
    rw[this]
theorem SQ {m:List (Str×Str)} (h:Hd names m):aW (m++[(z,z)])=aW m++[[z]]:=by
 have hk:(m++[(z,z)]).map (·.1)=names++[z]:=by rw[ZO,h.keys];rfl
 have un:∀ x∈names,aX (m++[(z,z)]) x=aX m x:=fun x hx=>by
  unfold aX
  rw[hk,h.keys,Qr,Qr,km,Ya (by rw[O1 hz h];simpa using fun e:z=x=>hz (e▸hx))]
  rw[List.filter_nil,jS]
  exact Kx fun y hy=>by rw[nO hz h hy]
 have uz:aX (m++[(z,z)]) z=[z]:=by
  unfold aX
  rw[hk,Qr,km,y9 (by rw[O1 hz h];exact Zl rfl),List.filter_nil]
  rw[List.filter_eq_nil_iff.mpr fun y hy=>by
   rw[nO hz h hy]
   simpa using fun e:look m y=z=>hz (e▸h.mem _ hy)]
  rfl
 unfold aW
 rw[hk,h.keys,km,ZO,y9 (by rw[O1 hz h];exact Zl rfl),List.filter_nil,zk,JY,uz]
 congr 1
 rw[Kx (q:=fun vr:Str=>decide (look m vr=vr)) fun y hy=>by rw[nO hz h hy]]
 exact QQ fun y hy=>un y (List.mem_filter.mp hy).1
theorem SX (nd:names.Nodup) (hl:names.length < 900) {bars:List Bar} (hbs:∀ b∈bars,b.1∈names/\b.2.1∈names) {rs:List jV} (hr:Rs names rs) :
  aO (names++[z],rs,bars)=((aO (names,rs,bars)).1++[[z]],(aO (names,rs,bars)).2.1,(aO (names,rs,bars)).2.2):=by
 rw[eY,eY]
 have e0:aR (names++[z])=aR names++[(z,z)]:=by
  rw[(pQ _ (List.nodup_append.mpr ⟨nd,by simp,fun x hx y hy e=>hz (by rw[<-List.mem_singleton.mp hy,<-e];exact hx)⟩) (by simp;omega)).2,(pQ names nd (by omega)).2,ZO]
  rfl
 have e1:cT bars (names++[z]) rs=((cT bars names rs).1++[(z,z)],(cT bars names rs).2):=by
  unfold cT
  rw[e0]
  exact Ml hz hl hbs rs (aR names,[],[]) hr (hd0 nd (by omega))
 rw[e1,SQ hz (Eb nd (by omega) hr)]
end
theorem u9 {α:Type} [DecidableEq α] {nw:α} {p:α->Bool}:∀ (l:List α),(∀ q,l.find? p=some q->q≠nw)->(l.filter fun b=>decide (b≠nw)).find? p=l.find? p
 |[],_=>rfl
 |x::l,h=>by
  rw[QY] at h ⊢
  by_cases e:x=nw
  ·rw[Ya (by simp[e])]
   cases hp:p x with
   |true=>rw[hp] at h;exact absurd e (h x rfl)
   |false=>rw[hp] at h;exact u9 l h
  ·rw[y9 (by simp[e]),QY]
   cases hp:p x with
   |true=>rfl
   |false=>rw[hp] at h;exact u9 l h
theorem JH {bars dW:List Bar} {nw:Bar} (hf:(dW.filter fun b=>decide (b≠nw))=bars):∀ (rs:List jV) (s:JS) (B:List (jV×Option Bar)),(rs.foldl (qL dW) s).2.2=s.2.2++B->(∀ q∈B,q.2≠some nw)->rs.foldl (qL dW) s=rs.foldl (qL bars) s
 |[],_,_,_,_=>rfl
 |r::rs,(m,k,bd),B,hB,hn=>by
  have e:qL dW (m,k,bd) r=qL bars (m,k,bd) r:=by
   rw[z4] at hB
   rw[pq] at hB
   rw[pq,pq]
   split
   ·rfl
   ·rename_i c
    rw[zw c] at hB
    rw[<-hf,u9 dW fun q hq e=>?_]
    rw[hq] at hB
    obtain⟨K,B',_,h2,_⟩:=nM dW rs (m,k,bd++[(r,some q)])
    rw[h2] at hB
    have:B=(r,some q)::B':=by simpa using hB.symm
    exact hn (r,some q) (by rw[this];exact zh ..) (by rw[e])
  rw[z4,z4]
  rw[z4] at hB
  obtain⟨K,B',_,h2,_⟩:=nM dW rs (qL dW (m,k,bd) r)
  rw[JH hf rs _ B' h2 fun q hq=>?_,e]
  rcases Hg dW (m,k,bd) r with e1|⟨m',_,e1⟩|⟨q',_,e1⟩
  ·rw[e1] at h2 hB
   rw[h2] at hB
   exact hn q (by rw[<-Yf hB];exact hq)
  ·rw[e1] at h2 hB
   rw[h2] at hB
   exact hn q (by rw[<-Yf (show bd++B'=bd++B from hB)];exact hq)
  ·rw[e1] at h2 hB
   rw[h2] at hB
   have:B=(r,q')::B':=by simpa using hB.symm
   exact hn q (by rw[this];exact zg _ hq)
theorem JK (bars:List Bar) (names:List Str) (rs:List jV):(∀ r∈(cT bars names rs).2.1,r∈rs)/\(∀ q∈(cT bars names rs).2.2,q.1∈rs)/\(rs.Nodup->∀ q∈(cT bars names rs).2.2,q.1∉(cT bars names rs).2.1):=by
 obtain⟨K,B,h1,h2,h3,h4,h5⟩:=nM bars rs (aR names,[],[])
 have h1:(cT bars names rs).2.1=K:=h1
 have h2:(cT bars names rs).2.2=B:=h2
 rw[h1,h2]
 exact⟨h3,h4,h5⟩
theorem Rs.sub {names:List Str} {rs rs':List jV} (h:Rs names rs) (hs:∀ r∈rs',r∈rs):Rs names rs':=fun r hr=>h r (hs r hr)
end G26
end
section
set_option synthInstance.maxSize 100000
namespace G26
open PySem PySem.Spec PyProof.Rows L2 P1
structure Gm (g:(List Str)×(List jV)×(List Bar)) (many:Int):Prop where
 nl:g.1.length=many.toNat
 wt:∀ r∈g.2.1,r.1<=1000
 bn:∀ b∈g.2.2,b.2.2<=10
 bso:g.2.2.Pairwise fun a b=>leT (Sh eS eS eI) a b=true
 bnd:g.2.2.Nodup
 nz:("zzzzzzzz" : Str)∉g.1
 bl:g.2.2.length<=6
theorem ahj:∀ j:Fin 15,∃ c∈(ch LT (j.val:Int)).cps.toList,c∉("zzzzzzzz" : Str).cps.toList:=by decide +kernel
theorem aek:∀ i:Fin 15,Txt.mul (ch LT ((i.val:Int) / 8)) (1+(i.val:Int) % 8)≠("zzzzzzzz" : Str):=by decide +kernel
theorem ahk {xs:List Int} {stem:Str} {at_:Int} {i:Nat} (hi:i < 15):nmF xs stem at_ i≠("zzzzzzzz" : Str):=by
 unfold nmF
 split
 ·exact aek ⟨i,hi⟩
 ·intro h
  have m:=oG ((i:Int)+at' xs 2) (m:=15) (by decide)
  obtain⟨c,h1,h2⟩:=ahj ⟨(((i:Int)+at' xs 2) % 15).toNat,by omega⟩
  have e:(((((i:Int)+at' xs 2) % 15).toNat:Nat):Int)=((i:Int)+at' xs 2) % 15:=Int.toNat_of_nonneg m.1
  rw[show (((⟨(((i:Int)+at' xs 2) % 15).toNat,by omega⟩:Fin 15).val:Nat):Int)=((i:Int)+at' xs 2) % 15 from e] at h1
  apply h2
  rw[<-h]
  show c∈(((Txt.slice stem none (some at_)).cps++(ch LT (((i:Int)+at' xs 2) % 15)).cps)++(Txt.slice stem (some at_) none).cps).toList
  rw[Array.toList_append,Array.toList_append]
  exact Q3 _ (qa _ h1)
theorem Zk (xs:List Int) (many:Int) (h:many<=15):("zzzzzzzz" : Str)∉cg xs many:=by
 obtain⟨stem,at_,e⟩:=Ea xs many
 rw[e]
 intro hm
 obtain⟨k,hk,he⟩:=List.mem_map.mp hm
 obtain⟨i,hi,rfl⟩:=IW hk
 exact ahk (by omega) he
theorem fold_all {α β:Type} {P:α->Prop} {step:List α->β->List α} (hs:∀ f k,(∀ x∈f,P x)->∀ x∈step f k,P x):∀ (l:List β) (f:List α),(∀ x∈f,P x)->∀ x∈l.foldl step f,P x
 |[],_,h=>h
 |k::l,f,h=>fold_all hs l _ (hs f k h)
theorem Mp {α β:Type} {step:List α->β->List α} (hs:∀ f k,(step f k).length<=f.length+1):∀ (l:List β) (f:List α),(l.foldl step f).length<=f.length+l.length
 |[],_=>zl _
 |k::l,f=>by
  have h1:=Mp hs l (step f k)
  have h2:=hs f k
  rw[z4,qk]
  omega
theorem at3 {a b c:Int} (i:Int) (n:Int) (ha:a<=n) (hb:b<=n) (hc:c<=n):at' [a,b,c] (i % 3)<=n:=by
 have:=qR (xs:=[a,b,c]) (sy (n:=3) (x:=i) (m:=3) (by decide) (by decide))
 simp only[Q2,jv,or_false] at this
 rcases this with e|e|e<;>rw[e]<;>assumption
theorem Mq (script:List Int) (at_ many reasons bars:Int) (m1:many<=15) (b1:bars < 7):Gm (jB script at_ many reasons bars) many:=by
 show Gm (lY script at_ many reasons bars _) many
 generalize aV (bh script at_) 6=head
 have hn:(ni (cg head many)).length=many.toNat:=by
  obtain⟨stem,at_,e⟩:=Ea head many
  rw[(jq _).length_eq,e,zi,mK]
 refine⟨hn,fun r hr=>?_,fun b hb=>?_,wW _,(gM _).nodup_iff.mpr (zF _),fun h=>Zk head many m1 ((jq _).mem_iff.mp h),?_⟩
 ·obtain⟨q,hq,rfl⟩:=List.mem_map.mp hr
  have hq:=pC.mp ((gM _).mem_iff.mp hq)
  have : -1000<=q.1:=fold_all (P:=fun q:jV => -1000<=q.1) (step:=fun f k=>cM script at_ many head (ni (cg head many)) f k) (fun f k hf x hx=>by
   unfold cM at hx
   dsimp only at hx
   generalize aV (bh script (at_+1+k)) 4=xs at hx
   generalize (if many > (1:Int) then many else (1:Int))=mm at hx
   split at hx
   ·rcases List.mem_append.mp hx with hx|hx
    ·exact hf x hx
    ·cases List.mem_singleton.mp hx
     have a1:=oG (at' xs 2) (m:=3) (by decide)
     have a2:=oG (at' xs 2) (m:=9) (by decide)
     have a3:=oG (at' xs 2) (m:=1000) (by decide)
     have:=at3 (at' head 4) 1000 (show 1+at' xs 2 % 3<=1000 by omega) (show 1+at' xs 2 % 9<=1000 by omega) (show 1+at' xs 2 % 1000<=1000 by omega)
     dsimp only
     omega
   ·exact hf x hx) _ [] (fun x h=>by cases h) q hq
  show 0 - q.1<=1000
  omega
 ·have hb:=pC.mp ((gM _).mem_iff.mp hb)
  exact fold_all (P:=fun q:Bar=>q.2.2<=10) (step:=fun f k=>bQ script at_ many (ni (cg head many)) f k) (fun f k hf x hx=>by
   unfold bQ at hx
   dsimp only at hx
   generalize aV (bh script (at_+1+k)) 8=xs at hx
   generalize (if many > (1:Int) then many else (1:Int))=mm at hx
   split at hx
   ·rcases List.mem_append.mp hx with hx|hx
    ·exact hf x hx
    ·cases List.mem_singleton.mp hx
     have:=qR (xs:=[(2:Int),10]) (sy (n:=2) (x:=at' xs 7) (m:=2) (by decide) (by decide))
     simp only[Q2,jv,or_false] at this
     dsimp only
     omega
   ·exact hf x hx) _ [] (fun x h=>by cases h) b hb
 ·show (p8 _ _).length<=6
  rw[(gM _).length_eq]
  refine z3 (yp _) (z3 (Mp (step:=fun f k=>bQ script at_ many (ni (cg head many)) f k) (fun f k=>?_) _ []) (by rw[mK];simp;omega))
  unfold bQ
  dsimp only
  generalize aV (bh script (at_+1+k)) 8=xs
  generalize (if many > (1:Int) then many else (1:Int))=mm
  split
  ·rw[z0];exact zl _
  ·omega
end G26
end
section
set_option synthInstance.maxSize 100000
namespace G26
open PySem PySem.Spec PyProof.Rows L2 P1
theorem Ak (bars:List Bar):∀ (rs:List jV) (s:JS),(∀ q∈s.2.2,∃ b∈bars,q.2=some b)->∀ q∈(rs.foldl (qL bars) s).2.2,∃ b∈bars,q.2=some b
 |[],_,h=>h
 |r::rs,(m,k,bd),h=>by
  refine Ak bars rs _ fun q hq=>?_
  rw[pq] at hq
  split at hq
  ·exact h q hq
  ·split at hq
   ·exact h q hq
   ·rename_i b e
    rcases List.mem_append.mp hq with hq|hq
    ·exact h q hq
    ·cases List.mem_singleton.mp hq
     exact⟨b,List.mem_of_find?_eq_some e,rfl⟩
def oN (k:Int):Str:=("b" : Str)++(ch ("cdefghijkl" : Str) k)
theorem QL:∀ i:Fin 10,∀ j:Fin 10,Ay (oN i.val) (oN j.val)=decide (i.val < j.val):=by decide +kernel
theorem acq {i j:Nat} (hi:i < 10) (hj:j < 10) (h:oN i=oN j):i=j:=by
 have h1:=QL ⟨i,hi⟩ ⟨j,hj⟩
 have h2:=QL ⟨j,hj⟩ ⟨i,hi⟩
 have h3:=QL ⟨i,hi⟩ ⟨i,hi⟩
 have h1:Ay (oN i) (oN j)=decide (i < j):=h1
 have h2:Ay (oN j) (oN i)=decide (j < i):=h2
 have h3:Ay (oN i) (oN i)=decide (i < i):=h3
 rw[h] at h1 h2 h3
 rw[h3] at h1 h2
 have e1:=decide_eq_decide.mp h1
 have e2:=decide_eq_decide.mp h2
 omega
section
variable {names:List Str} (so:names.Pairwise rB) (nd:names.Nodup)
include so nd
theorem ael {i j:Nat} (hi:i < names.length) (hj:j < names.length):Ay names[i] names[j]=decide (i < j):=by
 have le:∀ {a b:Nat} (ha:a < names.length) (hb:b < names.length),a < b->rB names[a] names[b]:=fun ha hb h=>List.pairwise_iff_getElem.mp so _ _ ha hb h
 have ne:∀ {a b:Nat} (ha:a < names.length) (hb:b < names.length),names[a]=names[b]->a=b:=fun {a b} ha hb h=>by
  rcases yn a b with q|q|q
  ·exact absurd h (List.pairwise_iff_getElem.mp nd _ _ ha hb q)
  ·exact q
  ·exact absurd h.symm (List.pairwise_iff_getElem.mp nd _ _ hb ha q)
 rw[kP,lt_iff,Zp]
 constructor
 ·rintro⟨h1,h2⟩
  rcases yn i j with h|h|h
  ·exact h
  ·subst h;exact absurd rfl h2
  ·exact absurd (xW h1 (le hj hi h)) h2
 ·exact fun h=>⟨le hi hj h,fun e=>absurd (ne hi hj e) (zD h)⟩
end
theorem Mr (n:Nat):iy (n:Int)=(rng 0 n).map oN:=rfl
theorem Ms {n i:Nat} (hi:i < n):((rng 0 n).map oN)[i]?=some (oN i):=by
 unfold rng
 rw[Zs,zS,KS hi]
 show some (oN (0+(i:Int)))=_
 rw[Int.zero_add]
structure Gr1 (names:List Str) (rs:List jV) (bars:List Bar):Prop where
 nd:names.Nodup
 rs:Rs names rs
 bs:∀ b∈bars,b.1∈names/\b.2.1∈names
theorem QM {names:List Str} {m:List (Str×Str)} (h:Hd names m):(aW m).length<=names.length/\∀ p∈aW m,p.length<=names.length/\∀ x∈p,x∈names:=by
 unfold aW aX
 rw[h.keys]
 refine⟨by rw[zi];exact List.length_filter_le _ _,fun p hp=>?_⟩
 obtain⟨y,_,rfl⟩:=List.mem_map.mp hp
 rw[Qr]
 exact⟨List.length_filter_le _ _,fun x hx=>(List.mem_filter.mp hx).1⟩
section
variable {names:List Str} {rs:List jV} {bars:List Bar} {many:Int} (s:Gr (names,rs,bars)) (g:Gm (names,rs,bars) many) (hm:many<=9)
include s g hm
theorem Wu:names.length < 10:=by
 have:names.length=many.toNat:=g.nl
 omega
theorem acr:Z8 (names.zip ((rng 0 names.length).map oN))=names.zip ((rng 0 names.length).map oN):=by
 have nd:names.Nodup:=s.nd
 have:=Jz (names.zip ((rng 0 names.length).map oN)) [] (by
  rw[ku,List.map_fst_zip (by rw[zi,mK];exact zl _)]
  exact nd)
 rw[ku] at this
 exact this
theorem Mt:(names.zip ((rng 0 names.length).map oN)).map (·.1)=names:=List.map_fst_zip (by rw[zi,mK];exact zl _)
theorem Ef {i:Nat} (hi:i < names.length):look (names.zip ((rng 0 names.length).map oN)) names[i]=oN i:=by
 have nd:names.Nodup:=s.nd
 refine qK (q:=(names[i],oN i)) (by rw[Mt s g hm];exact nd) (ZY (i:=i) ?_)
 rw[List.getElem?_zip_eq_some]
 exact⟨by simp[hi],Ms hi⟩
theorem acs:Al names (look (names.zip ((rng 0 names.length).map oN))):=by
 have nd:names.Nodup:=s.nd
 have so:names.Pairwise rB:=s.so
 have hl:=Wu s g hm
 refine⟨fun x hx y hy e=>?_,fun x hx y hy=>?_⟩
 ·obtain⟨i,hi,rfl⟩:=qq hx
  obtain⟨j,hj,rfl⟩:=qq hy
  rw[Ef s g hm hi,Ef s g hm hj] at e
  have:=acq (by omega) (by omega) e
  subst this
  rfl
 ·obtain⟨i,hi,rfl⟩:=qq hx
  obtain⟨j,hj,rfl⟩:=qq hy
  rw[Ef s g hm hi,Ef s g hm hj,ael so nd hi hj]
  exact QL ⟨i,by omega⟩ ⟨j,by omega⟩
theorem Zm:names.map (look (names.zip ((rng 0 names.length).map oN)))=(rng 0 names.length).map oN:=by
 apply List.ext_getElem
 ·rw[zi,zi,mK]
 ·intro i h1 h2
  rw[zi] at h1
  rw[List.getElem_map,Ef s g hm h1]
  have:=Ms (n:=names.length) h1
  exact (jI ((zz h2).symm.trans this)).symm
theorem O2:fZ (names,rs,bars)/\cZ (names,rs,bars)=true:=by
 have nd:names.Nodup:=s.nd
 have hl:=Wu s g hm
 have hr:Rs names rs:=s.rs
 have rl:rs.length < 64:=s.rl
 have bl:bars.length < 64:=s.bl
 have hbs:∀ b∈bars,b.1∈names/\b.2.1∈names:=s.bs
 have A:=acs s g hm
 have NE:=acr s g hm
 have NM:=Zm s g hm
 have NK:=Mt s g hm
 have ol:((rng 0 names.length).map oN).length=names.length:=by rw[zi,mK]
 generalize ho:(rng 0 names.length).map oN=others at *
 obtain⟨d0,i0⟩:=kW (names:=names) nd (by omega) hbs hr rl
 obtain⟨q1,q2,q3⟩:=JK bars names rs
 have q4:=Ak bars rs (aR names,[],[]) fun q h=>by cases h
 have q4:∀ q∈(cT bars names rs).2.2,∃ b∈bars,q.2=some b:=q4
 have k0:(cT bars names rs).2.1.length<=rs.length:=i0.kl
 have b0:(cT bars names rs).2.2.length<=rs.length:=i0.bl
 have J:=A.join (ψ:=fun w=>w) nd (by omega) hbs hr
 rw[NM] at J
 have hv:∀ x∈names,has (names.zip others) x=true:=fun x hx=>tB.mpr (by rw[NK];exact hx)
 have hT:jQ (names,rs,bars) others=(others,rs.map (mR (look (names.zip others)) fun w=>w),bars.map (mB (look (names.zip others)))):=by
  unfold jQ
  dsimp only
  rw[NE]
  rfl
 have mo:∀ x∈names,look (names.zip others) x∈others:=fun x hx=>by
  have:=List.mem_map.mpr ⟨x,hx,(rfl:look (names.zip others) x=_)⟩
  rw[NM] at this
  exact this
 have Al':Gr1 others (rs.map (mR (look (names.zip others)) fun w=>w)) (bars.map (mB (look (names.zip others)))):=by
  refine⟨by rw[<-NM];exact A.nd nd,fun r hr'=>?_,fun b hb=>?_⟩
  ·obtain⟨q,hq,rfl⟩:=List.mem_map.mp hr'
   exact⟨mo _ (hr q hq).1,mo _ (hr q hq).2⟩
  ·obtain⟨q,hq,rfl⟩:=List.mem_map.mp hb
   exact⟨mo _ (hbs q hq).1,mo _ (hbs q hq).2⟩
 obtain⟨d1,_⟩:=kW (names:=others) Al'.nd (by omega) Al'.bs Al'.rs (by rw[zi];exact rl)
 have fold:∀ (l:List (jV×Option Bar)) (acc:List (jV×Option Bar)),(∀ q∈l,∃ b∈bars,q.2=some b)->l.foldl (fun qY q3=>bV (names.zip others) qY q3) acc=acc++l.map (mQ (look (names.zip others)) fun w=>w):=by
  intro l
  induction l with
  |nil=>intro acc _;simp
  |cons q l ih=>
   intro acc h
   rw[z4,ih _ fun x hx=>h x (zg _ hx)]
   obtain⟨b,hb,e⟩:=h q (zh ..)
   obtain⟨qr,qb⟩:=q
   have e:qb=some b:=e
   subst e
   rw[zk,<-List.singleton_append,<-KA]
   rfl
 have hd:=Eb (bars:=bars) nd (by omega) hr
 obtain⟨sl,sm⟩:=QM hd
 have hq:∀ q∈(cT bars names rs).2.2,q.1.2.1∈names/\q.1.2.2.1∈names:=fun q h=>hr q.1 (q2 q h)
 refine⟨?_,?_⟩
 ·unfold fZ
  dsimp only
  rw[Mr,ho,NE,eY]
  refine⟨⟨⟨G4 (by omega) (by omega),by rw[mK];show ((names.length:Int)).toNat<=_;omega⟩,fun k hk=>?_⟩,⟨by omega,by omega⟩,d0,⟨by dsimp only;omega,fun p hp=>⟨by have:=(sm p hp).1;omega,fun x hx=>hv x ((sm p hp).2 x hx)⟩⟩,⟨by dsimp only;omega,fun q h=>⟨hv _ (hr q (q1 q h)).1,hv _ (hr q (q1 q h)).2⟩⟩,?_,?_,?_⟩
  ·obtain⟨i,hi,rfl⟩:=IW hk
   have l10:("cdefghijkl" : Str).length=10:=by decide +kernel
   have lb:("b" : Str).length=1:=by decide +kernel
   have hi:i < ((names.length:Int)).toNat:=hi
   exact⟨in_of (by omega) (by rw[l10];omega),o9 (by rw[Dr,lb];decide)⟩
  ·refine (yt (fun k f=>f.length=k) _ 0 [] rfl fun k q f hk hf=>⟨?_,?_⟩).1
   ·have hqm:=ZY hk
    have hk':k < (cT bars names rs).2.2.length:=(List.getElem?_eq_some_iff.mp hk).1
    obtain⟨b,hb,e⟩:=q4 q hqm
    obtain⟨n1,n2⟩:=hq q hqm
    obtain⟨n3,n4⟩:=hbs b hb
    show gn (names.zip others) f q
    unfold gn
    rw[e]
    exact⟨⟨⟨hv _ n1,hv _ n2⟩,⟨rfl,hv _ n3⟩,⟨rfl,hv _ n4⟩,rfl⟩,o9 (by omega)⟩
   ·show (bV (names.zip others) f q).length=_
    unfold bV
    rw[z0,hf]
    rfl
  ·unfold ou
   dsimp only
   rw[NE]
   exact⟨⟨by omega,by omega⟩,⟨by omega,fun q h=>⟨hv _ (hr q h).1,hv _ (hr q h).2⟩⟩,by omega,fun q h=>⟨hv _ (hbs q h).1,hv _ (hbs q h).2⟩⟩
  ·rw[hT]
   exact d1
 ·unfold cZ
  dsimp only
  rw[Mr,ho,NE,hT,J,eY]
  dsimp only
  rw[fold _ [] q4,ku]
  exact Zl rfl
end
end G26
end
section
set_option synthInstance.maxSize 100000
namespace G26
open PySem PySem.Spec PyProof.Rows L2 P1
section
variable {names:List Str} {rs:List jV} {bars:List Bar} (s:Gr (names,rs,bars))
include s
theorem Zn:jh (names,rs,bars)/\gB (names,rs,bars)=true:=by
 obtain⟨nd,hl,hr,hbs,rl,bl,so,rn⟩:=s
 have hbs:∀ b∈bars,b.1∈names/\b.2.1∈names:=hbs
 have nd:names.Nodup:=nd
 have hl:names.length < 64:=hl
 have hr:Rs names rs:=hr
 have rl:rs.length < 64:=rl
 have so:names.Pairwise rB:=so
 obtain⟨d0,i0⟩:=kW nd hl hbs hr rl
 have k0:(cT bars names rs).2.1.length<=rs.length:=i0.kl
 have kr:Rs names (cT bars names rs).2.1:=i0.rs
 obtain⟨d1,_⟩:=kW (bars:=[]) nd hl (fun b h=>by cases h) kr (by omega)
 obtain⟨d2,_⟩:=kW nd hl hbs kr (by omega)
 obtain⟨pd,P,pe,ph⟩:=Wq nd hl kr
 rw[<-i0.e] at ph
 have se:=Zj so i0.h i0.l ph
 have e1:=Ed (bars:=bars) (dW:=[]) (fun _ _ _ _=>rfl) names rs
 have e2:=Ed (bars:=bars) (dW:=bars) (fun _ _ _ h=>h) names rs
 have e3:=Wt nd (by omega) (bars:=bars) hr
 have e4:((cT bars names rs).2.1.length:Int)=(names.length:Int) - ((aW (cT bars names rs).1).length:Int):=by omega
 refine⟨?_,?_⟩
 ·unfold jh
  dsimp only
  rw[eY]
  exact⟨d0,fun _=>⟨d1,fun _=>⟨pd,fun _=>d2⟩⟩⟩
 ·unfold gB
  dsimp only
  rw[eY]
  dsimp only
  rw[e1,e2,pe,<-se,Zl e4]
  simp
theorem O4 (by_:Int):gj (names,rs,bars) by_/\fu (names,rs,bars) by_=true:=by
 obtain⟨nd,hl,hr,hbs,rl,bl,so,rn⟩:=s
 have hbs:∀ b∈bars,b.1∈names/\b.2.1∈names:=hbs
 have nd:names.Nodup:=nd
 have hl:names.length < 64:=hl
 have hr:Rs names rs:=hr
 have rl:rs.length < 64:=rl
 obtain⟨d0,i0⟩:=kW nd hl hbs hr rl
 have k0:(cT bars names rs).2.1.length<=rs.length:=i0.kl
 have b0:(cT bars names rs).2.2.length<=rs.length:=i0.bl
 have A:Al names (fun x=>x):=⟨fun _ _ _ _ e=>e,fun _ _ _ _=>rfl⟩
 have J:=A.join (ψ:=fun w=>w+by_) nd (by omega) hbs hr
 have eb:bars.map (mB fun x=>x)=bars:=Qr bars
 rw[Qr names,eb] at J
 have hr':Rs names (rs.map (mR (fun x=>x) fun w=>w+by_)):=fun r h=>by
  obtain⟨q,hq,rfl⟩:=List.mem_map.mp h
  exact hr q hq
 obtain⟨d1,_⟩:=kW nd hl hbs hr' (by rw[zi];exact rl)
 have fold:∀ (l acc:List (jV×Option Bar)),l.foldl (fun vm q5=>cQ by_ vm q5) acc=acc++l.map (mQ (fun x=>x) fun w=>w+by_):=by
  intro l
  induction l with
  |nil=>intro acc;simp
  |cons q l ih=>
   intro acc
   rw[z4,ih,zk,<-List.singleton_append,<-KA]
   obtain⟨qr,qb⟩:=q
   have:mQ (fun x=>x) (fun w=>w+by_) (qr,qb)=((qr.1+by_,qr.2.1,qr.2.2.1,qr.2.2.2),qb):=by
    unfold mQ mR
    cases qb<;>rfl
   rw[this]
   rfl
 refine⟨?_,?_⟩
 ·unfold gj
  dsimp only
  rw[eY]
  refine⟨d0,by omega,d1,by dsimp only;omega,?_⟩
  refine (yt (fun k f=>f.length=k) _ 0 [] rfl fun k q f hk hf=>⟨?_,?_⟩).1
  ·have hk':k < (cT bars names rs).2.2.length:=(List.getElem?_eq_some_iff.mp hk).1
   exact o9 (by omega)
  ·show (cQ by_ f q).length=_
   unfold cQ
   rw[z0,hf]
   rfl
 ·unfold fu
  dsimp only
  rw[show (rs.map fun q3:jV=>(q3.1+by_,q3.2.1,q3.2.2.1,q3.2.2.2))=rs.map (mR (fun x=>x) fun w=>w+by_) from rfl,J,eY]
  dsimp only
  rw[fold _ [],ku]
  have e5:((aW (cT bars names rs).1).map fun p=>p.map fun x=>x)=aW (cT bars names rs).1:=by
   simp
  rw[e5]
  exact Zl rfl
theorem Zo (a b:Str) (ha:a∈names) (hb:b∈names) (bso:bars.Pairwise fun a b=>leT (Sh eS eS eI) a b=true) (bnd:bars.Nodup) (bn:∀ b∈bars,b.2.2<=10) (bl:bars.length < 60):dO (names,rs,bars) a b/\dN (names,rs,bars) a b=true:=by
 obtain⟨nd,hl,hr,hbs,rl,_,so,rn⟩:=s
 have hbs:∀ b∈bars,b.1∈names/\b.2.1∈names:=hbs
 have nd:names.Nodup:=nd
 have hl:names.length < 64:=hl
 have hr:Rs names rs:=hr
 have rl:rs.length < 64:=rl
 have rn:rs.Nodup:=rn
 unfold dO dN
 dsimp only
 have hnw:∃ nw:Bar,nw=((if Ay b a=true then b else a),(if Ay a b=true then b else a),(100:Int)):=⟨_,rfl⟩
 obtain⟨nw,hnw⟩:=hnw
 rw[<-hnw]
 have n1:nw.1∈names:=by rw[hnw];dsimp only;split<;>assumption
 have n2:nw.2.1∈names:=by rw[hnw];dsimp only;split<;>assumption
 have n3:nw∉bars:=fun h=>by
  have:=bn nw h
  rw[hnw] at this
  exact absurd this (show ¬ (100:Int)<=10 by decide)
 clear hnw
 have pm:=gM (e:=Sh eS eS eI) (bars++[nw])
 have sp:=wW (e:=Sh eS eS eI) (bars++[nw])
 generalize hB:p8 (Sh eS eS eI) (bars++[nw])=dW at *
 have hf:(dW.filter fun b=>decide (b≠nw))=bars:=by
  refine S1.qw (fun _ _=>V8) ((pm.filter _).trans ?_) (sp.filter _) bso
  rw[km,Ya (by simp),List.filter_nil,jS,List.filter_eq_self.mpr fun x hx=>?_]
  exact Zl fun e=>n3 (e▸hx)
 have hbs':∀ b∈dW,b.1∈names/\b.2.1∈names:=fun b hb=>by
  rcases List.mem_append.mp (pm.mem_iff.mp hb) with h|h
  ·exact hbs b h
  ·cases List.mem_singleton.mp h
   exact⟨n1,n2⟩
 obtain⟨d0,i0⟩:=kW nd hl hbs hr rl
 obtain⟨d1,i1⟩:=kW nd hl hbs' hr rl
 have k0:(cT bars names rs).2.1.length<=rs.length:=i0.kl
 have k1:(cT dW names rs).2.1.length<=rs.length:=i1.kl
 have b1:(cT dW names rs).2.2.length<=rs.length:=i1.bl
 obtain⟨q1,q2,q3⟩:=JK dW names rs
 rw[eY,eY]
 dsimp only
 generalize hv:((cT dW names rs).2.2.filter fun q:jV×Option Bar=>decide (q.2=some nw)).map (fun q:jV×Option Bar=>q.1)=Ov
 have hmem:∀ r∈Ov,r∈rs:=fun r h=>by
  rw[<-hv] at h
  obtain⟨q,hq,rfl⟩:=List.mem_map.mp h
  exact q2 q (List.mem_filter.mp hq).1
 refine⟨⟨d0,⟨⟨o9 (by simp;omega),by simp;omega⟩,d1⟩,by omega,fun hne=>?_⟩,?_⟩
 ·have hne:Ov≠[]:=of_decide_eq_false hne
  cases Ov with
  |nil=>exact absurd rfl hne
  |cons r l=>
   have e0:at' (r::l) (0:Int)=r:=Wg (k:=0) rfl
   exact⟨⟨in_of (Int.le_refl 0) (by rw[qk];omega),by rw[e0];exact hmem r (zh ..)⟩,by omega,by omega⟩
 ·cases Ov with
  |nil=>
   rw[zo (Zl rfl)]
   have e:cT dW names rs=cT bars names rs:=JH hf rs (aR names,[],[]) (cT dW names rs).2.2 (by rfl) fun q hq e=>by
    have:q.1∈((cT dW names rs).2.2.filter fun q:jV×Option Bar=>decide (q.2=some nw)).map (fun q:jV×Option Bar=>q.1):=List.mem_map.mpr ⟨q,List.mem_filter.mpr ⟨hq,Zl e⟩,rfl⟩
    rw[hv] at this
    cases this
   rw[e]
   exact Zl rfl
  |cons r l=>
   rw[zw (by simp)]
   have e0:at' (r::l) (0:Int)=r:=Wg (k:=0) rfl
   rw[e0,Qr,Qr,Zp]
   have hm:r∈rs:=hmem r (zh ..)
   obtain⟨pre,post,hsp,hix⟩:∃ pre post,rs=pre++r::post/\Wz r rs=pre.length:=by
    have hlt:Wz r rs < rs.length:=List.findIdx_lt_length.mpr ⟨r,hm,Zl rfl⟩
    have hat:rs[Wz r rs]=r:=ja (List.findIdx_getElem (w:=hlt))
    refine⟨rs.take (Wz r rs),rs.drop (Wz r rs+1),?_,by rw[kL];omega⟩
    have:=yk hlt
    rw[hat] at this
    rw[<-this,List.take_append_drop]
   have hc:cut rs none (some (Wz r rs:Int))=pre:=by
    rw[hix,ab5 (by rw[hsp,z0];omega),hsp,List.take_left']
    rfl
   rw[hc]
   subst hsp
   obtain⟨m1,m2,m3⟩:=List.nodup_append.mp rn
   have dis:∀ x∈r::post,x∉pre:=fun x h1 h2=>m3 x h2 x h1 rfl
   have f1:=(DX bars names dis).1
   have f2:=(DX dW names dis).1
   have ep:cT dW names pre=cT bars names pre:=JH hf pre (aR names,[],[]) (cT dW names pre).2.2 (by rfl) fun q hq e=>by
    obtain⟨K,B,_,h2,_⟩:=nM dW (r::post) (cT dW names pre)
    have hsplit:(cT dW names (pre++r::post)).2.2=(cT dW names pre).2.2++B:=by
     unfold cT at h2 ⊢
     rw[Kt]
     exact h2
    rw[hsplit,km,ZO] at hv
    have hin:q.1∈((cT dW names pre).2.2.filter fun q:jV×Option Bar=>decide (q.2=some nw)).map (fun q:jV×Option Bar=>q.1):=List.mem_map.mpr ⟨q,List.mem_filter.mpr ⟨hq,Zl e⟩,rfl⟩
    have hall:∀ x∈((cT dW names pre).2.2.filter fun q:jV×Option Bar=>decide (q.2=some nw)).map (fun q:jV×Option Bar=>q.1),x∈pre:=fun x hx=>by
     obtain⟨y,hy,rfl⟩:=List.mem_map.mp hx
     exact (JK dW names pre).2.1 y (List.mem_filter.mp hy).1
    cases hl':((cT dW names pre).2.2.filter fun q:jV×Option Bar=>decide (q.2=some nw)).map (fun q:jV×Option Bar=>q.1) with
    |nil=>rw[hl'] at hin;cases hin
    |cons y ys=>
     rw[hl'] at hv hall
     have:y=r:=(List.cons.inj hv).1
     exact dis r (zh ..) (this▸hall y (zh ..))
   rw[f1,f2,ep]
end
end G26
end
section
set_option synthInstance.maxSize 100000
namespace G26
open PySem PySem.Spec PyProof.Rows L2 P1
theorem Zq (ks:List Int) (n:Int) (h:∀ x∈ks,x<=n) (h0:0<=n):Ax ks<=n:=by
 cases ks with
 |nil=>exact h0
 |cons k ks=>
  show ks.foldl _ k<=n
  have:∀ (l:List Int) (k:Int),k<=n->(∀ x∈l,x<=n)->l.foldl (fun m x=>if m < x then x else m) k<=n:=by
   intro l
   induction l with
   |nil=>intro k hk _;exact hk
   |cons x l ih=>
    intro k hk hl
    refine ih _ ?_ fun y hy=>hl y (zg _ hy)
    have:=hl x (zh ..)
    dsimp only
    split<;>assumption
  exact this ks k (h k (zh ..)) fun x hx=>h x (zg _ hx)
theorem Wv (ns:List Int) (_:ns.length<=63):Mh ns/\Mg ns=true:=by
 obtain⟨n1,n2,n3⟩:=Jy (bh ns 0) 13 (by decide) (by decide)
 have n2:(aV (bh ns 0) 13).length=13:=n2
 have n0:=Jx ns 0 (by decide) (by decide)
 unfold Mh Mg
 dsimp only
 generalize aV (bh ns 0) 13=xs at *
 have m1:=oG (at' xs 6) (m:=10) (by decide)
 have m2:=oG (at' xs 7) (m:=15) (by decide)
 have m3:=oG (at' xs 8) (m:=7) (by decide)
 obtain⟨gd,s⟩:=SN ns 0 (at' xs 6 % 10) (at' xs 7 % 15) (at' xs 8 % 7) (by decide) (by decide) m1.1 (by omega) m2.1 (by omega) m3.1 (by omega)
 have g:=Mq ns 0 (at' xs 6 % 10) (at' xs 7 % 15) (at' xs 8 % 7) (by omega) m3.2
 have hm:at' xs 6 % 10<=9:=by omega
 generalize jB ns 0 (at' xs 6 % 10) (at' xs 7 % 15) (at' xs 8 % 7)=v8 at *
 obtain⟨names,rs,bars⟩:=v8
 dsimp only
 have r:=O2 s g hm
 have k:=Zn s
 have nd:names.Nodup:=s.nd
 have hl:=Wu s g hm
 have hr:Rs names rs:=s.rs
 have rl:rs.length < 64:=s.rl
 have bl:bars.length<=6:=g.bl
 have hbs:∀ b∈bars,b.1∈names/\b.2.1∈names:=s.bs
 have nz:("zzzzzzzz" : Str)∉names:=g.nz
 have ix:∀ i:Nat,i < 13->In xs.length (i:Int):=fun i hi=>IV (by omega)
 have hw:Ax ((rs.map fun v:jV=>v.1)++[(0:Int)])<=1000:=Zq _ _ (fun x h=>by
  rcases List.mem_append.mp h with h|h
  ·obtain⟨q,hq,rfl⟩:=List.mem_map.mp h
   exact g.wt q hq
  ·cases List.mem_singleton.mp h
   decide) (by decide)
 obtain⟨d0,i0⟩:=kW (names:=names) nd (by omega) hbs hr rl
 have nd':(names++[("zzzzzzzz" : Str)]).Nodup:=List.nodup_append.mpr ⟨nd,by simp,fun x hx y hy e=>nz (by rw[<-List.mem_singleton.mp hy,<-e];exact hx)⟩
 obtain⟨d1,_⟩:=kW (names:=names++[("zzzzzzzz" : Str)]) nd' (by simp;omega) (fun b hb=>⟨Q3 _ (hbs b hb).1,Q3 _ (hbs b hb).2⟩) (fun q hq=>⟨Q3 _ (hr q hq).1,Q3 _ (hr q hq).2⟩) rl
 have J:=SX nz nd (by omega) hbs hr
 have sl:=(QM (Eb (bars:=bars) nd (by omega) hr)).1
 generalize Ax ((rs.map fun v:jV=>v.1)++[(0:Int)])=mx at *
 have hv:=O4 s (at' xs 9 % (1001 - mx))
 rw[r.2,k.2,hv.2,J,eY]
 dsimp only
 have last:¬ ((names.length:Int) < 2)->∀ y z:Int,(In names.length (y % (names.length:Int))/\In names.length (z % (names.length:Int)))/\dO (names,rs,bars) (at' names (y % (names.length:Int))) (at' names (z % (names.length:Int)))/\dN (names,rs,bars) (at' names (y % (names.length:Int))) (at' names (z % (names.length:Int)))=true:=fun h y z=>by
  have i1:In names.length (y % (names.length:Int)):=sy (by omega) (Int.le_refl _)
  have i2:In names.length (z % (names.length:Int)):=sy (by omega) (Int.le_refl _)
  exact⟨⟨i1,i2⟩,Zo s _ _ (qR i1) (qR i2) g.bso g.bnd g.bn (by omega)⟩
 refine⟨⟨⟨n0,n1⟩,⟨⟨ix 6 (by decide),ix 7 (by decide),ix 8 (by decide)⟩,gd⟩,⟨r.1,fun _=>k.1⟩,fun _=>⟨⟨⟨by omega,o9 (by simp;omega)⟩,by simp⟩,⟨⟨ix 9 (by decide),by omega⟩,hv.1⟩,fun _=>⟨d0,⟨o9 (by simp;omega),d1⟩,o9 (by simp;omega),fun _ h2=>?_⟩⟩⟩,?_⟩
 ·have h2:=of_decide_eq_false h2
  obtain⟨b1,b2,_⟩:=last h2 (at' xs 10) (at' xs 10 % (names.length:Int)+1+at' xs 11 % ((names.length:Int) - 1))
  exact⟨⟨ix 10 (by decide),by omega⟩,⟨⟨ix 11 (by decide),by omega⟩,by omega⟩,b1,b2⟩
 ·rw[zw (by decide),zw (by decide),zw (by simp)]
  split
  ·rfl
  ·rename_i h2
   exact (last (fun h=>h2 (Zl h)) (at' xs 10) (at' xs 10 % (names.length:Int)+1+at' xs 11 % ((names.length:Int) - 1))).2.2
theorem H1:∀ ns:List Int,ns.length<=63->qF [.z (.lst (ns.map .int))]=some (.z (.bl true)):=(aad Wv).1
theorem H2:∀ ns:List Int,ns.length<=63->qF [.l (ns.map .int)]=some (.z (.bl true)):=(aad Wv).2
end G26
end
open PySem PySem.W PyProof.Rows
def PySem.W.Fast.tw15877392832159935402:=0
def PySem.W.Fast.tw17959077931207001288:=0
def PySem.W.Fast.tw13620165247172911550:=0
set_option maxRecDepth 100000 in
set_option maxHeartbeats 0 in
theorem PySem.Challenge.cw_onefolk_k26_whole_joinings_go_along_holds : PySem.Challenge.rw_onefolk_k26_whole_joinings_go_along.Holds := by
 w_on;refine PySem.W.holds_law (by decide +kernel) fun said=>?_
 k_head;(case hw=>w_witness2)
 k_fill
 refine G26.walk (l:=PySem.Challenge.rw_onefolk_k26_whole_joinings_go_along) rfl rfl G26.H1 G26.H2 (fun w h Y=>PySem.W.kIn_of Y) ?F
 case F=>
  intro w mg fa h KX G hmg
  refine' G26.all_mk KX G hmg ?a0 ?l0 ?c0 ?k0 ?a1 ?l1 ?c1 ?k1 ?a2 ?l2 ?c2 ?k2 ?a3 ?l3 ?c3 ?k3 ?a4 ?l4 ?c4 ?k4 ?a5 ?l5 ?c5 ?k5 ?a6 ?l6 ?c6 ?k6 ?a7 ?l7 ?c7 ?k7 ?a8 ?l8 ?c8 ?k8 ?a9 ?l9 ?c9 ?k9 ?a10 ?l10 ?c10 ?k10 ?a11 ?l11 ?c11 ?k11 ?a12 ?l12 ?c12 ?k12 ?a13 ?l13 ?c13 ?k13 ?a14 ?l14 ?c14 ?k14 ?a15 ?l15 ?c15 ?k15 ?a16 ?l16 ?c16 ?k16 ?a17 ?l17 ?c17 ?k17 ?Lz ?zM ?LC ?qG ?Du ?tM ?Ah ?nZ ?G7 ?lX ?iw ?G8
  (case a0=>k_is);(case l0=>k_is);(case c0=>k_is);(case k0=>k_is)
  (case a1=>k_is);(case l1=>k_is);(case c1=>k_is);(case k1=>k_is)
  (case a2=>k_is);(case l2=>k_is);(case c2=>k_is);(case k2=>k_is)
  (case a3=>k_is);(case l3=>k_is);(case c3=>k_is);(case k3=>k_is)
  (case a4=>k_is);(case l4=>k_is);(case c4=>k_is);(case k4=>k_is)
  (case a5=>k_is);(case l5=>k_is);(case c5=>k_is);(case k5=>k_is)
  (case a6=>k_is);(case l6=>k_is);(case c6=>k_is);(case k6=>k_is)
  (case a7=>k_is);(case l7=>k_is);(case c7=>k_is);(case k7=>k_is)
  (case a8=>k_is);(case l8=>k_is);(case c8=>k_is);(case k8=>k_is)
  (case a9=>k_is);(case l9=>k_is);(case c9=>k_is);(case k9=>k_is)
  (case a10=>k_is);(case l10=>k_is);(case c10=>k_is);(case k10=>k_is)
  (case a11=>k_is);(case l11=>k_is);(case c11=>k_is);(case k11=>k_is)
  (case a12=>k_is);(case l12=>k_is);(case c12=>k_is);(case k12=>k_is)
  (case a13=>k_is);(case l13=>k_is);(case c13=>k_is);(case k13=>k_is)
  (case a14=>k_is);(case l14=>k_is);(case c14=>k_is);(case k14=>k_is)
  (case a15=>k_is);(case l15=>k_is);(case c15=>k_is);(case k15=>k_is)
  (case a16=>k_is);(case l16=>k_is);(case c16=>k_is);(case k16=>k_is)
  (case a17=>k_is);(case l17=>k_is);(case c17=>k_is);(case k17=>k_is)
  (case Lz=>k_is)
  (case zM=>k_is)
  (case LC=>k_is)
  (case qG=>k_is)
  (case Du=>k_is)
  (case tM=>k_is)
  (case Ah=>k_is)
  (case nZ=>k_is)
  (case G7=>k_is)
  (case lX=>k_is)
  (case iw=>k_is)
  (case G8=>k_is)
