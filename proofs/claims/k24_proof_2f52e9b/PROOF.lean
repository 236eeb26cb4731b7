import PyProof.Rows.All
import Wide.All
import OpenK.AllK
import Wide.FinOn
import PyProof.EqAt
import PyProof.EqKinds
import PyProof.TupleCall
import PyProof.StrLoop
import PyProof.StrWalks
import PyProof.CompFree
import PyProof.NeKinds
import PyProof.Rows.RuleN_isinstance
import PyProof.ConsumeWalk
import PyProof.IsiPairs
import PyProof.IsiSeqPairs
import PyProof.IsiHeapPairs
import PyProof.IsiNone
import PyProof.PureStr
import PyProof.StrCalls
import PyProof.Rows.SortStr
import PyProof.Rows.StrJoin2
import PyProof.CallStr
import PyProof.WalkInts
import PyProof.Rows.StrDigits
import PyProof.DictWalks
import PyProof.DictTruth
import PyProof.CollectWalk
import PyProof.WalkLemmas
import PyProof.Rows.SortShellK
import PyProof.Rows.SortWalk
import PyProof.SetKind
import PyProof.FactsAll.set
import PyProof.Rows.SetFrom
import PyProof.TupleKey
import PyProof.IsRules
import PyProof.WalksMore
import PyProof.SetRoads
import PyProof.DictCompW
import PyProof.ListRange
import PyProof.FString5
import PyProof.MeetsSeq2
import PyProof.FactsAll.tuple_0
import PyProof.FactsAll.tuple_2
import PyProof.FactsAll.tuple_3
import PyProof.EnumFor
import PyProof.EnumMake
import PyProof.EnumStmt
import PyProof.Rows.EnumRows
import PyProof.SumWalk
import PyProof.Rows.SeqCalls
import KE.KRevSl
import PyProof.ZipIter
import PyProof.TupleIter
import PyProof.AttrMiss
import KE.KDictOf
import Lean
import PySem.Challenge.RW_onefolk_k24_told_joinings
set_option maxRecDepth 100000
set_option maxHeartbeats 4000000
set_option linter.all false
set_option Elab.async false
section
open PySem PySem.Spec PyProof.Rows
abbrev zb:=@wpAny_bind
abbrev zd:=@Heap.get?_push_of_some
abbrev ze:=@wpAny_pure
abbrev zg:=@Nat.le_refl
abbrev zh:=@List.mem_cons_self
abbrev zi:=@List.length_map
abbrev zk:=@if_pos
abbrev zl:=@Bool.false_eq_true
abbrev zo:=@List.mem_cons_of_mem
abbrev zr:=@List.map_cons
abbrev zt:=@Heap.get?_push_size
abbrev zv:=@Heap.lt_size
abbrev zw:=@if_neg
abbrev zz:=@List.size_toArray
abbrev zC:=@Nat.le_of_ble_eq_true
abbrev zD:=@Nat.ne_of_lt
abbrev zI:=@List.getElem?_eq_getElem
abbrev zS:=@List.getElem?_map
abbrev z4:=@Nat.le_trans
abbrev z5:=@List.length_append
abbrev Zl:=@decide_eq_true_eq
abbrev Zp:=@Bool.false_ne_true
abbrev Zs:=@List.getElem?_append_left
abbrev ZA:=@Nat.lt_of_lt_of_le
abbrev ZE:=@if_false
abbrev ZH:=@List.getElem?_cons_succ
abbrev ZI:=@Array.getElem?_eq_getElem
abbrev ZN:=@Bool.and_eq_true
abbrev ZO:=@List.mem_of_getElem?
abbrev ZT:=@List.getElem?_append_right
abbrev ZU:=@Array.length_toList
abbrev ZY:=@Nat.lt_succ_self
abbrev ZZ:=@Heap.size_push
abbrev Z3:=@PySem.W.mg_none_of
abbrev qa:=@List.map_map
abbrev qc:=@List.mem_append_right
abbrev qf:=@PySem.W.mg_of
abbrev qh:=@decide_eq_false
abbrev qi:=@wpAny_newObj_type
abbrev qk:=@Nat.lt_succ_of_lt
abbrev qo:=@List.getElem?_eq_none
abbrev qq:=@Array.getElem?_toList
abbrev qr:=@wpAny_mono
abbrev qv:=@List.length_cons
abbrev qA:=@List.all_eq_true
abbrev qB:=@List.getElem?_replicate
abbrev qE:=@if_true
abbrev qS:=@Nat.zero_le
abbrev qV:=@Bool.not_eq_true'
abbrev Qb:=@decide_eq_false_iff_not
abbrev Qr:=@wpAny_holding
abbrev QA:=@List.foldl_cons
abbrev QE:=@wpAny_typeOf
abbrev QI:=@wpAny_setState_of
abbrev QN:=@List.mem_cons
abbrev QO:=@List.map_append
abbrev QP:=@Nat.lt_of_le_of_lt
abbrev QQ:=@List.any_eq_true
abbrev QR:=@Or.inr
abbrev QU:=@decide_eq_true
abbrev QY:=@List.getElem_of_mem
abbrev Q1:=@List.not_mem_nil
abbrev Q2:=@Nat.le_of_lt
abbrev Q3:=@List.getElem?_set_ne
abbrev Q4:=@List.map_congr_left
abbrev ja:=@Heap.get?_update_ne
abbrev js:=@wpAny_call_entry
abbrev jv:=@List.rel_of_pairwise_cons
abbrev jI:=@codeAny_builtin
abbrev jS:=@Option.some.inj
abbrev j0:=@List.mem_filter
abbrev j3:=@List.length_set
abbrev Jn:=@List.find?_cons
abbrev JA:=@List.cons.injEq
abbrev JE:=@Nat.zero_add
abbrev JJ:=@wpAny_truthy_bool
abbrev JO:=@of_decide_eq_true
abbrev JP:=@Or.inl
abbrev JU:=@Nat.lt_irrefl
abbrev JY:=@List.any_cons
abbrev ka:=@List.Pairwise.imp_of_mem
abbrev kb:=@PySem.mem_of_lookup
abbrev kc:=@List.map_nil
abbrev kf:=@List.map_id'
abbrev kg:=@List.getElem?_set_self
abbrev ki:=@Nat.not_lt_zero
abbrev km:=@List.append_nil
abbrev ko:=@Bool.eq_iff_iff
abbrev kq:=@List.all_cons
abbrev kr:=@Bool.not_true
abbrev ku:=@List.length_take
abbrev ky:=@List.filterMap_cons
abbrev kz:=@wpAny_comprehension_free
abbrev kA:=@wpAny_getItem_str_slice
abbrev kB:=@PySem.F.plainAttrs_list
abbrev kC:=@List.pairwise_mergeSort
abbrev kD:=@decide_false
abbrev kF:=@List.mem_map
abbrev kK:=@List.pairwise_map
abbrev kL:=@List.nodup_append
abbrev kM:=@List.length_range
abbrev kP:=@Array.size_append
abbrev kQ:=@Array.getElem?_eq_none
abbrev kR:=@Heap.get?_update_self
abbrev kS:=@wpAny_isInstance
abbrev kU:=@List.length_drop
abbrev kX:=@List.getElem_mem
abbrev Kb:=@Ne.symm
abbrev Ki:=@Bool.and_true
abbrev Kj:=@decide_true
abbrev Kk:=@Nat.le_succ
abbrev Kn:=@wpAny_passesOwn
abbrev Kt:=@List.mergeSort_perm
abbrev Kx:=@List.mem_range
abbrev KA:=@Obj.data_mapFields
abbrev KB:=@Calls.call_function_entry
abbrev KF:=@wpAny_pyIter_list
abbrev KG:=@List.getElem?_set
abbrev KI:=@Int.toNat_natCast
abbrev KL:=@wpAny_standAt
abbrev KM:=@wpAny_newList
abbrev KO:=@PySem.F.type_list_append
abbrev KP:=@PySem.F.slot_list_append
abbrev KS:=@PySem.F.args_tuple_add_2
abbrev KU:=@List.nodup_range
abbrev KW:=@List.filter_cons
abbrev K2:=@wpAny_callSpecial?_slot
abbrev ya:=@PySem.F.entry_tuple_add
abbrev yb:=@Int.eq_ofNat_of_zero_le
abbrev ye:=@F.plain_set_update_loop
end
section
namespace L2
open PySem PySem.Spec PyProof.Rows
abbrev Key:=Sum Int Str
def mV:Key->Value->Bool
 |.inl k,v=>Value.isInt k v
 |.inr x,v=>Value.isStrOf x v
def ae8 (w:World):Key->Int
 |.inl k=>hashInt k
 |.inr x=>hashStr w x
theorem bM:∀ {k:Key} {v:Value},mV k v=true->(∃ i t,k=Sum.inl i/\v=Value.int i t)\/(∃ x t,k=Sum.inr x/\v=Value.str x t)
 |.inl i,v,h=>by
  obtain⟨t,e⟩:=Value.isInt_shape (k:=i) (v:=v) h
  exact .inl ⟨i,t,rfl,e⟩
 |.inr x,v,h=>by
  obtain⟨t,e⟩:=Value.isStrOf_shape (x:=x) (v:=v) h
  exact .inr ⟨x,t,rfl,e⟩
theorem RD (i:Int) (t:Tok):mV (.inl i) (.int i t)=true:=by simp[mV,Value.isInt]
theorem RG (x:Str) (t:Tok):mV (.inr x) (.str x t)=true:=by simp[mV,Value.isStrOf]
theorem aaw (a b:Int):decide ((Sum.inl a:Key)=Sum.inl b)=(a==b):=by
 by_cases e:a=b
 ·subst e;simp
 ·have h:¬ (Sum.inl a:Key)=Sum.inl b:=fun q=>e (Sum.inl.inj q)
  rw[qh h]
  exact (beq_eq_false_iff_ne.mpr e).symm
theorem aax (a b:Str):decide ((Sum.inr a:Key)=Sum.inr b)=decide (a=b):=by
 by_cases e:a=b
 ·subst e;simp
 ·have h:¬ (Sum.inr a:Key)=Sum.inr b:=fun q=>e (Sum.inr.inj q)
  rw[qh h,qh e]
theorem aay (a:Int) (b:Str):decide ((Sum.inl a:Key)=Sum.inr b)=false:=qh (fun q=>nomatch q)
theorem aaz (a:Str) (b:Int):decide ((Sum.inr a:Key)=Sum.inl b)=false:=qh (fun q=>nomatch q)
def bw (prog:Program) (w:World):PySem.KeyKind prog w Key where
 is:=mV
 hash:=ae8 w
 inj:=fun v a b ha hb=>by
  rcases bM ha with⟨i,t,rfl,rfl⟩|⟨x,t,rfl,rfl⟩
  ·rcases bM hb with⟨j,u,rfl,e⟩|⟨y,u,rfl,e⟩
   ·injection e with e1 _;rw[e1]
   ·exact nomatch e
  ·rcases bM hb with⟨j,u,rfl,e⟩|⟨y,u,rfl,e⟩
   ·exact nomatch e
   ·injection e with e1 _;rw[e1]
 byValue:=fun k v h=>by
  rcases bM h with⟨i,t,rfl,rfl⟩|⟨x,t,rfl,rfl⟩<;>rfl
 pyHash:=fun hv h=>by
  rcases bM hv with⟨i,t,rfl,rfl⟩|⟨x,t,rfl,rfl⟩
  ·exact wpAny_pyHash_int h
  ·exact wpAny_pyHash_str h
 eqBool:=fun hu hv h=>by
  rcases bM hu with⟨i,t,rfl,rfl⟩|⟨x,t,rfl,rfl⟩
  ·rcases bM hv with⟨j,u,rfl,rfl⟩|⟨y,u,rfl,rfl⟩
   ·rw[aaw] at h;exact wpAny_eqBool_int h
   ·rw[aay] at h;exact SeqAt.EqAt.int_str i t y u _ _ _ _ h
  ·rcases bM hv with⟨j,u,rfl,rfl⟩|⟨y,u,rfl,rfl⟩
   ·rw[aaz] at h;exact SeqAt.EqAt.str_int x t j u _ _ _ _ h
   ·rw[aax] at h;exact wpAny_eqBool_str h
 «strs»:=fun k x t v h=>by
  rcases bM h with⟨i,u,rfl,e⟩|⟨y,u,rfl,e⟩
  ·exact nomatch e
  ·injection e with e1 _
   subst e1
   cases v<;>rfl
theorem Kd (prog:Program) (w:World) (i:Int) (t:Tok):(bw prog w).is (.inl i) (.int i t)=true:=RD i t
theorem Ke (prog:Program) (w:World) (x:Str) (t:Tok):(bw prog w).is (.inr x) (.str x t)=true:=RG x t
end L2
namespace L2
open PySem PySem.Spec PyProof.Rows
inductive V where
 |non|bl (b:Bool)|int (i:Int)|str (x:Str)|byt (b:Array UInt8)|flt (b:UInt64)|ref (a:Addr)|ty (n:String)
 deriving DecidableEq
def RelV:V->Value->Prop
 |.non,u=>u=Value.none
 |.bl b,u=>u=Value.bool b
 |.int i,u=>∃ t,u=Value.int i t
 |.str x,u=>∃ t,u=Value.str x t
 |.byt b,u=>∃ t,u=Value.bytes b t
 |.flt b,u=>∃ t,u=Value.float b t
 |.ref a,u=>u=Value.ref a
 |.ty n,u=>u=Value.type n
abbrev Vals:List V->List Value->Prop:=Paired RelV
theorem Vals.length {xs:List V} {us:List Value} (r:Vals xs us):xs.length=us.length:=Paired.length r
theorem Vals.get:∀ {xs:List V} {us:List Value} {i:Nat} {x:V},Vals xs us->xs[i]?=some x->∃ u,us[i]?=some u/\RelV x u
 |_,_,_,_,.nil,e=>by simp at e
 |_,_,0,_,.cons r _,e=>by simp at e;subst e;exact⟨_,rfl,r⟩
 |_,_,i+1,x,.cons _ t,e=>by
  obtain⟨u,h1,h2⟩:=Vals.get (i:=i) (x:=x) t (by simpa using e)
  exact⟨u,by simpa using h1,h2⟩
theorem Vals.set {x:V} {u:Value} (r:RelV x u):∀ {xs:List V} {us:List Value} (i:Nat),Vals xs us->Vals (xs.set i x) (us.set i u)
 |_,_,_,.nil=>.nil
 |_,_,0,.cons _ t=>.cons r t
 |_,_,i+1,.cons q t=>.cons q (Vals.set r i t)
theorem Vals.append:∀ {xs ys:List V} {us ws:List Value},Vals xs us->Vals ys ws->Vals (xs++ys) (us++ws)
 |_,_,_,_,.nil,s=>s
 |_,_,_,_,.cons r t,s=>.cons r (Vals.append t s)
theorem Vals.take:∀ {xs:List V} {us:List Value} (n:Nat),Vals xs us->Vals (xs.take n) (us.take n)
 |_,_,0,_=>.nil
 |_,_,_+1,.nil=>.nil
 |_,_,n+1,.cons r t=>.cons r (Vals.take n t)
theorem Vals.drop:∀ {xs:List V} {us:List Value} (n:Nat),Vals xs us->Vals (xs.drop n) (us.drop n)
 |_,_,0,r=>r
 |_,_,_+1,.nil=>.nil
 |_,_,n+1,.cons _ t=>Vals.drop n t
def zH:Option V->Option Value->Prop
 |some v,some u=>RelV v u
 |none,none=>True
 |_,_=>False
def KV {κ:Type}:List (κ×V)->List (κ×Value)->Prop:=Paired fun (p:κ×V) (q:κ×Value)=>p.1=q.1/\RelV p.2 q.2
def kV:Key->V
 |.inl i=>.int i
 |.inr x=>.str x
inductive HO where
 |lst (xs:List V)
 |tup (xs:List V)
 |dK (kvs:List (Key×V))|dT (kvs:List (List Key×V))
 |set (S:Int->Bool) (n:Nat)
 |ins (C dx:Addr) (fs:List (Str×V))
 |own (x:Addr)
 |xd (fs:List (Str×V))
 |met (f x:Addr)
 |rng (lo hi:Int)
 |lG (o:Obj) (u:HO)
 |tbl (ps:Array Value)
 |ext (φ:Heap->Prop)
abbrev Hp:=Addr->Option HO
def upd (H:Hp) (a:Addr) (o:HO):Hp:=fun b=>if b=a then some o else H b
theorem aX {H:Hp} {a:Addr} {o:HO}:upd H a o a=some o:=by unfold upd;rw[zk rfl]
theorem aF {H:Hp} {a b:Addr} {o:HO} (h:b≠a):upd H a o b=H b:=by unfold upd;rw[zw h]
def uy (h:Heap) (a:Addr) (items:Array Value):Prop:=∃ o,h.get? a=some o/\o.cls=.type "tuple" ∧ (∃ n,o.data=.seq items n)/\o.dict=none
theorem uy.weak {h:Heap} {a:Addr} {items:Array Value} (x:uy h a items):IsTup h a items:=let ⟨o,e,c,d,_⟩:=x;⟨o,e,c,d⟩
theorem uy.new (h:Heap) (items:Array Value):uy (h.push { cls:=.type "tuple", data:=.seq items }) h.objs.size items:=⟨_,zt _ rfl,rfl,⟨_,rfl⟩,rfl⟩
theorem o7 {H:Hp} {a b:Addr} {o u:HO} (h:H a=some o) (h':H b=some u) (d:o≠u):a≠b:=by
 intro e;subst e;rw[h] at h';exact d (jS h')
theorem dY {H:Hp} {a b:Addr} {o:HO} (h:H a=some o) (h':H b=none):a≠b:=by
 intro e;subst e;rw[h] at h';cases h'
section
variable (P:Program) (w:World)
def iw (H:Hp) (h:Heap) (a:Addr):HO->Prop
 |.lst xs=>xs.length<=sizeLine/\∃ (its:List Value) (n:Nat),Vals xs its/\h.get? a=some { cls:=.type "list", data:=.seq its.toArray n }
 |.tup xs=>xs.length<=sizeLine/\∃ its:List Value,Vals xs its/\uy h a its.toArray
 |.dK kvs=>kvs.length<=sizeLine/\(a==sysModules)=false/\∃ vs,KV kvs vs/\h.DictOf (bw P w) a vs
 |.dT kvs=>kvs.length<=sizeLine/\(a==sysModules)=false/\∃ xs:List (List Key×Addr×Value),
   Paired (fun (p:List Key×V) (q:List Key×Addr×Value)=>p.1=q.1/\H q.2.1=some (.tup (p.1.map kV))/\RelV p.2 q.2.2) kvs xs ∧
   ∃ o es ep,h.get? a=some o/\o.ExactDict/\o.data=.dict es ep/\es.toList=xs.map (entryOfKey (tupleKind (bw P w)))/\(xs.map (·.1)).Nodup
 |.set S n=>h.SetOf (intKind P w) a S n
 |.ins C dx fs=>H dx=some (.own a)/\fs.length<=1000/\dx≠a/\h.get? a=some (PySem.W.instObj C dx) ∧
   ∃ mA,h.Ns1 dx mA/\(∀ f,zH (fs.lookup f) (mA f))/\PySem.Within mA (fs.map (·.1))
 |.own _=>∃ o,h.get? a=some o
 |.xd fs=>∃ mA,h.Ns1 a mA/\∀ f,zH (fs.lookup f) (mA f)
 |.rng lo hi=>∃ t u v,h.get? a=some { cls:=.type "range", data:=.fields #[.int lo t,.int hi u,.int 1 v] }
 |.lG o u=>h.get? a=some o/\iw H h a u
 |.tbl ps=>h.get? a=some { cls:=.none,data:=.fields ps }
 |.met f x=>h.get? a=some (PySem.W.methodObj (.ref f) (.ref x))
 |.ext φ=>φ h/\(∃ o,h.get? a=some o)/\∀ h1 h2:Heap,φ h1->(∀ o,h1.get? a=some o->h2.get? a=some o)->φ h2
def xK (H:Hp) (h:Heap):Prop:=∀ a o,H a=some o->iw P w H h a o
end
section
variable {P:Program} {w:World} {H H':Hp} {h h':Heap} {a:Addr} {o:HO}
theorem iw.lt (x:iw P w H h a o):a < h.objs.size:=by
 cases o with
 |lst xs=>obtain⟨_,_,_,_,e⟩:=x;exact zv e
 |tup xs=>obtain⟨_,_,_,p⟩:=x;exact p.weak.lt
 |dK kvs=>obtain⟨_,_,_,_,o,_,_,e,_⟩:=x;exact zv e
 |dT kvs=>obtain⟨_,_,_,_,o,_,_,e,_⟩:=x;exact zv e
 |set S n=>obtain⟨o,_,_,_,e,_⟩:=x;exact zv e
 |ins C dx fs=>obtain⟨_,_,_,e,_⟩:=x;exact zv e
 |own y=>obtain⟨_,e⟩:=x;exact zv e
 |xd fs=>obtain⟨_,⟨_,_,_,e,_⟩,_⟩:=x;exact zv e
 |rng lo hi=>obtain⟨_,_,_,e⟩:=x;exact zv e
 |lG ob u=>obtain⟨e,_⟩:=x;exact zv e
 |tbl ps=>exact zv (show h.get? a=some _ from x)
 |met f y=>exact zv (show h.get? a=some _ from x)
 |ext φ=>obtain⟨_,⟨_,e⟩,_⟩:=x;exact zv e
theorem Paired.Xj {α β:Type} {F G:α->β->Prop}:∀ {l₁:List α} {l₂:List β},Paired F l₁ l₂->(∀ a b,F a b->G a b)->Paired G l₁ l₂
 |_,_,.nil,_=>.nil
 |_,_,.cons r t,f=>.cons (f _ _ r) (Paired.Xj t f)
theorem Paired.imp' {α β:Type} {F G:α->β->Prop} (f:∀ a b,F a b->G a b) {l₁:List α} {l₂:List β} (r:Paired F l₁ l₂):Paired G l₁ l₂:=Paired.Xj r f
theorem iw.stay (x:iw P w H h a o) (k:∀ b u,(b=a\/H b=some (.own a))->h.get? b=some u->h'.get? b=some u)
  (ho:∀ b,H b=some (.own a)->H' b=some (.own a)) (ht:∀ b xs,H b=some (.tup xs)->H' b=some (.tup xs)):iw P w H' h' a o:=by
 induction o with
 |lst xs=>obtain⟨z,its,n,r,e⟩:=x;exact⟨z,its,n,r,k _ _ (.inl rfl) e⟩
 |tup xs=>obtain⟨z,its,r,ob,e,c⟩:=x;exact⟨z,its,r,ob,k _ _ (.inl rfl) e,c⟩
 |dK kvs=>obtain⟨z,y,vs,r,ob,es,ep,e,c⟩:=x;exact⟨z,y,vs,r,ob,es,ep,k _ _ (.inl rfl) e,c⟩
 |dT kvs=>
  obtain⟨z,y,xs,r,ob,es,ep,e,c⟩:=x
  exact⟨z,y,xs,Paired.Xj r fun p q z=>⟨z.1,ht _ _ z.2.1,z.2.2⟩,ob,es,ep,k _ _ (.inl rfl) e,c⟩
 |set S n=>obtain⟨ob,es,ep,t,e,c⟩:=x;exact⟨ob,es,ep,t,k _ _ (.inl rfl) e,c⟩
 |ins C dx fs=>
  obtain⟨d,z,ne,e,mA,⟨od,es,ep,e2,c⟩,r⟩:=x
  exact⟨ho _ d,z,ne,k _ _ (.inl rfl) e,mA,⟨od,es,ep,k _ _ (.inr d) e2,c⟩,r⟩
 |own y=>obtain⟨ob,e⟩:=x;exact⟨ob,k _ _ (.inl rfl) e⟩
 |xd fs=>obtain⟨mA,⟨od,es,ep,e,c⟩,r⟩:=x;exact⟨mA,⟨od,es,ep,k _ _ (.inl rfl) e,c⟩,r⟩
 |rng lo hi=>obtain⟨t,u,v,e⟩:=x;exact⟨t,u,v,k _ _ (.inl rfl) e⟩
 |lG ob u ih=>obtain⟨e,q⟩:=x;exact⟨k _ _ (.inl rfl) e,ih q⟩
 |tbl ps=>
  have e:h.get? a=some { cls:=.none,data:=.fields ps }:=x
  show h'.get? a=some { cls:=.none,data:=.fields ps }
  exact k a _ (.inl rfl) e
 |met f y=>
  have e:h.get? a=some (PySem.W.methodObj (.ref f) (.ref y)):=x
  show h'.get? a=some (PySem.W.methodObj (.ref f) (.ref y))
  exact k a _ (.inl rfl) e
 |ext φ=>obtain⟨p,⟨o,e⟩,st⟩:=x;exact⟨st _ _ p fun o q=>k _ _ (.inl rfl) q,⟨o,k _ _ (.inl rfl) e⟩,st⟩
theorem xK.lt (x:xK P w H h) (e:H a=some o):a < h.objs.size:=(x a o e).lt
theorem xK.fresh (x:xK P w H h) (e:h.objs.size<=a):H a=none:=by
 cases q:H a with
 |none=>rfl
 |some u=>exact absurd (ZA (x.lt q) e) (JU _)
theorem xK.kept (x:xK P w H h) (k:∀ b u,h.get? b=some u->h'.get? b=some u):xK P w H h':=fun a o e=>
 (x a o e).stay (fun b u _ q=>k b u q) (fun _ q=>q) fun _ _ q=>q
theorem xK.laid (x:xK P w H h) (k:∀ b u,h.get? b=some u->h'.get? b=some u) (hp:h.objs.size<=a) (new:iw P w (upd H a o) h' a o):xK P w (upd H a o) h':=fun b u e=>by
 have hn:=x.fresh hp
 by_cases hb:b=a
 ·subst hb;rw[aX] at e;cases e;exact new
 ·rw[aF hb] at e
  exact (x b u e).stay (fun c v _ q=>k c v q) (fun c q=>by rw[aF (dY q hn)];exact q) fun c xs q=>by rw[aF (dY q hn)];exact q
end
def Rd (H:Hp) (a:Addr) (u:HO):Prop:=H a=some u\/∃ o,H a=some (.lG o u)
theorem Rd.of {H:Hp} {a:Addr} {u:HO} (h:H a=some u):Rd H a u:=.inl h
theorem Rd.ok {P:Program} {w:World} {H:Hp} {h:Heap} {a:Addr} {u:HO} (r:Rd H a u) (x:xK P w H h):iw P w H h a u:=by
 rcases r with r|⟨o,r⟩
 ·exact x a u r
 ·obtain⟨_,q⟩:=x a _ r
  exact q
def Mut:Option HO->Prop
 |some (.lst _)=>True
 |some (.dK _)=>True
 |some (.dT _)=>True
 |some (.set _ _)=>True
 |some (.ins _ _ _)=>True
 |some (.ext _)=>True
 |_=>False
section
variable {P:Program} {w:World} {H:Hp} {h h':Heap} {x e:Addr} {o':HO}
theorem xK.write (ok:xK P w H h) (mu:Mut (H x)) (he:e=x\/H e=some (.own x)) (k:∀ b u,b≠e->h.get? b=some u->h'.get? b=some u) (heo:∃ u,h'.get? e=some u)
  (new:iw P w (upd H x o') h' x o'):xK P w (upd H x o') h':=fun b u q=>by
 have acS:∀ c y,H c=some (.own y)->c≠x:=fun c y r z=>by subst z;rw[r] at mu;exact mu
 have ae9:∀ c xs,H c=some (.tup xs)->c≠x:=fun c xs r z=>by subst z;rw[r] at mu;exact mu
 by_cases hb:b=x
 ·subst hb;rw[aX] at q;cases q;exact new
 ·rw[aF hb] at q
  by_cases hbe:b=e
  ·have q':H b=some (.own x):=by
    rcases he with z|z
    ·exact absurd (hbe.trans z) hb
    ·rw[hbe];exact z
   rw[q] at q';cases q'
   obtain⟨v,hv⟩:=heo
   exact⟨v,by rw[hbe];exact hv⟩
  ·refine (ok b u q).stay (fun c v hc r=>k c v ?_ r) (fun c r=>by rw[aF (acS c b r)];exact r) fun c xs r=>by rw[aF (ae9 c xs r)];exact r
   rcases hc with rfl|hc
   ·exact hbe
   ·rintro rfl
    rcases he with z|z
    ·exact acS c b hc z
    ·rw[hc] at z;cases z;exact hb rfl
end
structure Un (fs ex:List Addr) (H H':Hp) (h h':Heap):Prop where
 keep:∀ b o,h.get? b=some o->H b=none->b∉fs->b∉ex->h'.get? b=some o
 slot:∀ b o,h.get? b=some o->H b=none->b∈fs->b∉ex->∃ sl,h'.get? b=some { o with slots:=sl }
 free:∀ b o,h.get? b=some o->H b=none->b∉ex->H' b=none
 there:∀ b o,h.get? b=some o->b∉ex->∃ o',h'.get? b=some o'
 tups:∀ b xs,H b=some (.tup xs)->H' b=some (.tup xs)
 uh:∀ b o u,H b=some (.lG o u)->H' b=some (.lG o u)
 wN:∀ b ps,H b=some (.tbl ps)->∃ more,H' b=some (.tbl (ps++more))
section
variable {fs fs' ex ex':List Addr} {H H1 H2:Hp} {h h1 h2 h':Heap} {a x e:Addr} {o:HO}
theorem Un.any (u:Un fs ex H H1 h h1) {b:Addr} {ob:Obj} (q:h.get? b=some ob) (n:H b=none) (hx:b∉ex):∃ sl,h1.get? b=some { ob with slots:=sl }:=by
 by_cases hb:b∈fs
 ·exact u.slot b ob q n hb hx
 ·exact⟨ob.slots,u.keep b ob q n hb hx⟩
theorem Un.trans (a:Un fs ex H H1 h h1) (b:Un fs ex H1 H2 h1 h2):Un fs ex H H2 h h2 where
 keep:=fun c ob q n hc hx=>b.keep c ob (a.keep c ob q n hc hx) (a.free c ob q n hx) hc hx
 slot:=fun c ob q n hc hx=>by
  obtain⟨sl,e1⟩:=a.slot c ob q n hc hx
  obtain⟨sl',e2⟩:=b.slot c _ e1 (a.free c ob q n hx) hc hx
  exact⟨sl',e2⟩
 free:=fun c ob q n hx=>by
  obtain⟨o',e1⟩:=a.there c ob q hx
  exact b.free c o' e1 (a.free c ob q n hx) hx
 there:=fun c ob q hx=>by
  obtain⟨o',e1⟩:=a.there c ob q hx
  exact b.there c o' e1 hx
 tups:=fun c xs q=>b.tups c xs (a.tups c xs q)
 uh:=fun c ob xs q=>b.uh c ob xs (a.uh c ob xs q)
 wN:=fun c ps q=>by
  obtain⟨m1,e1⟩:=a.wN c ps q
  obtain⟨m2,e2⟩:=b.wN c _ e1
  exact⟨m1++m2,by rw[e2,Array.append_assoc]⟩
theorem Un.kept (k:∀ b u,h.get? b=some u->h'.get? b=some u):Un fs ex H H h h':=
 ⟨fun b ob q _ _ _=>k b ob q,fun b ob q _ _ _=>⟨ob.slots,k b ob q⟩,fun _ _ _ n _=>n,fun b ob q _=>⟨ob,k b ob q⟩,fun _ _ q=>q,fun _ _ _ q=>q,fun _ ps q=>⟨#[],by rw[q];simp⟩⟩
theorem Un.refl:Un fs ex H H h h:=Un.kept fun _ _ q=>q
theorem Un.laid (k:∀ b u,h.get? b=some u->h'.get? b=some u) (hp:h.objs.size<=a) (hn:H a=none):Un fs ex H (upd H a o) h h' where
 keep:=fun b u q _ _ _=>k b u q
 slot:=fun b u q _ _ _=>⟨u.slots,k b u q⟩
 free:=fun b u q n _=>by rw[aF (zD (ZA (zv q) hp))];exact n
 there:=fun b u q _=>⟨u,k b u q⟩
 tups:=fun b xs q=>by rw[aF (dY q hn)];exact q
 uh:=fun b u xs q=>by rw[aF (dY q hn)];exact q
 wN:=fun b ps q=>⟨#[],by rw[aF (dY q hn),q];simp⟩
theorem Un.write (mu:Mut (H x)) (he:e=x\/H e=some (.own x)) (k:∀ b u,b≠e->h.get? b=some u->h'.get? b=some u) (heo:∃ u,h'.get? e=some u):Un fs ex H (upd H x o) h h':=by
 have hx:∀ b,H b=none->b≠x:=fun b n z=>by subst z;rw[n] at mu;exact mu
 have hb:∀ b,H b=none->b≠e:=fun b n z=>by
  subst z
  rcases he with r|r
  ·exact hx b n r
  ·rw[n] at r;cases r
 have hm:∀ b u,H b=some u->¬ Mut (some u)->b≠x:=fun b u q nm z=>by subst z;rw[q] at mu;exact nm mu
 refine⟨fun b u q n _ _=>k b u (hb b n) q,fun b u q n _ _=>⟨u.slots,k b u (hb b n) q⟩,fun b u q n _=>by rw[aF (hx b n)];exact n,fun b u q _=>?_,
  fun b xs q=>by rw[aF (hm b _ q fun z=>z)];exact q,fun b u xs q=>by rw[aF (hm b _ q fun z=>z)];exact q,fun b ps q=>⟨#[],by rw[aF (hm b _ q fun z=>z),q];simp⟩⟩
 by_cases hbe:b=e
 ·subst hbe;exact heo
 ·exact⟨u,k b u hbe q⟩
theorem Un.mono (u:Un fs ex H H1 h h1) (hs:∀ b∈fs,b∈fs') (hx:∀ b∈ex,b∈ex'):Un fs' ex' H H1 h h1:=
 ⟨fun b ob q n hb he=>u.keep b ob q n (fun z=>hb (hs b z)) fun z=>he (hx b z),fun _ _ q n _ he=>u.any q n fun z=>he (hx _ z),fun b ob q n he=>u.free b ob q n fun z=>he (hx b z),fun b ob q he=>u.there b ob q fun z=>he (hx b z),u.tups,u.uh,u.wN⟩
end
def trk (h:Heap) (H:Hp):List Addr:=(List.range h.objs.size).filter fun a=>(H a).isSome
def HD (h:Heap) (H:Hp):Heap:=PySem.W.hideAll h (trk h H)
theorem RJ (h:Heap) (H:Hp):(HD h H).objs.size=h.objs.size:=PySem.W.hideAll_size _ _
theorem Ua {h:Heap} {H:Hp} {b:Addr} {o:Obj} (e:h.get? b=some o) (n:H b=none):(HD h H).get? b=some o:=
 PySem.W.hideAll_get _ e fun hm=>by
  have q:(H b).isSome=true:=(List.mem_filter.mp hm).2
  rw[n] at q;simp at q
theorem Xk {h:Heap} {H:Hp} {b:Addr} {o:Obj} (e:(HD h H).get? b=some o):h.get? b=some o/\H b=none:=by
 have e':h.get? b=some o:=PySem.W.of_hideAll (trk h H) e
 refine⟨e',?_⟩
 cases q:H b with
 |none=>rfl
 |some x=>
  have hm:b∈trk h H:=List.mem_filter.mpr ⟨List.mem_range.mpr (zv e'),by simp[q]⟩
  have z:(HD h H).get? b=none:=PySem.W.hideAll_none (trk h H) hm
  rw[z] at e;cases e
def Xl (g h:Heap) (L:Addr):List (Addr×Obj):=(List.range h.objs.size).filterMap fun a=>if a=L\/(g.get? a).isSome=true then none else (h.get? a).map fun o=>(a,o)
def rest (g h:Heap) (L d:Addr):List (Addr×Obj):=(Xl g h L).filter fun p=>decide (p.1≠d)
end L2
namespace L2
open PySem PySem.Spec PyProof.Rows
structure Mod (K:PySem.W.Frag) (mg:Str->Option Value) (base:Heap):Prop where
 kin:K.In base
 glob:base.Ns mainGlobals mg
 blt:∃ mb,base.Ns builtinsNs mb/\∀ x:Str,x ≠ "__name__" → mb x=bootBuiltins x
 nolimit:base.NoLimit
structure Cx where
 prog:Program
 w:World
 K:PySem.W.Frag
 mg:Str->Option Value
 base:Heap
 A:Around
 N:List Str
 s₀:Shared
 H₀:Hp
 env:Env
 outer:List Env
 stack:List Env
 ex:List Addr
 fn:Str->Bool
 calm:Bool
 pn:List (Addr×Obj)
 xe:Value->Shared->Prop
def frs (l:List Env):List Addr:=l.filterMap (·.frame)
abbrev Cx.fs (X:Cx):List Addr:=frs X.outer
def T5 (sc:Scope) (x:Str):Prop:=sc.names.lookup x=some .local\/sc.names.lookup x=some .cell\/sc.names.lookup x=some .free
def Loc (sc:Scope) (x:Str):Prop:=sc.names.lookup x=some .local\/sc.names.lookup x=some .cell
def Look (env:Env) (h:Heap) (m:Str->Option Value) (x:Str) (u:Value):Prop:=
 (env.kindOf x=some .local/\m x=some u)\/((env.kindOf x=some .cell\/env.kindOf x=some .free)/\∃ c,env.cells.lookup x=some c/\h.IsCell c (some u))
structure Cx.Ok (X:Cx):Prop where
 mod:Mod X.K X.mg X.base
 kind:X.env.scope.kind=.function
 glob:X.env.globals=mainGlobals
 blt:X.env.builtins=builtinsNs
 above:X.s₀.heap.objs.size<=X.env.locals
 inj:∀ x y c,X.env.cells.lookup x=some c->X.env.cells.lookup y=some c->x=y
 has:∀ x,(X.env.kindOf x=some .cell\/X.env.kindOf x=some .free)->∃ c,X.env.cells.lookup x=some c
 cab:∀ x c,X.fn x=true->X.env.cells.lookup x=some c->X.s₀.heap.objs.size<=c
 hd:X.calm=true->X.A.handled=none
 frames:X.A.frames=some X.stack
 stk:X.stack=X.outer\/(X.stack=X.env::X.outer/\X.env.frame=some X.env.locals)
 exf:∀ b∈X.ex,b≠X.env.locals/\∀ x c,X.env.cells.lookup x=some c->c≠b
 bs:∀ b o,X.base.get? b=some o->X.s₀.heap.get? b=some o/\X.H₀ b=none
 Xe:X.base.objs.size<=X.s₀.heap.objs.size
 Ub:∀ b o,X.base.get? b=some o->b∉X.ex
 Xm:∀ b∈X.ex,b∉X.fs
 Br:X.s₀.heap.FunFrames X.base X.outer
 frf:∀ b∈X.fs,X.H₀ b=none
structure Inv (X:Cx) (pins:List (Addr×Obj)) (σ:List (Option V)) (H:Hp) (s:Shared):Prop where
 ok:X.Ok
 os:s.os=X.s₀.os
 bare:AllBare s.gens
 base:Un X.fs X.ex X.H₀ H X.s₀.heap s.heap
 loc:∃ m,s.heap.Ns X.env.locals m/\∀ (i:Nat) (x:Str) (v:V),X.N[i]?=some x->σ[i]?=some (some v)->T5 X.env.scope x->∃ u,RelV v u/\Look X.env s.heap m x u
 cell:∀ x c,X.env.cells.lookup x=some c->∃ v,s.heap.IsCell c v
 free:H X.env.locals=none
 o8:∀ x c,X.env.cells.lookup x=some c->H c=none
 pin:∀ p∈X.pn++pins,s.heap.get? p.1=some p.2/\H p.1=none/\p.1≠X.env.locals/\p.1∉X.fs/\∀ v,p.2.data≠.cell v
 hok:xK X.prog X.w H s.heap
 len:σ.length=X.N.length
section
variable {X:Cx} {pins:List (Addr×Obj)} {σ:List (Option V)} {H H':Hp} {s:Shared} {h':Heap}
theorem Cx.Ok.afb (ok:X.Ok) {b:Addr} {o:Obj} (e:X.base.get? b=some o):b∉X.fs:=fun hb=>by
 have:=(ok.Br.mem hb).1
 rw[e] at this;cases this
theorem Inv.bs (I:Inv X pins σ H s):∀ b o,X.base.get? b=some o->s.heap.get? b=some o/\H b=none:=fun b o e=>
 ⟨I.base.keep b o (I.ok.bs b o e).1 (I.ok.bs b o e).2 (I.ok.afb e) (I.ok.Ub b o e),I.base.free b o (I.ok.bs b o e).1 (I.ok.bs b o e).2 (I.ok.Ub b o e)⟩
theorem Inv.bk (I:Inv X pins σ H s):∀ b o,X.base.get? b=some o->s.heap.get? b=some o:=fun b o e=>(I.bs b o e).1
theorem Inv.mod (I:Inv X pins σ H s):Mod X.K X.mg X.base:=I.ok.mod
theorem Inv.kIn (I:Inv X pins σ H s):X.K.In s.heap:=I.ok.mod.kin.keeps I.bk
theorem Inv.nolimit (I:Inv X pins σ H s):s.heap.NoLimit:=I.ok.mod.nolimit.keeps I.bk
theorem Inv.fr (I:Inv X pins σ H s):∃ m,Fr X.base X.env.locals s.heap m:=
 let ⟨m,hn,_⟩:=I.loc
 ⟨m,hn,I.bk,z4 I.ok.Xe I.ok.above⟩
theorem Inv.lt (I:Inv X pins σ H s):X.env.locals < s.heap.objs.size:=let ⟨_,hn,_⟩:=I.loc;hn.lt
theorem Inv.sz (I:Inv X pins σ H s):X.s₀.heap.objs.size<=s.heap.objs.size:=z4 I.ok.above (Q2 I.lt)
theorem Inv.afc (I:Inv X pins σ H s) {a:Addr} (h:s.heap.objs.size<=a):a∉X.fs:=fun hb=>by
 obtain⟨_,o,ho,_⟩:=I.ok.Br.mem hb
 exact absurd (ZA (zv ho) (z4 I.sz h)) (JU _)
theorem Inv.cne (I:Inv X pins σ H s):∀ x c,X.env.cells.lookup x=some c->c≠X.env.locals:=fun x c e z=>by
 obtain⟨v,o,ho,hd⟩:=I.cell x c e
 obtain⟨m,⟨o',es,ep,ho',hd',_⟩,_⟩:=I.loc
 rw[z,ho'] at ho;cases ho;rw[hd'] at hd;cases hd
theorem Inv.Br (I:Inv X pins σ H s):s.heap.FunFrames X.base X.outer:=by
 have all:∀ (l:List Env),(∀ b∈frs l,b∈X.fs)->X.s₀.heap.FunFrames X.base l->s.heap.FunFrames X.base l:=by
  intro l
  induction l with
  |nil=>intro _ _;trivial
  |cons env r ih=>
   intro hs hl
   obtain⟨hk,⟨L,o,hf,hn,ho,hd⟩,hr⟩:=hl
   have hL:L∈X.fs:=hs L (by unfold frs;rw[ky,hf];exact zh)
   obtain⟨sl,e⟩:=I.base.slot L o ho (I.ok.frf L hL) hL fun z=>I.ok.Xm L z hL
   exact⟨hk,⟨L,_,hf,hn,e,hd⟩,ih (fun b hb=>hs b (by unfold frs;rw[ky,hf];exact zo _ hb)) hr⟩
 exact all X.outer (fun _ hb=>hb) I.ok.Br
theorem Inv.stack (I:Inv X pins σ H s):s.heap.FunFrames X.base X.stack:=by
 rcases I.ok.stk with e|⟨e,hf⟩
 ·rw[e];exact I.Br
 ·rw[e]
  obtain⟨m,hn,_⟩:=I.loc
  refine .cons (by rw[I.ok.kind];decide) hf hn ?_ I.Br
  exact Heap.get?_none_of_le (z4 I.ok.Xe I.ok.above)
theorem Inv.HF (I:Inv X pins σ H s):∀ b∈frs X.stack,b∈X.env.locals::X.fs:=fun b hb=>by
 rcases I.ok.stk with e|⟨e,hf⟩
 ·rw[e] at hb;exact zo _ hb
 ·rw[e] at hb
  unfold frs at hb
  rw[ky,hf] at hb
  exact hb
theorem Inv.Qe (I:Inv X pins σ H s):∀ b∈frs X.stack,H b=none:=fun b hb=>by
 rcases List.mem_cons.mp (I.HF b hb) with e|hb
 ·rw[e];exact I.free
 ·obtain⟨_,o,ho,_⟩:=I.ok.Br.mem hb
  exact I.base.free b o ho (I.ok.frf b hb) fun z=>I.ok.Xm b z hb
theorem Inv.step {g':Array GenState} {t':Nat} {d':Drawn} {ch:List Addr} (I:Inv X pins σ H s)
  (hch:∀ b∈ch,(b∈X.ex\/X.s₀.heap.objs.size<=b)/\b≠X.env.locals/\(∀ x c,X.env.cells.lookup x=some c->c≠b)/\∀ p∈X.pn++pins,p.1≠b)
  (keep:∀ b o,b≠X.env.locals->b∉X.fs->b∉ch->s.heap.get? b=some o->H b=none->h'.get? b=some o)
  (slot:∀ b o,b≠X.env.locals->b∈X.fs->b∉ch->s.heap.get? b=some o->H b=none->∃ sl,h'.get? b=some { o with slots:=sl }) (free:∀ b o,b∉ch->s.heap.get? b=some o->H b=none->H' b=none)
  (there:∀ b o,b∉ch->s.heap.get? b=some o->∃ o',h'.get? b=some o')
  (tups:∀ b xs,H b=some (.tup xs)->H' b=some (.tup xs)) (uh:∀ b o u,H b=some (.lG o u)->H' b=some (.lG o u)) (wN:∀ b ps,H b=some (.tbl ps)->∃ more,H' b=some (.tbl (ps++more)))
  (ns:∀ m,s.heap.Ns X.env.locals m->h'.Ns X.env.locals m) (hok:xK X.prog X.w H' h') (hg:AllBare g') :
  Inv X pins σ H' { s with heap:=h',gens:=g',drawn:=d',toks:=t' }:=by
 have neL:∀ b o,X.s₀.heap.get? b=some o->b≠X.env.locals:=fun b o e=>zD (ZA (zv e) I.ok.above)
 have neC:∀ b o,X.s₀.heap.get? b=some o->b∉X.ex->b∉ch:=fun b o e hx hb=>by
  rcases (hch b hb).1 with z|z
  ·exact hx z
  ·exact absurd (ZA (zv e) z) (JU _)
 have cellK:∀ x c,X.env.cells.lookup x=some c->∀ v,s.heap.IsCell c v->h'.IsCell c v:=fun x c e v ⟨o,ho,hd⟩=>by
  have nch:c∉ch:=fun z=>(hch c z).2.2.1 x c e rfl
  by_cases hc:c∈X.fs
  ·obtain⟨sl,q⟩:=slot c o (I.cne x c e) hc nch ho (I.o8 x c e)
   exact⟨_,q,hd⟩
  ·exact⟨o,keep c o (I.cne x c e) hc nch ho (I.o8 x c e),hd⟩
 refine⟨I.ok,I.os,hg,⟨fun b o e n hb hx=>?_,fun b o e n hb hx=>?_,fun b o e n hx=>?_,fun b o e hx=>?_,fun b xs e=>tups b xs (I.base.tups b xs e),fun b o xs e=>uh b o xs (I.base.uh b o xs e),fun b ps e=>?_⟩,?_,fun x c e=>?_,?_,fun x c e=>?_,fun p hp=>?_,hok,I.len⟩
 ·exact keep b o (neL b o e) hb (neC b o e hx) (I.base.keep b o e n hb hx) (I.base.free b o e n hx)
 ·obtain⟨sl,e1⟩:=I.base.slot b o e n hb hx
  obtain⟨sl',e2⟩:=slot b _ (neL b o e) hb (neC b o e hx) e1 (I.base.free b o e n hx)
  exact⟨sl',e2⟩
 ·obtain⟨o',e1⟩:=I.base.there b o e hx
  exact free b o' (neC b o e hx) e1 (I.base.free b o e n hx)
 ·obtain⟨o',e1⟩:=I.base.there b o e hx
  exact there b o' (neC b o e hx) e1
 ·obtain⟨m1,e1⟩:=I.base.wN b ps e
  obtain⟨m2,e2⟩:=wN b _ e1
  exact⟨m1++m2,by rw[e2,Array.append_assoc]⟩
 ·obtain⟨m,hn,hl⟩:=I.loc
  refine⟨m,ns m hn,fun i x v e1 e2 e3=>?_⟩
  obtain⟨u,r,l⟩:=hl i x v e1 e2 e3
  refine⟨u,r,?_⟩
  rcases l with l|⟨k,c,e,z⟩
  ·exact .inl l
  ·exact .inr ⟨k,c,e,cellK x c e _ z⟩
 ·obtain⟨v,z⟩:=I.cell x c e
  exact⟨v,cellK x c e v z⟩
 ·obtain⟨m,⟨o,_,_,ho,_⟩,_⟩:=I.loc
  exact free _ o (fun z=>(hch _ z).2.1 rfl) ho I.free
 ·obtain⟨v,o,ho,hd⟩:=I.cell x c e
  exact free c o (fun z=>(hch c z).2.2.1 x c e rfl) ho (I.o8 x c e)
 ·obtain⟨e,n,ne,nf,d⟩:=I.pin p hp
  have nch:p.1∉ch:=fun z=>(hch p.1 z).2.2.2 p hp rfl
  exact⟨keep p.1 p.2 ne nf nch e n,free p.1 p.2 nch e n,ne,nf,d⟩
theorem Inv.un {t':Nat} (I:Inv X pins σ H s) (u:Un X.fs [] H H' s.heap h') (hok:xK X.prog X.w H' h'):Inv X pins σ H' { s with heap:=h',toks:=t' }:=by
 obtain⟨m,⟨o,es,ep,ho,r⟩,_⟩:=id I.loc
 obtain⟨sl,hL⟩:=u.any ho I.free (by simp)
 exact I.step (g':=s.gens) (d':=s.drawn) (ch:=[]) (fun _ z=>nomatch z) (fun b o _ hb _ e n=>u.keep b o e n hb (by simp)) (fun b o _ hb _ e n=>u.slot b o e n hb (by simp)) (fun b o _ e n=>u.free b o e n (by simp)) (fun b o _ e=>u.there b o e (by simp)) u.tups u.uh u.wN (fun m' hm=>by
  obtain⟨o',es',ep',ho',r'⟩:=hm
  rw[ho] at ho';cases ho'
  exact⟨_,es',ep',hL,r'⟩) hok I.bare
theorem Inv.call {g':Array GenState} {t':Nat} {d':Drawn} {ch:List Addr} (I:Inv X pins σ H s) (u:Un (frs X.stack) ch H H' s.heap h') (hok:xK X.prog X.w H' h') (hg:AllBare g')
  (hch:∀ b∈ch,(b∈X.ex\/X.s₀.heap.objs.size<=b)/\b≠X.env.locals/\(∀ x c,X.env.cells.lookup x=some c->c≠b)/\∀ p∈X.pn++pins,p.1≠b) :
  Inv X pins σ H' { s with heap:=h',gens:=g',drawn:=d',toks:=t' }:=by
 obtain⟨m,⟨o,es,ep,ho,r⟩,_⟩:=id I.loc
 obtain⟨sl,hL⟩:=u.any ho I.free fun z=>(hch _ z).2.1 rfl
 exact I.step (ch:=ch) hch (fun b o hL hb hc e n=>u.keep b o e n (fun z=>(List.mem_cons.mp (I.HF b z)).elim hL hb) hc) (fun b o _ _ hc e n=>u.any e n hc) (fun b o hc e n=>u.free b o e n hc) (fun b o hc e=>u.there b o e hc) u.tups u.uh u.wN (fun m' hm=>by
  obtain⟨o',es',ep',ho',r'⟩:=hm
  rw[ho] at ho';cases ho'
  exact⟨_,es',ep',hL,r'⟩) hok hg
theorem Inv.turned {t':Nat} {it:Addr} (I:Inv X pins σ H s) (k:∀ b o,b≠it->s.heap.get? b=some o->h'.get? b=some o) (hn:H it=none) (hL:it≠X.env.locals)
  (h1:it∈X.ex\/X.s₀.heap.objs.size<=it) (h2:∀ x c,X.env.cells.lookup x=some c->c≠it) (h3:∀ p∈X.pn++pins,p.1≠it):Inv X pins σ H { s with heap:=h',toks:=t' }:=by
 have nit:∀ b u,H b=some u->b≠it:=fun b u e z=>by rw[z,hn] at e;cases e
 refine I.step (g':=s.gens) (d':=s.drawn) (ch:=[it]) (fun b hb=>?_) (fun b o _ _ hc e _=>k b o (fun z=>hc (by simp[z])) e) (fun b o _ _ hc e _=>⟨o.slots,k b o (fun z=>hc (by simp[z])) e⟩) (fun _ _ _ _ n=>n)
  (fun b o hc e=>⟨o,k b o (fun z=>hc (by simp[z])) e⟩) (fun _ _ e=>e) (fun _ _ _ e=>e) (fun b ps e=>⟨#[],by rw[e];simp⟩) (fun m hm=>?_) (fun b u e=>?_) I.bare
 ·have e:b=it:=by simpa using hb
  subst e
  exact⟨h1,hL,h2,h3⟩
 ·obtain⟨o,es,ep,ho,r⟩:=hm
  exact⟨o,es,ep,k _ o (Kb hL) ho,r⟩
 ·refine (I.hok b u e).stay (fun c v hc q=>k c v ?_ q) (fun _ q=>q) fun _ _ q=>q
  rcases hc with z|z
  ·rw[z];exact nit b u e
  ·exact nit c _ z
theorem Inv.tok (I:Inv X pins σ H s) (t:Nat):Inv X pins σ H { s with toks:=t }:=I.un (h':=s.heap) (t':=t) Un.refl I.hok
theorem Inv.kept {t':Nat} (I:Inv X pins σ H s) (k:∀ b u,s.heap.get? b=some u->h'.get? b=some u):Inv X pins σ H { s with heap:=h',toks:=t' }:=I.un (Un.kept k) (I.hok.kept k)
theorem Inv.laid {a:Addr} {o:HO} {t':Nat} (I:Inv X pins σ H s) (k:∀ b u,s.heap.get? b=some u->h'.get? b=some u) (hp:s.heap.objs.size<=a) (new:iw X.prog X.w (upd H a o) h' a o) :
  Inv X pins σ (upd H a o) { s with heap:=h',toks:=t' }:=I.un (Un.laid k hp (I.hok.fresh hp)) (I.hok.laid k hp new)
theorem Inv.write {x e:Addr} {o:HO} {t':Nat} (I:Inv X pins σ H s) (mu:Mut (H x)) (he:e=x\/H e=some (.own x)) (k:∀ b u,b≠e->s.heap.get? b=some u->h'.get? b=some u) (heo:∃ u,h'.get? e=some u)
  (new:iw X.prog X.w (upd H x o) h' x o):Inv X pins σ (upd H x o) { s with heap:=h',toks:=t' }:=I.un (Un.write mu he k heo) (I.hok.write mu he k heo new)
theorem Inv.weak {σ':List (Option V)} (I:Inv X pins σ H s) (hl:σ'.length=σ.length) (w:∀ (i:Nat) v,σ'[i]?=some (some v)->σ[i]?=some (some v)):Inv X pins σ' H s:=
 ⟨I.ok,I.os,I.bare,I.base,let ⟨m,hn,hl'⟩:=I.loc;⟨m,hn,fun i x v e1 e2 e3=>hl' i x v e1 (w i v e2) e3⟩,I.cell,I.free,I.o8,I.pin,I.hok,hl.trans I.len⟩
theorem Inv.HJ {ZR:List (Addr×Obj)} (I:Inv X pins σ H s) (h:∀ p∈ZR,s.heap.get? p.1=some p.2/\H p.1=none/\p.1≠X.env.locals/\p.1∉X.fs/\∀ v,p.2.data≠.cell v):Inv X ZR σ H s:=
 ⟨I.ok,I.os,I.bare,I.base,I.loc,I.cell,I.free,I.o8,fun p hp=>(List.mem_append.mp hp).elim (fun z=>I.pin p (List.mem_append_left _ z)) (h p),I.hok,I.len⟩
theorem Kf {N:List Str} (hN:N.Nodup) {i j:Nat} {x:Str} (a:N[i]?=some x) (b:N[j]?=some x):i=j:=by
 obtain⟨h1,e1⟩:=List.getElem?_eq_some_iff.mp a
 obtain⟨h2,e2⟩:=List.getElem?_eq_some_iff.mp b
 exact (List.getElem_inj hN).mp (e1.trans e2.symm)
theorem RK {M:Model} {A:Around} {E:Value->Shared->Prop} {i:Nat} {x:Str} {v:V} {u:Value} {Q:Unit->Shared->Prop} (I:Inv X pins σ H s) (hN:X.N.Nodup) (hi:X.N[i]?=some x) (hx:Loc X.env.scope x) (r:RelV v u)
  (h:∀ s',Inv X pins (σ.set i (some v)) H s'->(∃ a,Heap.SameBut a s.heap s'.heap/\(a=X.env.locals\/X.env.cells.lookup x=some a))->Q () s') (hf:X.fn x=true\/X.env.scope.names.lookup x=some .local:=by first|exact .inl rfl|exact .inr rfl|assumption):wpAny M A (storeName X.env x u) Q E s:=by
 obtain⟨m,hn,hl⟩:=id I.loc
 have hcls:(X.env.scope.kind==.class||(X.env.scope.kind==.module&&X.env.locals != X.env.globals))=false:=by rw[I.ok.kind];rfl
 have hiσ:i < σ.length:=by rw[I.len];exact (List.getElem?_eq_some_iff.mp hi).1
 have cne:=I.cne
 have tracked:∀ {a:Addr} {h':Heap},(∃ o,s.heap.get? a=some o/\H a=none)->Heap.SameBut a s.heap h'->xK X.prog X.w H h':=fun {a h'} ha hs b ob e=>by
  obtain⟨_,_,hfree⟩:=ha
  refine (I.hok b ob e).stay (fun c w' hc q=>(hs.2 c ?_).trans q) (fun _ q=>q) fun _ _ q=>q
  rintro rfl
  rcases hc with rfl|hc
  ·rw[hfree] at e;cases e
  ·rw[hfree] at hc;cases hc
 rcases hx with hk|hk
 ·refine wpAny_storeName_local hk hn (fun h' hn' hs=>?_) hcls
  obtain⟨oL,_,_,hoL,_⟩:=id hn
  refine h _ ⟨I.ok,I.os,I.bare,⟨fun b o e n hb hx=>?_,fun b o e n hb hx=>?_,I.base.free,fun b o e hx=>?_,I.base.tups,I.base.uh,I.base.wN⟩,⟨_,hn',fun j y v' e1 e2 e3=>?_⟩,fun y c e=>?_,I.free,I.o8,fun p hp=>?_,tracked ⟨oL,hoL,I.free⟩ hs,by simpa using I.len⟩ ⟨_,hs,.inl rfl⟩
  ·exact (hs.2 b (zD (ZA (zv e) I.ok.above))).trans (I.base.keep b o e n hb hx)
  ·obtain⟨sl,e1⟩:=I.base.slot b o e n hb hx
   exact⟨sl,(hs.2 b (zD (ZA (zv e) I.ok.above))).trans e1⟩
  ·obtain⟨o',e1⟩:=I.base.there b o e hx
   exact⟨o',(hs.2 b (zD (ZA (zv e) I.ok.above))).trans e1⟩
  ·by_cases hj:j=i
   ·subst hj
    rw[hi] at e1;cases e1
    rw[kg hiσ] at e2
    cases e2
    exact⟨u,r,.inl ⟨hk,by simp⟩⟩
   ·rw[Q3 (Kb hj)] at e2
    obtain⟨u',r',q⟩:=hl j y v' e1 e2 e3
    refine⟨u',r',?_⟩
    rcases q with⟨k,e⟩|⟨k,c,e,z⟩
    ·refine .inl ⟨k,?_⟩
     have:y≠x:=fun e=>hj (Kf hN e1 (e▸hi))
     simp[this,e]
    ·exact .inr ⟨k,c,e,z.sameBut hs (cne y c e)⟩
  ·obtain⟨w',z⟩:=I.cell y c e
   exact⟨w',z.sameBut hs (cne y c e)⟩
  ·obtain⟨e,n,ne,nf,d⟩:=I.pin p hp
   exact⟨(hs.2 p.1 ne).trans e,n,ne,nf,d⟩
 ·have hfn:X.fn x=true:=by
   rcases hf with z|z
   ·exact z
   ·rw[z] at hk;cases hk
  obtain⟨c,hc⟩:=I.ok.has x (.inl hk)
  obtain⟨w',z⟩:=I.cell x c hc
  refine wpAny_storeName_cell I.ok.kind hk hc z (fun h' hc' hs=>?_)
  obtain⟨oc,hoc,afd⟩:=id z
  refine h { s with heap:=h' } ⟨I.ok,I.os,I.bare,⟨fun b o e n hb hx=>?_,fun b o e n hb hx=>?_,I.base.free,fun b o e hx=>?_,I.base.tups,I.base.uh,I.base.wN⟩,⟨m,hn.sameBut hs (Kb (cne x c hc)),fun j y v' e1 e2 e3=>?_⟩,fun y c' e=>?_,I.free,I.o8,fun p hp=>?_,tracked ⟨oc,hoc,I.o8 x c hc⟩ hs,by simpa using I.len⟩ ⟨c,hs,.inr hc⟩
  ·exact (hs.2 b (zD (ZA (zv e) (I.ok.cab x c hfn hc)))).trans (I.base.keep b o e n hb hx)
  ·obtain⟨sl,e1⟩:=I.base.slot b o e n hb hx
   exact⟨sl,(hs.2 b (zD (ZA (zv e) (I.ok.cab x c hfn hc)))).trans e1⟩
  ·obtain⟨o',e1⟩:=I.base.there b o e hx
   exact⟨o',(hs.2 b (zD (ZA (zv e) (I.ok.cab x c hfn hc)))).trans e1⟩
  ·by_cases hj:j=i
   ·subst hj
    rw[hi] at e1;cases e1
    rw[kg hiσ] at e2
    cases e2
    exact⟨u,r,.inr ⟨.inl hk,c,hc,hc'⟩⟩
   ·rw[Q3 (Kb hj)] at e2
    obtain⟨u',r',q⟩:=hl j y v' e1 e2 e3
    refine⟨u',r',?_⟩
    rcases q with q|⟨k,c',e,z'⟩
    ·exact .inl q
    ·refine .inr ⟨k,c',e,z'.sameBut hs ?_⟩
     rintro rfl
     exact hj (Kf hN e1 (I.ok.inj _ _ _ e hc▸hi))
  ·by_cases hcc:c'=c
   ·subst hcc;exact⟨_,hc'⟩
   ·obtain⟨w2,z2⟩:=I.cell y c' e
    exact⟨w2,z2.sameBut hs hcc⟩
  ·obtain⟨e,n,ne,nf,d⟩:=I.pin p hp
   refine⟨(hs.2 p.1 ?_).trans e,n,ne,nf,d⟩
   intro q
   rw[q,hoc] at e
   have q':oc=p.2:=jS e
   exact d w' (by rw[<-q'];exact afd)
theorem xP {M:Model} {A:Around} {E:Value->Shared->Prop} {i:Nat} {x:Str} {v:V} {u:Value} {Q:Unit->Shared->Prop} (I:Inv X pins σ H s) (hN:X.N.Nodup) (hi:X.N[i]?=some x) (hx:Loc X.env.scope x) (r:RelV v u)
  (h:∀ s',Inv X pins (σ.set i (some v)) H s'->Q () s') (hf:X.fn x=true\/X.env.scope.names.lookup x=some .local:=by first|exact .inl rfl|exact .inr rfl|assumption):wpAny M A (storeName X.env x u) Q E s:=
 RK I hN hi hx r (fun s' I' _=>h s' I') hf
theorem Inv.call' {s':Shared} {ch:List Addr} (I:Inv X pins σ H s) (ho:s'.os=s.os) (u:Un (frs X.stack) ch H H' s.heap s'.heap) (hok:xK X.prog X.w H' s'.heap) (hg:AllBare s'.gens)
  (hch:∀ b∈ch,(b∈X.ex\/X.s₀.heap.objs.size<=b)/\b≠X.env.locals/\(∀ x c,X.env.cells.lookup x=some c->c≠b)/\∀ p∈X.pn++pins,p.1≠b):Inv X pins σ H' s':=by
 obtain⟨h',g',d',t',o'⟩:=s'
 have e:o'=s.os:=ho
 subst e
 exact I.call (g':=g') (t':=t') (d':=d') u hok hg hch
end
abbrev XK:=Value->Option Addr->Hp->Prop
abbrev St:=List (Option V)
abbrev VK:=V->Hp->Prop
abbrev TE:=St->Hp->VK->Prop
abbrev TT:=St->Hp->(Bool->Hp->Prop)->Prop
abbrev TA:=St->Hp->(List V->Hp->Prop)->Prop
structure Ends where
 nx:St->Hp->Prop
 rt:VK
 bk:St->Hp->Prop:=fun _ _=>False
 ct:St->Hp->Prop:=fun _ _=>False
abbrev TS:=Ends->St->Hp->Prop
def EP (X:Cx) (pins:List (Addr×Obj)) (σ:St) (Q:VK) (u:Value) (s':Shared):Prop:=∃ v H',Inv X pins σ H' s'/\RelV v u/\Q v H'
def TP (X:Cx) (pins:List (Addr×Obj)) (σ:St) (Q:Bool->Hp->Prop) (b:Bool) (s':Shared):Prop:=∃ H',Inv X pins σ H' s'/\Q b H'
def AP (X:Cx) (pins:List (Addr×Obj)) (σ:St) (Q:List V->Hp->Prop) (us:List Value) (s':Shared):Prop:=∃ vs H',Inv X pins σ H' s'/\Vals vs us/\Q vs H'
def SP (X:Cx) (pins:List (Addr×Obj)) (D:Ends) (f:Flow) (s':Shared):Prop:=
 match f with
 |.next=>∃ σ' H',Inv X pins σ' H' s'/\D.nx σ' H'
 |.brk=>∃ σ' H',Inv X pins σ' H' s'/\D.bk σ' H'
 |.cont=>∃ σ' H',Inv X pins σ' H' s'/\D.ct σ' H'
 |.ret u=>∃ v σ' H',Inv X pins σ' H' s'/\RelV v u/\D.rt v H'
def PE (X:Cx) (e:Expr) (t:TE):Prop:=
 ∀ (pins:List (Addr×Obj)) (s:Shared) (σ:St) (H:Hp) (Q:VK),Inv X pins σ H s->t σ H Q->wpAny (model X.prog X.w) X.A (eval e X.env) (EP X pins σ Q) X.xe s
def PT (X:Cx) (e:Expr) (t:TT):Prop:=
 ∀ (pins:List (Addr×Obj)) (s:Shared) (σ:St) (H:Hp) (Q:Bool->Hp->Prop),Inv X pins σ H s->t σ H Q->wpAny (model X.prog X.w) X.A (isTrue e X.env (eval e X.env)) (TP X pins σ Q) X.xe s
def PW (X:Cx) (e:Expr) (t:TT):Prop:=
 ∀ (whole:Sem Value) (pins:List (Addr×Obj)) (s:Shared) (σ:St) (H:Hp) (Q:Bool->Hp->Prop),Inv X pins σ H s->t σ H Q->wpAny (model X.prog X.w) X.A (isTrue e X.env whole) (TP X pins σ Q) X.xe s
theorem PW.pt {X:Cx} {e:Expr} {t:TT} (h:PW X e t):PT X e t:=h _
def PA (X:Cx) (es:List Expr) (t:TA):Prop:=
 ∀ (pos:Pos) (pins:List (Addr×Obj)) (s:Shared) (σ:St) (H:Hp) (Q:List V->Hp->Prop),Inv X pins σ H s->t σ H Q->wpAny (model X.prog X.w) X.A (spliced (backTo pos (starEach es X.env))) (AP X pins σ Q) X.xe s
def PS (X:Cx) (st:Stmt) (t:TS):Prop:=
 ∀ (pins:List (Addr×Obj)) (s:Shared) (σ:St) (H:Hp) (D:Ends),Inv X pins σ H s->t D σ H->wpAny (model X.prog X.w) X.A (exec st X.env) (SP X pins D) X.xe s
def J7 (X:Cx) (st:List Stmt) (t:TS):Prop:=
 ∀ (pins:List (Addr×Obj)) (s:Shared) (σ:St) (H:Hp) (D:Ends),Inv X pins σ H s->t D σ H->wpAny (model X.prog X.w) X.A (execs st X.env) (SP X pins D) X.xe s
theorem mH {α:Type} {t:Sem α} {Q Q':α->Shared->Prop} {M:Model} {A:Around} {E:Value->Shared->Prop} {s:Shared} (h:wpAny M A t Q E s) (hQ:∀ a s,Q a s->Q' a s):wpAny M A t Q' E s:=qr h hQ fun _ _ x=>x
end L2
namespace L2
open PySem PySem.Spec PyProof.Rows
section
variable {X:Cx}
def Uc (i:Nat):TE:=fun σ H Q=>∃ v,σ[i]?=some (some v)/\Q v H
def tC (v:V):TE:=fun _ H Q=>Q v H
theorem oF {i:Nat} {x:Str} {pos:Pos} (hN:X.N[i]?=some x) (hv:T5 X.env.scope x) (hd:(x==("__debug__" : Str))=false:=by decide) (hcd:(x==("__classdict__" : Str))=false:=by decide):PE X (.Name x pos) (Uc i):=by
 intro pins s σ H Q I h
 obtain⟨v,e,h⟩:=h
 obtain⟨m,hn,hl⟩:=I.loc
 obtain⟨u,r,l⟩:=hl i x v hN e hv
 have fin:EP X pins σ Q u s:=⟨v,H,I,r,h⟩
 rcases l with⟨hk,hm⟩|⟨hk,c,hc,hcell⟩
 ·exact wpAny_Name (wpAny_loadName_local I.ok.kind hk hn hm fin) hd
 ·rcases hk with hk|hk
  ·exact wpAny_Name (wpAny_loadName_cell I.ok.kind hk hc hcell fin) hd
  ·exact wpAny_Name (wpAny_loadName_free I.ok.kind hk hc hcell fin hcd) hd
theorem HN {i j pos}:PE X (.Constant (.int i) j pos) (tC (.int i)):=fun _ _ _ H _ I h=>wpAny_Constant_int ⟨.int i,H,I.tok _,⟨_,rfl⟩,h⟩
theorem acU {b j pos}:PE X (.Constant (.bool b) j pos) (tC (.bl b)):=fun _ _ _ H _ I h=>Constant_bool ⟨.bl b,H,I,rfl,h⟩
theorem aaD {j pos}:PE X (.Constant .none j pos) (tC .non):=fun _ _ _ H _ I h=>Constant_none ⟨.non,H,I,rfl,h⟩
theorem aaE {x j pos}:PE X (.Constant (.str x) j pos) (tC (.str x)):=fun _ _ _ H _ I h=>Calls.Constant_str ⟨.str x,H,I.tok _,⟨_,rfl⟩,h⟩
def Gl (X:Cx) (x:Str):Prop:=X.env.kindOf x=some .globalImplicit
theorem Xn {E:Value->Shared->Prop} {pins:List (Addr×Obj)} {s:Shared} {σ:St} {H:Hp} {x:Str} {u:Value} {pos:Pos} {Q:Value->Shared->Prop} (I:Inv X pins σ H s) (hg:Gl X x) (hm:X.mg x=some u) (h:Q u s)
  (hd:(x==("__debug__" : Str))=false:=by decide):wpAny (model X.prog X.w) X.A (eval (.Name x pos) X.env) Q E s:=
 Calls.Name_function_global I.ok.kind hg (Calls.loadGlobal_global (by rw[I.ok.glob];exact I.mod.glob.keeps I.bk) hm h) hd
theorem HS {E:Value->Shared->Prop} {pins:List (Addr×Obj)} {s:Shared} {σ:St} {H:Hp} {x:Str} {u:Value} {pos:Pos} {Q:Value->Shared->Prop} (I:Inv X pins σ H s) (hg:Gl X x) (hm:X.mg x=none) (hv:bootBuiltins x=some u) (h:Q u s)
  (hn:x ≠ "__name__" := by decide) (hd:(x==("__debug__" : Str))=false:=by decide):wpAny (model X.prog X.w) X.A (eval (.Name x pos) X.env) Q E s:=by
 obtain⟨mb,h1,h2⟩:=I.mod.blt
 exact Calls.Name_function_global I.ok.kind hg (Calls.loadGlobal_builtin (by rw[I.ok.glob];exact I.mod.glob.keeps I.bk) hm (by rw[I.ok.blt];exact h1.keeps I.bk) ((h2 x hn).trans hv) h) hd
theorem Qf {x:Str} {v:V} {u:Value} {pos:Pos} (hg:Gl X x) (hm:X.mg x=none) (hv:bootBuiltins x=some u) (r:RelV v u) (hn:x ≠ "__name__" := by decide) (hd:(x==("__debug__" : Str))=false:=by decide):PE X (.Name x pos) (tC v):=
 fun _ _ _ H _ I h=>HS I hg hm hv ⟨v,H,I,r,h⟩ hn hd
variable {a b:Expr} {ta tb:TE} {pos:Pos}
variable {tA tB':TT} {rest:List Expr}
def acV (t u:TT):TT:=fun σ H Q=>t σ H fun c H1=>if c=true then u σ H1 Q else Q false H1
def tOr (t u:TT):TT:=fun σ H Q=>t σ H fun c H1=>if c=true then Q true H1 else u σ H1 Q
def afe (t:TT):TT:=fun σ H Q=>t σ H fun c H1=>Q (!c) H1
theorem Xo (ha:PT X a tA):PW X (.BoolOp .And [a] pos) tA:=by
 intro wh pins s σ H Q I h
 refine isTrue_and (mH (ha pins s σ H Q I h) fun c s1 e=>?_)
 cases c with
 |true=>exact isTrue_and_nil e
 |false=>exact e
theorem aaF (ha:PT X a tA):PW X (.BoolOp .Or [a] pos) tA:=by
 intro wh pins s σ H Q I h
 refine isTrue_or (mH (ha pins s σ H Q I h) fun c s1 e=>?_)
 cases c with
 |false=>exact isTrue_or_nil e
 |true=>exact e
theorem aaG (ha:PT X a tA) (hb:PW X (.BoolOp .And (b::rest) pos) tB'):PW X (.BoolOp .And (a::b::rest) pos) (acV tA tB'):=by
 intro wh pins s σ H Q I h
 refine isTrue_and (mH (ha pins s σ H _ I h) fun c s1 ⟨H1,I1,q1⟩=>?_)
 cases c with
 |true=>exact hb wh pins s1 σ H1 Q I1 q1
 |false=>exact⟨H1,I1,q1⟩
theorem acW (ha:PT X a tA) (hb:PW X (.BoolOp .Or (b::rest) pos) tB'):PW X (.BoolOp .Or (a::b::rest) pos) (tOr tA tB'):=by
 intro wh pins s σ H Q I h
 refine isTrue_or (mH (ha pins s σ H _ I h) fun c s1 ⟨H1,I1,q1⟩=>?_)
 cases c with
 |true=>exact⟨H1,I1,q1⟩
 |false=>exact hb wh pins s1 σ H1 Q I1 q1
theorem aaH (ha:PT X a tA):PT X (.UnaryOp .Not a pos) (afe tA):=by
 intro pins s σ H Q I h
 exact isTrue_not (ha pins s σ H (fun c H1=>Q (!c) H1) I h)
def acX (ta tb:TE):TE:=fun σ H Q=>ta σ H fun x H1=>∃ c,x=.bl c/\if c=true then tb σ H1 Q else Q (.bl false) H1
def afg (ta tb:TE):TE:=fun σ H Q=>ta σ H fun x H1=>∃ c,x=.bl c/\if c=true then Q (.bl true) H1 else tb σ H1 Q
theorem aaI {op} {t:TE} (h:PE X a t):PE X (.BoolOp op [a] pos) t:=fun pins s σ H Q I hw=>BoolOp_one (h pins s σ H Q I hw)
theorem aaJ (ha:PE X a ta) (hb:PE X (.BoolOp .And (b::rest) pos) tb):PE X (.BoolOp .And (a::b::rest) pos) (acX ta tb):=by
 intro pins s σ H Q I h
 refine BoolOp_and (mH (ha pins s σ H _ I h) fun v s1 ⟨x,H1,I1,r1,q1⟩=>?_)
 obtain⟨c,rfl,q1⟩:=q1
 cases r1
 refine JJ ?_
 cases c with
 |true=>exact hb pins s1 σ H1 Q I1 q1
 |false=>exact⟨.bl false,H1,I1,rfl,q1⟩
theorem acY (ha:PE X a ta) (hb:PE X (.BoolOp .Or (b::rest) pos) tb):PE X (.BoolOp .Or (a::b::rest) pos) (afg ta tb):=by
 intro pins s σ H Q I h
 refine BoolOp_or (mH (ha pins s σ H _ I h) fun v s1 ⟨x,H1,I1,r1,q1⟩=>?_)
 obtain⟨c,rfl,q1⟩:=q1
 cases r1
 refine JJ ?_
 cases c with
 |false=>exact hb pins s1 σ H1 Q I1 q1
 |true=>exact⟨.bl true,H1,I1,rfl,q1⟩
end
end L2
namespace L2
open PySem PySem.Spec PyProof.Rows
def um (K:PySem.W.Frag) (H:Hp) (a:Addr) (xs:List V):Prop:=
 Rd H a (.lst xs) ∨
  ∃ (o:Obj) (its:Array Value) (n:Nat),K.lookup a=some o/\o.cls=.type "list" ∧ o.dict=none/\o.data=.seq its n/\its.size<=sizeLine/\Vals xs its.toList
def xM (K:PySem.W.Frag) (H:Hp) (a:Addr) (xs:List V):Prop:=
 Rd H a (.tup xs) ∨
  ∃ (o:Obj) (its:Array Value) (n:Nat),K.lookup a=some o/\(o.cls=.type "tuple" ∧ o.dict=none)/\o.data=.seq its n/\its.size<=sizeLine/\Vals xs its.toList
def aaK:Value->Option V
 |.none=>some .non
 |.bool b=>some (.bl b)
 |.int i _=>some (.int i)
 |.str x _=>some (.str x)
 |.bytes b _=>some (.byt b)
 |.float b _=>some (.flt b)
 |.ref a=>some (.ref a)
 |.type n=>some (.ty n)
 |_=>none
theorem RelV.abs {x:V} {u:Value} (r:RelV x u):aaK u=some x:=by
 cases x with
 |non=>cases r;rfl
 |bl _=>cases r;rfl
 |int _=>obtain⟨t,rfl⟩:=r;rfl
 |str _=>obtain⟨t,rfl⟩:=r;rfl
 |byt _=>obtain⟨t,rfl⟩:=r;rfl
 |flt _=>obtain⟨t,rfl⟩:=r;rfl
 |ref _=>cases r;rfl
 |ty _=>cases r;rfl
theorem RelV.inj {x y:V} {u:Value} (r:RelV x u) (q:RelV y u):x=y:=jS (r.abs.symm.trans q.abs)
theorem Vals.inj:∀ {xs ys:List V} {us:List Value},Vals xs us->Vals ys us->xs=ys
 |_,_,_,.nil,.nil=>rfl
 |_,_,_,.cons r t,.cons r' t'=>by rw[r.inj r',Vals.inj t t']
section
variable {X:Cx} {pins:List (Addr×Obj)} {σ:St} {H:Hp} {s:Shared} {a:Addr} {xs ys:List V}
theorem um.of {K:PySem.W.Frag} (h:H a=some (.lst xs)):um K H a xs:=.inl (.inl h)
theorem xM.of {K:PySem.W.Frag} (h:H a=some (.tup xs)):xM K H a xs:=.inl (.inl h)
theorem Inv.list (I:Inv X pins σ H s) (h:um X.K H a xs):∃ its:List Value,Vals xs its/\PlainL s.heap a its.toArray/\xs.length<=sizeLine:=by
 rcases h with h|⟨o,its,n,hk,hc,hd,hs,hz,r⟩
 ·obtain⟨z,its,n,r,e⟩:=h.ok I.hok
  exact⟨its,r,⟨_,n,e,rfl,rfl,rfl⟩,z⟩
 ·refine⟨its.toList,r,⟨o,n,I.kIn a o hk,hc,hd,by simpa using hs⟩,?_⟩
  have e:=r.length
  simp only[ZU] at e
  omega
theorem Inv.tuple (I:Inv X pins σ H s) (h:xM X.K H a xs):∃ its:List Value,Vals xs its/\IsTup s.heap a its.toArray/\xs.length<=sizeLine:=by
 rcases h with h|⟨o,its,n,hk,hc,hs,hz,r⟩
 ·obtain⟨z,its,r,p⟩:=h.ok I.hok
  exact⟨its,r,p.weak,z⟩
 ·refine⟨its.toList,r,⟨o,I.kIn a o hk,hc.1,n,by simpa using hs⟩,?_⟩
  have e:=r.length
  simp only[ZU] at e
  omega
theorem Inv.Kg (I:Inv X pins σ H s) (h:um X.K H a xs) (h':um X.K H a ys):xs=ys:=by
 obtain⟨its,r,⟨o,n,e,_,_,d⟩,_⟩:=I.list h
 obtain⟨its',r',⟨o',n',e',_,_,d'⟩,_⟩:=I.list h'
 rw[e] at e';cases e'
 rw[d] at d'
 injection d' with d1 _
 have:its=its':=by simpa using congrArg Array.toList d1
 subst this
 exact r.inj r'
theorem Inv.GF (I:Inv X pins σ H s) (h:xM X.K H a xs) (h':xM X.K H a ys):xs=ys:=by
 obtain⟨its,r,⟨o,e,_,n,d⟩,_⟩:=I.tuple h
 obtain⟨its',r',⟨o',e',_,n',d'⟩,_⟩:=I.tuple h'
 rw[e] at e';cases e'
 rw[d] at d'
 injection d' with d1 _
 have:its=its':=by simpa using congrArg Array.toList d1
 subst this
 exact r.inj r'
end
abbrev Cx.wish (X:Cx) (E:Value->Shared->Prop):Cx:={ X with xe:=E }
abbrev Cx.RM (X:Cx):Cx:=X.wish fun _ _=>False
theorem Cx.Ok.wish {X:Cx} (ok:X.Ok) (E:Value->Shared->Prop):(X.wish E).Ok:=
 ⟨ok.mod,ok.kind,ok.glob,ok.blt,ok.above,ok.inj,ok.has,ok.cab,ok.hd,ok.frames,ok.stk,ok.exf,ok.bs,ok.Xe,ok.Ub,ok.Xm,ok.Br,ok.frf⟩
theorem Cx.Ok.rB {X:Cx} {E:Value->Shared->Prop} (ok:(X.wish E).Ok):X.Ok:=
 ⟨ok.mod,ok.kind,ok.glob,ok.blt,ok.above,ok.inj,ok.has,ok.cab,ok.hd,ok.frames,ok.stk,ok.exf,ok.bs,ok.Xe,ok.Ub,ok.Xm,ok.Br,ok.frf⟩
section
variable {X:Cx} {pins:List (Addr×Obj)} {σ:St} {H:Hp} {s:Shared} {E:Value->Shared->Prop}
theorem Inv.wish (I:Inv X pins σ H s) (E:Value->Shared->Prop):Inv (X.wish E) pins σ H s:=⟨I.ok.wish E,I.os,I.bare,I.base,I.loc,I.cell,I.free,I.o8,I.pin,I.hok,I.len⟩
theorem Inv.rB (I:Inv (X.wish E) pins σ H s):Inv X pins σ H s:=⟨I.ok.rB,I.os,I.bare,I.base,I.loc,I.cell,I.free,I.o8,I.pin,I.hok,I.len⟩
theorem SP.rB {D:Ends} {f:Flow} {s':Shared} (h:SP (X.wish E) pins D f s'):SP X pins D f s':=by
 cases f with
 |next=>obtain⟨σ',H',I,q⟩:=h;exact⟨σ',H',I.rB,q⟩
 |brk=>obtain⟨σ',H',I,q⟩:=h;exact⟨σ',H',I.rB,q⟩
 |cont=>obtain⟨σ',H',I,q⟩:=h;exact⟨σ',H',I.rB,q⟩
 |ret u=>obtain⟨v,σ',H',I,r,q⟩:=h;exact⟨v,σ',H',I.rB,r,q⟩
theorem PE.RM {e:Expr} {t:TE} (h:PE X.RM e t):PE X e t:=fun pins s σ H Q I hw=>
 qr (h pins s σ H Q (I.wish _) hw) (fun _ _ ⟨v,H',I',r,q⟩=>⟨v,H',I'.rB,r,q⟩) fun _ _ z=>False.elim z
theorem PT.RM {e:Expr} {t:TT} (h:PT X.RM e t):PT X e t:=fun pins s σ H Q I hw=>
 qr (h pins s σ H Q (I.wish _) hw) (fun _ _ ⟨H',I',q⟩=>⟨H',I'.rB,q⟩) fun _ _ z=>False.elim z
theorem J7.RM {st:List Stmt} {t:TS} (h:J7 X.RM st t):J7 X st t:=fun pins s σ H D I hw=>
 qr (h pins s σ H D (I.wish _) hw) (fun _ _ q=>q.rB) fun _ _ z=>False.elim z
end
section
variable {X:Cx} {st:Stmt} {rest:List Stmt} {t u:TS} {e:Expr} {te:TE} {pos:Pos}
def acZ:TS:=fun D σ H=>D.nx σ H
def afh (t u:TS):TS:=fun D σ H=>t { D with nx:=u D } σ H
theorem xQ:J7 X [] acZ:=fun _ _ σ H _ I h=>wpAny_execs_nil ⟨σ,H,I,h⟩
theorem jJ (h1:PS X st t) (h2:J7 X rest u):J7 X (st::rest) (afh t u):=by
 intro pins s σ H D I h
 refine wpAny_execs_cons (mH (h1 pins s σ H { D with nx:=u D } I h) fun f s1 q=>?_)
 cases f with
 |next=>
  obtain⟨σ',H',I',q⟩:=q
  exact h2 pins s1 σ' H' D I' q
 |ret v=>exact q
 |brk=>exact q
 |cont=>exact q
theorem Inv.quiet {pins:List (Addr×Obj)} {σ:St} {H:Hp} {s:Shared} (I:Inv X pins σ H s):interactive X.env=false:=by simp[interactive,I.ok.kind]
def ac0 (te:TE):TS:=fun D σ H=>te σ H fun _ H1=>D.nx σ H1
theorem xR (he:PE X e te) (hs:swapsWith e none pos.line X.env=pure false:=by rfl):PS X (.Expr e pos) (ac0 te):=by
 intro pins s σ H D I h
 exact wpAny_Expr_any (mH (he pins s σ H _ I h) fun v s1 ⟨x,H1,I1,r1,q1⟩=>⟨σ,H1,I1,q1⟩) I.quiet hs
def afi (te:TE):TS:=fun D σ H=>te σ H D.rt
theorem CG (he:PE X e te):PS X (.Return (some e) pos) (afi te):=by
 intro pins s σ H D I h
 exact wpAny_Return_some (mH (he pins s σ H _ I h) fun v s1 ⟨x,H1,I1,r1,q1⟩=>⟨x,σ,H1,I1,r1,q1⟩)
def afj (c:TT) (t u:TS):TS:=fun D σ H=>c σ H fun b H1=>if b=true then t D σ H1 else u D σ H1
theorem ZS {c:Expr} {a b:List Stmt} {tc:TT} (hc:PT X c tc) (ha:J7 X a t) (hb:J7 X b u):PS X (.If c a b pos) (afj tc t u):=by
 intro pins s σ H D I h
 refine wpAny_If (mH (hc pins s σ H _ I h) fun d s1 ⟨H1,I1,q1⟩=>?_)
 cases d with
 |true=>exact ha pins s1 σ H1 D I1 q1
 |false=>exact hb pins s1 σ H1 D I1 q1
end
abbrev TG:=V->St->Hp->(St->Hp->Prop)->Prop
abbrev ZV:=List V->St->Hp->(St->Hp->Prop)->Prop
def PG (X:Cx) (target:Expr) (t:TG):Prop:=
 ∀ (pins:List (Addr×Obj)) (s:Shared) (σ:St) (H:Hp) (v:V) (u:Value) (Q:St->Hp->Prop),Inv X pins σ H s->RelV v u->t v σ H Q →
  wpAny (model X.prog X.w) X.A (assign target X.env u) (fun _ s'=>∃ σ' H',Inv X pins σ' H' s'/\Q σ' H') X.xe s
def RN (X:Cx) (ts:List Expr) (t:ZV):Prop:=
 ∀ (pins:List (Addr×Obj)) (s:Shared) (σ:St) (H:Hp) (vs:List V) (us:List Value) (Q:St->Hp->Prop),Inv X pins σ H s->Vals vs us->t vs σ H Q →
  wpAny (model X.prog X.w) X.A (assignInOrder ((assignEach ts X.env).map (·.2)) us) (fun _ s'=>∃ σ' H',Inv X pins σ' H' s'/\Q σ' H') X.xe s
section
variable {X:Cx} {pos:Pos}
def ZW (i:Nat):TG:=fun v σ H Q=>Q (σ.set i (some v)) H
theorem Qg {i:Nat} {x:Str} (hN:X.N.Nodup) (hi:X.N[i]?=some x) (hx:Loc X.env.scope x) (hf:X.fn x=true\/X.env.scope.names.lookup x=some .local:=by first|exact .inl rfl|exact .inr rfl|assumption):PG X (.Name x pos) (ZW i):=by
 intro pins s σ H v u Q I r h
 exact wpAny_assign_Name (xP I hN hi hx r (fun s' I'=>⟨_,H,I',h⟩) hf)
def afk:ZV:=fun vs σ H Q=>vs=[]/\Q σ H
def ac1 (t:TG) (u:ZV):ZV:=fun vs σ H Q=>∃ v r,vs=v::r/\t v σ H fun σ' H'=>u r σ' H' Q
theorem Xp:RN X [] afk:=by
 intro pins s σ H vs us Q I r h
 obtain⟨e,h⟩:=h
 subst e
 cases r
 exact assignInOrder_nil ⟨σ,H,I,h⟩
theorem Ud {e:Expr} {es:List Expr} {t:TG} {u:ZV} (h1:PG X e t) (h2:RN X es u)
  (hs:(assignEach (e::es) X.env).map (·.2)=assign e X.env::(assignEach es X.env).map (·.2):=by rfl):RN X (e::es) (ac1 t u):=by
 intro pins s σ H vs us Q I r h
 obtain⟨v,vr,e1,h⟩:=h
 subst e1
 cases r with
 |cons r rr=>
  rw[hs]
  refine assignInOrder_cons (mH (h1 pins s σ H _ _ _ I r h) fun _ s1 ⟨σ1,H1,I1,q1⟩=>?_)
  exact h2 pins s1 σ1 H1 _ _ Q I1 rr q1
def afl (K:PySem.W.Frag) (n:Nat) (t:ZV):TG:=fun v σ H Q=>∃ a xs,v=.ref a/\xM K H a xs/\xs.length=n/\t xs σ H Q
theorem aaL {es:List Expr} {k:Nat} {t:ZV} {n:Nat} (hc:X.calm=true) (h:RN X es t)
  (hn:(assignEach es X.env).length=n:=by rfl) (hst:(assignEach es X.env).findIdx? (·.1)=none:=by rfl):PG X (.Tuple es k pos) (afl X.K n t):=by
 intro pins s σ H v u Q I r hw
 obtain⟨a,xs,e1,hq,hl,hw⟩:=hw
 subst e1
 cases r
 obtain⟨its,rv,ht,hz⟩:=I.tuple hq
 refine assign_Tuple_tuple (I.ok.hd hc) ht (by simp[hn,<-hl,rv.length]) hst fun h' hx=>?_
 have I1:Inv X pins σ H { s with heap:=h' }:=I.kept (t':=s.toks) fun b o e=>hx b o (zD (zv e)) e
 exact h pins _ σ H xs _ Q I1 (by simpa using rv) hw
def ac2 (te:TE) (g:TG):TS:=fun D σ H=>te σ H fun x H1=>g x σ H1 D.nx
theorem aaM {tg e:Expr} {te:TE} {g:TG} (he:PE X e te) (hg:PG X tg g) (hs:swapsWithSole [tg] e pos.line X.env=pure false:=by rfl) (hw:swappedStores [tg] e X.env=pure none:=by rfl)
  (h1:(assignEach [tg] X.env).map (·.2)=[assign tg X.env]:=by rfl):PS X (.Assign [tg] e pos) (ac2 te g):=by
 intro pins s σ H D I h
 refine wpAny_Assign_stores (mH (he pins s σ H _ I h) fun v s1 ⟨x,H1,I1,r1,q1⟩=>?_) hs hw
 rw[h1]
 exact mH (hg pins s1 σ H1 x v _ I1 r1 q1) fun _ s2 q=>q
theorem Ni {i:Nat} {x:Str} {e:Expr} {te:TE} {pos':Pos} (hN:X.N.Nodup) (hi:X.N[i]?=some x) (hx:Loc X.env.scope x) (he:PE X e te) (hs:swapsWith e (some (.Name x pos')) pos.line X.env=pure false:=by rfl) (hf:X.fn x=true\/X.env.scope.names.lookup x=some .local:=by first|exact .inl rfl|exact .inr rfl|assumption) :
  PS X (.Assign [.Name x pos'] e pos) (ac2 te (ZW i)):=by
 intro pins s σ H D I h
 refine wpAny_Assign_Name (mH (he pins s σ H _ I h) fun v s1 ⟨y,H1,I1,r1,q1⟩=>?_) hs
 exact xP I1 hN hi hx r1 (fun s2 I2=>⟨_,H1,I2,q1⟩) hf
def afm (i j:Nat) (ta:TA):TS:=fun D σ H=>ta σ H fun vs H1=>∃ v w,vs=[v,w]/\D.nx ((σ.set i (some v)).set j (some w)) H1
theorem aaN {i j:Nat} {x y:Str} {a b:Expr} {ta:TA} {px py pt:Pos} {kt k2 pt2} (hc:X.calm=true) (hN:X.N.Nodup) (hi:X.N[i]?=some x) (hj:X.N[j]?=some y) (hij:i≠j)
  (hx:X.env.scope.names.lookup x=some .local) (hy:X.env.scope.names.lookup y=some .local) (ha:PA X [a,b] ta)
  (hw:swappedStores [.Tuple [.Name x px,.Name y py] kt pt] (.Tuple [a,b] k2 pt2) X.env=pure (some [x,y]))
  (hs:swapsWithSole [.Tuple [.Name x px,.Name y py] kt pt] (.Tuple [a,b] k2 pt2) pos.line X.env=pure false:=by rfl) :
  PS X (.Assign [.Tuple [.Name x px,.Name y py] kt pt] (.Tuple [a,b] k2 pt2) pos) (afm i j ta):=by
 intro pins s σ H D I h
 rw[exec_Assign_arm]
 refine zb (KL ?_)
 rw[hs]
 refine zb (ze ?_)
 rw[zw (by decide)]
 refine zb (Tuple_ (mH (ha _ pins s σ H _ I h) fun us s1 ⟨vs,H1,I1,r1,q1⟩=>?_))
 obtain⟨v,w,e1,q1⟩:=q1
 subst e1
 obtain⟨u1,u2,rfl,rv,Qh⟩:∃ u1 u2,us=[u1,u2]/\RelV v u1/\RelV w u2:=by
  cases r1 with
  |cons p q=>
   cases q with
   |cons p' q'=>
    cases q'
    exact⟨_,_,rfl,p,p'⟩
 refine qi ?_ (by show 2<=sizeLine;decide)
 have I2:Inv X pins σ H1 { s1 with heap:=s1.heap.push { cls:=.type "tuple", data:=.seq [u1,u2].toArray } }:=I1.kept (t':=s1.toks) fun b o e=>zd _ e
 rw[hw]
 refine zb (ze ?_)
 show wpAny (model X.prog X.w) X.A (do rule "assign.swapped-stores"; let items <-unpackItems (.ref s1.heap.objs.size) 2 none;assignInOrder [fun v=>bindName X.env y v,fun v=>bindName X.env x v] items.reverse;pure Flow.next) _ _ _
 refine zb (wpAny_rule (zb (unpackItems_tuple (items:=#[u1,u2]) (I.ok.hd hc) (IsTup.new s1.heap _) fun h' hx'=>?_)))
 have I3:=I2.kept (h':=h') (t':=s1.toks) fun b o e=>hx' b o (zD (zv e)) e
 show wpAny _ _ (assignInOrder [fun v=>bindName X.env y v,fun v=>bindName X.env x v] [u2,u1] >>= fun _=>pure Flow.next) _ _ _
 refine zb (assignInOrder_cons (wpAny_bindName (xP I3 hN hj (.inl hy) Qh (fun s2 I4=>?_) (.inr hy))))
 refine assignInOrder_cons (wpAny_bindName (xP I4 hN hi (.inl hx) rv (fun s3 I5=>assignInOrder_nil (ze ?_)) (.inr hx)))
 rw[List.set_comm _ _ (Kb hij)] at I5
 exact⟨_,H1,I5,q1⟩
end
section
variable {X:Cx} {pos:Pos}
end
structure It where
 go:Nat->Hp->Prop
 yld:Nat->Hp->V->Hp->Prop
 stop:Nat->Hp->Prop
def uz (X:Cx) (pins:List (Addr×Obj)) (H:Hp) (b:Addr):Prop:=
 H b=none/\b≠X.env.locals/\b∉X.fs/\(b∈X.ex\/X.s₀.heap.objs.size<=b)/\(∀ x c,X.env.cells.lookup x=some c->c≠b)/\∀ p∈X.pn++pins,p.1≠b
theorem Inv.RQ {X:Cx} {pins:List (Addr×Obj)} {σ:St} {H H':Hp} {s:Shared} {b:Addr} (I:Inv X pins σ H s) (hb:s.heap.objs.size<=b) (hn:H' b=none):uz X pins H' b:=by
 refine⟨hn,Nat.ne_of_gt (ZA I.lt hb),I.afc hb,.inr (z4 I.sz hb),fun x c e z=>?_,fun p hp z=>?_⟩
 ·obtain⟨v,q⟩:=I.cell x c e
  exact absurd (ZA q.lt (by rw[z];exact hb)) (JU _)
 ·exact absurd (ZA (zv (I.pin p hp).1) (by rw[z];exact hb)) (JU _)
structure Turn (P:Program) (w:World) (K:PySem.W.Frag) (tg:Expr) (J:It) (fp:List Addr) (it:Addr) (tn:Nat->Heap->Prop):Prop where
 mem:it∈fp
 obj:∀ i h,tn i h->∀ b∈fp,∃ o,h.get? b=some o/\∀ v,o.data≠.cell v
 keep:∀ i h h',tn i h->(∀ b∈fp,∀ o,h.get? b=some o->h'.get? b=some o)->tn i h'
 item:∀ (X:Cx),X.prog=P->X.w=w->X.K=K->X.calm=true->∀ (i:Nat) (pins:List (Addr×Obj)) (s:Shared) (σ:St) (H:Hp) (E:Value->Shared->Prop),Inv X pins σ H s->(∀ b∈fp,uz X pins H b)->tn i s.heap->J.go i H →
  wpAny (model P w) X.A (pyNext (.ref it)) (fun r s1=>∃ u,r=some u ∧
   wpAny (model P w) X.A (letOwnedTupleGo tg (.ref it) u) (fun _ s2=>∃ x H',Inv X pins σ H' s2/\RelV x u/\J.yld i H x H'/\tn (i+1) s2.heap/\∀ b∈fp,H' b=none) E s1) E s
 done:∀ (X:Cx),X.prog=P->X.w=w->X.K=K->X.calm=true->∀ (i:Nat) (pins:List (Addr×Obj)) (s:Shared) (σ:St) (H:Hp) (E:Value->Shared->Prop),Inv X pins σ H s->(∀ b∈fp,uz X pins H b)->tn i s.heap->J.stop i H →
  wpAny (model P w) X.A (pyNext (.ref it)) (fun r s1=>r=none/\Inv X pins σ H s1) E s
 self:∀ (A:Around) (i:Nat) (s:Shared) (Q:Value->Shared->Prop) (E:Value->Shared->Prop),tn i s.heap->Q (.ref it) s->wpAny (model P w) A (pyIter (.ref it)) Q E s
abbrev TI:=St->Hp->(It->Hp->Prop)->Prop
def PIE (X:Cx) (pins:List (Addr×Obj)) (σ:St) (tg:Expr) (R:It->Hp->Prop) (itv:Value) (s2:Shared):Prop:=
 ∃ (it:Addr) (fp:List Addr) (tn:Nat->Heap->Prop) (J:It) (H':Hp),itv=.ref it/\Inv X pins σ H' s2/\Turn X.prog X.w X.K tg J fp it tn/\tn 0 s2.heap/\(∀ b∈fp,uz X pins H' b)/\R J H'
def PI (X:Cx) (tg iter:Expr) (wi:TI):Prop:=
 ∀ (pins:List (Addr×Obj)) (s:Shared) (σ:St) (H:Hp) (R:It->Hp->Prop),Inv X pins σ H s->wi σ H R →
  wpAny (model X.prog X.w) X.A (eval iter X.env) (fun v s1=>wpAny (model X.prog X.w) X.A (pyIter v) (PIE X pins σ tg R) X.xe s1) X.xe s
theorem GJ {M:Model} {A:Around} {E:Value->Shared->Prop} {s:Shared} {tg:Expr} {it:Addr} {u:Value} {o:Obj} {n:String} {vs:Array Value} {Q:Unit->Shared->Prop} (ho:s.heap.get? it=some o) (hc:o.cls=.type n) (hd:o.data=.fields vs)
  (hn:["enumerate", "zip", "dict_itemiterator", "dict_reverseitemiterator", "odict_iterator", "itertools.zip_longest", "itertools.pairwise"].contains n=false) (hQ:Q () s):wpAny M A (letOwnedTupleGo tg (.ref it) u) Q E s:=by
 unfold letOwnedTupleGo
 cases tg<;>first
  |exact ze hQ
  |(cases u<;>first
    |exact ze hQ
    |(refine zb (wpAny_load ho ?_)
      rw[hc,hd]
      show wpAny M A (if (["enumerate", "zip", "dict_itemiterator", "dict_reverseitemiterator", "odict_iterator", "itertools.zip_longest", "itertools.pairwise"].contains n&&vs[0]?==some (rawInt _))=true then _ else _) Q E s
      rw[zw (by intro h;rw[hn,Bool.false_and] at h;cases h)]
      exact ze hQ))
def Itl (K:PySem.W.Frag) (a:Addr):It:=
 ⟨fun i H=>∃ xs x,um K H a xs/\xs[i]?=some x,fun i H x H'=>H'=H/\∀ xs,um K H a xs->xs[i]?=some x,fun i H=>∃ xs,um K H a xs/\xs.length<=i⟩
def Itt (K:PySem.W.Frag) (a:Addr):It:=
 ⟨fun i H=>∃ xs x,xM K H a xs/\xs[i]?=some x,fun i H x H'=>H'=H/\∀ xs,xM K H a xs->xs[i]?=some x,fun i H=>∃ xs,xM K H a xs/\xs.length<=i⟩
def Itr (lo:Int) (n:Nat):It:=⟨fun i _=>i < n,fun i H x H'=>H'=H/\x=.int (lo+i),fun i _=>n<=i⟩
theorem RT {P:Program} {w:World} {K:PySem.W.Frag} {tg:Expr} (a it:Addr):Turn P w K tg (Itl K a) [it] it (fun i h=>h.IsListIter it a i) where
 mem:=by simp
 obj:=fun i h st b hb=>by
  have e:b=it:=by simpa using hb
  subst e
  obtain⟨o,e,c,d⟩:=st
  exact⟨o,e,fun v z=>by rw[d] at z;cases z⟩
 keep:=fun i h h' st k=>st.at fun o e=>k it (by simp) o e
 item:=by
  intro X hP hw hK hc i pins s σ H E I hf st hg
  subst hP hw hK
  obtain⟨xs,x,hq,hx⟩:=hg
  obtain⟨its,rv,p,hz⟩:=I.list hq
  obtain⟨u,hu,ru⟩:=rv.get hx
  obtain⟨f0,f1,f2,f3,f4,f5⟩:=hf it (by simp)
  refine wpAny_pyNext_list_item st p.isList (x:=u) (by simpa using hu) fun h' st' sb=>?_
  have I1:Inv X pins σ H { s with heap:=h' }:=I.turned (t':=s.toks) (fun b o hb e=>(sb.2 b hb).trans e) f0 f1 f3 f4 f5
  obtain⟨o,e,c,d⟩:=id st'
  exact⟨u,rfl,GJ (s:={ s with heap:=h' }) e c d (by decide) ⟨x,H,I1,ru,⟨rfl,fun ys hy=>by rw[I.Kg hy hq];exact hx⟩,st',fun b hb=>(hf b hb).1⟩⟩
 done:=by
  intro X hP hw hK hc i pins s σ H E I hf st hg
  subst hP hw hK
  obtain⟨xs,hq,hx⟩:=hg
  obtain⟨its,rv,p,hz⟩:=I.list hq
  obtain⟨f0,f1,f2,f3,f4,f5⟩:=hf it (by simp)
  have hl:=rv.length
  exact wpAny_pyNext_list_end (I.ok.hd hc) st p.isList (by simp;omega) fun h' eb=>⟨rfl,I.turned (t':=s.toks) (fun b o hb e=>eb b o hb e) f0 f1 f3 f4 f5⟩
 self:=fun _ _ _ _ _ st h=>wpAny_pyIter_listiter st h
theorem Nj {P:Program} {w:World} {K:PySem.W.Frag} {tg:Expr} (a it:Addr):Turn P w K tg (Itt K a) [it] it (fun i h=>h.IsTupleIter it a i) where
 mem:=by simp
 obj:=fun i h st b hb=>by
  have e:b=it:=by simpa using hb
  subst e
  obtain⟨o,e,c,d⟩:=st
  exact⟨o,e,fun v z=>by rw[d] at z;cases z⟩
 keep:=fun i h h' st k=>st.at fun o e=>k it (by simp) o e
 item:=by
  intro X hP hw hK hc i pins s σ H E I hf st hg
  subst hP hw hK
  obtain⟨xs,x,hq,hx⟩:=hg
  obtain⟨its,rv,p,hz⟩:=I.tuple hq
  obtain⟨u,hu,ru⟩:=rv.get hx
  obtain⟨f0,f1,f2,f3,f4,f5⟩:=hf it (by simp)
  refine wpAny_pyNext_tuple_item st (show s.heap.IsTuple a its.toArray from p) (x:=u) (by simpa using hu) fun h' st' sb=>?_
  have I1:Inv X pins σ H { s with heap:=h' }:=I.turned (t':=s.toks) (fun b o hb e=>(sb.2 b hb).trans e) f0 f1 f3 f4 f5
  obtain⟨o,e,c,d⟩:=id st'
  exact⟨u,rfl,GJ (s:={ s with heap:=h' }) e c d (by decide) ⟨x,H,I1,ru,⟨rfl,fun ys hy=>by rw[I.GF hy hq];exact hx⟩,st',fun b hb=>(hf b hb).1⟩⟩
 done:=by
  intro X hP hw hK hc i pins s σ H E I hf st hg
  subst hP hw hK
  obtain⟨xs,hq,hx⟩:=hg
  obtain⟨its,rv,p,hz⟩:=I.tuple hq
  obtain⟨f0,f1,f2,f3,f4,f5⟩:=hf it (by simp)
  have hl:=rv.length
  exact wpAny_pyNext_tuple_end (I.ok.hd hc) st (show s.heap.IsTuple a its.toArray from p) (by simp;omega) fun h' eb=>⟨rfl,I.turned (t':=s.toks) (fun b o hb e=>eb b o hb e) f0 f1 f3 f4 f5⟩
 self:=fun _ _ _ _ _ st h=>wpAny_pyIter_tupleiter st h
theorem Nk {P:Program} {w:World} {K:PySem.W.Frag} {tg:Expr} (it:Addr) (lo:Int) (n:Nat):Turn P w K tg (Itr lo n) [it] it (fun i h=>IsRangeIter h it (lo+(i:Nat) * 1) ((n:Int) - (i:Nat)) 1) where
 mem:=by simp
 obj:=fun i h st b hb=>by
  have e:b=it:=by simpa using hb
  subst e
  exact⟨_,st,fun v z=>by
   have z':Data.fields _=Data.cell v:=z
   cases z'⟩
 keep:=fun i h h' st k=>k it (by simp) _ st
 item:=by
  intro X hP hw hK hc i pins s σ H E I hf st hg
  subst hP hw hK
  obtain⟨f0,f1,f2,f3,f4,f5⟩:=hf it (by simp)
  have W:=Walks.range (prog:=X.prog) (w:=X.w) (I.ok.hd hc) it lo 1 n
  refine W.item i s _ _ hg st fun v h' tk hv st' kk=>?_
  obtain⟨t,rfl⟩:=hv
  have I1:Inv X pins σ H { s with heap:=h',toks:=tk }:=I.turned (fun b o hb e=>kk b o (by simpa using hb) e) f0 f1 f3 f4 f5
  refine⟨_,rfl,GJ (s:={ s with heap:=h',toks:=tk }) (n := "range_iterator") st' rfl rfl (by decide) ⟨.int (lo+i),H,I1,⟨t,?_⟩,⟨rfl,rfl⟩,st',fun b hb=>(hf b hb).1⟩⟩
  rw[Int.mul_one]
 done:=by
  intro X hP hw hK hc i pins s σ H E I hf st hg
  subst hP hw hK
  obtain⟨f0,f1,f2,f3,f4,f5⟩:=hf it (by simp)
  exact wpAny_pyNext_range_end (I.ok.hd hc) st (by have:n<=i:=hg;omega) fun h' eb=>⟨rfl,I.turned (t':=s.toks) (fun b o hb e=>eb b o hb e) f0 f1 f3 f4 f5⟩
 self:=fun _ _ _ _ _ st h=>wpAny_pyIter_rangeiter st h
end L2
namespace L2
open PySem PySem.Spec PyProof.Rows
section
variable {X:Cx} {tg:Expr}
theorem Ue {pins:List (Addr×Obj)} {σ:St} {H:Hp} {s:Shared} {R:It->Hp->Prop} {E:Value->Shared->Prop} {lo hi:Int} {t u v:Tok} {tk:Nat} (I:Inv X pins σ H s) (h1 : -(2 ^ 62)<=lo) (h2:lo < 2 ^ 62) (h3 : -(2 ^ 62)<=hi) (h4:hi < 2 ^ 62)
  (q:R (Itr lo (hi - lo).toNat) H):wpAny (model X.prog X.w) X.A (pyIter (.ref s.heap.objs.size)) (PIE X pins σ tg R) E { s with heap:=s.heap.push { cls:=.type "range", data:=.fields #[.int lo t,.int hi u,.int 1 v] },toks:=tk }:=by
 refine wpAny_pyIter_range (IsRange.new ..) (small_one h1 h2 h3 h4) ?_
 have I1:Inv X pins σ H { s with heap:=s.heap.push { cls:=.type "range", data:=.fields #[.int lo t,.int hi u,.int 1 v] },toks:=tk }:=I.kept fun b o e=>zd _ e
 refine⟨(s.heap.push { cls:=.type "range", data:=.fields #[.int lo t,.int hi u,.int 1 v] }).objs.size,[(s.heap.push { cls:=.type "range", data:=.fields #[.int lo t,.int hi u,.int 1 v] }).objs.size],_,_,H,rfl,
  I1.kept (t':=tk) fun b o e=>zd _ e,Nk _ lo (hi - lo).toNat,?_,fun b hb=>?_,q⟩
 ·have e1:lo+((0:Nat):Int) * 1=lo:=by simp
  have e2:(((hi - lo).toNat:Nat):Int) - ((0:Nat):Int)=Builtin.Range.rangeSize lo hi 1:=by rw[rangeSize_one];split<;>omega
  show IsRangeIter _ _ (lo+((0:Nat):Int) * 1) ((((hi - lo).toNat:Nat):Int) - ((0:Nat):Int)) 1
  rw[e1,e2]
  exact zt _ rfl
 ·have e:b=(s.heap.push { cls:=.type "range", data:=.fields #[.int lo t,.int hi u,.int 1 v] }).objs.size:=by simpa using hb
  subst e
  exact I1.RQ (zg _) (I1.hok.fresh (zg _))
def ac4 (ta:TA):TI:=fun σ H R=>ta σ H fun vs H1=>∃ j:Int,vs=[.int j] ∧ -(2 ^ 62)<=j/\j < 2 ^ 62/\R (Itr 0 j.toNat) H1
theorem RV {a:Expr} {ta:TA} {p pos:Pos} (hg:Gl X "range") (hm:X.mg "range" = none) (ha:PA X [a] ta) (hs:starEach [a] X.env=[(false,eval a X.env)]:=by rfl):PI X tg (.Call (.Name "range" p) [a] [] pos) (ac4 ta):=by
 intro pins s σ H R I h
 refine Call_ (HS I hg hm boot_range (PyProof.Rows.callWith_type1 (mH (ha pos pins s σ H _ I h) fun us s1 ⟨vs,H1,I1,r1,q1⟩=>?_) hs rfl))
 obtain⟨j,e,q1,q2,q⟩:=q1
 subst e
 cases r1 with
 |cons r rr=>
  cases rr
  obtain⟨t,rfl⟩:=r
  exact call_range_1 (Ue I1 (by omega) (by omega) q1 q2 (by simpa using q))
def afo (wi:TI) (g:TG) (tb:TS):TS:=fun D σ H=>wi σ H fun J H1=>∃ W:Nat->Nat->St->Hp->Prop,(∃ m,W 0 m σ H1)/\∀ i m σ H,W i m σ H →
 (J.stop i H/\D.nx σ H)\/(J.go i H/\∃ N:St->Hp->Prop,(∀ σ' H',N σ' H'->∃ m',m' < m/\W (i+1) m' σ' H')/\∀ x H',J.yld i H x H'->g x σ H' fun σ2 H2=>tb { D with nx:=N,ct:=N,bk:=D.nx } σ2 H2)
def zJ (fp:List Addr) (h:Heap):List (Addr×Obj):=fp.filterMap fun b=>(h.get? b).map fun o=>(b,o)
theorem sJ {fp:List Addr} {h:Heap} {b:Addr} {o:Obj} (hb:b∈fp) (e:h.get? b=some o):(b,o)∈zJ fp h:=List.mem_filterMap.mpr ⟨b,hb,by rw[e];rfl⟩
theorem RW {fp:List Addr} {h:Heap} {p:Addr×Obj} (hp:p∈zJ fp h):p.1∈fp/\h.get? p.1=some p.2:=by
 obtain⟨b,hb,e⟩:=List.mem_filterMap.mp hp
 cases q:h.get? b with
 |none=>rw[q] at e;cases e
 |some o=>
  rw[q] at e
  have e':(b,o)=p:=jS e
  subst e'
  exact⟨hb,q⟩
theorem Inv.pinned {pins:List (Addr×Obj)} {σ:St} {H:Hp} {s:Shared} {fp:List Addr} (I:Inv X pins σ H s) (hf:∀ b∈fp,uz X pins H b) (ho:∀ b∈fp,∃ o,s.heap.get? b=some o/\∀ v,o.data≠.cell v):Inv X (pins++zJ fp s.heap) σ H s:=
 I.HJ fun p hp=>(List.mem_append.mp hp).elim (fun z=>I.pin p (qc _ z)) fun z=>by
  obtain⟨hb,e⟩:=RW z
  obtain⟨f0,f1,f2,_⟩:=hf p.1 hb
  obtain⟨o,e',d⟩:=ho p.1 hb
  rw[e] at e';cases e'
  exact⟨e,f0,f1,f2,d⟩
theorem Inv.uD {pins pl:List (Addr×Obj)} {σ:St} {H:Hp} {s:Shared} (I:Inv X (pins++pl) σ H s):Inv X pins σ H s:=I.HJ fun p hp=>I.pin p (qc _ (List.mem_append_left _ hp))
theorem Ug {iter:Expr} {body:List Stmt} {wi:TI} {g:TG} {tb:TS} {pos:Pos} (hp:PassesOwn (model X.prog X.w) X.A X.env X.xe) (hc:X.calm=true) (hi:PI X tg iter wi) (hg:PG X tg g) (hb:J7 X body tb)
  (hs:∀ x,foldedSetIterable iter X.env x=pure x:=by intro _;rfl):PS X (.For tg iter body [] pos) (afo wi g tb):=by
 intro pins s σ H D I h
 refine wpAny_For (mH (hi pins s σ H _ I h) fun v s1 h1=>mH h1 fun itv s2 h2=>?_) hs
 obtain⟨it,fp,tn,J,H2,e,I2,T,st2,f2,W,⟨m0,w0⟩,turn⟩:=h2
 subst e
 have stat:∀ {H':Hp},(∀ b∈fp,H' b=none)->∀ b∈fp,uz X pins H' b:=fun hn b hb=>⟨hn b hb,(f2 b hb).2⟩
 refine codeAny_forLoop_any (fun n s'=>∃ i σ' H',Inv X pins σ' H' s'/\tn i s'.heap/\(∀ b∈fp,H' b=none)/\W i n σ' H') ?_ m0 ⟨0,σ,H2,I2,st2,fun b hb=>(f2 b hb).1,w0⟩
 rintro n s3 ⟨i,σ3,H3,I3,st3,fr3,w3⟩
 rcases turn i n σ3 H3 w3 with⟨stop,qn⟩|⟨go,N,hN,step⟩
 ·refine Kn hp (mH (T.done X rfl rfl rfl hc i pins s3 σ3 H3 X.xe I3 (stat fr3) st3 stop) fun r s4 ⟨hr,I4⟩=>?_)
  subst hr
  exact wpAny_execs_nil ⟨σ3,H3,I4,qn⟩
 ·refine Kn hp (mH (T.item X rfl rfl rfl hc i pins s3 σ3 H3 X.xe I3 (stat fr3) st3 go) fun r s4 ⟨u,hr,h4⟩=>?_)
  subst hr
  refine Kn hp (mH h4 fun _ s5 ⟨x,H5,I5,r5,y5,st5,fr5⟩=>?_)
  have I5':=I5.pinned (stat fr5) (T.obj _ _ st5)
  refine Kn hp (mH (hg _ s5 σ3 H5 x u _ I5' r5 (step x H5 y5)) fun _ s6 ⟨σ6,H6,I6,q6⟩=>?_)
  refine Kn hp (mH (hb _ s6 σ6 H6 _ I6 q6) fun f s7 q7=>?_)
  have again:∀ {σ7:St} {H7:Hp},Inv X (pins++zJ fp s5.heap) σ7 H7 s7->N σ7 H7->∃ m,m < n/\∃ i σ' H',Inv X pins σ' H' s7/\tn i s7.heap/\(∀ b∈fp,H' b=none)/\W i m σ' H':=fun {σ7 H7} I7 n7=>by
   obtain⟨m',hm,w7⟩:=hN σ7 H7 n7
   refine⟨m',hm,i+1,σ7,H7,I7.uD,T.keep _ _ _ st5 fun b hb o e=>(I7.pin (b,o) (qc _ (qc _ (sJ hb e)))).1,fun b hb=>?_,w7⟩
   obtain⟨o,e,d⟩:=T.obj _ _ st5 b hb
   exact (I7.pin (b,o) (qc _ (qc _ (sJ hb e)))).2.1
  cases f with
  |next=>obtain⟨σ7,H7,I7,n7⟩:=q7;exact again I7 n7
  |cont=>obtain⟨σ7,H7,I7,n7⟩:=q7;exact again I7 n7
  |brk=>obtain⟨σ7,H7,I7,q7⟩:=q7;exact⟨σ7,H7,I7.uD,q7⟩
  |ret v=>obtain⟨x7,σ7,H7,I7,r7,q7⟩:=q7;exact⟨x7,σ7,H7,I7.uD,r7,q7⟩
end
end L2
namespace L2
open PySem PySem.Spec PyProof.Rows
abbrev R2:=V->V->Hp->VK->Prop
def wO (X:Cx) (f:Value->Value->Sem Value) (r:R2):Prop:=
 ∀ (pins:List (Addr×Obj)) (s:Shared) (σ:St) (H:Hp) (x y:V) (v u:Value) (Q:VK),Inv X pins σ H s->RelV x v->RelV y u->r x y H Q →
  wpAny (model X.prog X.w) X.A (f v u) (EP X pins σ Q) X.xe s
def UnR (X:Cx) (f:Value->Sem Value) (r:V->Hp->VK->Prop):Prop:=
 ∀ (pins:List (Addr×Obj)) (s:Shared) (σ:St) (H:Hp) (x:V) (v:Value) (Q:VK),Inv X pins σ H s->RelV x v->r x H Q →
  wpAny (model X.prog X.w) X.A (f v) (EP X pins σ Q) X.xe s
def jk (X:Cx) (f:Value) (r:List V->Hp->VK->Prop):Prop:=
 ∀ (pins:List (Addr×Obj)) (s:Shared) (σ:St) (H:Hp) (xs:List V) (us:List Value) (Q:VK),Inv X pins σ H s->Vals xs us->r xs H Q →
  wpAny (model X.prog X.w) X.A (call f us) (EP X pins σ Q) X.xe s
def afr (X:Cx) (r:V->Hp->(Bool->Hp->Prop)->Prop):Prop:=
 ∀ (pins:List (Addr×Obj)) (s:Shared) (σ:St) (H:Hp) (x:V) (v:Value) (Q:Bool->Hp->Prop),Inv X pins σ H s->RelV x v->r x H Q →
  wpAny (model X.prog X.w) X.A (truthy v) (TP X pins σ Q) X.xe s
def ZX (r:R2) (ta tb:TE):TE:=fun σ H Q=>ta σ H fun x H1=>tb σ H1 fun y H2=>r x y H2 Q
def rI (C:Int->Int->Prop) (g:Int->Int->V):R2:=fun x y H Q=>∃ i j,x=.int i/\y=.int j/\C i j/\Q (g i j) H
def rI0 (g:Int->Int->V):R2:=fun x y H Q=>∃ i j,x=.int i/\y=.int j/\Q (g i j) H
section
variable {X:Cx} {a b c:Expr} {ta tb tc:TE} {pos:Pos}
theorem aaQ (ha:PE X a ta) (hb:PE X b tb) {pins:List (Addr×Obj)} {s:Shared} {σ:St} {H:Hp} {R:V->V->Hp->Prop} (I:Inv X pins σ H s)
  (h:ta σ H fun x H1=>tb σ H1 fun y H2=>R x y H2) {Q:Value->Shared->Prop} {f:Value->Value->Sem Value}
  (hf:∀ v u s2 x y H2,Inv X pins σ H2 s2->RelV x v->RelV y u->R x y H2->wpAny (model X.prog X.w) X.A (f v u) Q X.xe s2) :
  wpAny (model X.prog X.w) X.A (eval a X.env) (fun v s₁=>wpAny (model X.prog X.w) X.A (eval b X.env) (fun u s₂=>wpAny (model X.prog X.w) X.A (f v u) Q X.xe s₂) X.xe s₁) X.xe s:=by
 refine mH (ha pins s σ H _ I h) fun v s1 ⟨x,H1,I1,r1,q1⟩=>?_
 refine mH (hb pins s1 σ H1 _ I1 q1) fun u s2 ⟨y,H2,I2,r2,q2⟩=>?_
 exact hf v u s2 x y H2 I2 r1 r2 q2
theorem ac5 {op:Operator} {r:R2} (ho:wO X (binaryOp op) r) (ha:PE X a ta) (hb:PE X b tb):PE X (.BinOp a op b pos) (ZX r ta tb):=by
 intro pins s σ H Q I h
 exact wpAny_BinOp (aaQ ha hb I h fun v u s2 x y H2 I2 rx ry q=>ho pins s2 σ H2 x y v u Q I2 rx ry q)
theorem opI {f:Value->Value->Sem Value} {C:Int->Int->Prop} {g:Int->Int->Int}
  (rule:∀ (i j:Int) (t u:Tok) (s:Shared) (Q:Value->Shared->Prop) (E:Value->Shared->Prop),C i j->Q (.int (g i j) s.toks) { s with toks:=s.toks+1 }->wpAny (model X.prog X.w) X.A (f (.int i t) (.int j u)) Q E s) :
  wO X f (rI C fun i j=>.int (g i j)):=by
 intro pins s σ H x y v u Q I rx ry h
 obtain⟨i,j,rfl,rfl,hc,q⟩:=h
 obtain⟨t,rfl⟩:=rx
 obtain⟨t',rfl⟩:=ry
 exact rule i j t t' s _ _ hc ⟨.int (g i j),H,I.tok _,⟨_,rfl⟩,q⟩
theorem ac6 {f:Value->Value->Sem Value} {g:Int->Int->Int}
  (rule:∀ (i j:Int) (t u:Tok) (s:Shared) (Q:Value->Shared->Prop) (E:Value->Shared->Prop),Q (.int (g i j) s.toks) { s with toks:=s.toks+1 }->wpAny (model X.prog X.w) X.A (f (.int i t) (.int j u)) Q E s) :
  wO X f (rI0 fun i j=>.int (g i j)):=by
 intro pins s σ H x y v u Q I rx ry h
 obtain⟨i,j,rfl,rfl,q⟩:=h
 obtain⟨t,rfl⟩:=rx
 obtain⟨t',rfl⟩:=ry
 exact rule i j t t' s _ _ ⟨.int (g i j),H,I.tok _,⟨_,rfl⟩,q⟩
theorem aaR {f:Value->Value->Sem Value} {g:Int->Int->Bool}
  (rule:∀ (i j:Int) (t u:Tok) (s:Shared) (Q:Value->Shared->Prop) (E:Value->Shared->Prop),Q (.bool (g i j)) s->wpAny (model X.prog X.w) X.A (f (.int i t) (.int j u)) Q E s) :
  wO X f (rI0 fun i j=>.bl (g i j)):=by
 intro pins s σ H x y v u Q I rx ry h
 obtain⟨i,j,rfl,rfl,q⟩:=h
 obtain⟨t,rfl⟩:=rx
 obtain⟨t',rfl⟩:=ry
 exact rule i j t t' s _ _ ⟨.bl (g i j),H,I,rfl,q⟩
def afs (i j:Int):Prop:=0 < j/\j < 1073741824
def aft (i j:Int):Prop:=0<=j/\j<=1000000/\i.natAbs < 2 ^ 64
def aaS (i j:Int):Prop:=(-(2 ^ 64) < i/\i < 2 ^ 64)\/(-(2 ^ 64) < j/\j < 2 ^ 64)
theorem aaS.ok {i j:Int} (h:aaS i j):IntMulOk i j:=by
 rcases h with⟨h1,h2⟩|⟨h1,h2⟩
 ·exact .of_left (intBits_le_64 h1 h2)
 ·exact .of_right (intBits_le_64 h1 h2)
theorem aaT:wO X (binaryOp .Add) (rI0 fun i j=>.int (i+j)):=ac6 fun _ _ _ _ _ _ _ q=>add_int q
theorem aaU:wO X (binaryOp .Sub) (rI0 fun i j=>.int (i - j)):=ac6 fun _ _ _ _ _ _ _ q=>sub_int q
theorem aaV:wO X (binaryOp .Mult) (rI aaS fun i j=>.int (i * j)):=opI fun _ _ _ _ _ _ _ hc q=>mul_int q hc.ok
theorem Xq:wO X (binaryOp .FloorDiv) (rI afs fun i j=>.int (i / j)):=opI fun i j _ _ _ _ _ hc q=>by
 have h1:(0:Int) < j:=hc.1
 have h2:j < 1073741824:=hc.2
 exact floordiv_int (by omega) (by rw[Int.fdiv_eq_ediv_of_nonneg i (by omega)];exact q) (.inl (PyProof.noPylong_small (by omega)))
theorem aaW:wO X (binaryOp .Mod) (rI (fun _ j=>0 < j) fun i j=>.int (i % j)):=opI fun i j _ _ _ _ _ hc q=>by
 have h1:(0:Int) < j:=hc
 exact mod_int' (by omega) (by rw[Int.fmod_eq_emod_of_nonneg i (by omega)];exact q)
theorem aaX:wO X (binaryOp .Pow) (rI aft fun i j=>.int (i ^ j.toNat)):=opI fun _ _ _ _ _ _ _ hc q=>pow_int_small hc.1 hc.2.1 hc.2.2 q
end
section
variable {X:Cx} {a b c:Expr} {ta tb tc:TE} {pos:Pos}
theorem Uh {pins:List (Addr×Obj)} {σ:St} {H:Hp} {s:Shared} {Q:VK} {k k':Bool} (I:Inv X pins σ H s) (q:Q (.bl k) H) (e:k=k'):EP X pins σ Q (.bool k') s:=by
 subst e
 exact⟨.bl k,H,I,rfl,q⟩
theorem ac7:wO X (compareOp .Lt) (rI0 fun i j=>.bl (decide (i < j))):=aaR fun _ _ _ _ _ _ _ q=>lt_int q
theorem ac8:wO X (compareOp .Gt) (rI0 fun i j=>.bl (decide (j < i))):=aaR fun _ _ _ _ _ _ _ q=>gt_int q
theorem ac9:wO X (compareOp .GtE) (rI0 fun i j=>.bl (decide (j<=i))):=aaR fun _ _ _ _ _ _ _ q=>ge_int q
theorem RX:wO X (compareOp .In) (fun x y H Q=>∃ i j,x=.str i/\y=.str j/\Q (.bl (!(Builtin.Str.occurrences j i 0 j.length 1).isEmpty)) H):=by
 intro pins s σ H x y v u Q I rx ry h
 obtain⟨i,j,rfl,rfl,q⟩:=h
 obtain⟨t,rfl⟩:=rx
 obtain⟨t',rfl⟩:=ry
 exact in_str (Uh I q rfl)
theorem aaY:wO X (compareOp .Is) (fun x y H Q=>y=.non/\Q (.bl (decide (x=.non))) H):=by
 intro pins s σ H x y v u Q I rx ry h
 obtain⟨rfl,q⟩:=h
 cases ry
 refine is_none_gen (Uh I q ?_)
 cases x<;>first
  |(cases rx;rfl)
  |(obtain⟨t,rfl⟩:=rx;rfl)
theorem wO.or {f:Value->Value->Sem Value} {r r':R2} (h:wO X f r) (h':wO X f r'):wO X f (fun x y H Q=>r x y H Q\/r' x y H Q):=by
 intro pins s σ H x y v u Q I rx ry q
 rcases q with q|q
 ·exact h pins s σ H x y v u Q I rx ry q
 ·exact h' pins s σ H x y v u Q I rx ry q
theorem dF (b:Expr) {op:CmpOp} (h:op≠.In:=by decide) (h2:op≠.NotIn:=by decide):behindInMarks op b=false:=by
 have e1:(op==CmpOp.In)=false:=by cases op<;>first|rfl|exact absurd rfl h
 have e2:(op==CmpOp.NotIn)=false:=by cases op<;>first|rfl|exact absurd rfl h2
 cases b<;>simp[behindInMarks,e1,e2]
theorem Xr {op:CmpOp} {r:R2} (ho:wO X (compareOp op) r) (ha:PE X a ta) (hb:PE X b tb) (hm:behindInMarks op b=false):PE X (.Compare a [op] [b] pos) (ZX r ta tb):=by
 intro pins s σ H Q I h
 exact wpAny_Compare1 (aaQ ha hb I h fun v u s2 x y H2 I2 rx ry q=>ho pins s2 σ H2 x y v u Q I2 rx ry q) hm
def ada (t:TE):TT:=fun σ H Q=>t σ H fun x H'=>∃ k,x=.bl k/\Q k H'
theorem Xu {op:CmpOp} {r:R2} (ho:wO X (compareOp op) r) (ha:PE X a ta) (hb:PE X b tb) (hm:behindInMarks op b=false):PT X (.Compare a [op] [b] pos) (ada (ZX r ta tb)):=by
 intro pins s σ H Q I h
 refine wpAny_isTrue_Compare1 (mH (ha pins s σ H _ I h) fun v s1 ⟨x,H1,I1,r1,q1⟩=>mH (hb pins s1 σ H1 _ I1 q1) fun u s2 ⟨y,H2,I2,r2,q2⟩=>
  mH (ho pins s2 σ H2 x y v u _ I2 r1 r2 q2) fun c s3 ⟨z,H3,I3,r3,k,e,q3⟩=>?_) hm
 subst e
 cases r3
 exact JJ ⟨H3,I3,q3⟩
def aaZ (K:PySem.W.Frag) (x:V) (H:Hp) (k:Bool):Prop:=
 match x with
 |.non=>k=false
 |.bl b=>k=b
 |.int i=>k=(i != 0)
 |.str y=>y.length<=sizeLine/\k=((y.length:Int) != 0)
 |.byt y=>y.size<=sizeLine/\k=((y.size:Int) != 0)
 |.ref p=>(∃ xs,um K H p xs/\k=!xs.isEmpty)\/(∃ xs,xM K H p xs/\k=!xs.isEmpty)\/∃ kvs,H p=some (.dK kvs)/\k=!kvs.isEmpty
 |_=>False
theorem Nm {κ:Type} {kvs:List (κ×V)} {vs:List (κ×Value)} (r:KV kvs vs):(!vs.isEmpty)=!kvs.isEmpty:=by
 cases r<;>rfl
theorem CJ {xs:List V} {its:List Value} (r:Vals xs its):(!its.toArray.isEmpty)=!xs.isEmpty:=by
 cases r<;>simp
theorem zK:(sizeLine:Nat) < 2 ^ 63:=by rw[sizeLine_eq];decide
theorem aa0:afr X (fun x H Q=>∃ k,aaZ X.K x H k/\Q k H):=by
 intro pins s σ H x v Q I rx h
 obtain⟨k,e,q⟩:=h
 have hl:=zK
 have hs:sizeLine=16777216:=sizeLine_eq
 cases x with
 |non=>
  cases rx
  have e':k=false:=e
  subst e'
  exact truthy_none ⟨H,I,q⟩
 |bl b=>
  cases rx
  have e':k=b:=e
  subst e'
  exact JJ ⟨H,I,q⟩
 |int i=>
  obtain⟨t,rfl⟩:=rx
  have e':k=(i != 0):=e
  subst e'
  exact PySem.P.truthy_int ⟨H,I,q⟩
 |str y=>
  obtain⟨t,rfl⟩:=rx
  obtain⟨hy,e'⟩:y.length<=sizeLine/\k=((y.length:Int) != 0):=e
  subst e'
  exact PySem.P.truthy_str (by omega) ⟨H,I.tok _,q⟩
 |byt y=>
  obtain⟨t,rfl⟩:=rx
  obtain⟨hy,e'⟩:y.size<=sizeLine/\k=((y.size:Int) != 0):=e
  subst e'
  exact PySem.W.truthy_bytes (by omega) ⟨H,I.tok _,q⟩
 |ref p=>
  cases rx
  have e':(∃ xs,um X.K H p xs/\k=!xs.isEmpty)\/(∃ xs,xM X.K H p xs/\k=!xs.isEmpty)\/∃ kvs,H p=some (.dK kvs)/\k=!kvs.isEmpty:=e
  rcases e' with⟨xs,hx,e'⟩|⟨xs,hx,e'⟩|⟨kvs,hx,e'⟩
  ·subst e'
   obtain⟨its,r,pl,hz⟩:=I.list hx
   have hlen:=r.length
   exact wpAny_truthy_list pl.isList (by simp only[zz];omega) ⟨H,I.tok _,by rw[CJ r];exact q⟩
  ·subst e'
   obtain⟨its,r,pl,hz⟩:=I.tuple hx
   have hlen:=r.length
   exact truthy_tuple pl (by simp only[zz];omega) ⟨H,I.tok _,by rw[CJ r];exact q⟩
  ·subst e'
   obtain⟨hz,hS,vs,r,m⟩:kvs.length<=sizeLine/\(p==sysModules)=false/\∃ vs,KV kvs vs/\s.heap.DictOf (bw X.prog X.w) p vs:=I.hok p _ hx
   have hlen:kvs.length=vs.length:=Paired.length r
   exact wpAny_truthy_dict hS m (by omega) ⟨H,I.tok _,by rw[Nm r];exact q⟩
 |_=>exact (show False from e).elim
theorem Ui (ha:PE X a ta) (he:∀ whole,isTrue a X.env whole=(do let v <-whole;standAt a.pos;holding [v] (truthy v))) :
  PT X a (fun σ H Q=>ta σ H fun x H'=>∃ k,aaZ X.K x H' k/\Q k H'):=by
 intro pins s σ H Q I h
 exact isTrue_plain (mH (ha pins s σ H _ I h) fun v s1 ⟨x,H1,I1,r1,q1⟩=>aa0 pins s1 σ H1 x v Q I1 r1 q1) (he _)
theorem Np:wO X (binaryOp .Add) (fun x y H Q=>∃ i j,x=.str i/\y=.str j/\i.length+j.length<=sizeLine/\Q (.str (i++j)) H):=by
 intro pins s σ H x y v u Q I rx ry h
 obtain⟨i,j,rfl,rfl,hz,q⟩:=h
 obtain⟨t,rfl⟩:=rx
 obtain⟨t',rfl⟩:=ry
 exact add_str (fun t' tk=>⟨.str (i++j),H,I.tok _,⟨_,rfl⟩,q⟩) hz
theorem vals1 {x:V} {us:List Value} (r:Vals [x] us):∃ u,us=[u]/\RelV x u:=by
 cases r with
 |cons r1 r2=>cases r2;exact⟨_,rfl,r1⟩
theorem vals2 {x y:V} {us:List Value} (r:Vals [x,y] us):∃ u w',us=[u,w']/\RelV x u/\RelV y w':=by
 cases r with
 |cons r1 r2=>
  cases r2 with
  |cons r3 r4=>cases r4;exact⟨_,_,rfl,r1,r3⟩
theorem Uj:jk X (.builtin "abs") (fun xs H Q=>∃ i,xs=[.int i]/\Q (.int (if i < 0 then -i else i)) H):=by
 intro pins s σ H xs us Q I r h
 obtain⟨i,rfl,q⟩:=h
 obtain⟨u,rfl,t,rfl⟩:=vals1 r
 exact call_abs_int fun u tk=>⟨.int (if i < 0 then -i else i),H,I.tok _,⟨_,rfl⟩,q⟩
theorem RZ:jk X (.type "int") (fun xs H Q=>(∃ i,xs=[.int i]/\Q (.int i) H)\/∃ k,xs=[.bl k]/\Q (.int (if k then 1 else 0)) H):=by
 intro pins s σ H xs us Q I r h
 rcases h with⟨i,rfl,q⟩|⟨k,rfl,q⟩
 ·obtain⟨u,rfl,t,rfl⟩:=vals1 r
  exact call_int_int ⟨.int i,H,I,⟨_,rfl⟩,q⟩
 ·obtain⟨u,rfl,r1⟩:=vals1 r
  cases r1
  exact call_int_bool ⟨.int (if k then 1 else 0),H,I.tok _,⟨_,rfl⟩,q⟩
end
end L2
namespace L2
open PySem PySem.Spec PyProof.Rows
structure aa1 (h:Heap) (x dx C:Addr) (mA:Str->Option Value):Prop where
 obj:h.get? x=some (PySem.W.instObj C dx)
 ns:h.Ns1 dx mA
 ne:dx≠x
theorem R0 {h:Heap} {dx:Addr} {mA:Str->Option Value} (n:h.Ns1 dx mA):∃ od,h.get? dx=some od/\∀ name,PySem.W.lookIn name od=some (mA name):=by
 obtain⟨o,es,ep,ho,hd,hk,_,hm⟩:=n
 refine⟨o,ho,fun name=>?_⟩
 have e:=hm name
 unfold nsFind findBy at e
 rw[<-Array.find?_toList] at e
 unfold PySem.W.lookIn
 rw[hd]
 dsimp only
 split
 ·rename_i y q
  rw[q] at e
  exact congrArg some e
 ·rename_i q
  rw[q] at e
  have a:es.toList.any (·.refKey)=false:=by
   rw[List.any_eq_false]
   intro y hy
   obtain⟨z,t,hkey⟩:=hk y (Array.mem_toList_iff.mp hy)
   simp[DictEntry.refKey,hkey]
  have a':¬ es.toList.any (·.refKey)=true:=by rw[a];exact Zp
  rw[zw a']
  exact congrArg some e
theorem aa1.look {h:Heap} {x dx C:Addr} {mA:Str->Option Value} (I:aa1 h x dx C mA):∃ od,PySem.W.InstAt h x (PySem.W.instObj C dx) C (some od)/\∀ name,PySem.W.lookIn name od=some (mA name):=
 let ⟨od,ho,hl⟩:=R0 I.ns
 ⟨od,⟨I.obj,rfl,rfl,ho⟩,hl⟩
section
variable {prog:Program} {w:World} {A:Around} {E:Value->Shared->Prop} {s:Shared} {K:PySem.W.Frag} {x dx C f:Addr} {mA:Str->Option Value} {name:Str} {v:Value}
end
theorem zH.some_of {v:V} {o:Option Value} (r:zH (some v) o):∃ u,o=some u/\RelV v u:=by
 cases o with
 |none=>exact (show False from r).elim
 |some u=>exact⟨u,rfl,r⟩
section
variable {P:Program} {w:World} {H H':Hp} {h h':Heap} {a C dx:Addr} {fs fs':List (Str×V)}
theorem Cd (hok:xK P w H h) (e:H a=some (.ins C dx fs)):∃ mA,aa1 h a dx C mA/\(∀ f,zH (fs.lookup f) (mA f))/\PySem.Within mA (fs.map (·.1))/\fs.length<=1000/\H dx=some (.own a):=by
 obtain⟨d,z,ne,ob,mA,n,r,q⟩:=(show iw P w H h a (.ins C dx fs) from hok a _ e)
 exact⟨mA,⟨ob,n,ne⟩,r,q,z,d⟩
end
structure Cls (K:PySem.W.Frag) (C:Addr):Prop where
 pg:PySem.W.plainGet K C Str.empty=true
 hd:PySem.W.hasDictIn K C=true
 po:PySem.W.plainOver K C=true
 sa:PySem.W.findIn K (.ref C) "__setattr__" = some (some (.builtin "object.__setattr__"))
theorem Cls.get {K:PySem.W.Frag} {C:Addr} (c:Cls K C) (f:Str):PySem.W.plainGet K C f=true:=c.pg
section
variable {X:Cx} {pins:List (Addr×Obj)} {σ:St} {H:Hp} {s:Shared} {a C dx:Addr} {fs:List (Str×V)} {f:Str} {v:V} {A:Around} {E:Value->Shared->Prop}
theorem Inv.made (I:Inv X pins σ H s):Inv X pins σ (upd (upd H s.heap.objs.size (.own (s.heap.objs.size+1))) (s.heap.objs.size+1) (.ins C s.heap.objs.size []))
  { s with heap:=(s.heap.push PySem.W.emptyDict).push (PySem.W.instObj C s.heap.objs.size) }:=by
 have e1:(s.heap.push PySem.W.emptyDict).get? s.heap.objs.size=some PySem.W.emptyDict:=zt s.heap rfl
 have e2:((s.heap.push PySem.W.emptyDict).push (PySem.W.instObj C s.heap.objs.size)).get? (s.heap.objs.size+1)=some (PySem.W.instObj C s.heap.objs.size):=by
  have:=zt (s.heap.push PySem.W.emptyDict) (o:=PySem.W.instObj C s.heap.objs.size) rfl
  rwa [ZZ] at this
 have e3:(s.heap.push PySem.W.emptyDict).Ns s.heap.objs.size (fun _=>none):=⟨PySem.W.emptyDict,#[],_,e1,rfl,(fun e he=>absurd he (by simp)),fun _=>rfl⟩
 have I1:=I.laid (a:=s.heap.objs.size) (o:=.own (s.heap.objs.size+1)) (h':=s.heap.push PySem.W.emptyDict) (t':=s.toks) (fun b u q=>zd _ q) (zg _) ⟨_,e1⟩
 refine I1.laid (a:=s.heap.objs.size+1) (o:=.ins C s.heap.objs.size []) (t':=s.toks) (fun b u q=>zd _ q) (Nat.le_of_eq (ZZ _ _)) ?_
 have ne:s.heap.objs.size≠s.heap.objs.size+1:=zD (ZY _)
 refine⟨by rw[aF ne,aX],qS _,ne,e2,fun _=>none,(Heap.Ns1.of_empty e3).at fun o q=>zd _ q,fun _=>True.intro,fun y hy=>absurd rfl hy⟩
end
section
variable {X:Cx} {o e value:Expr} {f:Str} {pos pos' tpos:Pos} {ta tv:TE}
end
section
variable {X:Cx} {pins:List (Addr×Obj)} {σ:St} {H:Hp} {s:Shared} {A:Around} {E:Value->Shared->Prop} {Q:Value->Shared->Prop} {c:Value} {b:Bool}
end
end L2
namespace L2
open PySem PySem.Spec PyProof.Rows
structure mQ (k:Nat) (A:Around):Prop where
 hd:A.handled=none
 dp:A.depth+3 * k+5 < recursionLimit
 un:A.units+16 * k+200 < cLine
theorem mQ.mono {j k:Nat} {A:Around} (r:mQ k A) (h:j<=k):mQ j A:=⟨r.hd,by have:=r.dp;omega,by have:=r.un;omega⟩
theorem mQ.deeper {k:Nat} {A:Around} (r:mQ (k+1) A) (env:Env):mQ k (A.deeper env):=
 ⟨r.hd,by have:=r.dp;show A.depth+1+3 * k+5 < _;omega,by have:=r.un;show A.units+3+16 * k+200 < _;omega⟩
theorem mQ.in1 {k:Nat} {A:Around} (r:mQ (k+1) A):mQ k A.in1:=
 ⟨r.hd,by have:=r.dp;show A.depth+3 * k+5 < _;omega,by have:=r.un;show A.units+1+16 * k+200 < _;omega⟩
theorem mQ.depth {k:Nat} {A:Around} (r:mQ k A):A.depth < recursionLimit:=by have:=r.dp;omega
theorem mQ.units {k:Nat} {A:Around} (r:mQ k A):A.units+64 < cLine:=by have:=r.un;omega
def Uk:TA:=fun _ H Q=>Q [] H
def CK (ta:TE) (tr:TA):TA:=fun σ H Q=>ta σ H fun x H1=>tr σ H1 fun xs H2=>Q (x::xs) H2
section
variable {X:Cx} {e:Expr} {es:List Expr} {te:TE} {t:TA} {pos:Pos}
theorem sO:PA X [] Uk:=fun _ _ _ _ H Q I h=>Calls.spliced_nil ⟨[],H,I,.nil,h⟩
theorem jC (ha:PE X e te) (hr:PA X es t) (hs:starEach (e::es) X.env=(false,eval e X.env)::starEach es X.env:=by rfl):PA X (e::es) (CK te t):=by
 intro pos pins s σ H Q I h
 rw[hs]
 show wpAny _ _ (spliced ((false,eval e X.env)::backTo pos (starEach es X.env))) _ _ s
 refine Calls.spliced_cons (mH (ha pins s σ H _ I h) fun u s1 ⟨x,H1,I1,r1,q1⟩=>?_)
 exact mH (hr pos pins s1 σ H1 _ I1 q1) fun us s2 ⟨xs,H2,I2,r2,q2⟩=>⟨x::xs,H2,I2,.cons r1 r2,q2⟩
def afu (t:TA):TE:=fun σ H Q=>t σ H fun xs H1=>xs.length<=sizeLine/\∀ p,H1 p=none->Q (.ref p) (upd H1 p (.tup xs))
def afv (t:TA):TE:=fun σ H Q=>t σ H fun xs H1=>xs.length<=sizeLine/\∀ p,H1 p=none->Q (.ref p) (upd H1 p (.lst xs))
theorem Ul {x1} (h:PA X es t):PE X (.Tuple es x1 pos) (afu t):=by
 intro pins s σ H Q I hq
 refine wpAny_Tuple_spliced (mH (h pos pins s σ H _ I hq) fun us s1 ⟨xs,H1,I1,r,z,q⟩=>⟨by rw[<-r.length];exact z,?_⟩)
 have hf:H1 s1.heap.objs.size=none:=I1.hok.fresh (zg _)
 refine⟨.ref s1.heap.objs.size,upd H1 s1.heap.objs.size (.tup xs),I1.laid (t':=s1.toks) (fun b u e=>zd _ e) (zg _) ?_,rfl,q _ hf⟩
 exact⟨z,us,r,⟨_,zt _ rfl,rfl,⟨_,rfl⟩,rfl⟩⟩
theorem aa2 (h:PA X es t):PE X (.List es pos) (afv t):=by
 intro pins s σ H Q I hq
 refine wpAny_List_spliced (mH (h pos pins s σ H _ I hq) fun us s1 ⟨xs,H1,I1,r,z,q⟩=>⟨by rw[<-r.length];exact z,?_⟩)
 have hf:H1 s1.heap.objs.size=none:=I1.hok.fresh (zg _)
 refine⟨.ref s1.heap.objs.size,upd H1 s1.heap.objs.size (.lst xs),I1.laid (t':=s1.toks) (fun b u e=>zd _ e) (zg _) ?_,rfl,q _ hf⟩
 exact⟨z,us,0,r,zt _ rfl⟩
end
abbrev Sp:=List V->Hp->VK->XK->Prop
abbrev Qi:=List Env->Hp->Shared->XK->Value->Shared->Prop
structure Nq (P:Program) (w:World) (K:PySem.W.Frag) (mg:Str->Option Value) (base:Heap) (A:Around) (outer:List Env) (s:Shared) (H:Hp):Prop where
 frames:A.frames=some outer
 mod:Mod K mg base
 bs:∀ b o,base.get? b=some o->s.heap.get? b=some o/\H b=none
 Xe:base.objs.size<=s.heap.objs.size
 Br:s.heap.FunFrames base outer
 frf:∀ b∈frs outer,H b=none
 hok:xK P w H s.heap
 bare:AllBare s.gens
def CE (outer:List Env) (P:Program) (w:World) (H:Hp) (s:Shared) (Q:VK) (u:Value) (s':Shared):Prop:=
 ∃ v H',s'.os=s.os/\AllBare s'.gens/\Un (frs outer) [] H H' s.heap s'.heap/\xK P w H' s'.heap/\RelV v u/\Q v H'
def CR (CX:Qi) (outer:List Env) (P:Program) (w:World) (H:Hp) (s:Shared) (Q:VK) (E:XK) (r:Result) (s':Shared):Prop:=
 match r with
 |.ok (.ret u)=>CE outer P w H s Q u s'
 |.ok _=>False
 |.error e=>CX outer H s E e s'
structure cU (P:Program) (w:World) (K:PySem.W.Frag) (mg:Str->Option Value) (base:Heap) (CX:Qi) (k:Nat) (f:Addr) (fd:FuncData) (ps:List Str) (sp:Sp):Prop where
 len:∀ vs H Q E,sp vs H Q E->vs.length=ps.length
 run:∀ (A:Around) (outer:List Env) (s:Shared) (H:Hp) (args:Args) (us:List Value) (vs:List V) (Q:VK) (E:XK),mQ k A->Nq P w K mg base A outer s H->BindsTo s fd args (ps.zip us)->Vals vs us->sp vs H Q E →
  codeAny (model P w) A (.call (.ref f) args) (CR CX outer P w H s Q E) s
theorem cU.mono {P:Program} {w:World} {K:PySem.W.Frag} {mg:Str->Option Value} {base:Heap} {CX:Qi} {j k:Nat} {f:Addr} {fd:FuncData} {ps:List Str} {sp:Sp} (F:cU P w K mg base CX j f fd ps sp) (h:j<=k) :
  cU P w K mg base CX k f fd ps sp:=⟨F.len,fun A outer s H args us vs Q E hr=>F.run A outer s H args us vs Q E (hr.mono h)⟩
theorem cU.imp {P:Program} {w:World} {K:PySem.W.Frag} {mg:Str->Option Value} {base:Heap} {CX:Qi} {k:Nat} {f:Addr} {fd:FuncData} {ps:List Str} {sp sp':Sp} (F:cU P w K mg base CX k f fd ps sp)
  (h:∀ vs H Q E,sp' vs H Q E->sp vs H Q E):cU P w K mg base CX k f fd ps sp':=
 ⟨fun vs H Q E q=>F.len vs H Q E (h _ _ _ _ q),fun A outer s H args us vs Q E hr he hb hv hs=>F.run A outer s H args us vs Q E hr he hb hv (h _ _ _ _ hs)⟩
theorem Nq.in1 {P:Program} {w:World} {K:PySem.W.Frag} {mg:Str->Option Value} {base:Heap} {A:Around} {outer:List Env} {s:Shared} {H:Hp} (e:Nq P w K mg base A outer s H) :
  Nq P w K mg base A.in1 outer s H:=⟨e.frames,e.mod,e.bs,e.Xe,e.Br,e.frf,e.hok,e.bare⟩
section
variable {X:Cx} {pins:List (Addr×Obj)} {σ:St} {H:Hp} {s s':Shared}
theorem Inv.env0 (I:Inv X pins σ H s):Nq X.prog X.w X.K X.mg X.base X.A X.stack s H:=
 ⟨I.ok.frames,I.ok.mod,I.bs,z4 I.ok.Xe I.sz,I.stack,I.Qe,I.hok,I.bare⟩
theorem Inv.after {Q:VK} {u:Value} (I:Inv X pins σ H s) (h:CE X.stack X.prog X.w H s Q u s'):EP X pins σ Q u s':=by
 obtain⟨v,H',os,bare,un,hok,r,q⟩:=h
 obtain⟨hh,g,d,t,os'⟩:=s'
 obtain rfl:os'=s.os:=os
 exact⟨v,H',I.call (h':=hh) (g':=g) (d':=d) (t':=t) (ch:=[]) un hok bare (fun b z=>absurd z (by simp)),r,q⟩
end
def adb (sp:Sp) (Z0:List V) (E:XK) (t:TA):TE:=fun σ H Q=>t σ H fun vs H1=>sp (vs++Z0) H1 Q E
def Binds (K:PySem.W.Frag) (fd:FuncData) (ps:List Str) (ds:List Value):Prop:=
 ∀ (s:Shared) (us:List Value),K.In s.heap->(us++ds).length=ps.length->BindsTo s fd ⟨us,[]⟩ (ps.zip (us++ds))
theorem Binds.all {K:PySem.W.Frag} {fd:FuncData} {ps:List Str} (h:∀ us:List Value,us.length=ps.length->bindArgs fd ⟨us,[]⟩=pure (ps.zip us)):Binds K fd ps []:=fun s us _ hl=>by
 rw[km] at hl ⊢
 exact .of_eq (h us hl)
def Passes (CX:Qi) (X:Cx) (E:XK):Prop:=∀ (pins:List (Addr×Obj)) (σ:St) (H:Hp) (s:Shared) (e:Value) (s':Shared),Inv X pins σ H s->CX X.stack H s E e s'->X.xe e s'
section
variable {X:Cx} {CX:Qi} {k:Nat} {f C:Addr} {fd:FuncData} {ps:List Str} {sp:Sp} {Z0:List V} {ds:List Value} {E:XK} {x m:Str} {p pos apos:Pos} {e o:Expr} {es:List Expr} {ta:TE} {t:TA}
theorem aa3 {pins:List (Addr×Obj)} {σ:St} {H:Hp} {s:Shared} {Q:VK} {us:List Value} {vs:List V} (F:cU X.prog X.w X.K X.mg X.base CX k f fd ps sp) (hr:mQ k X.A) (hb:Binds X.K fd ps ds) (hd:Vals Z0 ds) (hx:Passes CX X E)
  (I:Inv X pins σ H s) (r:Vals vs us) (h:sp (vs++Z0) H Q E):wpAny (model X.prog X.w) X.A (call (.ref f) us) (EP X pins σ Q) X.xe s:=by
 have r2:Vals (vs++Z0) (us++ds):=r.append hd
 have hl:(us++ds).length=ps.length:=by rw[<-r2.length];exact F.len _ _ _ _ h
 refine wpAny_call (codeAny_mono (F.run X.A X.stack s H ⟨us,[]⟩ (us++ds) (vs++Z0) Q E hr I.env0 (hb s us I.kIn hl) r2 h) fun r s' hq=>?_)
 cases r with
 |error e=>exact hx pins σ H s e s' I hq
 |ok fl=>
  cases fl with
  |ret u=>exact I.after hq
  |next=>exact False.elim hq
  |brk=>exact False.elim hq
  |cont=>exact False.elim hq
theorem HW (F:cU X.prog X.w X.K X.mg X.base CX k f fd ps sp) (hr:mQ k X.A) (hg:Gl X x) (hm:X.mg x=some (.ref f)) (hk:PySem.W.keepIn X.K (.ref f)=true) (hb:Binds X.K fd ps ds) (hd:Vals Z0 ds) (hx:Passes CX X E)
  (ha:PA X (e::es) t) (hdb:(x==("__debug__" : Str))=false:=by decide) (he:starEach (e::es) X.env=(false,eval e X.env)::starEach es X.env:=by rfl) (hpl:(backTo pos (starEach es X.env)).any (·.1)=false:=by rfl) :
  PE X (.Call (.Name x p) (e::es) [] pos) (adb sp Z0 E t):=by
 intro pins s σ H Q I h
 refine wpAny_Call_Name_kw (Xn I hg hm ?_ hdb)
 refine PySem.W.callWith_K (h₀:=X.base) I.ok.mod.kin hk (mH (ha pos pins s σ H _ I h) fun us s1 ⟨vs,H1,I1,r,q⟩=>⟨I1.kIn,?_⟩) he hpl
 exact aa3 F hr hb hd hx I1 r q
end
section
variable {X:Cx} {CX:Qi} {k:Nat} {f C:Addr} {fd:FuncData} {ps ks:List Str} {sp:Sp} {E:XK} {x m:Str} {p pos apos kpos:Pos} {e o:Expr} {es:List Expr} {kws:List Keyword} {te ta:TE} {t tk:TA} {nm:Option Str}
variable {g:List Value->List Value->List Value} {gV:List V->List V->List V}
end
structure cQ (N P:List Str) (sc:Scope):Prop where
 kind:sc.kind=.function
 co:sc.isCoroutine=false
 gen:sc.isGenerator=false
 nd:N.Nodup
 pre:N.take P.length=P
 par:∀ x∈P,sc.names.lookup x=some .local\/sc.names.lookup x=some .cell
 aa4:∀ y∈sc.names,y.2≠.free
theorem GK {kindOf:Str->Option NameKind} {x:Str}:∀ {binds:List (Str×Value)} {m:Str->Option Value},(∀ v,(x,v)∉binds)->bindL kindOf binds m x=m x
 |[],_,_=>rfl
 |(n,v)::r,m,h=>by
  unfold bindL
  rw[GK fun w hw=>h w (zo _ hw)]
  split
  ·have:x≠n:=by rintro rfl;exact h v zh
   simp[this]
  ·rfl
theorem GP {kindOf:Str->Option NameKind} {x:Str}:∀ {binds:List (Str×Value)} {m:Str->Option Value},(∀ v,(x,v)∉binds)->bindC kindOf binds m x=m x
 |[],_,_=>rfl
 |(n,v)::r,m,h=>by
  unfold bindC
  rw[GP fun w hw=>h w (zo _ hw)]
  split
  ·rfl
  ·have:x≠n:=by rintro rfl;exact h v zh
   simp[this]
theorem GQ {kindOf:Str->Option NameKind} {x:Str} {v:Value}:∀ {P:List Str} {vs:List Value} {i:Nat} {m:Str->Option Value},P.Nodup->P[i]?=some x->vs[i]?=some v->kindOf x=some .local →
  bindL kindOf (P.zip vs) m x=some v
 |[],_,_,_,_,h,_,_=>by simp at h
 |_::_,[],_,_,_,_,h,_=>by simp at h
 |p::P,w::vs,0,m,nd,h1,h2,hk=>by
  simp at h1 h2;subst h1;subst h2
  show bindL kindOf ((p,w)::P.zip vs) m p=_
  unfold bindL
  rw[GK fun v hv=>(List.nodup_cons.mp nd).1 (List.of_mem_zip hv).1,zk hk]
  simp
 |p::P,w::vs,i+1,m,nd,h1,h2,hk=>by
  show bindL kindOf ((p,w)::P.zip vs) m x=_
  unfold bindL
  exact GQ (i:=i) (List.nodup_cons.mp nd).2 (by simpa using h1) (by simpa using h2) hk
theorem GR {kindOf:Str->Option NameKind} {x:Str} {v:Value}:∀ {P:List Str} {vs:List Value} {i:Nat} {m:Str->Option Value},P.Nodup->P[i]?=some x->vs[i]?=some v->kindOf x≠some .local →
  bindC kindOf (P.zip vs) m x=some v
 |[],_,_,_,_,h,_,_=>by simp at h
 |_::_,[],_,_,_,_,h,_=>by simp at h
 |p::P,w::vs,0,m,nd,h1,h2,hk=>by
  simp at h1 h2;subst h1;subst h2
  show bindC kindOf ((p,w)::P.zip vs) m p=_
  unfold bindC
  rw[GP fun v hv=>(List.nodup_cons.mp nd).1 (List.of_mem_zip hv).1,zw hk]
  simp
 |p::P,w::vs,i+1,m,nd,h1,h2,hk=>by
  show bindC kindOf ((p,w)::P.zip vs) m x=_
  unfold bindC
  exact GR (i:=i) (List.nodup_cons.mp nd).2 (by simpa using h1) (by simpa using h2) hk
def start (N:List Str) (vs:List V):St:=vs.map some++List.replicate (N.length - vs.length) none
def CN (CX:Qi) (P:Program) (w:World) (K:PySem.W.Frag) (mg:Str->Option Value) (base:Heap) (N:List Str) (qual:Str) (scope:Scope) (f:Addr) (cd:Value) (A:Around) (outer:List Env) (s:Shared) (H:Hp) (E:XK):Cx where
 prog:=P
 w:=w
 K:=K
 mg:=mg
 base:=base
 A:=A.deeper (envOfC qual scope s.heap.objs.size f cd)
 N:=N
 s₀:=s
 H₀:=H
 env:=envOfC qual scope s.heap.objs.size f cd
 outer:=outer
 stack:=envOfC qual scope s.heap.objs.size f cd::outer
 ex:=[]
 calm:=true
 fn:=fun _=>true
 pn:=[]
 xe:=fun e s'=>wpAny (model P w) (A.deeper (envOfC qual scope s.heap.objs.size f cd)) (leaving (envOfC qual scope s.heap.objs.size f cd) e) (fun _ s''=>CX outer H s E e s'') (fun e' s''=>CX outer H s E e' s'') s'
theorem Kh {sc:Scope} {n:Nat} {x:Str} (h:sc.names.lookup x=some .cell):∃ c,(cellsFrom n sc.names []).lookup x=some c:=by
 have q:=PySem.W.cellsFrom_some sc.names n [] (.inl h)
 exact Option.isSome_iff_exists.mp q
theorem R3 {CX:Qi} {P:Program} {w:World} {K:PySem.W.Frag} {mg:Str->Option Value} {base:Heap} {N ps:List Str} {qual:Str} {scope:Scope} {f:Addr} {cd:Value} {A:Around} {outer:List Env} {s s1:Shared} {H:Hp} {E:XK} {us:List Value} {vs:List V}
  (S:cQ N ps scope) (hd:A.handled=none) (e0:Nq P w K mg base A outer s H) (hl:vs.length=ps.length) (r:Vals vs us)
  (x:InCallC s s.heap.objs.size (bindL (envOfC qual scope s.heap.objs.size f cd).kindOf (ps.zip us) fun _=>none) (cellsFrom (s.heap.objs.size+1) scope.names []) (bindC (envOfC qual scope s.heap.objs.size f cd).kindOf (ps.zip us) fun _=>none) s1) :
  Inv (CN CX P w K mg base N qual scope f cd A outer s H E) [] (start N vs) H s1:=by
 have hpl:ps.length<=N.length:=by have:=congrArg List.length S.pre;rw[ku] at this;omega
 obtain⟨h1,tk,rfl,hk⟩:=x.done
 have noA:∀ b:Addr,b∉(CN CX P w K mg base N qual scope f cd A outer s H E).ex:=fun b z=>absurd (show b∈([]:List Addr) from z) (by simp)
 refine⟨⟨e0.mod,S.kind,rfl,rfl,zg _,fun y z c h1 h2=>?_,fun y hy=>?_,fun y c _ h=>?_,fun _=>hd,Around.frames_deeper e0.frames,.inr ⟨rfl,rfl⟩,fun b z=>absurd z (noA b),e0.bs,e0.Xe,fun b _ _=>noA b,fun b z=>absurd z (noA b),e0.Br,e0.frf⟩,
  rfl,e0.bare,Un.kept hk,⟨_,x.toInCall.ns,fun i y v h1 h2 h3=>?_⟩,fun y c h=>⟨_,x.cell y c h⟩,e0.hok.fresh (zg _),fun y c h=>?_,fun p hp=>absurd (show p∈([]:List (Addr×Obj)) from hp) (by simp),e0.hok.kept hk,?_⟩
 ·exact name_of_addr x.apart (kb h1) (kb h2)
 ·have hy:scope.names.lookup y=some .cell\/scope.names.lookup y=some .free:=hy
  rcases hy with hy|hy
  ·exact Kh hy
  ·exact absurd rfl (S.aa4 _ (kb hy))
 ·exact Q2 (x.above y c (kb h))
 ·have hi:i < vs.length:=by
   unfold start at h2
   by_cases hi:i < vs.length
   ·exact hi
   ·rw[ZT (by simpa using hi)] at h2
    rw[qB] at h2
    split at h2<;>cases h2
  have ha:vs[i]?=some v:=by
   unfold start at h2
   rw[Zs (by simpa using hi),zS] at h2
   cases e:vs[i]? with
   |none=>rw[e] at h2;cases h2
   |some a=>rw[e] at h2;cases h2;rfl
  obtain⟨u,hu,rv⟩:=r.get ha
  have hp:ps[i]?=some y:=by
   rw[<-S.pre,List.getElem?_take_of_lt (by omega)];exact h1
  have ndP:ps.Nodup:=by rw[<-S.pre];exact S.nd.sublist (List.take_sublist _ _)
  refine⟨u,rv,?_⟩
  rcases S.par y (ZO hp) with k|k
  ·exact .inl ⟨k,GQ ndP hp hu k⟩
  ·obtain⟨c,e⟩:=Kh (n:=s.heap.objs.size+1) k
   refine .inr ⟨.inl k,c,e,?_⟩
   have q:=x.cell y c e
   rw[GR ndP hp hu (by show scope.names.lookup y≠_;rw[k];decide)] at q
   exact q
 ·exact e0.hok.fresh (Q2 (x.above y c (kb h)))
 ·unfold start
  show _=N.length
  rw[z5,zi,List.length_replicate]
  omega
theorem adf {CX:Qi} {P:Program} {w:World} {K:PySem.W.Frag} {mg:Str->Option Value} {base:Heap} {k:Nat} {f:Addr} {name qual:Str} {params:Arguments} {body:List Stmt} {scope:Scope} {dV kV doc pm cdv ct oc:Value} {an od:Option Addr}
  {osl:Array (Option Value)} {N ps:List Str} {sp:Sp} (lk:K.lookup f=some ⟨oc,od,.func (PySem.W.fnOf name qual params body scope dV kV doc pm an cdv ct),osl⟩) (hcd:PySem.W.codeIn K cdv qual=true) (S:cQ N ps scope)
  (len:∀ vs H Q E,sp vs H Q E->vs.length=ps.length)
  (hbody:∀ (A:Around) (outer:List Env) (s:Shared) (H:Hp) (vs:List V) (Q:VK) (E:XK),mQ k (A.deeper (envOfC qual scope s.heap.objs.size f cdv))->sp vs H Q E →
   ∃ t,J7 (CN CX P w K mg base N qual scope f cdv A outer s H E) body t/\t { nx:=fun _ H'=>Q .non H',rt:=Q } (start N vs) H) :
  cU P w K mg base CX (k+1) f (PySem.W.fnOf name qual params body scope dV kV doc pm an cdv ct) ps sp:=by
 refine⟨len,fun A outer s H args us vs Q E hr e0 hb r hsp=>?_⟩
 have hl:=len _ _ _ _ hsp
 have KX:K.In s.heap:=e0.mod.kin.keeps fun b o e=>(e0.bs b o e).1
 have lim:s.heap.NoLimit:=e0.mod.nolimit.keeps fun b o e=>(e0.bs b o e).1
 have hkind:∀ y∈ps.zip us,scope.names.lookup y.1=some .local\/(scope.names.lookup y.1=some .cell/\((cellsFrom (s.heap.objs.size+1) scope.names []).lookup y.1).isSome=true):=fun ⟨n,v⟩ hy=>by
  rcases S.par n (List.of_mem_zip hy).1 with q|q
  ·exact .inl q
  ·exact .inr ⟨q,PySem.W.cellsFrom_some _ _ _ (.inl q)⟩
 refine codeAny_call_function hr.depth (KX _ _ lk) rfl S.co S.gen rfl (PySem.W.codeRec_of KX hcd) (hb _ _ _ _ ?_)
 refine wpAny_newFunctionEnv_cells S.kind hkind fun env he s1 x=>?_
 subst he
 refine⟨lim.keeps x.toInCall.keep,codeAny_func ?_⟩
 obtain⟨t,ht,hq⟩:=hbody A outer s H vs Q E (hr.deeper _) hsp
 have I:Inv (CN CX P w K mg base N qual scope f cdv A outer s H E) [] (start N vs) H s1:=R3 S hr.hd e0 hl r x
 refine qr (ht [] s1 (start N vs) H _ I hq) (fun fl s' hs=>?_) fun e s' hs=>hs
 have fin:∀ {σ':St} {H':Hp} {v:V} {u:Value},Inv (CN CX P w K mg base N qual scope f cdv A outer s H E) [] σ' H' s'->RelV v u->Q v H'->CE outer P w H s Q u s':=
  fun {σ' H' v u} J rv q=>⟨v,H',J.os,J.bare,J.base,J.hok,rv,q⟩
 cases fl with
 |ret u=>
  obtain⟨v,σ',H',J,rv,q⟩:=hs
  exact fin J rv q
 |next=>
  obtain⟨σ',H',J,q⟩:=hs
  exact fin (v:=V.non) (u:=Value.none) J rfl q
 |brk=>
  obtain⟨_,_,_,q⟩:=hs
  exact False.elim q
 |cont=>
  obtain⟨_,_,_,q⟩:=hs
  exact False.elim q
end L2
namespace L2
open PySem PySem.Spec PyProof.Rows
section
variable {X:Cx} {x:Str} {p pos:Pos} {e:Expr} {es:List Expr} {t:TA} {id T:String} {r:List V->Hp->VK->Prop}
def tCB (r:List V->Hp->VK->Prop) (t:TA):TE:=fun σ H Q=>t σ H fun vs H1=>r vs H1 Q
theorem xT (hc:jk X (.builtin id) r) (hg:Gl X x) (hm:X.mg x=none) (hv:bootBuiltins x=some (.builtin id)) (ha:PA X (e::es) t) (hn:x ≠ "__name__" := by decide) (hdb:(x==("__debug__" : Str))=false:=by decide)
  (he:starEach (e::es) X.env=(false,eval e X.env)::starEach es X.env:=by rfl) (hpl:(backTo pos (starEach es X.env)).any (·.1)=false:=by rfl):PE X (.Call (.Name x p) (e::es) [] pos) (tCB r t):=by
 intro pins s σ H Q I h
 refine wpAny_Call_Name_kw (HS I hg hm hv ?_ hn hdb)
 exact PyProof.Rows.callWith_builtin1 (mH (ha pos pins s σ H _ I h) fun us s1 ⟨vs,H1,I1,r1,q1⟩=>hc pins s1 σ H1 vs us Q I1 r1 q1) he hpl
theorem GX (hc:jk X (.type T) r) (hg:Gl X x) (hm:X.mg x=none) (hv:bootBuiltins x=some (.type T)) (ha:PA X (e::es) t) (hn:x ≠ "__name__" := by decide) (hdb:(x==("__debug__" : Str))=false:=by decide)
  (he:starEach (e::es) X.env=(false,eval e X.env)::starEach es X.env:=by rfl) (hpl:(backTo pos (starEach es X.env)).any (·.1)=false:=by rfl):PE X (.Call (.Name x p) (e::es) [] pos) (tCB r t):=by
 intro pins s σ H Q I h
 refine wpAny_Call_Name_kw (HS I hg hm hv ?_ hn hdb)
 exact PyProof.Rows.callWith_type1 (mH (ha pos pins s σ H _ I h) fun us s1 ⟨vs,H1,I1,r1,q1⟩=>hc pins s1 σ H1 vs us Q I1 r1 q1) he hpl
end
end L2
namespace HT
open PySem PyProof.Rows
section
open PySem.SeqAt
open PySem.AutoSeq1 (wpAny_loadPart')
open PySem.MeetsSeq PySem.MeetsSeq2 PySem.MeetsSeq3
end
section
variable {prog:Program} {w:World} {A:Around} {E:Value->Shared->Prop} {s:Shared}
theorem Xv {t b:Addr} {vs ws:List Value} {Q:Value->Shared->Prop} (ht:IsTup s.heap t vs.toArray) (hb:IsTup s.heap b ws.toArray) (hv:vs≠[])
  (h1:ws=[]->Q (.ref t) s) (h2:ws≠[]->Q (.ref s.heap.objs.size) { s with heap:=s.heap.push { cls:=.type "tuple", data:=.seq (vs++ws).toArray } })
  (hsz:vs.length+ws.length<=sizeLine):wpAny (model prog w) A (binaryOp .Add (.ref t) (.ref b)) Q E s:=by
 obtain⟨⟨cls,dd,data,sl⟩,ho,hc,n,hd⟩:=id ht
 obtain⟨⟨cls2,dd2,data2,sl2⟩,ho2,hc2,n2,hd2⟩:=id hb
 simp only at hc hd hc2 hd2
 subst hc hd hc2 hd2
 have e:vs.toArray++ws.toArray=(vs++ws).toArray:=by simp
 by_cases hw:ws=[]
 ·exact concat_meets ⟨_,ho,rfl⟩ ⟨_,ho2,rfl⟩ noFill_tuple_add seq_tuple_add PySem.F.slot_tuple_add ya (KS _ _)
   (tuple_addW1 t b vs.toArray ws.toArray n n2 dd dd2 sl sl2 (by simpa using hv) (by simp[hw])) ⟨ho,ho2,h1 hw⟩
 ·refine concat_meets ⟨_,ho,rfl⟩ ⟨_,ho2,rfl⟩ noFill_tuple_add seq_tuple_add PySem.F.slot_tuple_add ya (KS _ _)
   (tuple_addW2 t b vs.toArray ws.toArray n n2 dd dd2 sl sl2 (by simpa using hv) (by simpa using hw) (by rw[zz,zz];exact hsz)) ⟨ho,ho2,?_⟩
  rw[e]
  exact h2 hw
def jK (n d:Nat):Option Int->Nat
 |none=>d
 |some v=>if v < 0 then (v+(n:Int)).toNat else min v.toNat n
theorem Um (n d:Nat):jK n d none=d:=rfl
theorem Xw (n d k:Nat):jK n d (some (k:Int))=min k n:=by
 show (if (k:Int) < 0 then ((k:Int)+(n:Int)).toNat else min (k:Int).toNat n)=min k n
 rw[zw (by omega),KI]
theorem aa5 (n d:Nat) (hd:d<=n) (o:Option Int):jK n d o<=n:=by
 cases o with
 |none=>exact hd
 |some v=>
  show (if v < 0 then (v+(n:Int)).toNat else min v.toNat n)<=n
  by_cases hv:v < 0
  ·rw[zk hv];omega
  ·rw[zw hv];exact Nat.min_le_right _ _
theorem Qj (v:Int) (n d:Nat):(if v < 0 then max (v+(n:Int)) 0 else min v (n:Int))=((jK n d (some v):Nat):Int):=by
 show (if v < 0 then max (v+(n:Int)) 0 else min v (n:Int))=(((if v < 0 then (v+(n:Int)).toNat else min v.toNat n):Nat):Int)
 by_cases hv:v < 0
 ·simp only[zk hv];omega
 ·simp only[zw hv];omega
theorem Nr (lo hi:Option Int) (n:Nat):Builtin.Slice.sliceAdjust lo hi 1 (n:Int)=(((jK n 0 lo:Nat):Int),((jK n n hi:Nat):Int)):=by
 have h1:¬ ((1:Int) < 0):=by omega
 unfold Builtin.Slice.sliceAdjust
 simp only[h1,ZE]
 refine Prod.ext ?_ ?_
 ·cases lo with
  |none=>rfl
  |some v=>exact Qj v n 0
 ·cases hi with
  |none=>rfl
  |some v=>exact Qj v n n
theorem Nt (i j:Nat):Builtin.Slice.slicePlaces (i:Int) (j:Int) 1=j - i:=by
 unfold Builtin.Slice.slicePlaces
 have h1:(1:Int) > 0:=by omega
 simp only[h1,qE,Int.ediv_one]
 split<;>omega
theorem CP {v:Value} {o:Option Int} {Q:Option Int->Shared->Prop} (p:IsPart v o) (h:Q o s):wpAny (model prog w) A (Builtin.Slice.slicePartIndex v) Q E s:=by
 cases p with
 |none=>exact slicePart_none h
 |int i t=>exact slicePart_int h
theorem rQ {sl:Addr} {vl vu:Value} {lo hi:Option Int} {n:Nat} {Q:Int×Int×Nat->Shared->Prop} (hs:s.heap.IsSliceOf sl vl vu .none) (pl:IsPart vl lo) (pu:IsPart vu hi)
  (h:Q (((jK n 0 lo:Nat):Int),1,jK n n hi - jK n 0 lo) s):wpAny (model prog w) A (Builtin.Slice.sliceApplied (.ref sl) (pure (n:Int))) Q E s:=by
 obtain⟨os,hos,hcs,hds⟩:=id hs
 unfold Builtin.Slice.sliceApplied Builtin.Slice.sliceFields
 refine zb (zb (wpAny_field hos hds (x:=vl) rfl (zb (wpAny_field hos hds (x:=vu) rfl (zb (wpAny_field hos hds (x:=.none) rfl (ze ?_)))))))
 refine zb (slicePart_none ?_)
 show wpAny _ _ (if ((1:Int)==0)=true then _ else _) _ _ s
 rw[zw (by decide)]
 refine zb (CP pl (zb (CP pu (zb (ze ?_)))))
 show wpAny _ _ (match Builtin.Slice.sliceAdjust lo hi 1 (n:Int) with|(lo,hi)=>pure (lo,(1:Int),Builtin.Slice.slicePlaces lo hi 1)) _ _ s
 rw[Nr lo hi n]
 show wpAny _ _ (pure (((jK n 0 lo:Nat):Int),(1:Int),Builtin.Slice.slicePlaces ((jK n 0 lo:Nat):Int) ((jK n n hi:Nat):Int) 1)) _ _ s
 rw[Nt]
 exact ze h
theorem Uo (xs:Array Value) (i k:Nat):((List.range k).filterMap fun (m:Nat)=>xs[((i:Int)+(m:Int) * 1).toNat]?).toArray=((xs.toList.drop i).take k).toArray:=by
 have e:(fun (m:Nat)=>xs[((i:Int)+(m:Int) * 1).toNat]?)=fun m=>xs[i+m]?:=by
  funext m
  have:((i:Int)+(m:Int) * 1).toNat=i+m:=by omega
  rw[this]
 rw[e]
 have:=pick_run xs i k
 rw[List.filterMap_map] at this
 have e2:((fun x=>xs[x]?) ∘ fun x=>i+x)=fun m=>xs[i+m]?:=rfl
 rw[e2] at this
 rw[this]
theorem xU {t sl:Addr} {items:Array Value} {vl vu:Value} {lo hi:Option Int} {Q:Value->Shared->Prop} (ht:IsTup s.heap t items) (hs:s.heap.IsSliceOf sl vl vu .none) (pl:IsPart vl lo) (pu:IsPart vu hi)
  (hw:¬ (jK items.size 0 lo=0/\jK items.size items.size hi=items.size))
  (h:Q (.ref s.heap.objs.size) { s with heap:=s.heap.push { cls:=.type "tuple", data:=.seq ((items.toList.drop (jK items.size 0 lo)).take (jK items.size items.size hi - jK items.size 0 lo)).toArray } })
  (hsz:items.size<=sizeLine):wpAny (model prog w) A (getItem (.ref t) (.ref sl)) Q E s:=by
 have Qk:sizeOk (.seq ((items.toList.drop (jK items.size 0 lo)).take (jK items.size items.size hi - jK items.size 0 lo)).toArray):=by
  show ((items.toList.drop (jK items.size 0 lo)).take (jK items.size items.size hi - jK items.size 0 lo)).toArray.size<=sizeLine
  rw[zz,ku,kU,ZU]
  omega
 have hj:jK items.size items.size hi<=items.size:=aa5 _ _ (zg _) hi
 obtain⟨os,hos,hcs,hds⟩:=id hs
 have hTs:s.TypeIs (.ref sl) "slice" := ⟨os,hos,hcs⟩
 unfold getItem
 try with_reducible refine Qr ?_
 first|refine zb (ze ?_)|skip
 refine zb (wpAny_sequenceKey ht.typeIs (by decide) ?_)
 refine zb (K2 (name:=Str.ofString "__getitem__") ht.typeIs PyProof.Rows.slot_tuple_getitem
  (js PyProof.Rows.slot_tuple_getitem ht.typeIs entry_tuple_getitem ?_ (args_tuple_getitem _ _)))
 show wpAny _ _ (Builtin.Tuple.tupleItemsOf (.ref t) >>= _) _ _ s
 refine zb (tupleItemsOf_ ht ?_)
 refine zb (QE hTs ?_)
 rw[zk (by decide)]
 refine zb (rQ hs pl pu ?_)
 have hno:¬ ((((jK items.size 0 lo:Nat):Int)==0&&(1:Int)==1&&(jK items.size items.size hi - jK items.size 0 lo)==items.size)=true):=by
  intro q
  rw[ZN,ZN] at q
  have q1:((jK items.size 0 lo:Nat):Int)=0:=eq_of_beq q.1.1
  have q2:jK items.size items.size hi - jK items.size 0 lo=items.size:=eq_of_beq q.2
  exact hw ⟨by omega,by omega⟩
 show wpAny _ _ (if (((jK items.size 0 lo:Nat):Int)==0&&(1:Int)==1&&(jK items.size items.size hi - jK items.size 0 lo)==items.size)=true then _ else _) _ _ s
 rw[zw hno,Uo]
 first
  |exact zb (m:=Builtin.Tuple.tupleExact _) (qi (ze ⟨_,rfl,ze h⟩) Qk)
  |exact zb (m:=Builtin.Tuple.tupleExact _) (qi (zb (ze (ze ⟨_,rfl,ze h⟩))) Qk)
  |exact zb (zb (m:=Builtin.Tuple.tupleExact _) (qi (ze (ze ⟨_,rfl,ze h⟩)) Qk))
  |exact zb (zb (m:=Builtin.Tuple.tupleExact _) (qi (ze ⟨_,rfl,ze h⟩) Qk))
end
end HT
namespace L2
open PySem PySem.Spec PyProof.Rows
abbrev TO:=St->Hp->(Option Int->Hp->Prop)->Prop
def PO (X:Cx) (e:Option Expr) (t:TO):Prop:=
 ∀ (pins:List (Addr×Obj)) (s:Shared) (σ:St) (H:Hp) (Q:Option Int->Hp->Prop),Inv X pins σ H s->t σ H Q →
  wpAny (model X.prog X.w) X.A (evalPart e X.env) (fun u s'=>∃ o H',Inv X pins σ H' s'/\IsPart u o/\Q o H') X.xe s
def Xx:TO:=fun _ H Q=>Q none H
def adg (t:TE):TO:=fun σ H Q=>t σ H fun x H1=>∃ i,x=.int i/\Q (some i) H1
section
variable {X:Cx} {e:Expr} {te:TE} {lo hi:Option Expr} {tl th:TO} {pos p2:Pos}
theorem Xy:PO X none Xx:=by
 intro pins s σ H Q I h
 rw[evalPart_none]
 exact ze ⟨none,H,I,.none,h⟩
theorem Xz (h:PE X e te):PO X (some e) (adg te):=by
 intro pins s σ H Q I hw
 rw[evalPart_some]
 refine mH (h pins s σ H _ I hw) fun u s1 ⟨x,H1,I1,r1,q1⟩=>?_
 obtain⟨i,rfl,q⟩:=q1
 obtain⟨t,rfl⟩:=r1
 exact⟨some i,H1,I1,.int i t,q⟩
def Z1 (X:Cx) (r:V->Option Int->Option Int->Hp->VK->Prop):Prop:=
 ∀ (pins:List (Addr×Obj)) (s:Shared) (σ:St) (H:Hp) (x:V) (v vl vu:Value) (lo hi:Option Int) (sl:Addr) (Q:VK),Inv X pins σ H s->RelV x v->s.heap.IsSliceOf sl vl vu .none->IsPart vl lo->IsPart vu hi->r x lo hi H Q →
  ∃ T id,typeLookup (.type T) "__getitem__" = pure (some (.builtin id))/\s.TypeIs v T/\wpAny (model X.prog X.w) X.A (getItem v (.ref sl)) (EP X pins σ Q) X.xe s
theorem Z1.or {r r':V->Option Int->Option Int->Hp->VK->Prop} (h:Z1 X r) (h':Z1 X r'):Z1 X (fun x lo hi H Q=>r x lo hi H Q\/r' x lo hi H Q):=by
 intro pins s σ H x v vl vu lo hi sl Q I rx hs pl pu q
 rcases q with q|q
 ·exact h pins s σ H x v vl vu lo hi sl Q I rx hs pl pu q
 ·exact h' pins s σ H x v vl vu lo hi sl Q I rx hs pl pu q
def tSl (r:V->Option Int->Option Int->Hp->VK->Prop) (te:TE) (tl th:TO):TE:=fun σ H Q=>te σ H fun x H1=>tl σ H1 fun l H2=>th σ H2 fun u H3=>r x l u H3 Q
theorem Uq {r:V->Option Int->Option Int->Hp->VK->Prop} (hr:Z1 X r) (he:PE X e te) (hl:PO X lo tl) (hu:PO X hi th):PE X (.Subscript e (.Slice lo hi none p2) pos) (tSl r te tl th):=by
 intro pins s σ H Q I h
 refine Subscript_ (mH (he pins s σ H _ I h) fun v s1 ⟨x,H1,I1,r1,q1⟩=>?_)
 refine wpAny_Slice (mH (hl pins s1 σ H1 _ I1 q1) fun vl s2 ⟨l,H2,I2,pl,q2⟩=>mH (hu pins s2 σ H2 _ I2 q2) fun vu s3 ⟨u,H3,I3,pu,q3⟩=>?_)
 rw[evalPart_none]
 refine ze ?_
 have I4:Inv X pins σ H3 { s3 with heap:=s3.heap.push { cls:=.type "slice", data:=.fields #[vl,vu,.none] } }:=I3.kept (t':=s3.toks) fun b ob q=>zd _ q
 obtain⟨T,id,hT,ht,hg⟩:=hr pins { s3 with heap:=s3.heap.push { cls:=.type "slice", data:=.fields #[vl,vu,.none] } } σ H3 x v vl vu l u s3.heap.objs.size Q I4 r1 (Heap.IsSliceOf.new ..) pl pu q3
 show wpAny (model X.prog X.w) X.A (subscriptTail e (.Slice lo hi none p2) v (.ref s3.heap.objs.size)) (EP X pins σ Q) X.xe { s3 with heap:=s3.heap.push { cls:=.type "slice", data:=.fields #[vl,vu,.none] } }
 exact tail_any (ops:=[.ref s3.heap.objs.size,v]) ht hT hg (by with_unfolding_all rfl)
def Kl (xs:List V) (lo hi:Option Int):List V:=(xs.drop (HT.jK xs.length 0 lo)).take (HT.jK xs.length xs.length hi - HT.jK xs.length 0 lo)
theorem Av (xs:List V) (lo hi:Option Int):(Kl xs lo hi).length<=xs.length:=by
 unfold Kl
 rw[ku,kU]
 omega
def afx (K:PySem.W.Frag):V->Option Int->Option Int->Hp->VK->Prop:=fun x lo hi H Q=>∃ a xs,x=.ref a/\xM K H a xs ∧
 ¬ (HT.jK xs.length 0 lo=0/\HT.jK xs.length xs.length hi=xs.length)/\∀ p,H p=none->Q (.ref p) (upd H p (.tup (Kl xs lo hi)))
theorem aa6:Z1 X (afx X.K):=by
 intro pins s σ H x v vl vu lo hi sl Q I rx hs pl pu h
 obtain⟨a,xs,rfl,hx,hw,q⟩:=h
 cases rx
 obtain⟨its,r,ht,hz⟩:=I.tuple hx
 have hlen:its.toArray.size=xs.length:=by rw[zz];exact r.length.symm
 refine⟨"tuple", _,PyProof.Rows.slot_tuple_getitem.lookup,ht.typeIs,?_⟩
 refine HT.xU ht hs pl pu (by rw[hlen];exact hw) ?_ (by rw[hlen];exact hz)
 rw[hlen]
 refine⟨.ref s.heap.objs.size,_,I.laid (t':=s.toks) (o:=.tup (Kl xs lo hi)) (fun b ob q=>zd _ q) (zg _) ?_,rfl,q _ (I.hok.fresh (zg _))⟩
 exact⟨z4 (Av xs lo hi) hz,_,(r.drop (HT.jK xs.length 0 lo)).take (HT.jK xs.length xs.length hi - HT.jK xs.length 0 lo),uy.new _ _⟩
def adh (K:PySem.W.Frag):R2:=fun x y H Q=>∃ a b xs ys,x=.ref a/\y=.ref b/\xM K H a xs/\xM K H b ys/\xs≠[]/\xs.length+ys.length<=sizeLine ∧
 (ys=[]->Q (.ref a) H)/\(ys≠[]->∀ p,H p=none->Q (.ref p) (upd H p (.tup (xs++ys))))
theorem Vals.Ce {xs:List V} {us:List Value} (r:Vals xs us):us=[]↔xs=[]:=by
 cases r with
 |nil=>simp
 |cons _ _=>simp
theorem XC:wO X (binaryOp .Add) (adh X.K):=by
 intro pins s σ H x y v u Q I rx ry h
 obtain⟨a,b,xs,ys,rfl,rfl,ha,hb,hx,hz,q1,q2⟩:=h
 cases rx
 cases ry
 obtain⟨its,r1,p1,_⟩:=I.tuple ha
 obtain⟨its2,r2,p2,_⟩:=I.tuple hb
 refine HT.Xv p1 p2 (fun z=>hx (r1.Ce.mp z)) (fun z=>⟨.ref a,H,I,rfl,q1 (r2.Ce.mp z)⟩) (fun z=>?_) (by rw[<-r1.length,<-r2.length];exact hz)
 refine⟨.ref s.heap.objs.size,_,I.laid (t':=s.toks) (o:=.tup (xs++ys)) (fun b ob q=>zd _ q) (zg _) ?_,rfl,q2 (fun w=>z (r2.Ce.mpr w)) _ (I.hok.fresh (zg _))⟩
 exact⟨by rw[z5];exact hz,_,r1.append r2,uy.new _ _⟩
end
end L2
namespace L2
open PySem PySem.Spec PyProof.Rows
def ixN (n:Nat) (i:Int):Option Nat:=if 0<=i then (if i < n then some i.toNat else none) else if -(n:Int)<=i then some (i+n).toNat else none
def FJ {α:Type} (xs:List α) (i:Int):Option α:=(ixN xs.length i).bind fun j=>xs[j]?
theorem XD {n:Nat} {i:Int} {j:Nat} (h:ixN n i=some j):seqIndex? i n=some j/\j < n ∧ -(n:Int)<=i/\i < n:=by
 unfold ixN at h
 by_cases h0:0<=i
 ·rw[zk h0] at h
  by_cases h1:i < n
  ·rw[zk h1] at h
   have e:i.toNat=j:=jS h
   exact⟨by rw[seqIndex_of h0 h1,e],by omega,by omega,h1⟩
  ·rw[zw h1] at h;cases h
 ·rw[zw h0] at h
  by_cases h1 : -(n:Int)<=i
  ·rw[zk h1] at h
   have e:(i+n).toNat=j:=jS h
   exact⟨by rw[seqIndex_neg (by omega) h1,e],by omega,h1,by omega⟩
  ·rw[zw h1] at h;cases h
theorem HX {α:Type} {xs:List α} {i:Int} {v:α} (h:FJ xs i=some v):∃ j,seqIndex? i xs.length=some j/\xs[j]?=some v/\j < xs.length ∧ -(xs.length:Int)<=i/\i < xs.length:=by
 unfold FJ at h
 cases e:ixN xs.length i with
 |none=>rw[e] at h;cases h
 |some j=>
  rw[e] at h
  obtain⟨h1,h2,h3,h4⟩:=XD e
  exact⟨j,h1,h,h2,h3,h4⟩
def Ql (b:Expr):Prop:=∀ o i,subscripted b false o i=operate [o,i] (getItem o i)
def XF (X:Cx) (r:R2):Prop:=
 ∀ (value slice:Expr) (pins:List (Addr×Obj)) (s:Shared) (σ:St) (H:Hp) (x y:V) (v u:Value) (Q:VK),Inv X pins σ H s->RelV x v->RelV y u->r x y H Q →
  subscripted slice false v u=operate [v,u] (getItem v u)->wpAny (model X.prog X.w) X.A (subscriptTail value slice v u) (EP X pins σ Q) X.xe s
def MtR (X:Cx) (id:String) (r:V->List V->Hp->VK->Prop):Prop:=
 ∀ (pins:List (Addr×Obj)) (s:Shared) (σ:St) (H:Hp) (x:V) (xs:List V) (v:Value) (us:List Value) (Q:VK),Inv X pins σ H s->RelV x v->Vals xs us->r x xs H Q →
  wpAny (model X.prog X.w) X.A (call (.builtin id) (v::us)) (EP X pins σ Q) X.xe s
section
variable {X:Cx} {a b:Expr} {ta tb:TE} {pos:Pos}
theorem XF.or {r r':R2} (h:XF X r) (h':XF X r'):XF X (fun x y H Q=>r x y H Q\/r' x y H Q):=by
 intro value slice pins s σ H x y v u Q I rx ry q hs
 rcases q with q|q
 ·exact h value slice pins s σ H x y v u Q I rx ry q hs
 ·exact h' value slice pins s σ H x y v u Q I rx ry q hs
theorem MtR.or {id:String} {r r':V->List V->Hp->VK->Prop} (h:MtR X id r) (h':MtR X id r'):MtR X id (fun x xs H Q=>r x xs H Q\/r' x xs H Q):=by
 intro pins s σ H x xs v us Q I rx rs q
 rcases q with q|q
 ·exact h pins s σ H x xs v us Q I rx rs q
 ·exact h' pins s σ H x xs v us Q I rx rs q
theorem Qm {r:R2} (hr:XF X r) (ha:PE X a ta) (hb:PE X b tb) (hs:Ql b):PE X (.Subscript a b pos) (ZX r ta tb):=by
 intro pins s σ H Q I h
 exact Subscript_ (aaQ ha hb I h fun v u s2 x y H2 I2 rx ry q=>hr a b pins s2 σ H2 x y v u Q I2 rx ry q (hs _ _))
def adi (K:PySem.W.Frag):R2:=fun x y H Q=>∃ p xs i v,x=.ref p/\y=.int i/\um K H p xs/\FJ xs i=some v/\Q v H
def Ur (K:PySem.W.Frag):R2:=fun x y H Q=>∃ p xs i v,x=.ref p/\y=.int i/\xM K H p xs/\FJ xs i=some v/\Q v H
def adk:R2:=fun x y H Q=>∃ z i c,x=.str z/\y=.int i/\z.length<=sizeLine/\FJ z.cps.toList i=some c/\Q (.str ⟨#[c]⟩) H
theorem XH:XF X (adi X.K):=by
 intro value slice pins s σ H x y v u Q I rx ry h hs
 obtain⟨p,xs,i,z,rfl,rfl,hq,he,q⟩:=h
 cases rx
 obtain⟨t,rfl⟩:=ry
 obtain⟨its,r,pl,hz⟩:=I.list hq
 obtain⟨j,h1,h2,h3,h4,h5⟩:=HX he
 obtain⟨w,ew,Qh⟩:=r.get h2
 have hl:=r.length
 have hn:=zK
 have fin:EP X pins σ Q w s:=⟨z,H,I,Qh,q⟩
 by_cases h0:0<=i
 ·have hj:i.toNat=j:=by
   rw[seqIndex_of h0 h5] at h1
   exact jS h1
  exact item_listR pl.isList h0 (by omega) (by rw[hj];simpa using ew) fin hs
 ·have hj:(i+(its.toArray.size:Int)).toNat=j:=by
   rw[seqIndex_neg (by omega) h4] at h1
   rw[zz,<-hl]
   exact jS h1
  exact subscriptTail_builtinR (x:=w) pl.isList.typeIs slot_list_getitem.lookup
   (wpAny_getItem_list_neg (Q:=fun r s'=>r=w/\EP X pins σ Q r s') pl.isList (by omega) (by rw[zz]<;>omega) (by omega) (by rw[hj];simpa using ew) ⟨rfl,fin⟩) hs
theorem HY:XF X (Ur X.K):=by
 intro value slice pins s σ H x y v u Q I rx ry h hs
 obtain⟨p,xs,i,z,rfl,rfl,hq,he,q⟩:=h
 cases rx
 obtain⟨t,rfl⟩:=ry
 obtain⟨its,r,pl,hz⟩:=I.tuple hq
 obtain⟨j,h1,h2,h3,h4,h5⟩:=HX he
 obtain⟨w,ew,Qh⟩:=r.get h2
 have hl:=r.length
 have hn:=zK
 have fin:EP X pins σ Q w s:=⟨z,H,I,Qh,q⟩
 exact subscriptTail_builtinR (x:=w) pl.typeIs slot_tuple_getitem.lookup
  (getItem_tuple (j:=j) (Q:=fun r s'=>r=w/\EP X pins σ Q r s') pl (by omega) (by omega) (by rw[zz,<-hl];exact h1) (by simpa using ew) ⟨rfl,fin⟩) hs
theorem aa8:XF X adk:=by
 intro value slice pins s σ H x y v u Q I rx ry h hs
 obtain⟨z,i,c,rfl,rfl,hz,he,q⟩:=h
 obtain⟨t,rfl⟩:=rx
 obtain⟨t',rfl⟩:=ry
 obtain⟨j,h1,h2,h3,h4,h5⟩:=HX he
 have hl:z.cps.toList.length=z.length:=by simp[Str.length]
 rw[hl] at h1 h4 h5
 have hn:=zK
 exact tail_any (typeIs_str s z t) slot_str_getitem.lookup (getItem_str (c:=c) (by
  have e1:decide (i < -(2 ^ 63:Int))=false:=qh (by omega)
  have e2:decide (i>=2 ^ 63)=false:=qh (by omega)
  rw[e1,e2,Bool.or_false]) (by rw[h1];simpa using h2) ⟨.str ⟨#[c]⟩,H,I.tok _,⟨_,rfl⟩,q⟩) hs
def rIx (K:PySem.W.Frag):R2:=fun x y H Q=>adi K x y H Q\/Ur K x y H Q\/adk x y H Q
theorem aa9:XF X (rIx X.K):=XH.or (HY.or aa8)
theorem Inv.lst {pins:List (Addr×Obj)} {σ:St} {H:Hp} {s:Shared} {p:Addr} {xs:List V} (I:Inv X pins σ H s) (h:H p=some (.lst xs)) :
  ∃ (its:List Value) (n:Nat),Vals xs its/\s.heap.get? p=some { cls:=.type "list", data:=.seq its.toArray n }/\xs.length<=sizeLine:=by
 obtain⟨z,its,n,r,e⟩:=I.hok p _ h
 exact⟨its,n,r,e,z⟩
theorem Ia (lo hi:Option Int) (n:Nat):(sliceBounds lo hi none n).1=((HT.jK n 0 lo:Nat):Int)/\(sliceBounds lo hi none n).2.1=((HT.jK n n hi:Nat):Int)/\(sliceBounds lo hi none n).2.2=1:=by
 refine⟨?_,?_,rfl⟩
 ·cases lo with
  |none=>simp[sliceBounds,HT.jK]
  |some i=>
   simp only[sliceBounds,HT.jK,Option.getD_none,show (1:Int) > 0 by decide,qE]
   by_cases h:i < 0
   ·simp only[h,qE]<;>omega
   ·simp only[h,ZE]<;>omega
 ·cases hi with
  |none=>simp[sliceBounds,HT.jK]
  |some i=>
   simp only[sliceBounds,HT.jK,Option.getD_none,show (1:Int) > 0 by decide,qE]
   by_cases h:i < 0
   ·simp only[h,qE]<;>omega
   ·simp only[h,ZE]<;>omega
theorem FN (its:List Value) (lo hi:Option Int):slicePick its.toArray lo hi none=((its.drop (HT.jK its.length 0 lo)).take (HT.jK its.length its.length hi - HT.jK its.length 0 lo)).toArray:=by
 obtain⟨h1,h2,h3⟩:=Ia lo hi its.toArray.size
 unfold slicePick
 rw[h1,h2,h3]
 simp only[sliceRange_one,pick_run,zz]<;>rfl
def afy (K:PySem.W.Frag):V->Option Int->Option Int->Hp->VK->Prop:=fun x lo hi H Q=>∃ a xs,x=.ref a/\um K H a xs/\∀ p,H p=none->Q (.ref p) (upd H p (.lst (Kl xs lo hi)))
theorem XJ:Z1 X (afy X.K):=by
 intro pins s σ H x v vl vu lo hi sl Q I rx hs pl pu h
 obtain⟨a,xs,rfl,hx,q⟩:=h
 cases rx
 obtain⟨its,r,ht,hz⟩:=I.list hx
 have hlen:=r.length
 refine⟨"list", _,slot_list_getitem.lookup,ht.isList.typeIs,?_⟩
 refine wpAny_getItem_list_slice ht.isList hs pl pu .none (by simp) ?_ (by rw[zz]<;>omega)
 rw[FN,<-hlen]
 refine⟨.ref s.heap.objs.size,_,I.laid (t':=s.toks) (o:=.lst (Kl xs lo hi)) (fun b ob q=>zd _ q) (zg _) ?_,rfl,q _ (I.hok.fresh (zg _))⟩
 exact⟨z4 (Av xs lo hi) hz,_,0,(r.drop (HT.jK xs.length 0 lo)).take (HT.jK xs.length xs.length hi - HT.jK xs.length 0 lo),zt _ rfl⟩
def tX:V->Bool
 |.non=>true
 |.bl _=>true
 |.int _=>true
 |.str _=>true
 |_=>false
def R4:V->V->Bool
 |.non,.non=>true
 |.bl a,.bl b=>a==b
 |.bl a,.int b=>(if a then 1 else 0)==b
 |.int a,.bl b=>a==(if b then 1 else 0)
 |.int a,.int b=>a==b
 |.str a,.str b=>a==b
 |_,_=>false
theorem abb {A:Around} {s:Shared} {y x:V} {u v:Value} (ry:RelV y u) (rx:RelV x v) (fy:tX y=true) (fx:tX x=true):SeqAt.EqAt A s u v (R4 y x):=by
 cases y with
 |non=>
  cases ry
  cases x with
  |non=>cases rx;exact SeqAt.EqAt.same _
  |bl b=>cases rx;exact SeqAt.EqAt.none_bool b
  |int b=>obtain⟨t,rfl⟩:=rx;exact SeqAt.EqAt.none_int b t
  |str b=>obtain⟨t,rfl⟩:=rx;exact SeqAt.EqAt.none_str b t
  |_=>exact absurd (show false=true from fx) Zp
 |bl a=>
  cases ry
  cases x with
  |non=>cases rx;exact SeqAt.EqAt.bool_none a
  |bl b=>cases rx;exact SeqAt.EqAt.bool_bool a b
  |int b=>obtain⟨t,rfl⟩:=rx;exact SeqAt.EqAt.bool_int a b t
  |str b=>obtain⟨t,rfl⟩:=rx;exact SeqAt.EqAt.bool_str a b t
  |_=>exact absurd (show false=true from fx) Zp
 |int a=>
  obtain⟨t',rfl⟩:=ry
  cases x with
  |non=>cases rx;exact SeqAt.EqAt.int_none a t'
  |bl b=>cases rx;exact SeqAt.EqAt.int_bool a t' b
  |int b=>obtain⟨t,rfl⟩:=rx;exact SeqAt.EqAt.int_int a t' b t
  |str b=>obtain⟨t,rfl⟩:=rx;exact SeqAt.EqAt.int_str a t' b t
  |_=>exact absurd (show false=true from fx) Zp
 |str a=>
  obtain⟨t',rfl⟩:=ry
  cases x with
  |non=>cases rx;exact SeqAt.EqAt.str_none a t'
  |bl b=>cases rx;exact SeqAt.EqAt.str_bool a t' b
  |int b=>obtain⟨t,rfl⟩:=rx;exact SeqAt.EqAt.str_int a t' b t
  |str b=>obtain⟨t,rfl⟩:=rx;exact SeqAt.EqAt.str_str a t' b t
  |_=>exact absurd (show false=true from fx) Zp
 |_=>exact absurd (show false=true from fy) Zp
def XM (x:V) (u:Value):Bool:=match u with
 |.none=>R4 .non x
 |.bool b=>R4 (.bl b) x
 |.int i _=>R4 (.int i) x
 |.str z _=>R4 (.str z) x
 |_=>false
theorem Us {x y:V} {u:Value} (r:RelV y u) (f:tX y=true):XM x u=R4 y x:=by
 cases y with
 |non=>cases r;rfl
 |bl b=>cases r;rfl
 |int i=>obtain⟨t,rfl⟩:=r;rfl
 |str z=>obtain⟨t,rfl⟩:=r;rfl
 |_=>exact absurd (show false=true from f) Zp
theorem Ib {x:V}:∀ {xs:List V} {us:List Value},Vals xs us->xs.all tX=true->us.any (XM x)=xs.any fun y=>R4 y x
 |_,_,.nil,_=>rfl
 |y::xs,u::us,.cons r t,f=>by
  rw[kq,ZN] at f
  rw[JY,JY,Us r f.1,Ib t f.2]
theorem CQ {A:Around} {s:Shared} {x:V} {v:Value} (rx:RelV x v) (fx:tX x=true):∀ {xs:List V} {us:List Value},Vals xs us->xs.all tX=true->∀ u∈us,SeqAt.EqAt A s u v (XM x u)
 |_,_,.nil,_=>fun u hu=>by cases hu
 |y::xs,u::us,.cons r t,f=>fun u' hu=>by
  rw[kq,ZN] at f
  rcases List.mem_cons.mp hu with rfl|hu
  ·rw[Us r f.1];exact abb r rx f.1 fx
  ·exact CQ rx fx t f.2 u' hu
def inV (x:V) (xs:List V):Bool:=xs.any fun y=>R4 y x
def rIn (K:PySem.W.Frag) (neg:Bool):R2:=fun x y H Q=>∃ p xs,y=.ref p/\(um K H p xs\/xM K H p xs)/\tX x=true/\xs.all tX=true/\Q (.bl (if neg then !inV x xs else inV x xs)) H
theorem R5:wO X (compareOp .In) (rIn X.K false):=by
 intro pins s σ H x y v u Q I rx ry h
 obtain⟨p,xs,rfl,hq,fx,fs,q⟩:=h
 cases ry
 rcases hq with hq|hq
 ·obtain⟨its,r,pl,hz⟩:=I.list hq
  refine SeqAt.in_listAt (XM x) pl.isList (fun w hw=>CQ rx fx r fs w (by simpa using hw)) ⟨.bl _,H,I,rfl,?_⟩
  rw[show its.toArray.any (XM x)=its.any (XM x) by simp,Ib r fs]
  exact q
 ·obtain⟨its,r,pl,hz⟩:=I.tuple hq
  refine SeqAt.in_tupleAt (XM x) pl (fun w hw=>CQ rx fx r fs w (by simpa using hw)) ⟨.bl _,H,I,rfl,?_⟩
  rw[show its.toArray.any (XM x)=its.any (XM x) by simp,Ib r fs]
  exact q
theorem Ie:jk X (.builtin "len") (fun xs H Q=>∃ p ys,xs=[.ref p]/\(um X.K H p ys\/xM X.K H p ys)/\Q (.int ys.length) H):=by
 intro pins s σ H xs us Q I r h
 obtain⟨p,ys,rfl,hq,q⟩:=h
 obtain⟨u,rfl,rx⟩:=vals1 r
 cases rx
 have hn:=zK
 rcases hq with hq|hq
 ·obtain⟨its,r',pl,hz⟩:=I.list hq
  have hlen:=r'.length
  exact Calls.call_len_list pl.isList (by simp only[zz]<;>omega) ⟨.int ys.length,H,I.tok _,⟨s.toks+1,by rw[zz,hlen]⟩,q⟩
 ·obtain⟨its,r',pl,hz⟩:=I.tuple hq
  have hlen:=r'.length
  exact len_tuple pl (by simp only[zz]<;>omega) ⟨.int ys.length,H,I.tok _,⟨s.toks+1,by rw[zz,hlen]⟩,q⟩
theorem Ig:jk X (.builtin "len") (fun xs H Q=>∃ z,xs=[.str z]/\z.length<=sizeLine/\Q (.int z.length) H):=by
 intro pins s σ H xs us Q I r h
 obtain⟨z,rfl,hz,q⟩:=h
 obtain⟨u,rfl,t,rfl⟩:=vals1 r
 have hn:=zK
 exact len_str (by omega) ⟨.int z.length,H,I.tok _,⟨_,rfl⟩,q⟩
theorem jk.or {f:Value} {r r':List V->Hp->VK->Prop} (h:jk X f r) (h':jk X f r'):jk X f (fun xs H Q=>r xs H Q\/r' xs H Q):=by
 intro pins s σ H xs us Q I rs q
 rcases q with q|q
 ·exact h pins s σ H xs us Q I rs q
 ·exact h' pins s σ H xs us Q I rs q
theorem FP:jk X (.type "tuple") (fun xs H Q=>∃ p ys,xs=[.ref p]/\((um X.K H p ys/\∀ l,H l=none->Q (.ref l) (upd H l (.tup ys)))\/(xM X.K H p ys/\Q (.ref p) H))):=by
 intro pins s σ H xs us Q I r h
 obtain⟨p,ys,rfl,h⟩:=h
 obtain⟨u,rfl,rx⟩:=vals1 r
 cases rx
 rcases h with⟨hq,q⟩|⟨hq,q⟩
 ·obtain⟨its,r',pl,hz⟩:=I.list hq
  have hlen:=r'.length
  refine call_tuple_list pl.isList (fun h' kp=>?_) (by simp only[zz]<;>omega)
  have I1:Inv X pins σ H { s with heap:=h' }:=I.kept (t':=s.toks) kp
  have I2:Inv X pins σ (upd H h'.objs.size (.tup ys)) { s with heap:=h'.push { cls:=.type "tuple", data:=.seq its.toArray } }:=
   I1.laid (t':=s.toks) (fun b o e=>zd _ e) (zg _) (show iw X.prog X.w _ _ _ (.tup ys) from⟨hz,its,r',uy.new _ _⟩)
  exact⟨.ref h'.objs.size,_,I2,rfl,q _ (I1.hok.fresh (zg _))⟩
 ·obtain⟨its,r',pl,hz⟩:=I.tuple hq
  exact call_tuple_same pl ⟨.ref p,H,I,rfl,q⟩
def tyV (K:PySem.W.Frag) (T:String) (x:V) (H:Hp):Prop:=match x with
 |.str _=>T = "str"
 |.int _=>T = "int"
 |.ref p=>(T = "list" ∧ ∃ xs,um K H p xs)\/(T = "tuple" ∧ ∃ o,K.lookup p=some o/\o.cls=.type "tuple" ∧ o.dict=none) ∨
   (T = "dict" ∧ ((∃ kvs,H p=some (.dK kvs))\/∃ kvs,H p=some (.dT kvs)))\/(T = "set" ∧ ∃ S n,H p=some (.set S n))
 |_=>False
theorem Ut {pins:List (Addr×Obj)} {σ:St} {H:Hp} {s:Shared} {T:String} {x:V} {v:Value} (I:Inv X pins σ H s) (r:RelV x v) (ty:tyV X.K T x H) :
  s.TypeIs v T/\∀ a,v=.ref a->∃ ob,s.heap.get? a=some ob/\ob.dict=none:=by
 cases x with
 |str z=>
  obtain⟨t,rfl⟩:=r
  cases (show T = "str" from ty)
  exact⟨typeIs_str s z t,fun _ e=>nomatch e⟩
 |int i=>
  obtain⟨t,rfl⟩:=r
  cases (show T = "int" from ty)
  exact⟨typeIs_int s i t,fun _ e=>nomatch e⟩
 |ref p=>
  cases r
  rcases ty with⟨rfl,xs,hq⟩|⟨rfl,o,hk,hc,hd⟩|⟨rfl,hk⟩|⟨rfl,S,n,hk⟩
  ·obtain⟨its,_,pl,_⟩:=I.list hq
   refine⟨pl.isList.typeIs,fun a e=>?_⟩
   cases e
   obtain⟨o,n,e,c,hd,_⟩:=pl
   exact⟨o,e,hd⟩
  ·refine⟨⟨o,I.kIn p o hk,hc⟩,fun a e=>?_⟩
   cases e
   exact⟨o,I.kIn _ o hk,hd⟩
  ·have z:∃ o,s.heap.get? p=some o/\o.ExactDict:=by
    rcases hk with⟨kvs,hk⟩|⟨kvs,hk⟩
    ·obtain⟨_,_,_,_,o,_,_,e,ex,_⟩:=I.hok p _ hk
     exact⟨o,e,ex⟩
    ·obtain⟨_,_,_,_,o,_,_,e,ex,_⟩:=I.hok p _ hk
     exact⟨o,e,ex⟩
   obtain⟨o,e,ex⟩:=z
   refine⟨⟨o,e,ex.1⟩,fun a e2=>?_⟩
   cases e2
   exact⟨o,e,ex.2.1⟩
  ·obtain⟨o,_,_,_,e,ex,_⟩:=I.hok p _ hk
   refine⟨⟨o,e,ex.1⟩,fun a e2=>?_⟩
   cases e2
   exact⟨o,e,ex.2.1⟩
 |_=>exact False.elim ty
def adl (K:PySem.W.Frag) (T:String) (r:V->List V->Hp->VK->Prop) (to:TE):TE:=fun σ H Q=>to σ H fun x H1=>tyV K T x H1/\r x [] H1 Q
def tBM (K:PySem.W.Frag) (T:String) (r:V->List V->Hp->VK->Prop) (to:TE) (t:TA):TE:=fun σ H Q=>to σ H fun x H1=>tyV K T x H1/\t σ H1 fun xs H2=>r x xs H2 Q
variable {o e:Expr} {es:List Expr} {to:TE} {t:TA} {name:Str} {apos cpos:Pos} {T id:String} {r:V->List V->Hp->VK->Prop}
theorem abd (pa:PlainAttrs T) (slot:Slot T name id) (hty:typeOf (.builtin id)=pure (.type "method_descriptor")) (hm:MtR X id r) (ho:PE X o to)
  (hbase:attributeBase o name X.env (eval o X.env)=eval o X.env:=by rfl) (hline:(apos.endLine==cpos.line)=true:=by rfl):PE X (.Call (.Attribute o name apos) [] [] cpos) (adl X.K T r to):=by
 intro pins s σ H Q I h
 refine wpAny_Call_method0_late hbase hline (mH (ho pins s σ H _ I h) fun v s1 ⟨x,H1,I1,r1,ty,q1⟩=>?_)
 obtain⟨h1,h2⟩:=Ut I1 r1 ty
 exact⟨T,id,pa,slot,hty,h1,h2,Calls.callWith_builtin rfl (PySem.evalArgs_none (hm pins s1 σ H1 x [] v [] Q I1 r1 .nil q1))⟩
theorem Qn (pa:PlainAttrs T) (slot:Slot T name id) (hty:typeOf (.builtin id)=pure (.type "method_descriptor")) (hm:MtR X id r) (ho:PE X o to) (ha:PA X (e::es) t)
  (hbase:attributeBase o name X.env (eval o X.env)=eval o X.env:=by rfl)
  (hfew:((backTo cpos (starEach (e::es) X.env)).all (fun x=>!x.1)&&(backToKw cpos (keywordEach [] X.env)).all (fun x=>x.1.isSome)
   && decide ((e::es).length+([]:List Keyword).length+(if ([]:List Keyword).isEmpty then 0 else 1) < 30))=true:=by rfl)
  (hline:(apos.endLine==cpos.line)=true:=by rfl) (hs:starEach (e::es) X.env=(false,eval e X.env)::starEach es X.env:=by rfl) (hplain:(backTo cpos (starEach es X.env)).any (·.1)=false:=by rfl) :
  PE X (.Call (.Attribute o name apos) (e::es) [] cpos) (tBM X.K T r to t):=by
 intro pins s σ H Q I h
 refine wpAny_Call_method_late hbase hfew hline rfl (mH (ho pins s σ H _ I h) fun v s1 ⟨x,H1,I1,r1,ty,q1⟩=>?_)
 obtain⟨h1,h2⟩:=Ut I1 r1 ty
 refine⟨T,id,pa,slot,hty,h1,h2,?_⟩
 have hA:=ha cpos pins s1 σ H1 _ I1 q1
 rw[hs] at hA ⊢
 refine Calls.callWith_builtin (by show (false||(backTo cpos (starEach es X.env)).any (·.1))=false;rw[hplain]<;>rfl) (Calls.evalArgs_plain ?_)
 exact mH hA fun us s2 ⟨vs,H2,I2,r2,q2⟩=>hm pins s2 σ H2 x vs v us Q I2 r1 r2 q2
end
end L2
namespace L2
open PySem PySem.Spec PyProof.Rows
def MtM (X:Cx) (id:String) (r:V->List V->Hp->VK->Prop):Prop:=
 ∀ (pins:List (Addr×Obj)) (s:Shared) (σ:St) (H:Hp) (x:V) (xs:List V) (v:Value) (us:List Value) (Q:VK),Inv X pins σ H s->RelV x v->Vals xs us->r x xs H Q →
  wpAny (model X.prog X.w) X.A (call (.builtin id) (v::us)) (EP X pins σ Q) X.xe s
theorem Vals.one:∀ {x:V} {us:List Value},Vals [x] us->∃ u,us=[u]/\RelV x u
 |_,_,.cons r .nil=>⟨_,rfl,r⟩
theorem Vals.two:∀ {x y:V} {us:List Value},Vals [x,y] us->∃ u v,us=[u,v]/\RelV x u/\RelV y v
 |_,_,_,.cons r (.cons q .nil)=>⟨_,_,rfl,r,q⟩
theorem Vals.zero:∀ {us:List Value},Vals [] us->us=[]
 |_,.nil=>rfl
theorem Vals.eraseIdx:∀ {xs:List V} {us:List Value} (i:Nat),Vals xs us->Vals (xs.eraseIdx i) (us.eraseIdx i)
 |_,_,_,.nil=>.nil
 |_,_,0,.cons _ t=>t
 |_,_,i+1,.cons r t=>.cons r (Vals.eraseIdx i t)
theorem Vals.reverse {xs:List V} {us:List Value} (h:Vals xs us):Vals xs.reverse us.reverse:=by
 induction h with
 |nil=>exact .nil
 |cons r t ih=>rw[List.reverse_cons,List.reverse_cons];exact Vals.append ih (.cons r .nil)
section
variable {X:Cx} {pins:List (Addr×Obj)} {σ:St} {H:Hp} {s:Shared} {l b:Addr} {xs ys zs:List V}
theorem Inv.XQ {its its':List Value} {n:Nat} {f:Array Value->Array Value} {t':Nat} (I:Inv X pins σ H s) (hH:H l=some (.lst xs))
  (e:s.heap.get? l=some { cls:=.type "list", data:=.seq its.toArray n }) (hf:f its.toArray=its'.toArray) (hv:Vals ys its') (hz:ys.length<=sizeLine) :
  Inv X pins σ (upd H l (.lst ys)) { s with heap:=s.heap.update l (Obj.mapSeq f),toks:=t' }:=by
 have q:=PySem.IsL.update e f
 rw[hf] at q
 refine I.write (x:=l) (e:=l) (by rw[hH];exact trivial) (.inl rfl) (fun b' u hb hu=>(Heap.get?_update_other s.heap (Obj.mapSeq f) (Kb hb)).trans hu) ⟨_,q⟩ ?_
 exact⟨hz,its',_,hv,q⟩
theorem Inv.fresh (I:Inv X pins σ H s):H s.heap.objs.size=none:=I.hok.fresh (zg _)
theorem Inv.adn (I:Inv X pins σ H s) (hH:H l=some (.lst xs)):xs.length<=sizeLine/\∃ (its:List Value) (n:Nat),Vals xs its/\xs.length=its.length/\s.heap.get? l=some { cls:=.type "list", data:=.seq its.toArray n }:=by
 obtain⟨z,its,n,r,e⟩:=I.hok l _ hH
 exact⟨z,its,n,r,r.length,e⟩
end
section
variable {X:Cx}
def Ih:V->List V->Hp->VK->Prop:=fun x vs H Q=>∃ l xs y,x=.ref l/\vs=[y]/\H l=some (.lst xs)/\xs.length < sizeLine/\Q .non (upd H l (.lst (xs++[y])))
theorem vJ:MtM X "list.append" Ih:=by
 intro pins s σ H x vs v us Q I rx rv h
 obtain⟨l,xs,y,rfl,rfl,hH,hz,q⟩:=h
 cases rx
 obtain⟨u,rfl,ru⟩:=rv.one
 obtain⟨z,its,n,r,hl,e⟩:=I.adn hH
 refine call_meets F.slot_list_append ⟨_,e,rfl⟩ F.entry_list_append (F.args_list_append_2 _ _) (PySem.list_append l its.toArray n u (by rw[zz];omega)) ⟨e,?_⟩
 refine⟨.non,_,I.XQ (its':=its++[u]) hH e (by simp) (r.append (.cons ru .nil)) ?_,rfl,q⟩
 rw[z5,List.length_singleton]
 omega
def Km:V->List V->Hp->VK->Prop:=fun x vs H Q=>∃ l xs,x=.ref l/\vs=[]/\H l=some (.lst xs)/\Q .non (upd H l (.lst xs.reverse))
theorem Nu:MtM X "list.reverse" Km:=by
 intro pins s σ H x vs v us Q I rx rv h
 obtain⟨l,xs,rfl,rfl,hH,q⟩:=h
 cases rx
 have hus:=rv.zero
 subst hus
 obtain⟨z,its,n,r,hl,e⟩:=I.adn hH
 refine call_meets F.slot_list_reverse ⟨_,e,rfl⟩ F.entry_list_reverse (F.args_list_reverse_1 _) (AutoSeq1.list_reverse_list_0 l its.toArray n (by rw[zz];omega)) ⟨e,?_⟩
 refine⟨.non,_,I.XQ (its':=its.reverse) hH e (by simp) r.reverse ?_,rfl,q⟩
 rw[List.length_reverse]
 omega
end
section
variable {prog:Program} {w:World} {A:Around} {E:Value->Shared->Prop} {s:Shared}
end
section
variable {X:Cx}
end
end L2
namespace L2
open PySem PySem.Spec PyProof.Rows
section
variable {κ:Type} [DecidableEq κ]
def zL (kvs:List (κ×V)) (k:κ):Option V:=(kvs.find? fun kv=>decide (kv.1=k)).map (·.2)
def putK (kvs:List (κ×V)) (k:κ) (v:V):List (κ×V):=
 if (kvs.any fun kv=>decide (kv.1=k))=true then kvs.map (fun kv=>if kv.1=k then (kv.1,v) else kv) else kvs++[(k,v)]
def Z2 (kvs:List (κ×V)) (k:κ):List (κ×V):=kvs.filter fun kv=>decide (kv.1≠k)
theorem xV {p:κ×V} {r:List (κ×V)} {k:κ} (e:p.1=k):zL (p::r) k=some p.2:=by simp[zL,Jn,e]
theorem xW {p:κ×V} {r:List (κ×V)} {k:κ} (e:¬ p.1=k):zL (p::r) k=zL r k:=by simp[zL,Jn,e]
theorem Ko (k:κ):∀ kvs:List (κ×V),(kvs.any fun kv=>decide (kv.1=k))=(zL kvs k).isSome
 |[]=>rfl
 |p::r=>by
  rw[JY]
  by_cases e:p.1=k
  ·simp only[xV e,QU e,Bool.true_or,Option.isSome_some]
  ·rw[xW e,qh e,Bool.false_or];exact Ko k r
theorem qO (kvs:List (κ×V)) (k:κ) (v:V):(putK kvs k v).length<=kvs.length+1:=by
 unfold putK
 split
 ·rw[zi];omega
 ·rw[z5,qv,List.length_nil];omega
theorem zH.R6 {o:Option V} {u:Option Value} (r:zH o u):o.isSome=u.isSome:=by
 cases o with
 |none=>cases u with
  |none=>rfl
  |some _=>exact (show False from r).elim
 |some _=>cases u with
  |none=>exact (show False from r).elim
  |some _=>rfl
theorem zH.getD {o:Option V} {u:Option Value} {d:V} {d':Value} (r:zH o u) (rd:RelV d d'):RelV (o.getD d) (u.getD d'):=by
 cases o with
 |none=>cases u with
  |none=>exact rd
  |some _=>exact (show False from r).elim
 |some _=>cases u with
  |none=>exact (show False from r).elim
  |some _=>exact r
theorem KV.val {kvs:List (κ×V)} {vs:List (κ×Value)} (r:KV kvs vs) (k:κ):zH (zL kvs k) (valueAt vs k):=by
 unfold KV at r
 induction r with
 |nil=>exact True.intro
 |@cons p q ps qs h t ih=>
  obtain⟨h1,h2⟩:=h
  by_cases e:p.1=k
  ·have e':q.1=k:=h1.symm.trans e
   have b:valueAt (q::qs) k=some q.2:=by simp[valueAt,Jn,e']
   rw[xV e,b];exact h2
  ·have e':¬ q.1=k:=fun z=>e (h1.trans z)
   have b:valueAt (q::qs) k=valueAt qs k:=by simp[valueAt,Jn,e']
   rw[xW e,b];exact ih
theorem KV.any {kvs:List (κ×V)} {vs:List (κ×Value)} (r:KV kvs vs) (k:κ):(kvs.any fun kv=>decide (kv.1=k))=vs.any fun kv=>decide (kv.1=k):=by
 unfold KV at r
 induction r with
 |nil=>rfl
 |cons h t ih=>rw[JY,JY,ih,h.1]
theorem KV.repl {kvs:List (κ×V)} {vs:List (κ×Value)} (r:KV kvs vs) (k:κ) {y:V} {u:Value} (ry:RelV y u) :
  KV (kvs.map fun kv=>if kv.1=k then (kv.1,y) else kv) (vs.map fun kv=>if kv.1=k then (kv.1,u) else kv):=by
 unfold KV at r ⊢
 induction r with
 |nil=>exact .nil
 |@cons p q ps qs h t ih=>
  rw[zr,zr]
  refine .cons ?_ ih
  obtain⟨h1,h2⟩:=h
  by_cases e:p.1=k
  ·rw[zk e,zk (h1.symm.trans e)];exact⟨h1,ry⟩
  ·rw[zw e,zw (fun z=>e (h1.trans z))];exact⟨h1,h2⟩
theorem KV.put {kvs:List (κ×V)} {vs:List (κ×Value)} (r:KV kvs vs) (k:κ) {y:V} {u:Value} (ry:RelV y u):KV (putK kvs k y) (stored vs k u):=by
 unfold putK stored
 rw[r.any k]
 by_cases e:(vs.any fun kv=>decide (kv.1=k))=true
 ·rw[zk e,zk e];exact r.repl k ry
 ·rw[zw e,zw e];exact Paired.snoc r ⟨rfl,ry⟩
theorem KV.drop {kvs:List (κ×V)} {vs:List (κ×Value)} (r:KV kvs vs) (k:κ):KV (Z2 kvs k) (without vs k):=by
 unfold KV at r ⊢
 unfold Z2 without
 induction r with
 |nil=>exact .nil
 |@cons p q ps qs h t ih=>
  obtain⟨h1,h2⟩:=h
  rw[KW,KW]
  by_cases e:p.1=k
  ·have a:¬ decide (p.1≠k)=true:=by simp[e]
   have b:¬ decide (q.1≠k)=true:=by simp[h1.symm.trans e]
   rw[zw a,zw b];exact ih
  ·have e':¬ q.1=k:=fun z=>e (h1.trans z)
   have a:decide (p.1≠k)=true:=by simp[e]
   have b:decide (q.1≠k)=true:=by simp[e']
   rw[zk a,zk b];exact .cons ⟨h1,h2⟩ ih
theorem KV.keys {kvs:List (κ×V)} {vs:List (κ×Value)} (r:KV kvs vs):kvs.map (·.1)=vs.map (·.1):=by
 unfold KV at r
 induction r with
 |nil=>rfl
 |cons h t ih=>rw[zr,zr,ih,h.1]
theorem KV.length {kvs:List (κ×V)} {vs:List (κ×Value)} (r:KV kvs vs):kvs.length=vs.length:=Paired.length r
end
theorem Kq {P:Program} {w:World} {k:Key} {u:Value} (r:RelV (kV k) u):(bw P w).is k u=true:=by
 cases k with
 |inl i=>obtain⟨t,e⟩:=(show ∃ t,u=Value.int i t from r);subst e;exact Kd P w i t
 |inr x=>obtain⟨t,e⟩:=(show ∃ t,u=Value.str x t from r);subst e;exact Ke P w x t
theorem GZ {P:Program} {w:World}:∀ {ks:List Key} {us:List Value},Vals (ks.map kV) us->ItemsAre (bw P w) ks us
 |[],_,r=>by rw[kc] at r;cases r;exact .nil
 |k::ks,_,r=>by
  rw[zr] at r
  cases r with
  |cons h t=>exact .cons (Kq h) (GZ t)
abbrev KT (H:Hp):List (List Key×V)->List (List Key×Addr×Value)->Prop:=Paired fun p q=>p.1=q.1/\H q.2.1=some (.tup (p.1.map kV))/\RelV p.2 q.2.2
theorem KT.val {H:Hp} {kvs:List (List Key×V)} {xs:List (List Key×Addr×Value)} (r:KT H kvs xs) (k:List Key):zH (zL kvs k) ((atKey xs k).map (·.2)):=by
 induction r with
 |nil=>exact True.intro
 |@cons p q ps qs h t ih=>
  obtain⟨h1,_,h2⟩:=h
  by_cases e:p.1=k
  ·have e':q.1=k:=h1.symm.trans e
   have b:atKey (q::qs) k=some q.2:=by simp[atKey,Jn,e']
   rw[xV e,b];exact h2
  ·have e':¬ q.1=k:=fun z=>e (h1.trans z)
   have b:atKey (q::qs) k=atKey qs k:=by simp[atKey,Jn,e']
   rw[xW e,b];exact ih
theorem KT.repl {H:Hp} {kvs:List (List Key×V)} {xs:List (List Key×Addr×Value)} (r:KT H kvs xs) (k:List Key) {y:V} {u:Value} (ry:RelV y u) :
  KT H (kvs.map fun kv=>if kv.1=k then (kv.1,y) else kv) (xs.map (putAt k u)):=by
 induction r with
 |nil=>exact .nil
 |@cons p q ps qs h t ih=>
  rw[zr,zr]
  refine .cons ?_ ih
  obtain⟨h1,h2,h3⟩:=h
  unfold putAt
  by_cases e:p.1=k
  ·rw[zk e,zk (h1.symm.trans e)];exact⟨h1,h2,ry⟩
  ·rw[zw e,zw (fun z=>e (h1.trans z))];exact⟨h1,h2,h3⟩
theorem KT.put {H:Hp} {kvs:List (List Key×V)} {xs:List (List Key×Addr×Value)} (r:KT H kvs xs) (k:List Key) {b:Addr} {y:V} {u:Value} (hb:H b=some (.tup (k.map kV))) (ry:RelV y u) :
  KT H (putK kvs k y) (storedH xs k b u):=by
 have e:(kvs.any fun kv=>decide (kv.1=k))=(atKey xs k).isSome:=by
  rw[Ko,(r.val k).R6,Option.isSome_map]
 unfold putK storedH
 rw[e]
 by_cases q:(atKey xs k).isSome=true
 ·rw[zk q,zk q];exact r.repl k ry
 ·rw[zw q,zw q];exact Paired.snoc r ⟨rfl,hb,ry⟩
theorem KT.keeps {H H':Hp} {kvs:List (List Key×V)} {xs:List (List Key×Addr×Value)} (r:KT H kvs xs) (ht:∀ b ys,H b=some (.tup ys)->H' b=some (.tup ys)):KT H' kvs xs:=
 Paired.Xj r fun _ _ z=>⟨z.1,ht _ _ z.2.1,z.2.2⟩
section
variable {P:Program} {w:World} {H:Hp} {h:Heap} {a:Addr}
theorem Z4 {u:HO} (ok:xK P w H h) (e:Rd H a u):iw P w H h a u:=e.ok ok
theorem Kr {kvs:List (Key×V)} (ok:xK P w H h) (e:Rd H a (.dK kvs)):kvs.length<=sizeLine/\(a==sysModules)=false/\∃ vs,KV kvs vs/\h.DictOf (bw P w) a vs:=
 show iw P w H h a (.dK kvs) from Z4 ok e
theorem Z5 {kvs:List (Key×V)} (ok:xK P w H h) (e:H a=some (.dK kvs)):kvs.length<=sizeLine/\(a==sysModules)=false/\∃ vs,KV kvs vs/\h.DictOf (bw P w) a vs:=Kr ok (.inl e)
theorem Nv {ks:List Key} (ok:xK P w H h) (e:H a=some (.tup (ks.map kV))):(tupleKind (bw P w)).is h ks a:=by
 obtain⟨_,its,r,o,h1,h2,⟨n,h3⟩,_⟩:=(show iw P w H h a (.tup (ks.map kV)) from ok a _ e)
 exact⟨o,its.toArray,n,h1,h2,h3,by simpa using GZ r⟩
theorem Uu {kvs:List (List Key×V)} (ok:xK P w H h) (e:Rd H a (.dT kvs)):kvs.length<=sizeLine/\(a==sysModules)=false ∧
  ∃ xs,KT H kvs xs/\h.DictOfH (tupleKind (bw P w)) a xs:=by
 obtain⟨z,y,xs,r,o,es,ep,h1,h2,h3,h4,h5⟩:=(show iw P w H h a (.dT kvs) from Z4 ok e)
 refine⟨z,y,xs,r,o,es,ep,h1,h2,h3,h4,fun x hx=>?_,h5⟩
 have all:∀ {l:List (List Key×V)} {m:List (List Key×Addr×Value)},KT H l m->∀ x∈m,(tupleKind (bw P w)).is h x.1 x.2.1:=by
  intro l m q
  induction q with
  |nil=>intro x hx;exact nomatch hx
  |@cons p q ps qs hq t ih=>
   intro x hx
   rcases List.mem_cons.mp hx with e|hx
   ·subst e
    exact Nv ok (by rw[<-hq.1];exact hq.2.1)
   ·exact ih x hx
 exact all r x hx
theorem ado {kvs:List (List Key×V)} (ok:xK P w H h) (e:H a=some (.dT kvs)):kvs.length<=sizeLine/\(a==sysModules)=false ∧
  ∃ xs,KT H kvs xs/\h.DictOfH (tupleKind (bw P w)) a xs:=Uu ok (.inl e)
end
def Nx (H:Hp) (a:Addr) (y:V) (r:Option V):Prop:=
 (∃ kvs k,Rd H a (.dK kvs)/\y=kV k/\r=zL kvs k)\/∃ kvs k b,Rd H a (.dT kvs)/\y=.ref b/\H b=some (.tup (k.map kV))/\r=zL kvs k
def Ny (H:Hp) (a:Addr) (y v:V) (H':Hp):Prop:=
 (∃ kvs k,H a=some (.dK kvs)/\y=kV k/\kvs.length < sizeLine/\H'=upd H a (.dK (putK kvs k v))) ∨
 ∃ kvs k b,H a=some (.dT kvs)/\y=.ref b/\H b=some (.tup (k.map kV))/\kvs.length < sizeLine/\H'=upd H a (.dT (putK kvs k v))
theorem Nx.k {H:Hp} {a:Addr} {kvs:List (Key×V)} {k:Key} (e:H a=some (.dK kvs)):Nx H a (kV k) (zL kvs k):=.inl ⟨kvs,k,.inl e,rfl,rfl⟩
theorem Nx.t {H:Hp} {a b:Addr} {kvs:List (List Key×V)} {k:List Key} (e:H a=some (.dT kvs)) (eb:H b=some (.tup (k.map kV))):Nx H a (.ref b) (zL kvs k):=.inr ⟨kvs,k,b,.inl e,rfl,eb,rfl⟩
theorem Ny.k {H:Hp} {a:Addr} {kvs:List (Key×V)} {k:Key} {v:V} (e:H a=some (.dK kvs)) (hl:kvs.length < sizeLine):Ny H a (kV k) v (upd H a (.dK (putK kvs k v))):=.inl ⟨kvs,k,e,rfl,hl,rfl⟩
theorem Ny.t {H:Hp} {a b:Addr} {kvs:List (List Key×V)} {k:List Key} {v:V} (e:H a=some (.dT kvs)) (eb:H b=some (.tup (k.map kV))) (hl:kvs.length < sizeLine) :
  Ny H a (.ref b) v (upd H a (.dT (putK kvs k v))):=.inr ⟨kvs,k,b,e,rfl,eb,hl,rfl⟩
section
variable {X:Cx} {pins:List (Addr×Obj)} {σ:St} {H:Hp} {s:Shared} {a:Addr} {y v:V} {u r:Value} {o:Option V} {A:Around} {E:Value->Shared->Prop}
theorem Inv.big (I:Inv X pins σ H s):sysModules < s.heap.objs.size:=by
 have h:mainGlobals < s.heap.objs.size:=(I.mod.glob.keeps I.bk).lt
 exact Nat.lt_trans (by decide) h
theorem R7 {Q:Value->Shared->Prop} (hu:A.units+1 < cLine) (I:Inv X pins σ H s) (g:Nx H a y (some v)) (ry:RelV y u) (h:∀ w' s',Inv X pins σ H s'->RelV v w'->Q w' s') :
  wpAny (model X.prog X.w) A (getItem (.ref a) u) Q E s:=by
 rcases g with⟨kvs,k,e,ey,l⟩|⟨kvs,k,b,e,ey,eb,l⟩
 ·subst ey
  obtain⟨z,hd,vs,rel,dd⟩:=Kr I.hok e
  obtain⟨w',hw,Qh⟩:=zH.some_of (v:=v) (o:=valueAt vs k) (by rw[l];exact rel.val k)
  exact wpAny_getItem_of (Kq ry) dd.mapOf hw (h w' _ (I.tok _) Qh)
 ·subst ey
  cases (show u=Value.ref b from ry)
  obtain⟨z,hd,xs,rel,dd⟩:=Uu I.hok e
  obtain⟨w',hw,Qh⟩:=zH.some_of (v:=v) (o:=(atKey xs k).map (·.2)) (by rw[l];exact rel.val k)
  obtain⟨p,hp,hp2⟩:=Option.map_eq_some_iff.mp hw
  refine wpAny_getItem_heap (tupleKind_room_in1 hu) (Nv I.hok eb) dd hp ?_
  rw[hp2]
  exact h w' _ (I.tok _) Qh
theorem Ii {h':Heap} {t':Nat} {ob:HO} (I:Inv X pins σ H s) (mu:Mut (H a)) (hs:Heap.SameBut a s.heap h') (he:∃ q,h'.get? a=some q) (new:iw X.prog X.w (upd H a ob) h' a ob) :
  Inv X pins σ (upd H a ob) { s with heap:=h',toks:=t' }:=
 I.write (x:=a) (e:=a) mu (.inl rfl) (fun b q hb z=>(hs.2 b hb).trans z) he new
theorem Uv {P:Program} {w:World} {H':Hp} {h':Heap} {kvs:List (Key×V)} {vs:List (Key×Value)} (z:kvs.length<=sizeLine) (hd:(a==sysModules)=false) (rel:KV kvs vs) (dd:h'.DictOf (bw P w) a vs) :
  iw P w H' h' a (.dK kvs):=⟨z,hd,vs,rel,dd⟩
theorem R8 {H':Hp} {Q:Unit->Shared->Prop} (hu:A.units+1 < cLine) (I:Inv X pins σ H s) (g:Ny H a y v H') (ry:RelV y u) (rv:RelV v r) (h:∀ s',Inv X pins σ H' s'->Q () s') :
  wpAny (model X.prog X.w) A (setItem (.ref a) u r) Q E s:=by
 rcases g with⟨kvs,k,e,ey,l,eH⟩|⟨kvs,k,b,e,ey,eb,l,eH⟩
 ·subst ey eH
  obtain⟨z,hd,vs,rel,dd⟩:=Z5 I.hok e
  have hz:vs.length<=sizeLine:=by rw[<-rel.length];exact z
  have hl:(putK kvs k v).length<=sizeLine:=by have:=qO kvs k v;omega
  refine wpAny_setItem_pairs (hsz:=hz) (Kq ry) dd fun h' dd' hs=>h _ ?_
  have he:∃ q,h'.get? a=some q:=let ⟨q,_,_,hq,_⟩:=dd';⟨q,hq⟩
  exact Ii I (by rw[e];exact True.intro) hs he (Uv hl hd (rel.put k rv) dd')
 ·subst ey eH
  cases (show u=Value.ref b from ry)
  obtain⟨z,hd,xs,rel,dd⟩:=ado I.hok e
  have hz:xs.length<=sizeLine:=by rw[<-Paired.length rel];exact z
  have hl:(putK kvs k v).length<=sizeLine:=by have:=qO kvs k v;omega
  refine wpAny_setItem_heap (hsz:=hz) (tupleKind_room_in1 hu) (Nv I.hok eb) dd fun h' dd' hs=>h _ ?_
  obtain⟨q,es,ep,hq,h2,h3,h4,_,h5⟩:=dd'
  refine Ii I (by rw[e];exact True.intro) hs ⟨q,hq⟩ ⟨hl,hd,_,(rel.put k eb rv).keeps fun c ys ec=>?_,q,es,ep,hq,h2,h3,h4,h5⟩
  rw[aF (o7 ec e (fun z=>nomatch z))]
  exact ec
end
section
variable {X:Cx} {pins:List (Addr×Obj)} {σ:St} {H:Hp} {s:Shared} {a:Addr} {kvs:List (Key×V)} {k:Key} {u:Value} {A:Around} {E:Value->Shared->Prop}
end
def abf (i:Expr):Prop:=∀ ov iv,subscripted i false ov iv=operate [ov,iv] (getItem ov iv)
theorem XR {prog:Program} {w:World} {A:Around} {E:Value->Shared->Prop} {s:Shared} {env:Env} {value slice:Expr} {pos:Pos} {T id:String} {Q:Value->Shared->Prop}
  (hl:typeLookup (.type T) "__getitem__" = pure (some (.builtin id))) (hs:abf slice)
  (h:wpAny (model prog w) A (eval value env) (fun o s₁=>wpAny (model prog w) A (eval slice env) (fun i s₂=>s₂.TypeIs o T/\wpAny (model prog w) A (getItem o i) Q E s₂) E s₁) E s) :
  wpAny (model prog w) A (eval (.Subscript value slice pos) env) Q E s:=by
 refine Subscript_ (qr h (fun o s₁ h₁=>qr h₁ (fun i s₂ h₂=>?_) fun _ _ x=>x) fun _ _ x=>x)
 obtain⟨hT,h₂⟩:=h₂
 unfold subscriptTail
 refine zb ?_
 rw[getitemInPython_of_ne hT.not_modules]
 refine zb (wpAny_specialOf hT hl ?_)
 have fin:wpAny (model prog w) A (subscripted slice false o i) (fun r s₃=>wpAny (model prog w) A (letTemporaryGo value o r >>= fun _=>pure r) Q E s₃) E s₂:=by
  rw[hs o i]
  exact wpAny_operating (qr h₂ (fun r s₃ h₃=>zb (wpAny_letTemporaryGo (ze h₃))) fun _ _ x=>x)
 first
  |exact ze (zb fin)
  |exact zb (ze (zb fin))
  |exact zb fin
theorem Ku {X:Cx} {pins:List (Addr×Obj)} {σ:St} {H:Hp} {s:Shared} {a:Addr} {y:V} {o:Option V} (I:Inv X pins σ H s) (g:Nx H a y o):s.TypeIs (.ref a) "dict" := by
 rcases g with⟨kvs,k,e,_,_⟩|⟨kvs,k,b,e,_,_,_⟩
 ·obtain⟨_,_,vs,_,dd⟩:=Kr I.hok e
  exact dd.typeIs
 ·obtain⟨_,_,xs,_,dd⟩:=Uu I.hok e
  exact dd.typeIs
def adp (td ty:TE):TE:=fun σ H Q=>td σ H fun x H1=>ty σ H1 fun y H2=>∃ a v,x=.ref a/\Nx H2 a y (some v)/\Q v H2
def adq (td ty tv:TE):TS:=fun D σ H=>tv σ H fun v H1=>td σ H1 fun x H2=>ty σ H2 fun y H3=>∃ a H4,x=.ref a/\Ny H3 a y v H4/\D.nx σ H4
section
variable {X:Cx} {o i e value:Expr} {pos pos' tpos:Pos} {td ty tv:TE}
theorem XS (hu:X.A.units+1 < cLine) (ho:PE X o td) (hi:PE X i ty) (hs:abf i):PE X (.Subscript o i pos) (adp td ty):=by
 intro pins s σ H Q I h
 refine XR PySem.F.slot_dict_getitem.lookup hs (mH (ho pins s σ H _ I h) fun u s1 ⟨x,H1,I1,rx,q1⟩=>mH (hi pins s1 σ H1 _ I1 q1) fun iv s2 ⟨y,H2,I2,ry,a,v,ex,g,q2⟩=>?_)
 subst ex
 obtain rfl:u=Value.ref a:=rx
 exact⟨Ku I2 g,R7 hu I2 g ry fun w' s3 I3 Qh=>⟨v,H2,I3,Qh,q2⟩⟩
theorem X3 (hu:X.A.units+1 < cLine) (ho:PE X o td) (hi:PE X i ty) (hv:PE X value tv) (hs:swapsWith value (some (.Subscript o i pos')) pos.line X.env=pure false) :
  PS X (.Assign [.Subscript o i pos'] value pos) (adq td ty tv):=by
 intro pins s σ H D I h
 refine wpAny_Assign_Subscript (mH (hv pins s σ H _ I h) fun r s1 ⟨v,H1,I1,rv,q1⟩=>mH (ho pins s1 σ H1 _ I1 q1) fun u s2 ⟨x,H2,I2,rx,q2⟩=>mH (hi pins s2 σ H2 _ I2 q2) fun iv s3 ⟨y,H3,I3,ry,a,H4,ex,g,q3⟩=>?_) hs
 subst ex
 obtain rfl:u=Value.ref a:=rx
 exact R8 hu I3 g ry rv fun s4 I4=>⟨σ,H4,I4,q3⟩
end
theorem Uw {P:Program} {w:World} {H:Hp} (h:Heap) (hb:sysModules < h.objs.size):iw P w H (h.push { cls:=.type "dict", data:=.dict #[] }) h.objs.size (.dK []):=
 ⟨qS _,beq_eq_false_iff_ne.mpr (Kb (zD hb)),[],.nil,Heap.DictOf.new h⟩
section
variable {X:Cx} {pos:Pos}
end
structure M1 (X:Cx) (o:Expr) (m:Str) (apos:Pos) (e:Expr) (cpos:Pos):Prop where
 base:attributeBase o m X.env (eval o X.env)=eval o X.env
 few:((backTo cpos (starEach [e] X.env)).all (fun x=>!x.1)&&(backToKw cpos (keywordEach [] X.env)).all (fun x=>x.1.isSome)
  && decide (([e]:List Expr).length+([]:List Keyword).length+(if ([]:List Keyword).isEmpty then 0 else 1) < 30))=true
 line:(apos.endLine==cpos.line)=true
 trees:backTo cpos (starEach [e] X.env)=[(false,eval e X.env)]
structure M2 (X:Cx) (o:Expr) (m:Str) (apos:Pos) (e f:Expr) (cpos:Pos):Prop where
 base:attributeBase o m X.env (eval o X.env)=eval o X.env
 few:((backTo cpos (starEach [e,f] X.env)).all (fun x=>!x.1)&&(backToKw cpos (keywordEach [] X.env)).all (fun x=>x.1.isSome)
  && decide (([e,f]:List Expr).length+([]:List Keyword).length+(if ([]:List Keyword).isEmpty then 0 else 1) < 30))=true
 line:(apos.endLine==cpos.line)=true
 trees:backTo cpos (starEach [e,f] X.env)=[(false,eval e X.env),(false,eval f X.env)]
section
variable {X:Cx} {pins:List (Addr×Obj)} {σ:St} {H:Hp} {s:Shared} {a:Addr} {y d:V} {u r:Value} {o:Option V} {A:Around} {E:Value->Shared->Prop}
end
section
variable {X:Cx} {o e f:Expr} {apos cpos:Pos} {td ty tx:TE}
end
section
variable {X:Cx} {pins:List (Addr×Obj)} {σ:St} {H:Hp} {s:Shared} {a:Addr} {kvs:List (Key×V)} {A:Around} {E:Value->Shared->Prop}
end
section
variable {X:Cx} {pins:List (Addr×Obj)} {σ:St} {H:Hp} {s:Shared} {a:Addr} {y:V} {u:Value} {A:Around} {E:Value->Shared->Prop}
end
end L2
namespace Att
open PySem PySem.W PySem.Calls PyProof.Rows
theorem Bt {P:Params} {h:Heap}:∀ (ns:List Int) (vs:List Value),WellAll P h vs (ns.map WData.int)->IntsAre vs ns:=by
 intro ns
 induction ns with
 |nil=>
  intro vs w
  rw[kc] at w
  cases w
  exact .nil
 |cons n ns ih=>
  intro vs w
  rw[zr] at w
  cases w with
  |cons a b=>
   cases a
   exact .cons _ _ (ih _ b)
theorem R9 {l:OpenLaw} {n:Nat} (hn:l.most=some n) {P:Params} {h:Heap} {args:List WData} {vals:List Value}
  (hpre:l.row.toRowW.claim.pre args=true) (hwl:WellAll P h vals args) :
  ∃ a vs ns,vals=[Value.ref a]/\args=[WData.list (ns.map WData.int)]/\h.get? a=some { cls:=.type "list", data:=.seq vs.toArray }/\IntsAre vs ns/\ns.length<=n:=by
 have hsh:WShape.hasAll [] args [.list .int]=true:=(pre_splitW hpre).1
 have hc:l.pre.holds [] { args:=args }=true:=(pre_splitW hpre).2
 obtain⟨d,r,rfl,h1,h2⟩:=hasAllW_cons hsh
 obtain rfl:=hasAllW_nil h2
 obtain⟨xs,rfl,h3⟩:=hasW_list h1
 obtain⟨ns,rfl⟩:=items_int h3
 have hlen:ns.length<=n:=by
  unfold OpenLaw.pre at hc
  have h4:(WTm.not (.lt (.lit (.int (n:Int))) (.len (.arg 0)))).holds [] { args:=[.list (ns.map .int)] }=true:=by
   have h4:=(holds_andW hc).1
   rw[hn] at h4
   exact h4
  have h5:=condW_of h4 (w_not (w_lt w_lit (w_len_list (w_arg rfl))))
  rw[zi] at h5
  refine Nat.le_of_not_lt fun q=>?_
  have q':(n:Int) < ((ns.length:Nat):Int):=by omega
  first
   |(rw[QU q'] at h5;exact absurd h5 (by decide))
   |(simp at h5;omega)
 cases hwl with
 |cons w1 w2=>
  cases w2
  cases w1 with
  |list ho hall=>exact⟨_,_,ns,rfl,rfl,ho,Bt ns _ hall,hlen⟩
theorem Sd (l:OpenLaw) (args:List WData):l.row.toRowW.claim.post args (.bool true) args=true:=
 postW_of (r:=l.row.toRowW) (X:=(true==true))
  (show WShape.has [] (.bool true) .bool=true by first|rfl|decide|simp[WShape.has,WShape.arms,WShape.armsAll])
  (show (WTm.eq .res (.lit (.bool true))).value [] { args:=args,res:=some (.bool true),after:=args }=some (.bool (true==true)) from w_eq_bool (w_res rfl) w_lit) rfl
theorem Kv {l:OpenLaw} {n:Nat} {q:Program} {loose:List Str} {XP:(Str->Option Value)->Heap->Prop} {YP:World->Heap->Prop} {d:DefRec}
  (hn:l.most=some n) (hdf:d.params.defaults=[])
  (call:∀ (w:World) (s₀ s₁:Shared) (mg mb:Str->Option Value) (fa:Addr) (o:Obj) (pm cd doc:Value) (a:Addr) (vs:List Value) (ns:List Int),
   Ground q loose [] XP w s₀ mg mb s₁.heap->YP w s₁.heap →
   s₁.heap.get? fa=some o->o.data=.func (docDef d.name d.params d.body d.scope pm cd doc)->s₁.heap.CodeRec cd d.name->mg d.name=some (.ref fa) →
   s₁.heap.get? a=some { cls:=.type "list", data:=.seq vs.toArray }->IntsAre vs ns->ns.length<=n->s₁.gens=#[] →
   codeAny (model l.prog w) callerA (.call (.ref fa) ⟨[.ref a],[]⟩) (fun r s'=>r=.ok (.ret (.bool true))/\OldK s₁.heap s'.heap/\s'.os=s₁.os/\AllBare s'.gens) s₁) :
  WalkO q loose XP YP l.row.toRowW d [] (fun f vs=>PySem.call f vs):=by
 intro w s₀ s₁ mg mb G Y fa o pm cd doc dV kV ho hd hcd hD hmg hg args vals as hpre hlay hrd hwl hlo
 obtain rfl:dV=.none:=Dflts.none hD hdf
 obtain rfl:kV=.none:=Dflts.noKw hD
 obtain⟨a,vs,ns,rfl,rfl,hobj,hints,hlen⟩:=R9 hn hpre hwl
 refine enter_call (codeAny_mono (call w s₀ s₁ mg mb fa o pm cd doc a vs ns G Y ho (fd_plain hd) hcd hmg hobj hints hlen hg) fun r s' hq=>?_)
 obtain⟨rfl,h2,h3,h4⟩:=hq
 exact⟨.inl ⟨.bool true,.bool true,[],rfl,fun _=>rfl,.bool true,Sd l _,fun _=>⟨List.Pairwise.nil,fun _ hm=>(nomatch hm)⟩⟩,h2,h3,h4⟩
section
variable {prog:Program} {w:World} {A:Around} {E:Value->Shared->Prop} {s:Shared} {K:Frag}
end
end Att
namespace L2
open PySem PySem.Spec PyProof.Rows
theorem G3:∀ {vs:List Value} {ns:List Int},IntsAre vs ns->Vals (ns.map V.int) vs
 |_,_,.nil=>.nil
 |_,_,.cons n t h=>.cons ⟨t,rfl⟩ (G3 h)
def Only (H:Hp):Prop:=∀ b,H b=none\/∃ o xs,H b=some (.lG o (.lst xs))
theorem Ux {P:Program} {w:World} {K:PySem.W.Frag} {mg mb:Str->Option Value} {CX:Qi} {k:Nat} {fa a:Addr} {fd:FuncData} {x:Str} {sp:Sp} {s₁:Shared} {vs:List Value} {ns:List Int}
  (KX:K.In s₁.heap) (hns:s₁.heap.Ns mainGlobals mg) (hb:s₁.heap.Ns builtinsNs mb) (hbb:∀ x:Str,x ≠ "__name__" → mb x=bootBuiltins x) (hlim:s₁.heap.NoLimit) (hg:s₁.gens=#[])
  (ha:s₁.heap.get? a=some { cls:=.type "list", data:=.seq vs.toArray }) (hi:IntsAre vs ns) (hl:ns.length<=sizeLine) (hr:mQ k callerA)
  (F:∀ base:Heap,K.In base->base.Ns mainGlobals mg->cU P w K mg base CX k fa fd [x] sp) (hbind:∀ (s:Shared) (u:Value),BindsTo s fd ⟨[u],[]⟩ [(x,u)])
  (hsp:∀ H:Hp,Only H->um K H a (ns.map V.int)->sp [.ref a] H (fun v _=>v=.bl true) fun _ _ _=>False)
  (hCX:∀ H e s',CX [] H s₁ (fun _ _ _=>False) e s'->False) :
  codeAny (model P w) callerA (.call (.ref fa) ⟨[.ref a],[]⟩) (fun r s'=>r=.ok (.ret (.bool true))/\OldK s₁.heap s'.heap/\s'.os=s₁.os/\AllBare s'.gens) s₁:=by
 have rv:=G3 hi
 have lenV:=hi.length
 have core:∀ H:Hp,Only H->um K H a (ns.map V.int)->xK P w H s₁.heap->(∀ b,H b≠none->b=a)->(H a≠none->K.lookup a=none) →
   codeAny (model P w) callerA (.call (.ref fa) ⟨[.ref a],[]⟩) (fun r s'=>r=.ok (.ret (.bool true))/\OldK s₁.heap s'.heap/\s'.os=s₁.os/\AllBare s'.gens) s₁:=by
  intro H hO hS hok hA hK
  have Qo:∀ {b:Addr} {o:Obj},s₁.heap.get? b=some o->H b=none->(HD s₁.heap H).get? b=some o:=fun e n=>Ua e n
  have noA:∀ {b:Addr} {o:Obj} {es:Array DictEntry} {ep:Nat},s₁.heap.get? b=some o->o.data=.dict es ep->H b=none:=fun {b o es ep} e d=>by
   cases q:H b with
   |none=>rfl
   |some u=>
    have e':b=a:=hA b (by rw[q];simp)
    subst e'
    rw[ha] at e;cases e
    have d':Data.seq vs.toArray _=Data.dict es ep:=d
    cases d'
  have nsK:∀ {b:Addr} {m:Str->Option Value},s₁.heap.Ns b m->(HD s₁.heap H).Ns b m:=fun {b m} ⟨o,es,ep,e,d,r⟩=>⟨o,es,ep,Qo e (noA e d),d,r⟩
  have hKb:K.In (HD s₁.heap H):=fun b o e=>Qo (KX b o e) (by
   cases q:H b with
   |none=>rfl
   |some u=>
    have e':b=a:=hA b (by rw[q];simp)
    subst e'
    rw[hK (by rw[q];simp)] at e;cases e)
  have hM:Mod K mg (HD s₁.heap H):=⟨hKb,nsK hns,⟨mb,nsK hb,hbb⟩,let ⟨mc,h1,h2⟩:=hlim;⟨mc,nsK h1,h2⟩⟩
  have e0:Nq P w K mg (HD s₁.heap H) callerA [] s₁ H:=⟨rfl,hM,fun b o e=>Xk e,Nat.le_of_eq (RJ _ _),trivial,fun b hb=>absurd (show b∈([]:List Addr) from hb) (by simp),hok,.of_eq hg⟩
  refine codeAny_mono ((F _ hKb (nsK hns)).run callerA [] s₁ H ⟨[.ref a],[]⟩ [.ref a] [.ref a] _ _ hr e0 (hbind s₁ (.ref a)) (.cons rfl .nil) (hsp H hO hS)) fun r s' h=>?_
  cases r with
  |error e=>exact (hCX H e s' h).elim
  |ok fl=>
   cases fl with
   |next=>exact False.elim h
   |brk=>exact False.elim h
   |cont=>exact False.elim h
   |ret u=>
    obtain⟨v,H',os,bare,un,hok',r',q⟩:=h
    have q':v=.bl true:=q
    subst q'
    obtain rfl:u=Value.bool true:=r'
    refine⟨rfl,OldK.of_keep fun b o e=>?_,os,bare⟩
    cases q:H b with
    |none=>exact un.keep b o e q (by intro z;exact absurd (show b∈([]:List Addr) from z) (by simp)) (by simp)
    |some u=>
     rcases hO b with z|⟨ob,xs,z⟩
     ·rw[q] at z;cases z
     ·have z2:=un.uh b ob _ z
      obtain⟨e1,_⟩:=hok b _ z
      obtain⟨e2,_⟩:=hok' b _ z2
      rw[e] at e1;cases e1
      exact e2
 cases hk:K.lookup a with
 |some o=>
  have e:=KX a o hk
  rw[ha] at e
  cases e
  refine core (fun _=>none) (fun _=>.inl rfl) (.inr ⟨_,vs.toArray,_,hk,rfl,rfl,rfl,by rw[zz,lenV];exact hl,by simpa using rv⟩) (fun b u z=>by have z':(none:Option HO)=some u:=z;cases z') (fun b z=>absurd rfl z) fun z=>absurd rfl z
 |none=>
  refine core (fun b=>if b=a then some (.lG { cls:=.type "list", data:=.seq vs.toArray } (.lst (ns.map V.int))) else none) (fun b=>?_) (.inl (.inr ⟨{ cls:=.type "list", data:=.seq vs.toArray },zk rfl⟩)) (fun b u z=>?_) (fun b z=>?_) fun _=>hk
  ·by_cases hb:b=a
   ·exact .inr ⟨_,_,zk hb⟩
   ·exact .inl (zw hb)
  ·by_cases hb:b=a
   ·have z':=(zk hb).symm.trans z
    cases z'
    subst hb
    exact⟨ha,by rw[zi];exact hl,vs,_,rv,ha⟩
   ·have z':=(zw hb).symm.trans z
    cases z'
  ·by_cases hb:b=a
   ·exact hb
   ·exact absurd (zw hb) z
end L2
namespace L2
open PySem PySem.Spec PyProof.Rows
theorem X4 {l:PySem.W.OpenLaw} {n k:Nat} {q:Program} {loose:List Str} {XP:(Str->Option Value)->Heap->Prop} {YP:World->Heap->Prop} {d:DefRec} {K:Params->PySem.W.Frag} {CX:World->Qi} {sp:World->Sp} {x:Str}
  (hn:l.most=some n) (hn2:n<=sizeLine) (hdf:d.params.defaults=[]) (hr:mQ k callerA)
  (hY:∀ (w:World) (h:Heap),YP w h->(K w.params).In h)
  (F:∀ (w:World) (mg:Str->Option Value) (fa:Addr) (h:Heap),(K w.params).In h->h.Ns mainGlobals mg->mg d.name=some (.ref fa) →
   ∃ fd:FuncData,(∀ (s:Shared) (u:Value),BindsTo s fd ⟨[u],[]⟩ [(x,u)]) ∧
    ∀ base:Heap,(K w.params).In base->base.Ns mainGlobals mg->cU l.prog w (K w.params) mg base (CX w) k fa fd [x] (sp w))
  (hsp:∀ (w:World) (H:Hp) (a:Addr) (ns:List Int),ns.length<=n->Only H->um (K w.params) H a (ns.map V.int)->sp w [.ref a] H (fun v _=>v=.bl true) fun _ _ _=>False)
  (hCX:∀ (w:World) (H:Hp) (s:Shared) (e:Value) (s':Shared),CX w [] H s (fun _ _ _=>False) e s'->False) :
  PySem.W.WalkO q loose XP YP l.row.toRowW d [] (fun f vs=>PySem.call f vs):=by
 refine Att.Kv hn hdf fun w s₀ s₁ mg mb fa o pm cd doc a vs ns G Y ho hd hcd hmg hobj hints hlen hg=>?_
 have KX:=hY w _ Y
 obtain⟨fd,hb,hF⟩:=F w mg fa _ KX G.T.g hmg
 exact Ux KX G.T.g G.T.b G.T.builtins G.T.nolimit hg hobj hints (z4 hlen hn2) hr hF hb (fun H hO hS=>hsp w H a ns hlen hO hS) fun H e s'=>hCX w H s₁ e s'
theorem Uy {l:PySem.W.OpenLaw} {n k:Nat} {q:Program} {loose:List Str} {XP:(Str->Option Value)->Heap->Prop} {YP:World->Heap->Prop} {d:DefRec} {K:Params->PySem.W.Frag} {CX:Qi} {sp:PySem.W.Frag->Sp} {x:Str}
  (hn:l.most=some n) (hn2:n<=sizeLine) (hdf:d.params.defaults=[]) (hr:mQ k callerA)
  (hY:∀ (w:World) (h:Heap),YP w h->(K w.params).In h)
  (F:∀ (w:World) (mg:Str->Option Value) (fa:Addr) (h:Heap),(K w.params).In h->h.Ns mainGlobals mg->mg d.name=some (.ref fa) →
   ∃ fd:FuncData,(∀ (s:Shared) (u:Value),BindsTo s fd ⟨[u],[]⟩ [(x,u)]) ∧
    ∀ base:Heap,(K w.params).In base->base.Ns mainGlobals mg->cU l.prog w (K w.params) mg base CX k fa fd [x] (sp (K w.params)))
  (hsp:∀ (K:PySem.W.Frag) (H:Hp) (a:Addr) (ns:List Int),ns.length<=n->Only H->um K H a (ns.map V.int)->sp K [.ref a] H (fun v _=>v=.bl true) fun _ _ _=>False)
  (hCX:∀ (H:Hp) (s:Shared) (e:Value) (s':Shared),CX [] H s (fun _ _ _=>False) e s'->False) :
  PySem.W.WalkO q loose XP YP l.row.toRowW d [] (fun f vs=>PySem.call f vs):=
 X4 (K:=K) (CX:=fun _=>CX) (sp:=fun w=>sp (K w.params)) hn hn2 hdf hr hY F (fun w H a ns h1 h2 h3=>hsp (K w.params) H a ns h1 h2 h3) fun _ H s e s'=>hCX H s e s'
end L2
namespace L2
open PySem PySem.Spec PyProof.Rows
def dW (s:Stmt):Arguments:=match s with
 |.FunctionDef _ a _ _ _ _ _ _ _ _=>a
 |_=>{ posonlyargs:=[],args:=[],vararg:=none,kwonlyargs:=[],kw_defaults:=[],kwarg:=none,defaults:=[] }
def cF (s:Stmt):List Stmt:=match s with
 |.FunctionDef _ _ b _ _ _ _ _ _ _=>b
 |_=>[]
def aJ (s:Stmt):Scope:=match s with
 |.FunctionDef _ _ _ _ _ _ sc _ _ _=>sc
 |_=>{ kind:=.function,names:=[],isGenerator:=false,isCoroutine:=false }
abbrev mR:Qi:=fun _ _ _ _ _ _=>False
abbrev E0:XK:=fun _ _ _=>False
theorem Uz {X:Cx}:Passes mR X E0:=fun _ _ _ _ _ _ _ h=>h.elim
structure zM (K:PySem.W.Frag) (x qual:Str) (st:Stmt) (f:Addr) (fd:FuncData):Prop where
 ex:∃ (oc:Value) (od:Option Addr) (kV doc pm:Value) (an:Option Addr) (cdv ct:Value) (osl:Array (Option Value)),
  fd=PySem.W.fnOf x qual (dW st) (cF st) (aJ st) .none kV doc pm an cdv ct/\K.lookup f=some ⟨oc,od,.func fd,osl⟩/\PySem.W.codeIn K cdv qual=true
 kp:PySem.W.keepIn K (.ref f)=true
section
variable {P:Program} {w:World} {K:PySem.W.Frag} {mg:Str->Option Value} {base:Heap}
theorem zM.ok {x qual:Str} {st:Stmt} {f:Addr} {fd:FuncData} {N ps:List Str} {k:Nat} {sp:Sp} (F:zM K x qual st f fd) (S:cQ N ps (aJ st)) (len:∀ vs H Q E,sp vs H Q E->vs.length=ps.length)
  (hbody:∀ (cdv:Value) (A:Around) (outer:List Env) (s:Shared) (H:Hp) (vs:List V) (Q:VK) (E:XK),mQ k (A.deeper (envOfC qual (aJ st) s.heap.objs.size f cdv))->sp vs H Q E →
   ∃ t,J7 (CN mR P w K mg base N qual (aJ st) f cdv A outer s H E).RM (cF st) t/\t { nx:=fun _ H'=>Q .non H',rt:=Q } (start N vs) H):cU P w K mg base mR (k+1) f fd ps sp:=by
 obtain⟨oc,od,kV,doc,pm,an,cdv,ct,osl,rfl,lk,hcd⟩:=F.ex
 refine adf lk hcd S len fun A outer s H vs Q E hr hsp=>?_
 obtain⟨t,h,q⟩:=hbody cdv A outer s H vs Q E hr hsp
 exact⟨t,h.RM,q⟩
theorem zM.binds {x qual:Str} {st:Stmt} {f:Addr} {fd:FuncData} {ps:List Str} (F:zM K x qual st f fd)
  (h:∀ (kV doc pm:Value) (an:Option Addr) (cdv ct:Value) (us:List Value),us.length=ps.length->bindArgs (PySem.W.fnOf x qual (dW st) (cF st) (aJ st) .none kV doc pm an cdv ct) ⟨us,[]⟩=pure (ps.zip us)):Binds K fd ps []:=by
 obtain⟨oc,od,kV,doc,pm,an,cdv,ct,osl,rfl,lk,hcd⟩:=F.ex
 exact .all (h kV doc pm an cdv ct)
theorem jL {x qual:Str} {st:Stmt} {f:Addr} {oc:Value} {od an:Option Addr} {osl:Array (Option Value)} {kV doc pm cdv ct:Value} (l:K.lookup f=some ⟨oc,od,.func (PySem.W.fnOf x qual (dW st) (cF st) (aJ st) .none kV doc pm an cdv ct),osl⟩)
  (c:PySem.W.codeIn K cdv qual=true) (k:PySem.W.keepIn K (.ref f)=true):zM K x qual st f (PySem.W.fnOf x qual (dW st) (cF st) (aJ st) .none kV doc pm an cdv ct):=⟨⟨oc,od,kV,doc,pm,an,cdv,ct,osl,rfl,l,c⟩,k⟩
end
section
variable {X:Cx}
theorem pv (i:Nat) {x:Str} {pos:Pos} (hN:X.N[i]?=some x:=by rfl) (hv:T5 X.env.scope x:=by first|exact JP rfl|exact QR (JP rfl)|exact QR (QR rfl)) (hd:(x==("__debug__" : Str))=false:=by decide)
  (hcd:(x==("__classdict__" : Str))=false:=by decide):PE X (.Name x pos) (Uc i):=oF hN hv hd hcd
end
def Same (H H':Hp):Prop:=∀ b o,H b=some o->H' b=some o
theorem Same.refl (H:Hp):Same H H:=fun _ _ h=>h
theorem Same.trans {H H1 H2:Hp} (a:Same H H1) (b:Same H1 H2):Same H H2:=fun c o h=>b c o (a c o h)
theorem Same.free {H H':Hp} (e:Same H H') {l:Addr} (h:H' l=Option.none):H l=Option.none:=by
 cases q:H l with
 |none=>rfl
 |some o=>
  rw[e l o q] at h
  cases h
theorem Same.seq {K:PySem.W.Frag} {H H':Hp} {a:Addr} {xs:List V} (e:Same H H') (h:um K H a xs):um K H' a xs:=by
 rcases h with (h|⟨o,h⟩)|h
 ·exact .inl (.inl (e _ _ h))
 ·exact .inl (.inr ⟨o,e _ _ h⟩)
 ·exact .inr h
end L2
end
section
namespace P1
open PySem PySem.Spec PyProof.Rows L2
inductive Dt where
 |non|bl (b:Bool)|int (i:Int)|str (x:Str)|tup (xs:List Dt)|lst (xs:List Dt)|emp
inductive Bx where
 |z (d:Dt)|l (ds:List Dt)|o (ds:List Dt)|n (kvs:List (Str×Dt))|m (kvs:List (Str×Dt)) (w:Option Addr)
abbrev Ev:=List (Option Bx)
def FzL (K:PySem.W.Frag) (H:Hp) (a:Addr) (xs:List V):Prop:=
 (∃ o,H a=some (.lG o (.lst xs))) ∨
  ∃ (o:Obj) (its:Array Value) (n:Nat),K.lookup a=some o/\o.cls=.type "list" ∧ o.dict=none/\o.data=.seq its n/\its.size<=sizeLine/\Vals xs its.toList
theorem FzL.sq {K:PySem.W.Frag} {H:Hp} {a:Addr} {xs:List V} (h:FzL K H a xs):um K H a xs:=by
 rcases h with h|h
 ·exact .inl (.inr h)
 ·exact .inr h
mutual
def Rep (K:PySem.W.Frag) (H:Hp):Dt->V->Prop
 |.non,v=>v=.non
 |.bl b,v=>v=.bl b
 |.int i,v=>v=.int i
 |.str x,v=>v=.str x/\x.length<=sizeLine
 |.tup ds,v=>∃ a vs,v=.ref a/\xM K H a vs/\aK K H ds vs
 |.lst ds,v=>∃ a vs,v=.ref a/\FzL K H a vs/\aK K H ds vs
 |.emp,v=>∃ a o,v=.ref a/\H a=some (.lG o (.dK []))
def aK (K:PySem.W.Frag) (H:Hp):List Dt->List V->Prop
 |[],vs=>vs=[]
 |d::ds,vs=>∃ v r,vs=v::r/\Rep K H d v/\aK K H ds r
end
structure Kp (H H':Hp):Prop where
 t:∀ a xs,H a=some (.tup xs)->H' a=some (.tup xs)
 f:∀ a o u,H a=some (.lG o u)->H' a=some (.lG o u)
theorem Kp.of {H H':Hp} (s:Same H H'):Kp H H':=⟨fun a _ h=>s a _ h,fun a _ _ h=>s a _ h⟩
theorem Kp.sqT {K:PySem.W.Frag} {H H':Hp} {a:Addr} {xs:List V} (k:Kp H H') (h:xM K H a xs):xM K H' a xs:=by
 rcases h with (h|⟨o,h⟩)|h
 ·exact .inl (.inl (k.t _ _ h))
 ·exact .inl (.inr ⟨o,k.f _ _ _ h⟩)
 ·exact .inr h
theorem Kp.fzL {K:PySem.W.Frag} {H H':Hp} {a:Addr} {xs:List V} (k:Kp H H') (h:FzL K H a xs):FzL K H' a xs:=by
 rcases h with⟨o,h⟩|h
 ·exact .inl ⟨o,k.f _ _ _ h⟩
 ·exact .inr h
theorem Kp.lst {H:Hp} {a:Addr} {xs:List V} {o:HO} (h:H a=some (.lst xs)):Kp H (upd H a o):=by
 refine⟨fun b ys e=>?_,fun b ob u e=>?_⟩
 ·rw[aF (o7 e h (by intro z;cases z))];exact e
 ·rw[aF (o7 e h (by intro z;cases z))];exact e
theorem Kp.dk {H:Hp} {a:Addr} {xs:List (Key×V)} {o:HO} (h:H a=some (.dK xs)):Kp H (upd H a o):=by
 refine⟨fun b ys e=>?_,fun b ob u e=>?_⟩
 ·rw[aF (o7 e h (by intro z;cases z))];exact e
 ·rw[aF (o7 e h (by intro z;cases z))];exact e
mutual
theorem Rep.kp {K:PySem.W.Frag} {H H':Hp} (k:Kp H H'):∀ {d:Dt} {v:V},Rep K H d v->Rep K H' d v
 |.non,_,h=>by simpa only[Rep] using h
 |.bl _,_,h=>by simpa only[Rep] using h
 |.int _,_,h=>by simpa only[Rep] using h
 |.str _,_,h=>by simpa only[Rep] using h
 |.tup ds,_,h=>by
  simp only[Rep] at h ⊢
  obtain⟨a,vs,e,q,r⟩:=h
  exact⟨a,vs,e,k.sqT q,aK.kp k r⟩
 |.lst ds,_,h=>by
  simp only[Rep] at h ⊢
  obtain⟨a,vs,e,q,r⟩:=h
  exact⟨a,vs,e,k.fzL q,aK.kp k r⟩
 |.emp,_,h=>by
  simp only[Rep] at h ⊢
  obtain⟨a,o,e,q⟩:=h
  exact⟨a,o,e,k.f _ _ _ q⟩
theorem aK.kp {K:PySem.W.Frag} {H H':Hp} (k:Kp H H'):∀ {ds:List Dt} {vs:List V},aK K H ds vs->aK K H' ds vs
 |[],_,h=>by simpa only[aK] using h
 |d::ds,_,h=>by
  simp only[aK] at h ⊢
  obtain⟨v,r,e,q,t⟩:=h
  exact⟨v,r,e,Rep.kp k q,aK.kp k t⟩
end
theorem aK.length {K:PySem.W.Frag} {H:Hp}:∀ {ds:List Dt} {vs:List V},aK K H ds vs->vs.length=ds.length
 |[],_,h=>by simp only[aK] at h;subst h;rfl
 |d::ds,_,h=>by
  simp only[aK] at h
  obtain⟨v,r,rfl,_,t⟩:=h
  simp[aK.length t]
theorem aK.nil {K:PySem.W.Frag} {H:Hp}:aK K H [] []:=by simp only[aK]
theorem aK.cons {K:PySem.W.Frag} {H:Hp} {d:Dt} {v:V} {ds:List Dt} {vs:List V} (h:Rep K H d v) (t:aK K H ds vs):aK K H (d::ds) (v::vs):=by
 simp only[aK];exact⟨v,vs,rfl,h,t⟩
theorem aK.append {K:PySem.W.Frag} {H:Hp}:∀ {ds es:List Dt} {vs us:List V},aK K H ds vs->aK K H es us->aK K H (ds++es) (vs++us)
 |[],_,_,_,h,t=>by simp only[aK] at h;subst h;exact t
 |d::ds,_,_,_,h,t=>by
  simp only[aK] at h
  obtain⟨v,r,rfl,q,h⟩:=h
  exact aK.cons q (aK.append h t)
theorem aK.drop {K:PySem.W.Frag} {H:Hp}:∀ (n:Nat) {ds:List Dt} {vs:List V},aK K H ds vs->aK K H (ds.drop n) (vs.drop n)
 |0,_,_,h=>h
 |n+1,[],_,h=>by simp only[aK] at h;subst h;exact aK.nil
 |n+1,d::ds,_,h=>by
  simp only[aK] at h
  obtain⟨v,r,rfl,q,h⟩:=h
  exact aK.drop n h
theorem aK.take {K:PySem.W.Frag} {H:Hp}:∀ (n:Nat) {ds:List Dt} {vs:List V},aK K H ds vs->aK K H (ds.take n) (vs.take n)
 |0,_,_,_=>aK.nil
 |n+1,[],_,h=>by simp only[aK] at h;subst h;exact aK.nil
 |n+1,d::ds,_,h=>by
  simp only[aK] at h
  obtain⟨v,r,rfl,q,h⟩:=h
  exact aK.cons q (aK.take n h)
theorem aK.get {K:PySem.W.Frag} {H:Hp}:∀ {ds:List Dt} {vs:List V} {i:Nat} {d:Dt},aK K H ds vs->ds[i]?=some d->∃ v,vs[i]?=some v/\Rep K H d v
 |[],_,_,_,_,e=>by simp at e
 |d::ds,_,0,_,h,e=>by
  simp only[aK] at h
  obtain⟨v,r,rfl,q,h⟩:=h
  simp at e;subst e;exact⟨v,rfl,q⟩
 |d::ds,_,i+1,_,h,e=>by
  simp only[aK] at h
  obtain⟨v,r,rfl,q,h⟩:=h
  obtain⟨u,e1,e2⟩:=aK.get h (i:=i) (by simpa using e)
  exact⟨u,by simpa using e1,e2⟩
def gR (K:PySem.W.Frag) (H:Hp) (kvs:List (Str×Dt)) (ks:List (Key×V)):Prop:=ks.map (·.1)=kvs.map (fun p=>(Sum.inr p.1:Key))/\aK K H (kvs.map (·.2)) (ks.map (·.2))/\∀ p∈kvs,p.1.length<=sizeLine
theorem gR.kp {K:PySem.W.Frag} {H H':Hp} {kvs:List (Str×Dt)} {ks:List (Key×V)} (h:gR K H kvs ks) (k:Kp H H'):gR K H' kvs ks:=⟨h.1,h.2.1.kp k,h.2.2⟩
def bf (K:PySem.W.Frag) (H:Hp):Bx->V->Prop
 |.z d,v=>Rep K H d v
 |.l ds,v=>∃ a vs,v=.ref a/\Rd H a (.lst vs)/\aK K H ds vs
 |.o ds,v=>∃ a vs,v=.ref a/\H a=some (.lst vs)/\aK K H ds vs
 |.n kvs,v=>∃ a ks,v=.ref a/\Rd H a (.dK ks)/\gR K H kvs ks
 |.m kvs w,v=>∃ a ks,v=.ref a/\H a=some (.dK ks)/\gR K H kvs ks/\∀ b,w=some b->b=a
theorem bf.same {K:PySem.W.Frag} {H H':Hp} (s:Same H H') {b:Bx} {v:V} (h:bf K H b v):bf K H' b v:=by
 cases b with
 |z d=>exact Rep.kp (.of s) h
 |l ds=>
  obtain⟨a,vs,e,q,r⟩:=h
  refine⟨a,vs,e,?_,r.kp (.of s)⟩
  rcases q with q|⟨o,q⟩
  ·exact .inl (s _ _ q)
  ·exact .inr ⟨o,s _ _ q⟩
 |o ds=>
  obtain⟨a,vs,e,q,r⟩:=h
  exact⟨a,vs,e,s _ _ q,r.kp (.of s)⟩
 |n kvs=>
  obtain⟨a,vs,e,q,r⟩:=h
  refine⟨a,vs,e,?_,r.kp (.of s)⟩
  rcases q with q|⟨o,q⟩
  ·exact .inl (s _ _ q)
  ·exact .inr ⟨o,s _ _ q⟩
 |m kvs _=>
  obtain⟨a,vs,e,q,r⟩:=h
  exact⟨a,vs,e,s _ _ q,r.1.kp (.of s),r.2⟩
def rC:Bx->Option (List Dt)
 |.z (.lst ds)=>some ds
 |.l ds=>some ds
 |.o ds=>some ds
 |_=>none
theorem bf.FQ {K:PySem.W.Frag} {H:Hp} {b:Bx} {v:V} {ds:List Dt} (h:bf K H b v) (e:rC b=some ds):∃ a vs,v=.ref a/\um K H a vs/\aK K H ds vs:=by
 cases b with
 |z d=>
  cases d<;>first|(cases e;done)|skip
  cases e
  simp only[bf,Rep] at h
  obtain⟨a,vs,e,q,r⟩:=h
  exact⟨a,vs,e,q.sq,r⟩
 |l ds'=>
  cases e
  obtain⟨a,vs,e,q,r⟩:=h
  exact⟨a,vs,e,.inl q,r⟩
 |o ds'=>
  cases e
  obtain⟨a,vs,e,q,r⟩:=h
  exact⟨a,vs,e,.inl (.inl q),r⟩
 |n _=>cases e
 |m _ _=>cases e
abbrev o9 (K:PySem.W.Frag) (H:Hp):List Bx->List V->Prop:=Paired (bf K H)
theorem o9.same {K:PySem.W.Frag} {H H':Hp} (s:Same H H') {bs:List Bx} {vs:List V} (h:o9 K H bs vs):o9 K H' bs vs:=Paired.imp' (fun _ _ q=>bf.same s q) h
def Nw (H:Hp):Bx->V->Prop
 |.o _,v=>∀ a,v=.ref a->H a=none
 |.m _ _,v=>∀ a,v=.ref a->H a=none
 |_,_=>True
theorem Nw.old {H H1:Hp} (s:Same H H1) {b:Bx} {v:V} (h:Nw H1 b v):Nw H b v:=by
 cases b with
 |o ds=>exact fun a e=>s.free (h a e)
 |m ds _=>exact fun a e=>s.free (h a e)
 |_=>trivial
def loose:Bx->Bool
 |.z _=>false
 |_=>true
def uo:Bx->Bool
 |.o _=>true
 |.m _ _=>true
 |_=>false
structure bJ (K:PySem.W.Frag) (H0 H:Hp) (σ:L2.St) (ρ:Ev):Prop where
 len:σ.length=ρ.length
 val:∀ (i:Nat) b,ρ[i]?=some (some b)->∃ v,σ[i]?=some (some v)/\bf K H b v
 own:∀ (i j:Nat) c a b,ρ[i]?=some (some c)->uo c=true->σ[i]?=some (some (.ref a))->ρ[j]?=some (some b)->loose b=true->σ[j]?=some (some (.ref a))->i=j
 base:Same H0 H
 new:∀ (i:Nat) c a,ρ[i]?=some (some c)->uo c=true->σ[i]?=some (some (.ref a))->H0 a=none
theorem bJ.grow {K:PySem.W.Frag} {H0 H H':Hp} {σ:L2.St} {ρ:Ev} (r:bJ K H0 H σ ρ) (s:Same H H'):bJ K H0 H' σ ρ:=
 ⟨r.len,fun i b e=>let ⟨v,e1,h⟩:=r.val i b e;⟨v,e1,h.same s⟩,r.own,r.base.trans s,r.new⟩
def tF (K:PySem.W.Frag) (f:Ev->Option Bx):TE:=fun σ H Q=>∃ H0 ρ b,bJ K H0 H σ ρ/\f ρ=some b/\∀ v H',Same H H'->Nw H b v->bf K H' b v->Q v H'
def tFA (K:PySem.W.Frag) (f:Ev->Option (List Bx)):TA:=fun σ H Q=>∃ H0 ρ bs,bJ K H0 H σ ρ/\f ρ=some bs/\∀ vs H',Same H H'->o9 K H' bs vs->Q vs H'
def X5 (K:PySem.W.Frag) (f:Ev->Option Bool):TT:=fun σ H Q=>∃ H0 ρ b,bJ K H0 H σ ρ/\f ρ=some b/\∀ H',Same H H'->Q b H'
def PV (X:Cx) (e:Expr) (f:Ev->Option Bx):Prop:=PE X e (tF X.K f)
structure QV (X:Cx) (e:Expr) (f:Ev->Option Bx):Prop where
 run:PV X e f
def PVs (X:Cx) (es:List Expr) (f:Ev->Option (List Bx)):Prop:=PA X es (tFA X.K f)
structure T6 (X:Cx) (es:List Expr) (f:Ev->Option (List Bx)):Prop where
 run:PVs X es f
def PB (X:Cx) (e:Expr) (f:Ev->Option Bool):Prop:=PT X e (X5 X.K f)
structure QB (X:Cx) (e:Expr) (f:Ev->Option Bool):Prop where
 run:PB X e f
theorem Ij {X:Cx} {e:Expr} {t t':TE} (h:PE X e t) (m:∀ σ H Q,t' σ H Q->t σ H Q):PE X e t':=fun pins s σ H Q I q=>h pins s σ H Q I (m σ H Q q)
theorem paM {X:Cx} {e:List Expr} {t t':TA} (h:PA X e t) (m:∀ σ H Q,t' σ H Q->t σ H Q):PA X e t':=fun pos pins s σ H Q I q=>h pos pins s σ H Q I (m σ H Q q)
theorem ptM {X:Cx} {e:Expr} {t t':TT} (h:PT X e t) (m:∀ σ H Q,t' σ H Q->t σ H Q):PT X e t':=fun pins s σ H Q I q=>h pins s σ H Q I (m σ H Q q)
theorem pwM {X:Cx} {e:Expr} {t t':TT} (h:PW X e t) (m:∀ σ H Q,t' σ H Q->t σ H Q):PW X e t':=fun wh pins s σ H Q I q=>h wh pins s σ H Q I (m σ H Q q)
theorem UG {X:Cx} {e:Stmt} {t t':TS} (h:PS X e t) (m:∀ D σ H,t' D σ H->t D σ H):PS X e t':=fun pins s σ H D I q=>h pins s σ H D I (m D σ H q)
theorem Nz {X:Cx} {e:List Stmt} {t t':TS} (h:J7 X e t) (m:∀ D σ H,t' D σ H->t D σ H):J7 X e t':=fun pins s σ H D I q=>h pins s σ H D I (m D σ H q)
def rF (K:PySem.W.Frag) (g:Bx->Bx->Option Bx):R2:=fun x y H Q=>∃ a b c,bf K H a x/\bf K H b y/\g a b=some c/\∀ w H',Same H H'->Nw H c w->bf K H' c w->Q w H'
def rFs (K:PySem.W.Frag) (g:List Bx->Option Bx):List V->Hp->VK->Prop:=fun xs H Q=>∃ bs c,o9 K H bs xs/\g bs=some c/\∀ w H',Same H H'->Nw H c w->bf K H' c w->Q w H'
abbrev J8 (X:Cx) (f:Value->Value->Sem Value) (g:Bx->Bx->Option Bx):Prop:=wO X f (rF X.K g)
abbrev pq (X:Cx) (f:Value) (g:List Bx->Option Bx):Prop:=jk X f (rFs X.K g)
theorem wO.imp {X:Cx} {f:Value->Value->Sem Value} {r r':R2} (h:wO X f r) (m:∀ x y H Q,r' x y H Q->r x y H Q):wO X f r':=fun pins s σ H x y v u Q I rx ry q=>h pins s σ H x y v u Q I rx ry (m x y H Q q)
theorem UnR.imp {X:Cx} {f:Value->Sem Value} {r r':V->Hp->VK->Prop} (h:UnR X f r) (m:∀ x H Q,r' x H Q->r x H Q):UnR X f r':=fun pins s σ H x v Q I rx q=>h pins s σ H x v Q I rx (m x H Q q)
theorem jk.imp {X:Cx} {f:Value} {r r':List V->Hp->VK->Prop} (h:jk X f r) (m:∀ x H Q,r' x H Q->r x H Q):jk X f r':=fun pins s σ H xs us Q I rx q=>h pins s σ H xs us Q I rx (m xs H Q q)
def b2 (g:Bx->Bx->Option Bx) (fa fb:Ev->Option Bx):Ev->Option Bx:=fun ρ=>(fa ρ).bind fun x=>(fb ρ).bind fun y=>g x y
def b1 (g:Bx->Option Bx) (fa:Ev->Option Bx):Ev->Option Bx:=fun ρ=>(fa ρ).bind g
def bY (g:List Bx->Option Bx) (fs:Ev->Option (List Bx)):Ev->Option Bx:=fun ρ=>(fs ρ).bind g
theorem bind_some {α β:Type} {o:Option α} {f:α->Option β} {b:β} (h:o.bind f=some b):∃ a,o=some a/\f a=some b:=by
 cases o with
 |none=>cases h
 |some a=>exact⟨a,rfl,h⟩
theorem UJ {K:PySem.W.Frag} {g:Bx->Bx->Option Bx} {fa fb:Ev->Option Bx} (σ:L2.St) (H:Hp) (Q:VK) (h:tF K (b2 g fa fb) σ H Q):ZX (rF K g) (tF K fa) (tF K fb) σ H Q:=by
 obtain⟨H0,ρ,c,E,e,q⟩:=h
 obtain⟨a,ea,e⟩:=bind_some e
 obtain⟨b,eb,e⟩:=bind_some e
 refine⟨H0,ρ,a,E,ea,fun v H1 s1 n1 r1=>⟨H0,ρ,b,E.grow s1,eb,fun u H2 s2 n2 r2=>?_⟩⟩
 exact⟨a,b,c,r1.same s2,r2,e,fun w H3 s3 n3 r3=>q w H3 ((s1.trans s2).trans s3) (n3.old (s1.trans s2)) r3⟩
theorem convs {K:PySem.W.Frag} {g:List Bx->Option Bx} {fs:Ev->Option (List Bx)} (σ:L2.St) (H:Hp) (Q:VK) (h:tF K (bY g fs) σ H Q):tCB (rFs K g) (tFA K fs) σ H Q:=by
 obtain⟨H0,ρ,c,E,e,q⟩:=h
 obtain⟨a,ea,e⟩:=bind_some e
 exact⟨H0,ρ,a,E,ea,fun v H1 s1 r1=>⟨a,c,r1,e,fun w H3 s3 n3 r3=>q w H3 (s1.trans s3) (n3.old s1) r3⟩⟩
section
variable {X:Cx} {a b c e:Expr} {es:List Expr} {fa fb fc f:Ev->Option Bx} {fs:Ev->Option (List Bx)} {pos:Pos}
theorem aV {op:Operator} {g:Bx->Bx->Option Bx} (ho:J8 X (binaryOp op) g) (ha:QV X a fa) (hb:QV X b fb):QV X (.BinOp a op b pos) (b2 g fa fb):=⟨have ha:=ha.run;have hb:=hb.run;Ij (ac5 ho ha hb) UJ⟩
theorem CT {op:CmpOp} {g:Bx->Bx->Option Bx} (ho:J8 X (compareOp op) g) (ha:QV X a fa) (hb:QV X b fb) (hm:behindInMarks op b=false):QV X (.Compare a [op] [b] pos) (b2 g fa fb):=⟨have ha:=ha.run;have hb:=hb.run;Ij (Xr ho ha hb hm) UJ⟩
def Ik:Bx->Option Bool
 |.z (.bl b)=>some b
 |_=>none
theorem CV {K:PySem.W.Frag} {H:Hp} {b:Bx} {v:V} {k:Bool} (h:bf K H b v) (e:Ik b=some k):v=.bl k:=by
 cases b with
 |z d=>
  cases d<;>first|(cases e;done)|skip
  cases e
  simpa only[bf,Rep] using h
 |_=>cases e
theorem adv {K:PySem.W.Frag} {f:Ev->Option Bx} (σ:L2.St) (H:Hp) (Q:Bool->Hp->Prop) (h:X5 K (fun ρ=>(f ρ).bind Ik) σ H Q):tF K f σ H (fun x H'=>∃ k,x=.bl k/\Q k H'):=by
 obtain⟨H0,ρ,k,E,e,q⟩:=h
 obtain⟨b,eb,e⟩:=bind_some e
 exact⟨H0,ρ,b,E,eb,fun v H1 s1 n1 r1=>⟨k,CV r1 e,q H1 s1⟩⟩
theorem cG {op:CmpOp} {g:Bx->Bx->Option Bx} (ho:J8 X (compareOp op) g) (ha:QV X a fa) (hb:QV X b fb) (hm:behindInMarks op b=false):QB X (.Compare a [op] [b] pos) (fun ρ=>(b2 g fa fb ρ).bind Ik):=⟨have ha:=ha.run;have hb:=hb.run;ptM (Xu ho ha hb hm) fun σ H Q h=>UJ σ H _ (adv σ H Q h)⟩
def vQ (ρ:Ev) (i:Nat):Option Bx:=match ρ[i]? with
 |some (some (.o ds))=>some (.l ds)
 |some (some (.m kvs _))=>some (.n kvs)
 |some (some b)=>some b
 |_=>none
theorem Kw {K:PySem.W.Frag} {H0 H:Hp} {σ:L2.St} {ρ:Ev} {i:Nat} {b:Bx} (E:bJ K H0 H σ ρ) (e:vQ ρ i=some b):∃ v,σ[i]?=some (some v)/\bf K H b v:=by
 unfold vQ at e
 split at e
 ·rename_i ds h
  cases e
  obtain⟨v,e1,a,vs,e2,q,r⟩:=E.val i _ h
  exact⟨v,e1,a,vs,e2,.inl q,r⟩
 ·rename_i ds h
  cases e
  obtain⟨v,e1,a,vs,e2,q,r⟩:=E.val i _ h
  exact⟨v,e1,a,vs,e2,.inl q,r.1⟩
 ·rename_i b' h
  cases e
  exact E.val i _ h
 ·cases e
theorem xX {ρ:Ev} {i:Nat} {b:Bx} (e:vQ ρ i=some b):uo b=false:=by
 unfold vQ at e
 split at e
 ·cases e;rfl
 ·cases e;rfl
 ·rename_i b' h1 h2 h3
  cases e
  cases b with
  |o ds=>exact absurd rfl (h1 ds)
  |m ds _=>exact absurd rfl (h2 ds _)
  |_=>rfl
 ·cases e
theorem ak (i:Nat) {x:Str} (hN:X.N[i]?=some x:=by rfl) (hv:T5 X.env.scope x:=by first|exact JP rfl|exact QR (JP rfl)|exact QR (QR rfl)) (hd:(x==("__debug__" : Str))=false:=by decide) (hcd:(x==("__classdict__" : Str))=false:=by decide):QV X (.Name x pos) (fun ρ=>vQ ρ i):=⟨Ij (oF hN hv hd hcd) fun σ H Q h=>by
 obtain⟨H0,ρ,b,E,e,q⟩:=h
 obtain⟨v,e1,r⟩:=Kw E e
 refine⟨v,e1,q v H (Same.refl H) ?_ r⟩
 cases b with
 |o ds=>have:=xX e;cases this
 |m ds _=>have:=xX e;cases this
 |_=>trivial⟩
def cB (d:Dt):Ev->Option Bx:=fun _=>some (.z d)
theorem X6 {v:V} {d:Dt} (h:PE X e (tC v)) (r:∀ H,Rep X.K H d v):PV X e (cB d):=Ij h fun σ H Q q=>by
 obtain⟨H0,ρ,b,E,e,q⟩:=q
 cases e
 exact q v H (Same.refl H) trivial (r H)
theorem aC {i j}:QV X (.Constant (.int i) j pos) (cB (.int i)):=⟨X6 HN fun H=>by simp only[Rep]⟩
theorem CW {i j}:QV X (.Constant (.bool i) j pos) (cB (.bl i)):=⟨X6 acU fun H=>by simp only[Rep]⟩
theorem Il {j}:QV X (.Constant .none j pos) (cB .non):=⟨X6 aaD fun H=>by simp only[Rep]⟩
theorem UL {x:Str} {j} (hx:x.length<=sizeLine:=by decide):PV X (.Constant (.str x) j pos) (cB (.str x)):=X6 aaE fun H=>by unfold Rep;exact⟨rfl,hx⟩
def X7:Bx->Option Bool
 |.z .non=>some false
 |.z (.bl b)=>some b
 |.z (.int i)=>some (i != 0)
 |.z (.str x)=>some ((x.length:Int) != 0)
 |.z (.tup ds)=>some (!ds.isEmpty)
 |.z (.lst ds)=>some (!ds.isEmpty)
 |.l ds=>some (!ds.isEmpty)
 |.o ds=>some (!ds.isEmpty)
 |.z .emp=>none
 |.n _=>none
 |.m _ _=>none
theorem aK.isEmpty {K:PySem.W.Frag} {H:Hp} {ds:List Dt} {vs:List V} (h:aK K H ds vs):(!ds.isEmpty)=!vs.isEmpty:=by
 have:=h.length
 cases ds<;>cases vs<;>simp_all
theorem X8 {K:PySem.W.Frag} {H:Hp} {b:Bx} {v:V} {k:Bool} (r:bf K H b v) (e:X7 b=some k):aaZ K v H k:=by
 cases b with
 |z d=>
  cases d with
  |non=>cases e;simp only[bf,Rep] at r;subst r;rfl
  |bl b=>cases e;simp only[bf,Rep] at r;subst r;rfl
  |int b=>cases e;simp only[bf,Rep] at r;subst r;rfl
  |str x=>cases e;simp only[bf,Rep] at r;obtain⟨rfl,h⟩:=r;exact⟨h,rfl⟩
  |tup ds=>
   cases e;simp only[bf,Rep] at r
   obtain⟨a,vs,rfl,q,r⟩:=r
   exact .inr (.inl ⟨vs,q,r.isEmpty⟩)
  |lst ds=>
   cases e
   obtain⟨a,vs,rfl,q,r⟩:=r.FQ rfl
   exact .inl ⟨vs,q,r.isEmpty⟩
  |emp=>cases e
 |l ds=>
  cases e
  obtain⟨a,vs,rfl,q,r⟩:=r.FQ rfl
  exact .inl ⟨vs,q,r.isEmpty⟩
 |o ds=>
  cases e
  obtain⟨a,vs,rfl,q,r⟩:=r.FQ rfl
  exact .inl ⟨vs,q,r.isEmpty⟩
 |n _=>cases e
 |m _ _=>cases e
theorem CZ (h:QV X e f) (he:∀ whole,isTrue e X.env whole=(do let v <-whole;standAt e.pos;holding [v] (truthy v)):=by intro _;rfl):QB X e (fun ρ=>(f ρ).bind X7):=⟨have h:=h.run;ptM (Ui h he) fun σ H Q q=>by
 obtain⟨H0,ρ,k,E,e,q⟩:=q
 obtain⟨b,eb,e⟩:=bind_some e
 exact⟨H0,ρ,b,E,eb,fun v H1 s1 n1 r1=>⟨k,X8 r1 e,q H1 s1⟩⟩⟩
def Im (p q:Ev->Option Bool):Ev->Option Bool:=fun ρ=>(p ρ).bind fun c=>if c=true then q ρ else some false
def Sg (p q:Ev->Option Bool):Ev->Option Bool:=fun ρ=>(p ρ).bind fun c=>if c=true then some true else q ρ
def FT (p:Ev->Option Bool):Ev->Option Bool:=fun ρ=>(p ρ).bind fun c=>some (!c)
def PBW (X:Cx) (e:Expr) (f:Ev->Option Bool):Prop:=PW X e (X5 X.K f)
structure QBW (X:Cx) (e:Expr) (f:Ev->Option Bool):Prop where
 run:PBW X e f
variable {p q:Ev->Option Bool} {rest:List Expr}
theorem uF (ha:QB X a p):QBW X (.BoolOp .And [a] pos) p:=⟨have ha:=ha.run;Xo ha⟩
theorem vK (ha:QB X a p):QBW X (.BoolOp .Or [a] pos) p:=⟨have ha:=ha.run;aaF ha⟩
theorem Yb {K:PySem.W.Frag} (σ:L2.St) (H:Hp) (Q:Bool->Hp->Prop) (h:X5 K (Im p q) σ H Q):acV (X5 K p) (X5 K q) σ H Q:=by
 obtain⟨H0,ρ,k,E,e,w⟩:=h
 obtain⟨c,ec,e⟩:=bind_some e
 refine⟨H0,ρ,c,E,ec,fun H1 s1=>?_⟩
 cases c with
 |true=>rw[zk rfl] at e ⊢;exact⟨H0,ρ,k,E.grow s1,e,fun H2 s2=>w H2 (s1.trans s2)⟩
 |false=>rw[zw Zp] at e ⊢;cases e;exact w H1 s1
theorem abh {K:PySem.W.Frag} (σ:L2.St) (H:Hp) (Q:Bool->Hp->Prop) (h:X5 K (Sg p q) σ H Q):tOr (X5 K p) (X5 K q) σ H Q:=by
 obtain⟨H0,ρ,k,E,e,w⟩:=h
 obtain⟨c,ec,e⟩:=bind_some e
 refine⟨H0,ρ,c,E,ec,fun H1 s1=>?_⟩
 cases c with
 |true=>rw[zk rfl] at e ⊢;cases e;exact w H1 s1
 |false=>rw[zw Zp] at e ⊢;exact⟨H0,ρ,k,E.grow s1,e,fun H2 s2=>w H2 (s1.trans s2)⟩
theorem xY (ha:QB X a p) (hb:QBW X (.BoolOp .And (b::rest) pos) q):QBW X (.BoolOp .And (a::b::rest) pos) (Im p q):=⟨have ha:=ha.run;have hb:=hb.run;pwM (aaG ha hb) Yb⟩
theorem wQ (ha:QB X a p) (hb:QBW X (.BoolOp .Or (b::rest) pos) q):QBW X (.BoolOp .Or (a::b::rest) pos) (Sg p q):=⟨have ha:=ha.run;have hb:=hb.run;pwM (acW ha hb) abh⟩
theorem Dc (h:QBW X e p):QB X e p:=⟨have h:=h.run;h.pt⟩
theorem Io (ha:QB X a p):QB X (.UnaryOp .Not a pos) (FT p):=⟨have ha:=ha.run;ptM (aaH ha) fun σ H Q h=>by
 obtain⟨H0,ρ,k,E,e,w⟩:=h
 obtain⟨c,ec,e⟩:=bind_some e
 cases e
 exact⟨H0,ρ,c,E,ec,fun H1 s1=>w H1 s1⟩⟩
def Yc (fa fb:Ev->Option Bx):Ev->Option Bx:=fun ρ=>((fa ρ).bind Ik).bind fun c=>if c=true then fb ρ else some (.z (.bl false))
def orV (fa fb:Ev->Option Bx):Ev->Option Bx:=fun ρ=>((fa ρ).bind Ik).bind fun c=>if c=true then some (.z (.bl true)) else fb ρ
theorem UW {op} (h:QV X a fa):QV X (.BoolOp op [a] pos) fa:=⟨have h:=h.run;aaI h⟩
theorem abj (ha:QV X a fa) (hb:QV X (.BoolOp .And (b::rest) pos) fb):QV X (.BoolOp .And (a::b::rest) pos) (Yc fa fb):=⟨have ha:=ha.run;have hb:=hb.run;Ij (aaJ ha hb) fun σ H Q h=>by
 obtain⟨H0,ρ,k,E,e,w⟩:=h
 obtain⟨c,ec,e⟩:=bind_some e
 obtain⟨x,ex,ec⟩:=bind_some ec
 refine⟨H0,ρ,x,E,ex,fun v H1 s1 n1 r1=>⟨c,CV r1 ec,?_⟩⟩
 cases c with
 |true=>rw[zk rfl] at e ⊢;exact⟨H0,ρ,k,E.grow s1,e,fun v H2 s2 n2 r2=>w v H2 (s1.trans s2) (n2.old s1) r2⟩
 |false=>rw[zw Zp] at e ⊢;cases e;exact w _ H1 s1 trivial (by simp only[bf,Rep])⟩
theorem adw (ha:QV X a fa) (hb:QV X (.BoolOp .Or (b::rest) pos) fb):QV X (.BoolOp .Or (a::b::rest) pos) (orV fa fb):=⟨have ha:=ha.run;have hb:=hb.run;Ij (acY ha hb) fun σ H Q h=>by
 obtain⟨H0,ρ,k,E,e,w⟩:=h
 obtain⟨c,ec,e⟩:=bind_some e
 obtain⟨x,ex,ec⟩:=bind_some ec
 refine⟨H0,ρ,x,E,ex,fun v H1 s1 n1 r1=>⟨c,CV r1 ec,?_⟩⟩
 cases c with
 |false=>rw[zw Zp] at e ⊢;exact⟨H0,ρ,k,E.grow s1,e,fun v H2 s2 n2 r2=>w v H2 (s1.trans s2) (n2.old s1) r2⟩
 |true=>rw[zk rfl] at e ⊢;cases e;exact w _ H1 s1 trivial (by simp only[bf,Rep])⟩
theorem Qp:PVs X [] (fun _=>some []):=paM sO fun σ H Q h=>by
 obtain⟨H0,ρ,bs,E,e,q⟩:=h
 cases e
 exact q [] H (Same.refl H) .nil
def ao (f:Ev->Option Bx) (fs:Ev->Option (List Bx)):Ev->Option (List Bx):=fun ρ=>(f ρ).bind fun b=>(fs ρ).bind fun bs=>some (b::bs)
theorem Ky (h1:PV X e f) (h2:PVs X es fs) (hs:starEach (e::es) X.env=(false,eval e X.env)::starEach es X.env:=by rfl):PVs X (e::es) (ao f fs):=paM (jC h1 h2 hs) fun σ H Q h=>by
 obtain⟨H0,ρ,bs,E,e,q⟩:=h
 obtain⟨b,eb,e⟩:=bind_some e
 obtain⟨bs',Sh,e⟩:=bind_some e
 cases e
 refine⟨H0,ρ,b,E,eb,fun v H1 s1 n1 r1=>⟨H0,ρ,bs',E.grow s1,Sh,fun vs H2 s2 r2=>?_⟩⟩
 exact q (v::vs) H2 (s1.trans s2) (.cons (r1.same s2) r2)
def ou:Bx->Option Bx
 |.z d=>some (.z d)
 |.o ds=>some (.z (.lst ds))
 |.l _=>none
 |.n _=>none
 |.m _ _=>none
theorem p7 {pins:List (Addr×Obj)} {σ:L2.St} {H:Hp} {s:Shared} {a:Addr} {vs:List V} (I:L2.Inv X pins σ H s) (h:H a=some (.lst vs)):∃ o,L2.Inv X pins σ (upd H a (.lG o (.lst vs))) s:=by
 obtain⟨z,its,n,r,e⟩:=I.hok a _ h
 refine⟨{ cls:=.type "list", data:=.seq its.toArray n },⟨I.ok,I.os,I.bare,⟨I.base.keep,I.base.slot,fun b ob q1 q2 q3=>?_,I.base.there,fun b xs q=>?_,fun b ob u q=>?_,fun b ps q=>?_⟩,I.loc,I.cell,?_,fun x c q=>?_,fun p hp=>?_,?_,I.len⟩⟩
 ·have:=I.base.free b ob q1 q2 q3
  rw[aF (dY h this).symm];exact this
 ·have:=I.base.tups b xs q
  rw[aF (o7 this h (by intro z;cases z))];exact this
 ·have:=I.base.uh b ob u q
  rw[aF (o7 this h (by intro z;cases z))];exact this
 ·obtain⟨m,this⟩:=I.base.wN b ps q
  rw[aF (o7 this h (by intro z;cases z))];exact⟨m,this⟩
 ·rw[aF (dY h I.free).symm];exact I.free
 ·rw[aF (dY h (I.o8 x c q)).symm];exact I.o8 x c q
 ·obtain⟨q1,q2,q3⟩:=I.pin p hp
  refine⟨q1,?_,q3⟩
  rw[aF (dY h q2).symm];exact q2
 ·intro b u q
  by_cases hb:b=a
  ·subst hb
   rw[aX] at q;cases q
   exact⟨e,z,its,n,r,e⟩
  ·rw[aF hb] at q
   refine (I.hok b u q).stay (fun c v _ w=>w) (fun c w=>?_) fun c xs w=>?_
   ·rw[aF (o7 w h (by intro z;cases z))];exact w
   ·rw[aF (o7 w h (by intro z;cases z))];exact w
theorem dB (h:QV X e f):QV X e (b1 ou f):=⟨by
 have h:=h.run
 intro pins s σ H Q I q
 obtain⟨H0,ρ,b,E,e,q⟩:=q
 obtain⟨x,ex,e⟩:=bind_some e
 cases x with
 |z d=>
  cases e
  exact h pins s σ H Q I ⟨H0,ρ,_,E,ex,fun v H' s' n' r'=>q v H' s' trivial r'⟩
 |l ds=>cases e
 |n ds=>cases e
 |m ds _=>cases e
 |o ds=>
  cases e
  refine mH (h pins s σ H (fun v H'=>Same H H'/\Nw H (.o ds) v/\bf X.K H' (.o ds) v) I ⟨H0,ρ,_,E,ex,fun v H' s' n' r'=>⟨s',n',r'⟩⟩) fun u s1 hq=>?_
  obtain⟨v,H1,I1,rv,s',n',r'⟩:=hq
  obtain⟨a,vs,rfl,ha,rs⟩:=r'
  obtain⟨o,I2⟩:=p7 I1 ha
  refine⟨.ref a,_,I2,rv,q _ _ (fun c ob hc=>?_) trivial ?_⟩
  ·rw[aF (dY hc (n' a rfl))];exact s' c ob hc
  ·simp only[bf,Rep]
   exact⟨a,vs,rfl,.inl ⟨o,aX⟩,rs.kp (.lst ha)⟩⟩
def Ip:List Bx->Option (List Dt)
 |[]=>some []
 |.z d::r=>(Ip r).bind fun ds=>some (d::ds)
 |_=>none
theorem Dd {K:PySem.W.Frag} {H:Hp}:∀ {bs:List Bx} {vs:List V} {ds:List Dt},o9 K H bs vs->Ip bs=some ds->aK K H ds vs
 |_,_,_,.nil,e=>by cases e;exact aK.nil
 |b::bs,_,_,.cons h t,e=>by
  cases b with
  |z d=>
   simp only[Ip] at e
   obtain⟨ds',e1,e2⟩:=bind_some e
   cases e2
   exact aK.cons h (Dd t e1)
  |_=>cases e
theorem Dg:∀ {bs:List Bx} {ds:List Dt},Ip bs=some ds->ds.length=bs.length
 |[],_,e=>by cases e;rfl
 |.z d::r,_,e=>by
  simp only[Ip] at e
  obtain⟨ds',e1,e2⟩:=bind_some e
  cases e2
  simp[Dg e1]
 |.l _::_,_,e=>by cases e
 |.o _::_,_,e=>by cases e
 |.n _::_,_,e=>by cases e
 |.m _ _::_,_,e=>by cases e
def jG (bs:List Bx):Option Bx:=if bs.length<=1000 then (Ip bs).bind fun ds=>some (.z (.tup ds)) else none
def lK (bs:List Bx):Option Bx:=if bs.length<=1000 then (Ip bs).bind fun ds=>some (.o ds) else none
theorem bU {H:Hp} {p:Addr} {o:HO} (h:H p=none):Same H (upd H p o):=fun b u e=>by rw[aF (dY e h)];exact e
theorem Z6 {n:Nat} (h:n<=1000):n<=sizeLine:=z4 h (by decide)
theorem gj {x1} (h:T6 X es fs):QV X (.Tuple es x1 pos) (bY jG fs):=⟨have h:=h.run;Ij (Ul h) fun σ H Q q=>by
 obtain⟨H0,ρ,c,E,e,q⟩:=q
 obtain⟨bs,Sh,e⟩:=bind_some e
 refine⟨H0,ρ,bs,E,Sh,fun vs H1 s1 r1=>?_⟩
 unfold jG at e
 split at e
 ·rename_i hl
  obtain⟨ds,e1,e⟩:=bind_some e
  cases e
  have r2:=Dd r1 e1
  refine⟨Z6 (by rw[r2.length,Dg e1];exact hl),fun p hp=>q _ _ (s1.trans (bU hp)) trivial ?_⟩
  simp only[bf,Rep]
  exact⟨p,vs,rfl,.inl (.inl aX),r2.kp (.of (bU hp))⟩
 ·cases e⟩
theorem dZ (h:T6 X es fs):QV X (.List es pos) (bY lK fs):=⟨have h:=h.run;Ij (aa2 h) fun σ H Q q=>by
 obtain⟨H0,ρ,c,E,e,q⟩:=q
 obtain⟨bs,Sh,e⟩:=bind_some e
 refine⟨H0,ρ,bs,E,Sh,fun vs H1 s1 r1=>?_⟩
 unfold lK at e
 split at e
 ·rename_i hl
  obtain⟨ds,e1,e⟩:=bind_some e
  cases e
  have r2:=Dd r1 e1
  refine⟨Z6 (by rw[r2.length,Dg e1];exact hl),fun p hp=>q _ _ (s1.trans (bU hp)) (fun a ea=>by cases ea;exact s1.free hp) ?_⟩
  exact⟨p,vs,rfl,aX,r2.kp (.of (bU hp))⟩
 ·cases e⟩
theorem bG {x:Str} {id:String} {g:List Bx->Option Bx} {p:Pos} (hc:pq X (.builtin id) g) (hg:Gl X x) (hm:X.mg x=none) (hv:bootBuiltins x=some (.builtin id)) (ha:T6 X (e::es) fs) (hn:x ≠ "__name__" := by decide) (hdb:(x==("__debug__" : Str))=false:=by decide) (he:starEach (e::es) X.env=(false,eval e X.env)::starEach es X.env:=by rfl) (hpl:(backTo pos (starEach es X.env)).any (·.1)=false:=by rfl):QV X (.Call (.Name x p) (e::es) [] pos) (bY g fs):=⟨have ha:=ha.run;Ij (xT hc hg hm hv ha hn hdb he hpl) convs⟩
theorem iy {x:Str} {T:String} {g:List Bx->Option Bx} {p:Pos} (hc:pq X (.type T) g) (hg:Gl X x) (hm:X.mg x=none) (hv:bootBuiltins x=some (.type T)) (ha:T6 X (e::es) fs) (hn:x ≠ "__name__" := by decide) (hdb:(x==("__debug__" : Str))=false:=by decide) (he:starEach (e::es) X.env=(false,eval e X.env)::starEach es X.env:=by rfl) (hpl:(backTo pos (starEach es X.env)).any (·.1)=false:=by rfl):QV X (.Call (.Name x p) (e::es) [] pos) (bY g fs):=⟨have ha:=ha.run;Ij (GX hc hg hm hv ha hn hdb he hpl) convs⟩
end
inductive Out where
 |nx (ρ:Ev)|rt (b:Bx)|bk (ρ:Ev)|ct (ρ:Ev)
def U0 (K:PySem.W.Frag) (H0:Hp) (D:Ends):Out->Prop
 |.nx ρ=>∀ σ H,bJ K H0 H σ ρ->D.nx σ H
 |.rt b=>∀ v H,Same H0 H->Nw H0 b v->bf K H b v->D.rt v H
 |.bk ρ=>∀ σ H,bJ K H0 H σ ρ->D.bk σ H
 |.ct ρ=>∀ σ H,bJ K H0 H σ ρ->D.ct σ H
def tG (K:PySem.W.Frag) (g:Ev->Option Out):TS:=fun D σ H=>∃ H0 ρ r,bJ K H0 H σ ρ/\g ρ=some r/\U0 K H0 D r
def PG1 (X:Cx) (st:Stmt) (g:Ev->Option Out):Prop:=PS X st (tG X.K g)
structure Qq (X:Cx) (st:Stmt) (g:Ev->Option Out):Prop where
 run:PG1 X st g
def RN (X:Cx) (st:List Stmt) (g:Ev->Option Out):Prop:=J7 X st (tG X.K g)
structure Qs (X:Cx) (st:List Stmt) (g:Ev->Option Out):Prop where
 run:RN X st g
def aD (g1 g2:Ev->Option Out):Ev->Option Out:=fun ρ=>(g1 ρ).bind fun r=>match r with
 |.nx ρ'=>g2 ρ'
 |r=>some r
section
variable {X:Cx} {a b c e:Expr} {es:List Expr} {fa fb fc f:Ev->Option Bx} {fs:Ev->Option (List Bx)} {pos:Pos} {st:Stmt} {rest:List Stmt} {g g1 g2:Ev->Option Out}
theorem aU  : Qs X [] (fun ρ=>some (.nx ρ)):=⟨Nz xQ fun D σ H h=>by
 obtain⟨H0,ρ,r,E,e,q⟩:=h
 cases e
 exact q σ H E⟩
theorem aA (h1:Qq X st g1) (h2:Qs X rest g2):Qs X (st::rest) (aD g1 g2):=⟨have h1:=h1.run;have h2:=h2.run;Nz (jJ h1 h2) fun D σ H h=>by
 obtain⟨H0,ρ,r,E,e,q⟩:=h
 obtain⟨r1,e1,e⟩:=bind_some e
 refine⟨H0,ρ,r1,E,e1,?_⟩
 cases r1 with
 |nx ρ'=>exact fun σ' H' E'=>⟨H0,ρ',r,E',e,q⟩
 |rt b=>cases e;exact q
 |bk ρ'=>cases e;exact q
 |ct ρ'=>cases e;exact q⟩
def U3:Bx->Option Out
 |.l _=>none
 |.n _=>none
 |b=>some (.rt b)
theorem jA (h:QV X e f):Qq X (.Return (some e) pos) (fun ρ=>(f ρ).bind U3):=⟨have h:=h.run;UG (CG h) fun D σ H h=>by
 obtain⟨H0,ρ,r,E,e,q⟩:=h
 obtain⟨b,eb,e⟩:=bind_some e
 refine⟨H0,ρ,b,E,eb,fun v H1 s1 n1 r1=>?_⟩
 cases b with
 |l ds=>cases e
 |z d=>cases e;exact q v H1 (E.base.trans s1) trivial r1
 |o ds=>cases e;exact q v H1 (E.base.trans s1) (n1.old E.base) r1
 |n ds=>cases e
 |m ds _=>cases e;exact q v H1 (E.base.trans s1) (n1.old E.base) r1⟩
def Ir (i:Nat) (ρ:Ev):Option Out:=match ρ[i]? with
 |some (some b)=>U3 b
 |_=>none
theorem Qt (i:Nat) {x:Str} {p:Pos} (hN:X.N[i]?=some x:=by rfl) (hv:T5 X.env.scope x:=by first|exact JP rfl|exact QR (JP rfl)|exact QR (QR rfl)) (hd:(x==("__debug__" : Str))=false:=by decide) (hcd:(x==("__classdict__" : Str))=false:=by decide):Qq X (.Return (some (.Name x p)) pos) (Ir i):=⟨UG (CG (oF hN hv hd hcd)) fun D σ H h=>by
 obtain⟨H0,ρ,r,E,e,q⟩:=h
 unfold Ir at e
 split at e
 ·rename_i b hb
  obtain⟨v,e1,r1⟩:=E.val i b hb
  refine⟨v,e1,?_⟩
  cases b with
  |l ds=>cases e
  |z d=>cases e;exact q v H E.base trivial r1
  |o ds=>cases e;exact q v H E.base (fun a ea=>E.new i _ a hb rfl (by rw[e1,ea])) r1
  |n ds=>cases e
  |m ds _=>cases e;exact q v H E.base (fun a ea=>E.new i _ a hb rfl (by rw[e1,ea])) r1
 ·cases e⟩
def wR (p:Ev->Option Bool) (g1 g2:Ev->Option Out):Ev->Option Out:=fun ρ=>(p ρ).bind fun k=>if k=true then g1 ρ else g2 ρ
theorem nY {p:Ev->Option Bool} {u v:List Stmt} (hc:QB X c p) (ha:Qs X u g1) (hb:Qs X v g2):Qq X (.If c u v pos) (wR p g1 g2):=⟨have hc:=hc.run;have ha:=ha.run;have hb:=hb.run;UG (ZS hc ha hb) fun D σ H h=>by
 obtain⟨H0,ρ,r,E,e,q⟩:=h
 obtain⟨k,ek,e⟩:=bind_some e
 refine⟨H0,ρ,k,E,ek,fun H1 s1=>?_⟩
 cases k with
 |true=>rw[zk rfl] at e ⊢;exact⟨H0,ρ,r,E.grow s1,e,q⟩
 |false=>rw[zw Zp] at e ⊢;exact⟨H0,ρ,r,E.grow s1,e,q⟩⟩
theorem getset {α:Type} {l:List α} {i j:Nat} {x y:α} (h:(l.set i x)[j]?=some y):(j=i/\y=x/\i < l.length)\/(j≠i/\l[j]?=some y):=by
 rw[KG] at h
 by_cases e:i=j
 ·subst e
  rw[zk rfl] at h
  split at h
  ·cases h;exact .inl ⟨rfl,rfl,by assumption⟩
  ·cases h
 ·rw[zw e] at h
  exact .inr ⟨fun z=>e z.symm,h⟩
theorem Dh {α:Type} {l:List α} {i:Nat} (x:α) (h:i < l.length):(l.set i x)[i]?=some x:=by
 rw[KG,zk rfl,zk h]
theorem Di {α:Type} {l:List α} {i j:Nat} (x:α) (h:j≠i):(l.set i x)[j]?=l[j]?:=by
 rw[KG,zw (Kb h)]
theorem bJ.set {K:PySem.W.Frag} {H0 H H1:Hp} {σ:L2.St} {ρ:Ev} {i:Nat} {b:Bx} {v:V} (E:bJ K H0 H σ ρ) (s:Same H H1) (r:bf K H1 b v) (hl:uo b=true\/loose b=false) (n:Nw H b v):bJ K H0 H1 (σ.set i (some v)) (ρ.set i (some b)):=by
 have E1:=E.grow s
 have apart:∀ (j:Nat) (b':Bx) (a:Addr),ρ[j]?=some (some b')->loose b'=true->σ[j]?=some (some (.ref a))->H a≠none:=fun j b' a e1 e2 e3 z=>by
  obtain⟨v',e4,r'⟩:=E.val j b' e1
  rw[e3] at e4;cases e4
  cases b' with
  |z d=>cases e2
  |l ds=>
   obtain⟨a',vs,e5,q,_⟩:=r'
   cases e5
   rcases q with q|⟨o,q⟩<;>(rw[z] at q;cases q)
  |o ds=>
   obtain⟨a',vs,e5,q,_⟩:=r'
   cases e5
   rw[z] at q;cases q
  |n ds=>
   obtain⟨a',vs,e5,q,_⟩:=r'
   cases e5
   rcases q with q|⟨o,q⟩<;>(rw[z] at q;cases q)
  |m ds _=>
   obtain⟨a',vs,e5,q,_⟩:=r'
   cases e5
   rw[z] at q;cases q
 have nw:uo b=true->∀ a,v=.ref a->H a=none:=fun ho=>by
  cases b with
  |o ds=>exact n
  |m ds _=>exact n
  |_=>cases ho
 refine⟨by rw[j3,j3];exact E.len,fun j b' e=>?_,fun j k c a b' e1 ec e2 e3 e4 e5=>?_,E1.base,fun j c a e1 ec e2=>?_⟩
 ·rcases getset e with⟨rfl,e',hi⟩|⟨hne,e'⟩
  ·cases e'
   exact⟨v,Dh _ (by rw[E.len];exact hi),r⟩
  ·rw[Di _ hne]
   exact E1.val j b' e'
 ·rcases getset e1 with⟨rfl,e',hi⟩|⟨hne,e'⟩
  ·cases e'
   rw[Dh _ (by rw[E.len];exact hi)] at e2
   cases e2
   rcases getset e3 with⟨rfl,e3',_⟩|⟨Yd,e3'⟩
   ·rfl
   ·rw[Di _ Yd] at e5
    exact absurd (nw ec a rfl) (apart k b' a e3' e4 e5)
  ·rw[Di _ hne] at e2
   rcases getset e3 with⟨rfl,e3',hi⟩|⟨Yd,e3'⟩
   ·cases e3'
    rw[Dh _ (by rw[E.len];exact hi)] at e5
    cases e5
    have hlo:loose c=true:=by cases c<;>first|rfl|cases ec
    rcases hl with hl|hl
    ·exact absurd (nw hl a rfl) (apart j _ a e' hlo e2)
    ·rw[hl] at e4;cases e4
   ·rw[Di _ Yd] at e5
    exact E.own j k c a b' e' ec e2 e3' e4 e5
 ·rcases getset e1 with⟨rfl,e',hi⟩|⟨hne,e'⟩
  ·cases e'
   rw[Dh _ (by rw[E.len];exact hi)] at e2
   cases e2
   exact E.base.free (nw ec a rfl)
  ·rw[Di _ hne] at e2
   exact E.new j c a e' ec e2
def U4 (ρ:Ev) (i:Nat):Bx->Option Ev
 |.l _=>none
 |.n _=>none
 |b=>some (ρ.set i (some b))
theorem Qu {K:PySem.W.Frag} {H0 H H1:Hp} {σ:L2.St} {ρ ρ':Ev} {i:Nat} {b:Bx} {v:V} (E:bJ K H0 H σ ρ) (s:Same H H1) (r:bf K H1 b v) (n:Nw H b v) (e:U4 ρ i b=some ρ'):bJ K H0 H1 (σ.set i (some v)) ρ':=by
 cases b with
 |l ds=>cases e
 |z d=>cases e;exact E.set s r (.inr rfl) n
 |o d=>cases e;exact E.set s r (.inl rfl) n
 |n ds=>cases e
 |m d _=>cases e;exact E.set s r (.inl rfl) n
theorem bA (i:Nat) {x:Str} {p:Pos} (hN:X.N.Nodup) (he:QV X e f) (hi:X.N[i]?=some x:=by rfl) (hx:Loc X.env.scope x:=by first|exact JP rfl|exact QR rfl) (hs:swapsWith e (some (.Name x p)) pos.line X.env=pure false:=by rfl) (hf:X.fn x=true\/X.env.scope.names.lookup x=some .local:=by first|exact .inl rfl|exact .inr rfl):Qq X (.Assign [.Name x p] e pos) (fun ρ=>(f ρ).bind fun b=>(U4 ρ i b).bind fun ρ'=>some (.nx ρ')):=⟨have he:=he.run;UG (Ni hN hi hx he hs hf) fun D σ H h=>by
 obtain⟨H0,ρ,r,E,e,q⟩:=h
 obtain⟨b,eb,e⟩:=bind_some e
 obtain⟨ρ',eρ,e⟩:=bind_some e
 cases e
 exact⟨H0,ρ,b,E,eb,fun v H1 s1 n1 r1=>q _ _ (Qu E s1 r1 n1 eρ)⟩⟩
def Lo (σ:L2.St) (ρ:Ev) (σ':L2.St) (ρ':Ev):Prop:=∀ (j:Nat) b,loose b=true->ρ'[j]?=some (some b)->ρ[j]?=some (some b)/\σ'[j]?=σ[j]?
theorem Lo.refl {σ:L2.St} {ρ:Ev}:Lo σ ρ σ ρ:=fun _ _ _ e=>⟨e,rfl⟩
theorem Lo.trans {σ σ1 σ2:L2.St} {ρ ρ1 ρ2:Ev} (a:Lo σ ρ σ1 ρ1) (b:Lo σ1 ρ1 σ2 ρ2):Lo σ ρ σ2 ρ2:=fun j c l e=>by
 obtain⟨e1,e2⟩:=b j c l e
 obtain⟨e3,e4⟩:=a j c l e1
 exact⟨e3,e2.trans e4⟩
theorem Lo.set {σ:L2.St} {ρ:Ev} (i:Nat) (v:V) (d:Dt):Lo σ ρ (σ.set i (some v)) (ρ.set i (some (.z d))):=fun j b l e=>by
 rcases getset e with⟨rfl,e',_⟩|⟨hne,e'⟩
 ·cases e';cases l
 ·exact⟨e',Di _ hne⟩
def tgF (K:PySem.W.Frag) (g:Dt->Ev->Option Ev):TG:=fun v σ H Q=>∃ H0 ρ d ρ',bJ K H0 H σ ρ/\Rep K H d v/\g d ρ=some ρ'/\∀ σ',bJ K H0 H σ' ρ'->Lo σ ρ σ' ρ'->Q σ' H
def PTg (X:Cx) (t:Expr) (g:Dt->Ev->Option Ev):Prop:=PG X t (tgF X.K g)
structure Xf (X:Cx) (t:Expr) (g:Dt->Ev->Option Ev):Prop where
 run:PTg X t g
theorem aO (i:Nat) {x:Str} (hN:X.N.Nodup) (hi:X.N[i]?=some x:=by rfl) (hx:Loc X.env.scope x:=by first|exact JP rfl|exact QR rfl) (hf:X.fn x=true\/X.env.scope.names.lookup x=some .local:=by first|exact .inl rfl|exact .inr rfl):Xf X (.Name x pos) (fun d ρ=>some (ρ.set i (some (.z d)))):=⟨fun pins s σ H v u Q I r h=>by
 obtain⟨H0,ρ,d,ρ',E,rd,e,q⟩:=h
 cases e
 exact Qg hN hi hx hf pins s σ H v u Q I r (q _ (E.set (b:=.z d) (Same.refl H) rd (.inr rfl) trivial) (Lo.set i v d))⟩
def afC (K:PySem.W.Frag) (g:List Dt->Ev->Option Ev):ZV:=fun vs σ H Q=>∃ H0 ρ ds ρ',bJ K H0 H σ ρ/\aK K H ds vs/\g ds ρ=some ρ'/\∀ σ',bJ K H0 H σ' ρ'->Lo σ ρ σ' ρ'->Q σ' H
def afD (X:Cx) (t:List Expr) (g:List Dt->Ev->Option Ev):Prop:=L2.RN X t (afC X.K g)
structure Ye (X:Cx) (t:List Expr) (g:List Dt->Ev->Option Ev):Prop where
 run:afD X t g
def rR:List Dt->Ev->Option Ev
 |[],ρ=>some ρ
 |_,_=>none
def bV (g:Dt->Ev->Option Ev) (gs:List Dt->Ev->Option Ev):List Dt->Ev->Option Ev
 |d::ds,ρ=>(g d ρ).bind (gs ds)
 |_,_=>none
theorem mX  : Ye X [] rR:=⟨fun pins s σ H vs us Q I r h=>by
 obtain⟨H0,ρ,ds,ρ',E,rd,e,q⟩:=h
 cases ds with
 |nil=>cases e;unfold aK at rd;exact Xp pins s σ H vs us Q I r ⟨rd,q _ E Lo.refl⟩
 |cons d ds=>cases e⟩
theorem bB {t:Expr} {ts:List Expr} {gt:Dt->Ev->Option Ev} {gs:List Dt->Ev->Option Ev} (h1:Xf X t gt) (h2:Ye X ts gs) (hs:(assignEach (t::ts) X.env).map (·.2)=assign t X.env::(assignEach ts X.env).map (·.2):=by rfl):Ye X (t::ts) (bV gt gs):=⟨have h1:=h1.run;have h2:=h2.run;fun pins s σ H vs us Q I r h=>by
 obtain⟨H0,ρ,ds,ρ',E,rd,e,q⟩:=h
 cases ds with
 |nil=>cases e
 |cons d ds=>
  unfold aK at rd
  obtain⟨v,vr,rfl,r1,r2⟩:=rd
  simp only[bV] at e
  obtain⟨ρ1,e1,e⟩:=bind_some e
  exact Ud h1 h2 hs pins s σ H _ us Q I r ⟨v,vr,rfl,H0,ρ,d,ρ1,E,r1,e1,fun σ1 E1 L1=>⟨H0,ρ1,ds,ρ',E1,r2,e,fun σ2 E2 L2=>q σ2 E2 (L1.trans L2)⟩⟩⟩
def p8 (n:Nat) (gs:List Dt->Ev->Option Ev):Dt->Ev->Option Ev
 |.tup ds,ρ=>if ds.length=n then gs ds ρ else none
 |_,_=>none
theorem qb {ts:List Expr} {k n:Nat} {gs:List Dt->Ev->Option Ev} (hc:X.calm=true) (h:Ye X ts gs) (hn:(assignEach ts X.env).length=n:=by rfl) (hst:(assignEach ts X.env).findIdx? (·.1)=none:=by rfl):Xf X (.Tuple ts k pos) (p8 n gs):=⟨have h:=h.run;fun pins s σ H v u Q I r hw=>by
 obtain⟨H0,ρ,d,ρ',E,rd,e,q⟩:=hw
 cases d with
 |tup ds=>
  simp only[p8] at e
  split at e
  ·rename_i hl
   unfold Rep at rd
   obtain⟨a,vs,rfl,hq,rs⟩:=rd
   exact aaL hc h hn hst pins s σ H _ u Q I r ⟨a,vs,rfl,hq,by rw[rs.length];exact hl,H0,ρ,ds,ρ',E,rs,e,q⟩
  ·cases e
 |_=>cases e⟩
theorem Dj {tg:Expr} {gt:Dt->Ev->Option Ev} (he:QV X e f) (hg:Xf X tg gt) (hs:swapsWithSole [tg] e pos.line X.env=pure false:=by rfl) (hw:swappedStores [tg] e X.env=pure none:=by rfl) (h1:(assignEach [tg] X.env).map (·.2)=[assign tg X.env]:=by rfl):Qq X (.Assign [tg] e pos) (fun ρ=>(f ρ).bind fun b=>match b with|.z d=>(gt d ρ).bind fun ρ'=>some (.nx ρ')|_=>none):=⟨have he:=he.run;have hg:=hg.run;UG (aaM he hg hs hw h1) fun D σ H h=>by
 obtain⟨H0,ρ,r,E,e,q⟩:=h
 obtain⟨b,eb,e⟩:=bind_some e
 refine⟨H0,ρ,b,E,eb,fun v H1 s1 n1 r1=>?_⟩
 cases b with
 |z d=>
  obtain⟨ρ',eρ,e⟩:=bind_some e
  cases e
  exact⟨H0,ρ,d,ρ',E.grow s1,r1,eρ,fun σ' E' _=>q _ _ E'⟩
 |_=>cases e⟩
def Yg (i j:Nat) (ρ:Ev):List Bx->Option Out
 |[.z d,.z d']=>some (.nx ((ρ.set i (some (.z d))).set j (some (.z d'))))
 |_=>none
theorem NK (i j:Nat) {x y:Str} {px py pt:Pos} {kt k2 pt2} (hc:X.calm=true) (hN:X.N.Nodup) (ha:T6 X [a,b] fs) (hi:X.N[i]?=some x:=by rfl) (hj:X.N[j]?=some y:=by rfl) (hij:i≠j:=by decide) (hx:X.env.scope.names.lookup x=some .local:=by rfl) (hy:X.env.scope.names.lookup y=some .local:=by rfl) (hw:swappedStores [.Tuple [.Name x px,.Name y py] kt pt] (.Tuple [a,b] k2 pt2) X.env=pure (some [x,y]):=by rfl) (hs:swapsWithSole [.Tuple [.Name x px,.Name y py] kt pt] (.Tuple [a,b] k2 pt2) pos.line X.env=pure false:=by rfl):Qq X (.Assign [.Tuple [.Name x px,.Name y py] kt pt] (.Tuple [a,b] k2 pt2) pos) (fun ρ=>(fs ρ).bind (Yg i j ρ)):=⟨have ha:=ha.run;UG (aaN hc hN hi hj hij hx hy ha hw hs) fun D σ H h=>by
 obtain⟨H0,ρ,r,E,e,q⟩:=h
 obtain⟨bs,eb,e⟩:=bind_some e
 refine⟨H0,ρ,bs,E,eb,fun vs H1 s1 r1=>?_⟩
 unfold Yg at e
 split at e
 ·rename_i d d'
  cases e
  cases r1 with
  |cons p t=>
   cases t with
   |cons p' t'=>
    cases t'
    refine⟨_,_,rfl,q _ _ ?_⟩
    exact ((E.grow s1).set (b:=.z d) (Same.refl H1) p (.inr rfl) trivial).set (b:=.z d') (Same.refl H1) p' (.inr rfl) trivial
 ·cases e⟩
def U5 (ρ:Ev) (i:Nat):Bx->Option Out
 |.z d=>match ρ[i]? with
  |some (some (.o ds))=>if ds.length < sizeLine then some (.nx (ρ.set i (some (.o (ds++[d]))))) else none
  |_=>none
 |_=>none
theorem bJ.U6 {K:PySem.W.Frag} {H0 H:Hp} {σ:L2.St} {ρ:Ev} {i:Nat} {c0 c1:Bx} {a:Addr} {u:HO} (E:bJ K H0 H σ ρ) (h:ρ[i]?=some (some c0)) (ho:uo c0=true) (hs:σ[i]?=some (some (.ref a))) (k:Kp H (upd H a u)) (r:bf K (upd H a u) c1 (.ref a)) :
  bJ K H0 (upd H a u) σ (ρ.set i (some c1)):=by
 have hi:i < ρ.length:=(List.getElem?_eq_some_iff.mp h).1
 have hb:H0 a=none:=E.new i c0 a h ho hs
 have lo:∀ c,uo c=true->loose c=true:=fun c hc=>by cases c<;>first|rfl|cases hc
 refine⟨by rw[j3];exact E.len,fun j b' e=>?_,fun j k' c a' b' e1 ec e2 e3 e4 e5=>?_,fun c o e=>?_,fun j c a' e1 ec e2=>?_⟩
 ·rcases getset e with⟨rfl,e',_⟩|⟨hne,e'⟩
  ·cases e'
   exact⟨_,hs,r⟩
  ·obtain⟨v,e1,r'⟩:=E.val j b' e'
   refine⟨v,e1,?_⟩
   have away:∀ a',v=.ref a'->loose b'=true->a'≠a:=fun a' ev hl z=>by
    subst z
    exact hne (E.own i j c0 _ _ h ho hs e' hl (by rw[e1,ev])).symm
   cases b' with
   |z d=>exact Rep.kp k r'
   |l ds'=>
    obtain⟨a',vs',rfl,q,rr⟩:=r'
    refine⟨a',vs',rfl,?_,rr.kp k⟩
    have hn:=away a' rfl rfl
    rcases q with q|⟨o,q⟩
    ·exact .inl (by rw[aF hn];exact q)
    ·exact .inr ⟨o,by rw[aF hn];exact q⟩
   |o ds'=>
    obtain⟨a',vs',rfl,q,rr⟩:=r'
    have hn:=away a' rfl rfl
    exact⟨a',vs',rfl,by rw[aF hn];exact q,rr.kp k⟩
   |n ds'=>
    obtain⟨a',vs',rfl,q,rr⟩:=r'
    refine⟨a',vs',rfl,?_,rr.kp k⟩
    have hn:=away a' rfl rfl
    rcases q with q|⟨o,q⟩
    ·exact .inl (by rw[aF hn];exact q)
    ·exact .inr ⟨o,by rw[aF hn];exact q⟩
   |m ds'=>
    obtain⟨a',vs',rfl,q,rr⟩:=r'
    have hn:=away a' rfl rfl
    exact⟨a',vs',rfl,by rw[aF hn];exact q,rr.1.kp k,rr.2⟩
 ·have back:∀ (m:Nat) (b:Bx),(ρ.set i (some c1))[m]?=some (some b)->loose b=true->∃ b0,ρ[m]?=some (some b0)/\loose b0=true/\(uo b=true->uo b0=true):=fun m b e l=>by
   rcases getset e with⟨rfl,e',_⟩|⟨hne,e'⟩
   ·exact⟨_,h,lo _ ho,fun _=>ho⟩
   ·exact⟨b,e',l,fun z=>z⟩
  obtain⟨b0,q1,q2,q3⟩:=back j _ e1 (lo _ ec)
  obtain⟨b1,q4,q5,_⟩:=back k' _ e3 e4
  exact E.own j k' b0 a' b1 q1 (q3 ec) e2 q4 q5 e5
 ·rw[aF (dY e hb)];exact E.base c o e
 ·rcases getset e1 with⟨rfl,e',_⟩|⟨hne,e'⟩
  ·exact E.new _ c0 a' h ho e2
  ·exact E.new j c a' e' ec e2
theorem bJ.XQ {K:PySem.W.Frag} {H0 H:Hp} {σ:L2.St} {ρ:Ev} {i:Nat} {ds es:List Dt} {a:Addr} {vs us:List V} (E:bJ K H0 H σ ρ) (h:ρ[i]?=some (some (.o ds))) (hs:σ[i]?=some (some (.ref a))) (ha:H a=some (.lst vs)) (r:aK K H es us) :
  bJ K H0 (upd H a (.lst us)) σ (ρ.set i (some (.o es))):=E.U6 h rfl hs (.lst ha) ⟨a,us,rfl,aX,r.kp (.lst ha)⟩
theorem oG (i:Nat) {x:Str} {p apos cpos:Pos} (he:QV X e f) (hN:X.N[i]?=some x:=by rfl) (hv:T5 X.env.scope x:=by first|exact JP rfl|exact QR (JP rfl)|exact QR (QR rfl)) (hd:(x==("__debug__" : Str))=false:=by decide) (hcd:(x==("__classdict__" : Str))=false:=by decide) (hst:starEach [e] X.env=[(false,eval e X.env)]:=by rfl) (hbase:attributeBase (.Name x p) "append" X.env (eval (.Name x p) X.env)=eval (.Name x p) X.env:=by rfl) (hfew:((backTo cpos (starEach [e] X.env)).all (fun x=>!x.1)&&(backToKw cpos (keywordEach [] X.env)).all (fun x=>x.1.isSome)&&decide ([e].length+([]:List Keyword).length+(if ([]:List Keyword).isEmpty then 0 else 1) < 30))=true:=by rfl) (hline:(apos.endLine==cpos.line)=true:=by rfl) (hs:swapsWith (.Call (.Attribute (.Name x p) "append" apos) [e] [] cpos) none pos.line X.env=pure false:=by rfl):Qq X (.Expr (.Call (.Attribute (.Name x p) "append" apos) [e] [] cpos) pos) (fun ρ=>(f ρ).bind (U5 ρ i)):=⟨have he:=he.run;UG (xR (Qn kB KP KO vJ (oF (i:=i) hN hv hd hcd) (jC he sO (by rw[hst]<;>rfl)) hbase hfew hline (by rw[hst]<;>rfl) rfl) hs) fun D σ H h=>by
  obtain⟨H0,ρ,r,E,e,q⟩:=h
  obtain⟨b,eb,e⟩:=bind_some e
  cases b with
  |z d=>
   simp only[U5] at e
   split at e
   ·rename_i ds hρ
    split at e
    ·rename_i hl
     cases e
     obtain⟨v,e1,a,vs,rfl,ha,rs⟩:=E.val i _ hρ
     refine⟨_,e1,.inl ⟨rfl,vs,.inl (.inl ha)⟩,H0,ρ,_,E,eb,fun u H1 s1 n1 r1=>?_⟩
     have E1:=E.grow s1
     refine⟨a,vs,u,rfl,rfl,s1 _ _ ha,by rw[rs.length];exact hl,q _ _ ?_⟩
     exact E1.XQ hρ e1 (s1 _ _ ha) ((rs.kp (.of s1)).append (aK.cons r1 aK.nil))
    ·cases e
   ·cases e
  |_=>cases e⟩
end
def Its (x:Str):It:=⟨fun i _=>i < x.cps.size,fun i H v H'=>H'=H/\∃ c,x.cps[i]?=some c/\v=.str ⟨#[c]⟩,fun i _=>x.cps.size<=i⟩
def afE (h:Heap) (it:Addr) (x:Str) (i:Nat):Prop:=∃ t,h.IsStrIter it "str_ascii_iterator" x t i\/h.IsStrIter it "str_iterator" x t i
theorem Kz {P:Program} {w:World} {K:PySem.W.Frag} {tg:Expr} (it:Addr) (x:Str):Turn P w K tg (Its x) [it] it (fun i h=>afE h it x i) where
 mem:=by simp
 obj:=fun i h st b hb=>by
  have e:b=it:=by simpa using hb
  subst e
  obtain⟨t,⟨o,e,c,d⟩|⟨o,e,c,d⟩⟩:=st
  ·exact⟨o,e,fun v z=>by rw[d] at z;cases z⟩
  ·exact⟨o,e,fun v z=>by rw[d] at z;cases z⟩
 keep:=fun i h h' st k=>by
  obtain⟨t,⟨o,e,c⟩|⟨o,e,c⟩⟩:=st
  ·exact⟨t,.inl ⟨o,k it (by simp) o e,c⟩⟩
  ·exact⟨t,.inr ⟨o,k it (by simp) o e,c⟩⟩
 item:=by
  intro X hP hw hK hc i pins s σ H E I hf st hg
  subst hP hw hK
  obtain⟨f0,f1,f2,f3,f4,f5⟩:=hf it (by simp)
  have hi:i < x.cps.size:=hg
  have hx:x.cps[i]?=some x.cps[i]:=by simp[hi]
  obtain⟨t,st|st⟩:=st
  ·refine wpAny_pyNext_ascii_item st hx fun h' st' sb=>?_
   have I1:L2.Inv X pins σ H { s with heap:=h',toks:=s.toks+1 }:=I.turned (fun b o hb e=>(sb.2 b hb).trans e) f0 f1 f3 f4 f5
   obtain⟨o,e,c,d⟩:=id st'
   exact⟨_,rfl,GJ (s:={ s with heap:=h',toks:=s.toks+1 }) e c d (by decide) ⟨.str ⟨#[x.cps[i]]⟩,H,I1,⟨_,rfl⟩,⟨rfl,_,hx,rfl⟩,⟨t,.inl st'⟩,fun b hb=>(hf b hb).1⟩⟩
  ·refine wpAny_pyNext_wide_item st hx fun h' st' sb=>?_
   have I1:L2.Inv X pins σ H { s with heap:=h',toks:=s.toks+1 }:=I.turned (fun b o hb e=>(sb.2 b hb).trans e) f0 f1 f3 f4 f5
   obtain⟨o,e,c,d⟩:=id st'
   exact⟨_,rfl,GJ (s:={ s with heap:=h',toks:=s.toks+1 }) e c d (by decide) ⟨.str ⟨#[x.cps[i]]⟩,H,I1,⟨_,rfl⟩,⟨rfl,_,hx,rfl⟩,⟨t,.inr st'⟩,fun b hb=>(hf b hb).1⟩⟩
 done:=by
  intro X hP hw hK hc i pins s σ H E I hf st hg
  subst hP hw hK
  obtain⟨f0,f1,f2,f3,f4,f5⟩:=hf it (by simp)
  have hx:x.cps[i]?=none:=by have:x.cps.size<=i:=hg;simp[this]
  obtain⟨t,st|st⟩:=st
  ·exact wpAny_pyNext_ascii_end (I.ok.hd hc) st hx fun h' eb=>⟨rfl,I.turned (t':=s.toks) (fun b o hb e=>eb b o hb e) f0 f1 f3 f4 f5⟩
  ·exact wpAny_pyNext_wide_end (I.ok.hd hc) st hx fun h' eb=>⟨rfl,I.turned (t':=s.toks) (fun b o hb e=>eb b o hb e) f0 f1 f3 f4 f5⟩
 self:=fun _ _ _ _ _ st h=>by
  obtain⟨t,st|st⟩:=st
  ·exact wpAny_pyIter_striter_ascii st h
  ·exact wpAny_pyIter_striter_wide st h
section
variable {X:Cx} {tg:Expr}
def afF (K:PySem.W.Frag) (tl:TE):TI:=fun σ H R=>tl σ H fun x H1=>(∃ a,x=.ref a/\(∃ xs,um K H1 a xs)/\R (Itl K a) H1)\/(∃ a,x=.ref a/\(∃ xs,xM K H1 a xs)/\R (Itt K a) H1)\/∃ y,x=.str y/\R (Its y) H1
theorem NP {l:Expr} {tl:TE} (hl:PE X l tl):PI X tg l (afF X.K tl):=by
 intro pins s σ H R I h
 refine mH (hl pins s σ H _ I h) fun v s1 ⟨x,H1,I1,r1,q1⟩=>?_
 have fp1:∀ (o:Obj) (b:Addr),b∈[s1.heap.objs.size]->uz X pins H1 b:=fun o b hb=>by
  have e:b=s1.heap.objs.size:=by simpa using hb
  subst e
  exact I1.RQ (zg _) (I1.hok.fresh (zg _))
 rcases q1 with⟨a,e,⟨xs,hq⟩,q⟩|⟨a,e,⟨xs,hq⟩,q⟩|⟨y,e,q⟩
 ·subst e
  cases r1
  obtain⟨its,rv,p,hz⟩:=I1.list hq
  refine KF p.isList ?_
  exact⟨s1.heap.objs.size,[s1.heap.objs.size],_,_,H1,rfl,I1.kept (t':=s1.toks) fun b o e=>zd _ e,RT a _,⟨_,zt _ rfl,rfl,rfl⟩,fp1 default,q⟩
 ·subst e
  cases r1
  obtain⟨its,rv,p,hz⟩:=I1.tuple hq
  refine wpAny_pyIter_tuple (show s1.heap.IsTuple a its.toArray from p) ?_
  exact⟨s1.heap.objs.size,[s1.heap.objs.size],_,_,H1,rfl,I1.kept (t':=s1.toks) fun b o e=>zd _ e,Nj a _,⟨_,zt _ rfl,rfl,rfl⟩,fp1 default,q⟩
 ·subst e
  obtain⟨t,rfl⟩:=r1
  cases ha:y.cps.all (· < 128) with
  |true=>
   refine wpAny_pyIter_ascii ha ?_
   exact⟨s1.heap.objs.size,[s1.heap.objs.size],_,_,H1,rfl,I1.kept (t':=s1.toks) fun b o e=>zd _ e,Kz _ y,⟨t,.inl ⟨_,zt _ rfl,rfl,rfl⟩⟩,fp1 default,q⟩
  |false=>
   refine wpAny_pyIter_wide ha ?_
   exact⟨s1.heap.objs.size,[s1.heap.objs.size],_,_,H1,rfl,I1.kept (t':=s1.toks) fun b o e=>zd _ e,Kz _ y,⟨t,.inr ⟨_,zt _ rfl,rfl,rfl⟩⟩,fp1 default,q⟩
end
def Yields (K:PySem.W.Frag) (J:It) (ds:List Dt) (Hs:Hp):Prop:=∀ (i:Nat) (H:Hp),Same Hs H →
 (∀ d,ds[i]?=some d->J.go i H/\∀ x H',J.yld i H x H'->Same H H'/\Rep K H' d x)/\(ds.length<=i->J.stop i H)
theorem Yields.of {K:PySem.W.Frag} {J:It} {ds:List Dt} {Hs:Hp} (h:∀ (i:Nat) (H:Hp),Same Hs H →
  (∀ d,ds[i]?=some d->J.go i H/\∀ x H',J.yld i H x H'->H'=H/\Rep K H d x)/\(ds.length<=i->J.stop i H)):Yields K J ds Hs:=fun i H s=>
 ⟨fun d e=>⟨((h i H s).1 d e).1,fun x H' y=>by
  obtain⟨rfl,r⟩:=((h i H s).1 d e).2 x H' y
  exact⟨Same.refl _,r⟩⟩,(h i H s).2⟩
def signs (x:Str):List Dt:=x.cps.toList.map fun c=>.str ⟨#[c]⟩
theorem Yields.list {K:PySem.W.Frag} {Hs:Hp} {a:Addr} {vs:List V} {ds:List Dt} (h:um K Hs a vs) (r:aK K Hs ds vs):Yields K (Itl K a) ds Hs:=.of fun i H s=>by
 have h':=s.seq h
 have r':=r.kp (.of s)
 refine⟨fun d e=>?_,fun e=>⟨vs,h',by rw[r.length];exact e⟩⟩
 obtain⟨v,ev,rv⟩:=r'.get e
 refine⟨⟨vs,v,h',ev⟩,fun x H' y=>?_⟩
 obtain⟨y1,y2⟩:=y
 have:=y2 vs h'
 rw[ev] at this;cases this
 exact⟨y1,rv⟩
theorem Yields.tup {K:PySem.W.Frag} {Hs:Hp} {a:Addr} {vs:List V} {ds:List Dt} (h:xM K Hs a vs) (r:aK K Hs ds vs):Yields K (Itt K a) ds Hs:=.of fun i H s=>by
 have h':=(Kp.of s).sqT h
 have r':=r.kp (.of s)
 refine⟨fun d e=>?_,fun e=>⟨vs,h',by rw[r.length];exact e⟩⟩
 obtain⟨v,ev,rv⟩:=r'.get e
 refine⟨⟨vs,v,h',ev⟩,fun x H' y=>?_⟩
 obtain⟨y1,y2⟩:=y
 have:=y2 vs h'
 rw[ev] at this;cases this
 exact⟨y1,rv⟩
theorem Yields.str {K:PySem.W.Frag} {Hs:Hp} (x:Str):Yields K (Its x) (signs x) Hs:=.of fun i H s=>by
 refine⟨fun d e=>?_,fun e=>?_⟩
 ·unfold signs at e
  rw[zS] at e
  cases h:x.cps.toList[i]? with
  |none=>rw[h] at e;cases e
  |some c=>
   rw[h] at e;cases e
   have hc:x.cps[i]?=some c:=by simpa using h
   have hi:i < x.cps.size:=by
    have:=(List.getElem?_eq_some_iff.mp h).1
    simpa using this
   refine⟨hi,fun v H' y=>?_⟩
   obtain⟨y1,c',hc',rfl⟩:=y
   rw[hc] at hc';cases hc'
   refine⟨y1,?_⟩
   unfold Rep
   exact⟨rfl,by show (1:Nat)<=sizeLine;decide⟩
 ·have:(signs x).length=x.cps.size:=by simp[signs]
  show x.cps.size<=i
  omega
def Iu (lo:Int) (n:Nat):List Dt:=(List.range n).map fun k=>.int (lo+(k:Nat))
theorem Yields.rng {K:PySem.W.Frag} {Hs:Hp} (lo:Int) (n:Nat):Yields K (Itr lo n) (Iu lo n) Hs:=.of fun i H s=>by
 refine⟨fun d e=>?_,fun e=>?_⟩
 ·unfold Iu at e
  rw[zS] at e
  by_cases hi:i < n
  ·rw[List.getElem?_range hi] at e
   cases e
   refine⟨hi,fun v H' y=>?_⟩
   obtain⟨y1,y2⟩:=y
   refine⟨y1,?_⟩
   unfold Rep
   exact y2
  ·rw[qo (by simp;omega)] at e
   cases e
 ·have:(Iu lo n).length=n:=by simp[Iu]
  show n<=i
  omega
def iF (K:PySem.W.Frag) (f:Ev->Option (List Dt)):TI:=fun σ H R=>∃ H0 ρ ds,bJ K H0 H σ ρ/\f ρ=some ds/\∀ J H',Same H H' →
 (∀ Hs,Same Hs H'->(∀ a,H a=none->Hs a=H' a)->(∀ a o u,H' a=some (.lG o u)->Hs a=H' a)->(∀ a vs,H' a=some (.tup vs)->Hs a=H' a)->Yields K J ds Hs)->R J H'
def PIF (X:Cx) (tg iter:Expr) (f:Ev->Option (List Dt)):Prop:=PI X tg iter (iF X.K f)
structure QIF (X:Cx) (tg iter:Expr) (f:Ev->Option (List Dt)):Prop where
 run:PIF X tg iter f
def Yh:Bx->Option (List Dt)
 |.z (.lst ds)=>some ds
 |.z (.tup ds)=>some ds
 |.z (.str x)=>some (signs x)
 |.o ds=>some ds
 |_=>none
section
variable {X:Cx} {tg e:Expr} {es:List Expr} {f:Ev->Option Bx} {fs:Ev->Option (List Bx)}
mutual
theorem Rep.part {K:PySem.W.Frag} {H Hs:Hp} (hf:∀ a o u,H a=some (.lG o u)->Hs a=H a) (ht:∀ a vs,H a=some (.tup vs)->Hs a=H a):∀ {d:Dt} {v:V},Rep K H d v->Rep K Hs d v
 |.non,_,h=>by simpa only[Rep] using h
 |.bl _,_,h=>by simpa only[Rep] using h
 |.int _,_,h=>by simpa only[Rep] using h
 |.str _,_,h=>by simpa only[Rep] using h
 |.tup ds,_,h=>by
  simp only[Rep] at h ⊢
  obtain⟨a,vs,e,q,r⟩:=h
  refine⟨a,vs,e,?_,aK.part hf ht r⟩
  rcases q with (q|⟨o,q⟩)|q
  ·exact .inl (.inl ((ht _ _ q).trans q))
  ·exact .inl (.inr ⟨o,(hf _ _ _ q).trans q⟩)
  ·exact .inr q
 |.lst ds,_,h=>by
  simp only[Rep] at h ⊢
  obtain⟨a,vs,e,q,r⟩:=h
  refine⟨a,vs,e,?_,aK.part hf ht r⟩
  rcases q with⟨o,q⟩|q
  ·exact .inl ⟨o,(hf _ _ _ q).trans q⟩
  ·exact .inr q
 |.emp,_,h=>by
  simp only[Rep] at h ⊢
  obtain⟨a,o,e,q⟩:=h
  exact⟨a,o,e,(hf _ _ _ q).trans q⟩
theorem aK.part {K:PySem.W.Frag} {H Hs:Hp} (hf:∀ a o u,H a=some (.lG o u)->Hs a=H a) (ht:∀ a vs,H a=some (.tup vs)->Hs a=H a):∀ {ds:List Dt} {vs:List V},aK K H ds vs->aK K Hs ds vs
 |[],_,h=>by simpa only[aK] using h
 |d::ds,_,h=>by
  simp only[aK] at h ⊢
  obtain⟨v,r,e,q,t⟩:=h
  exact⟨v,r,e,Rep.part hf ht q,aK.part hf ht t⟩
end
theorem Iv (h:QV X e f):QIF X tg e (fun ρ=>(f ρ).bind Yh):=⟨have h:=h.run;fun pins s σ H R I q=>by
 refine NP h pins s σ H R I ?_
 obtain⟨H0,ρ,ds,E,e,q⟩:=q
 obtain⟨b,eb,e⟩:=bind_some e
 refine⟨H0,ρ,b,E,eb,fun v H1 s1 n1 r1=>?_⟩
 cases b with
 |z d=>
  cases d with
  |tup ds'=>
   cases e
   simp only[bf,Rep] at r1
   obtain⟨a,vs,rfl,hq,rs⟩:=r1
   refine .inr (.inl ⟨a,rfl,⟨vs,hq⟩,q _ _ s1 fun Hs hs hn hf ht=>.tup ?_ (rs.part hf ht)⟩)
   rcases hq with (hq|⟨o,hq⟩)|hq
   ·exact .inl (.inl ((ht _ _ hq).trans hq))
   ·exact .inl (.inr ⟨o,(hf _ _ _ hq).trans hq⟩)
   ·exact .inr hq
  |lst ds'=>
   cases e
   simp only[bf,Rep] at r1
   obtain⟨a,vs,rfl,hq,rs⟩:=r1
   refine .inl ⟨a,rfl,⟨vs,hq.sq⟩,q _ _ s1 fun Hs hs hn hf ht=>.list ?_ (rs.part hf ht)⟩
   rcases hq with⟨o,hq⟩|hq
   ·exact .inl (.inr ⟨o,(hf _ _ _ hq).trans hq⟩)
   ·exact .inr hq
  |str x=>
   cases e
   simp only[bf,Rep] at r1
   obtain⟨rfl,_⟩:=r1
   exact .inr (.inr ⟨x,rfl,q _ _ s1 fun Hs hs hn hf ht=>.str x⟩)
  |_=>cases e
 |l ds'=>cases e
 |n ds'=>cases e
 |m ds'=>cases e
 |o ds'=>
  cases e
  obtain⟨a,vs,rfl,hq,rs⟩:=r1
  refine .inl ⟨a,rfl,⟨vs,.inl (.inl hq)⟩,q _ _ s1 fun Hs hs hn hf ht=>.list (.inl (.inl ((hn a (n1 a rfl)).trans hq))) (rs.part hf ht)⟩⟩
def abk:List Bx->Option (List Dt)
 |[.z (.int j)]=>if -(2 ^ 62)<=j/\j < 2 ^ 62 then some (Iu 0 j.toNat) else none
 |_=>none
theorem mY {p pos:Pos} (hg:Gl X "range") (hm:X.mg "range" = none) (ha:T6 X [e] fs) (hs:starEach [e] X.env=[(false,eval e X.env)]:=by rfl):QIF X tg (.Call (.Name "range" p) [e] [] pos) (fun ρ=>(fs ρ).bind abk):=⟨have ha:=ha.run;fun pins s σ H R I q=>by
 refine RV hg hm ha hs pins s σ H R I ?_
 obtain⟨H0,ρ,ds,E,e,q⟩:=q
 obtain⟨bs,eb,e⟩:=bind_some e
 refine⟨H0,ρ,bs,E,eb,fun vs H1 s1 r1=>?_⟩
 unfold abk at e
 split at e
 ·rename_i j
  split at e
  ·rename_i hj
   cases e
   cases r1 with
   |cons p t=>
    cases t
    simp only[bf,Rep] at p
    subst p
    exact⟨j,rfl,hj.1,hj.2,q _ _ s1 fun Hs _ _ _ _=>.rng 0 _⟩
  ·cases e
 ·cases e⟩
def qd (gt:Dt->Ev->Option Ev) (gb:Ev->Option Out):List Dt->Ev->Option Out
 |[],ρ=>some (.nx ρ)
 |d::ds,ρ=>(gt d ρ).bind fun ρ1=>(gb ρ1).bind fun r=>match r with
  |.nx ρ2=>qd gt gb ds ρ2
  |.ct ρ2=>qd gt gb ds ρ2
  |.bk ρ2=>some (.nx ρ2)
  |.rt b=>some (.rt b)
noncomputable def iu (H:Hp) (σ:L2.St) (ρ:Ev):Hp:=fun a=>@ite _ (∃ (i:Nat) (c:Bx),ρ[i]?=some (some c)/\uo c=true/\σ[i]?=some (some (.ref a))) (Classical.propDecidable _) none (H a)
theorem xZ {H:Hp} {σ:L2.St} {ρ:Ev}:Same (iu H σ ρ) H:=fun a o e=>by
 unfold iu at e
 split at e
 ·cases e
 ·exact e
theorem bJ.rebase {K:PySem.W.Frag} {H0 Hs H:Hp} {σ:L2.St} {ρ:Ev} (E:bJ K Hs H σ ρ) (s:Same H0 Hs):bJ K H0 H σ ρ:=⟨E.len,E.val,E.own,s.trans E.base,fun i c a e1 ec e2=>s.free (E.new i c a e1 ec e2)⟩
theorem bJ.sans {K:PySem.W.Frag} {H0 H:Hp} {σ:L2.St} {ρ:Ev} (E:bJ K H0 H σ ρ):bJ K (iu H σ ρ) H σ ρ:=⟨E.len,E.val,E.own,xZ,fun i c a e1 ec e2=>by
 unfold iu
 rw[zk ⟨i,c,e1,ec,e2⟩]⟩
theorem bJ.sub {K:PySem.W.Frag} {H0 H:Hp} {σ:L2.St} {ρ:Ev} (E:bJ K H0 H σ ρ):Same H0 (iu H σ ρ):=fun a o e=>by
 unfold iu
 split
 ·rename_i h
  obtain⟨i,c,e1,ec,e2⟩:=h
  rw[E.new i c a e1 ec e2] at e;cases e
 ·exact E.base a o e
theorem jX {K:PySem.W.Frag} {H0 H:Hp} {σ:L2.St} {ρ:Ev} (E:bJ K H0 H σ ρ) {a:Addr} (h:∀ vs,H a≠some (.lst vs)) (h2:∀ vs,H a≠some (.dK vs)):iu H σ ρ a=H a:=by
 unfold iu
 split
 ·rename_i hh
  obtain⟨i,c,e1,ec,e2⟩:=hh
  obtain⟨v,e3,rc⟩:=E.val i _ e1
  rw[e2] at e3;cases e3
  cases c with
  |o ds=>obtain⟨a',vs,e4,q,_⟩:=rc;cases e4;exact absurd q (h vs)
  |m ds _=>obtain⟨a',vs,e4,q,_⟩:=rc;cases e4;exact absurd q (h2 vs)
  |_=>cases ec
 ·rfl
theorem U0.rebase {K:PySem.W.Frag} {H0 Hs:Hp} {D:Ends} {r:Out} (s:Same H0 Hs) (h:U0 K H0 D r):U0 K Hs D r:=by
 cases r with
 |nx ρ=>exact fun σ H E=>h σ H (E.rebase s)
 |bk ρ=>exact fun σ H E=>h σ H (E.rebase s)
 |ct ρ=>exact fun σ H E=>h σ H (E.rebase s)
 |rt b=>exact fun v H s' n r=>h v H (s.trans s') (n.old s) r
theorem rT {gt:Dt->Ev->Option Ev} {gb:Ev->Option Out} {J:It} {ds:List Dt} {H0 H1:Hp} {σ:L2.St} {ρ:Ev} {D:Ends} {r:Out} (E1:bJ X.K H0 H1 σ ρ) (Y:Yields X.K J ds (iu H1 σ ρ)) (e:qd gt gb ds ρ=some r) (q:U0 X.K H0 D r) :
  ∃ W:Nat->Nat->L2.St->Hp->Prop,(∃ m,W 0 m σ H1)/\∀ i m σ H,W i m σ H →
   (J.stop i H/\D.nx σ H)\/(J.go i H/\∃ N:L2.St->Hp->Prop,(∀ σ' H',N σ' H'->∃ m',m' < m/\W (i+1) m' σ' H')/\∀ x H',J.yld i H x H'->tgF X.K gt x σ H' fun σ2 H2=>tG X.K gb { D with nx:=N,ct:=N,bk:=D.nx } σ2 H2):=by
 have E2:=E1.sans
 have q2:=q.rebase E1.sub
 generalize iu H1 σ ρ=Hs at Y E2 q2
 refine⟨fun i m σ' H'=>m=ds.length - i/\i<=ds.length/\∃ ρ',bJ X.K Hs H' σ' ρ'/\qd gt gb (ds.drop i) ρ'=some r,⟨ds.length,by simp,qS _,ρ,E2,by simpa using e⟩,?_⟩
 rintro i m σ' H' ⟨rfl,hi',ρ',E',e'⟩
 obtain⟨y1,y2⟩:=Y i H' E'.base
 by_cases hlt:i < ds.length
 ·right
  have hd:ds[i]?=some ds[i]:=by simp[hlt]
  obtain⟨go,yl⟩:=y1 _ hd
  rw[List.drop_eq_getElem_cons hlt] at e'
  simp only[qd] at e'
  obtain⟨ρ1,e1,e'⟩:=bind_some e'
  obtain⟨r1,e2,e'⟩:=bind_some e'
  refine⟨go,fun σ2 H2=>∃ ρ2,bJ X.K Hs H2 σ2 ρ2/\qd gt gb (ds.drop (i+1)) ρ2=some r,fun σ2 H2 ⟨ρ2,E3,e3⟩=>⟨ds.length - (i+1),by omega,rfl,hlt,ρ2,E3,e3⟩,fun x H2 yy=>?_⟩
  obtain⟨sm,rx⟩:=yl x H2 yy
  refine⟨Hs,ρ',ds[i],ρ1,E'.grow sm,rx,e1,fun σ1 E3 _=>⟨Hs,ρ1,r1,E3,e2,?_⟩⟩
  cases r1 with
  |nx ρ2=>exact fun σ2 H3 E4=>⟨ρ2,E4,e'⟩
  |ct ρ2=>exact fun σ2 H3 E4=>⟨ρ2,E4,e'⟩
  |bk ρ2=>cases e';exact q2
  |rt b=>cases e';exact q2
 ·left
  have hge:ds.length<=i:=by omega
  refine⟨y2 hge,?_⟩
  rw[List.drop_eq_nil_of_le hge] at e'
  cases e'
  exact q2 σ' H' E'
theorem sS {iter:Expr} {body:List Stmt} {fi:Ev->Option (List Dt)} {gt:Dt->Ev->Option Ev} {gb:Ev->Option Out} {pos:Pos} (hp:PassesOwn (model X.prog X.w) X.A X.env X.xe) (hc:X.calm=true) (hi:QIF X tg iter fi) (hg:Xf X tg gt) (hb:Qs X body gb) (hs:∀ x,foldedSetIterable iter X.env x=pure x:=by intro _;rfl):Qq X (.For tg iter body [] pos) (fun ρ=>(fi ρ).bind fun ds=>qd gt gb ds ρ):=⟨have hi:=hi.run;have hg:=hg.run;have hb:=hb.run;UG (Ug hp hc hi hg hb hs) fun D σ H h=>by
 obtain⟨H0,ρ,r,E,e,q⟩:=h
 obtain⟨ds,ed,e⟩:=bind_some e
 refine⟨H0,ρ,ds,E,ed,fun J H1 s1 y=>?_⟩
 have E1:=E.grow s1
 refine rT E1 ?_ e q
 refine y _ xZ (fun a ha=>?_) (fun a o u ha=>jX E1 (fun vs z=>by rw[ha] at z;cases z) (fun vs z=>by rw[ha] at z;cases z)) fun a vs ha=>jX E1 (fun vs z=>by rw[ha] at z;cases z) (fun vs z=>by rw[ha] at z;cases z)
 unfold iu
 split
 ·rename_i hh
  obtain⟨i,c,e1,ec,e2⟩:=hh
  obtain⟨v,e3,rc⟩:=E.val i _ e1
  rw[e2] at e3;cases e3
  cases c with
  |o ds=>obtain⟨a',vs,e4,q,_⟩:=rc;cases e4;rw[ha] at q;cases q
  |m ds _=>obtain⟨a',vs,e4,q,_⟩:=rc;cases e4;rw[ha] at q;cases q
  |_=>cases ec
 ·rfl⟩
theorem bJ.lend {K:PySem.W.Frag} {H0 H:Hp} {σ:L2.St} {ρ:Ev} {i:Nat} {ds:List Dt} (E:bJ K H0 H σ ρ) (h:ρ[i]?=some (some (.o ds))):bJ K H0 H σ (ρ.set i (some (.l ds))):=by
 have back:∀ (j:Nat) (b:Bx),(ρ.set i (some (.l ds)))[j]?=some (some b)->(j=i/\b=.l ds)\/(j≠i/\ρ[j]?=some (some b)):=fun j b e=>by
  rcases getset e with⟨rfl,e',_⟩|⟨hne,e'⟩
  ·cases e';exact .inl ⟨rfl,rfl⟩
  ·exact .inr ⟨hne,e'⟩
 refine⟨by rw[j3];exact E.len,fun j b e=>?_,fun j k c a b e1 ec e2 e3 e4 e5=>?_,E.base,fun j c a e1 ec e2=>?_⟩
 ·rcases back j b e with⟨rfl,rfl⟩|⟨hne,e'⟩
  ·obtain⟨v,e1,a,vs,e2,q,r⟩:=E.val _ _ h
   exact⟨v,e1,a,vs,e2,.inl q,r⟩
  ·exact E.val j b e'
 ·rcases back j _ e1 with⟨rfl,z⟩|⟨hne,e'⟩
  ·subst z;cases ec
  ·rcases back k _ e3 with⟨rfl,z⟩|⟨Yd,e3'⟩
   ·exact E.own j _ c a _ e' ec e2 h rfl e5
   ·exact E.own j k c a b e' ec e2 e3' e4 e5
 ·rcases back j _ e1 with⟨rfl,z⟩|⟨hne,e'⟩
  ·subst z;cases ec
  ·exact E.new j c a e' ec e2
def qJ (i:Nat) (gt:Dt->Ev->Option Ev) (gb:Ev->Option Out) (ρ:Ev):Option Out:=match ρ[i]? with
 |some (some (.o ds))=>qd gt gb ds (ρ.set i (some (.l ds)))
 |some (some (.l ds))=>qd gt gb ds ρ
 |some (some b)=>(Yh b).bind fun ds=>qd gt gb ds ρ
 |_=>none
theorem U7 {H0 H:Hp} {σ:L2.St} {ρ:Ev} {i:Nat} {ds:List Dt} (E:bJ X.K H0 H σ ρ) (h:ρ[i]?=some (some (.l ds))):∃ a vs,σ[i]?=some (some (.ref a))/\um X.K H a vs/\Yields X.K (Itl X.K a) ds (iu H σ ρ):=by
 obtain⟨v,e1,a,vs,rfl,q,r⟩:=E.val i _ h
 have hk:iu H σ ρ a=H a:=by
  unfold iu
  split
  ·rename_i hh
   obtain⟨j,c,e2,ec,e3⟩:=hh
   have:=E.own j i c a _ e2 ec e3 h rfl e1
   subst this
   rw[h] at e2;cases e2;cases ec
  ·rfl
 refine⟨a,vs,e1,.inl q,.list (.inl ?_) (r.part (fun b o u hb=>jX E (fun vs z=>by rw[hb] at z;cases z) (fun vs z=>by rw[hb] at z;cases z)) fun b ws hb=>jX E (fun vs z=>by rw[hb] at z;cases z) (fun vs z=>by rw[hb] at z;cases z))⟩
 rcases q with q|⟨o,q⟩
 ·exact .inl (hk.trans q)
 ·exact .inr ⟨o,hk.trans q⟩
theorem sU (i:Nat) {x:Str} {p:Pos} {body:List Stmt} {gt:Dt->Ev->Option Ev} {gb:Ev->Option Out} {pos:Pos} (hp:PassesOwn (model X.prog X.w) X.A X.env X.xe) (hc:X.calm=true) (hg:Xf X tg gt) (hb:Qs X body gb) (hN:X.N[i]?=some x:=by rfl) (hv:T5 X.env.scope x:=by first|exact JP rfl|exact QR (JP rfl)|exact QR (QR rfl)) (hd:(x==("__debug__" : Str))=false:=by decide) (hcd:(x==("__classdict__" : Str))=false:=by decide) (hs:∀ y,foldedSetIterable (.Name x p) X.env y=pure y:=by intro _;rfl):Qq X (.For tg (.Name x p) body [] pos) (qJ i gt gb):=⟨have hg:=hg.run;have hb:=hb.run;UG (Ug hp hc (NP (oF (i:=i) hN hv hd hcd)) hg hb hs) fun D σ H h=>by
 obtain⟨H0,ρ,r,E,e,q⟩:=h
 unfold qJ at e
 split at e
 ·rename_i ds hρ
  have E1:=E.lend hρ
  have hi:i < ρ.length:=(List.getElem?_eq_some_iff.mp hρ).1
  obtain⟨a,vs,e1,sq,Y⟩:=U7 E1 (Dh _ hi)
  exact⟨_,e1,.inl ⟨a,rfl,⟨vs,sq⟩,rT E1 Y e q⟩⟩
 ·rename_i ds hρ
  obtain⟨a,vs,e1,sq,Y⟩:=U7 E hρ
  exact⟨_,e1,.inl ⟨a,rfl,⟨vs,sq⟩,rT E Y e q⟩⟩
 ·rename_i b n1 n2 hρ
  obtain⟨ds,ed,e⟩:=bind_some e
  obtain⟨v,e1,rb⟩:=E.val i _ hρ
  have hf:∀ b o u,H b=some (.lG o u)->iu H σ ρ b=H b:=fun b o u hb=>jX E (fun vs z=>by rw[hb] at z;cases z) (fun vs z=>by rw[hb] at z;cases z)
  have ht:∀ b ws,H b=some (.tup ws)->iu H σ ρ b=H b:=fun b ws hb=>jX E (fun vs z=>by rw[hb] at z;cases z) (fun vs z=>by rw[hb] at z;cases z)
  cases b with
  |z d=>
   cases d with
   |tup ds'=>
    cases ed
    simp only[bf,Rep] at rb
    obtain⟨a,vs,rfl,hq,rs⟩:=rb
    refine⟨_,e1,.inr (.inl ⟨a,rfl,⟨vs,hq⟩,rT E (.tup ?_ (rs.part hf ht)) e q⟩)⟩
    rcases hq with (hq|⟨o,hq⟩)|hq
    ·exact .inl (.inl ((ht _ _ hq).trans hq))
    ·exact .inl (.inr ⟨o,(hf _ _ _ hq).trans hq⟩)
    ·exact .inr hq
   |lst ds'=>
    cases ed
    simp only[bf,Rep] at rb
    obtain⟨a,vs,rfl,hq,rs⟩:=rb
    refine⟨_,e1,.inl ⟨a,rfl,⟨vs,hq.sq⟩,rT E (.list ?_ (rs.part hf ht)) e q⟩⟩
    rcases hq with⟨o,hq⟩|hq
    ·exact .inl (.inr ⟨o,(hf _ _ _ hq).trans hq⟩)
    ·exact .inr hq
   |str x=>
    cases ed
    simp only[bf,Rep] at rb
    obtain⟨rfl,_⟩:=rb
    exact⟨_,e1,.inr (.inr ⟨x,rfl,rT E (.str x) e q⟩)⟩
   |_=>cases ed
  |l ds'=>cases ed
  |o ds'=>exact absurd rfl (n1 ds')
  |n ds'=>cases ed
  |m ds'=>cases ed
 ·cases e⟩
end
def SubL (cells:List (Str×Addr)):List (Str×Addr)->Prop
 |[]=>True
 |(n,c)::r=>cells.lookup n=some c/\SubL cells r
theorem SubL.get {cells:List (Str×Addr)}:∀ {cl:List (Str×Addr)},SubL cells cl->∀ {x:Str} {c:Addr},cl.lookup x=some c->cells.lookup x=some c
 |[],_,_,_,e=>by cases e
 |(n,d)::r,h,x,c,e=>by
  rw[List.lookup_cons] at e
  by_cases hx:x==n
  ·simp only[hx] at e
   cases e
   have:x=n:=by simpa using hx
   rw[this];exact h.1
  ·have hx:(x==n)=false:=by simpa using hx
   simp only[hx] at e
   exact SubL.get h.2 e
structure Cap (X:Cx) (scope:Scope) (cl:List (Str×Addr)) (x:Str) (i:Nat):Prop where
 n:X.N[i]?=some x
 k:X.env.kindOf x=some .cell\/X.env.kindOf x=some .free
 k':(relabel scope X.env).names.lookup x=some .cell\/(relabel scope X.env).names.lookup x=some .free
 c:∃ c,cl.lookup x=some c
def yc (X:Cx) (scope:Scope) (cl:List (Str×Addr)):List Str->List Nat->Prop
 |[],[]=>True
 |x::xs,i::is=>Cap X scope cl x i/\yc X scope cl xs is
 |_,_=>False
theorem yc.get {X:Cx} {scope:Scope} {cl:List (Str×Addr)}:∀ {xs:List Str} {is:List Nat},yc X scope cl xs is->xs.length=is.length/\∀ (j:Nat) (x:Str),xs[j]?=some x->∃ i,is[j]?=some i/\Cap X scope cl x i
 |[],[],_=>⟨rfl,fun j x e=>by simp at e⟩
 |x::xs,i::is,h=>by
  obtain⟨h1,h2⟩:=h
  obtain⟨l,g⟩:=yc.get h2
  refine⟨by simp[l],fun j y e=>?_⟩
  cases j with
  |zero=>simp at e;subst e;exact⟨i,rfl,h1⟩
  |succ j=>obtain⟨k,e1,e2⟩:=g j y (by simpa using e);exact⟨k,by simpa using e1,e2⟩
 |[],_::_,h=>h.elim
 |_::_,[],h=>h.elim
def Aw (X:Cx) (N':List Str) (scope:Scope) (cl:List (Str×Addr)) (C:Addr) (s₀:Shared) (H₀:Hp) (fp:List Addr):Cx:=
 { X with N:=N',s₀:=s₀,H₀:=H₀,env:=compEnvC scope cl C X.env,outer:=X.stack,ex:=fp,fn:=fun _=>false,pn:=[],xe:=fun _ _=>False }
def uG (is:List Nat) (σ:L2.St):L2.St:=is.map fun i=>(σ[i]?).bind fun v=>v
def jB (is:List Nat) (ρ:Ev):Ev:=is.map fun i=>vQ ρ i
def Xg (n:Nat) (g:Dt->Ev->Option Ev):Prop:=∀ d ρ ρ',g d ρ=some ρ'->ρ'.length=ρ.length/\∀ j,j < n->ρ'[j]?=ρ[j]?
def Yi (n:Nat) (g:List Dt->Ev->Option Ev):Prop:=∀ d ρ ρ',g d ρ=some ρ'->ρ'.length=ρ.length/\∀ j,j < n->ρ'[j]?=ρ[j]?
theorem cW {n i:Nat} (h:n<=i:=by decide):Xg n (fun d ρ=>some (ρ.set i (some (.z d)))):=fun d ρ ρ' e=>by
 cases e
 exact⟨by rw[j3],fun j hj=>Di _ (by omega)⟩
theorem Qv {n:Nat}:Yi n rR:=fun d ρ ρ' e=>by
 cases d with
 |nil=>cases e;exact⟨rfl,fun _ _=>rfl⟩
 |cons=>cases e
theorem nZ {n:Nat} {g:Dt->Ev->Option Ev} {gs:List Dt->Ev->Option Ev} (h:Xg n g) (hs:Yi n gs):Yi n (bV g gs):=fun d ρ ρ' e=>by
 cases d with
 |nil=>cases e
 |cons d ds=>
  simp only[bV] at e
  obtain⟨ρ1,e1,e⟩:=bind_some e
  obtain⟨a,b⟩:=h _ _ _ e1
  obtain⟨a',b'⟩:=hs _ _ _ e
  exact⟨a'.trans a,fun j hj=>(b' j hj).trans (b j hj)⟩
theorem U8 {n m:Nat} {gs:List Dt->Ev->Option Ev} (hs:Yi n gs):Xg n (p8 m gs):=fun d ρ ρ' e=>by
 cases d with
 |tup ds=>
  simp only[p8] at e
  split at e
  ·exact hs _ _ _ e
  ·cases e
 |_=>cases e
def qe (gt:Dt->Ev->Option Ev) (p:Ev->Option Bool) (fe:Ev->Option Bx) (ρ:Ev):List Dt->Option (List Dt)
 |[]=>some []
 |d::ds=>(gt d ρ).bind fun ρ1=>(p ρ1).bind fun k=>if k=true then (fe ρ1).bind fun b=>match b with
   |.z y=>(qe gt p fe ρ ds).bind fun ys=>some (y::ys)
   |_=>none
  else qe gt p fe ρ ds
def Tests (X:Cx) (ifs:List Expr) (p:Ev->Option Bool):Prop:=(ifs=[]/\p=fun _=>some true)\/∃ c,ifs=[c]/\PB X c p
structure zN (X:Cx) (ifs:List Expr) (p:Ev->Option Bool):Prop where
 run:Tests X ifs p
section
variable {X:Cx} {elt tgt iter:Expr} {ifs:List Expr} {scope:Scope} {cl:List (Str×Addr)} {pos:Pos} {xs ts:List Str} {is:List Nat} {gt:Dt->Ev->Option Ev} {p:Ev->Option Bool} {fe:Ev->Option Bx} {fi:Ev->Option (List Dt)}
theorem U9 {pins:List (Addr×Obj)} {σ:L2.St} {H3:Hp} {s3:Shared} {h1:Heap} {tk:Nat} {fp:List Addr} {m:Str->Option Value} (I3:L2.Inv X pins σ H3 s3) (hkind:scope.kind=.function) (hcell:∀ y∈scope.names,y.2≠.cell)
  (hsub:SubL X.env.cells cl) (hhas:∀ x,((relabel scope X.env).names.lookup x=some .cell\/(relabel scope X.env).names.lookup x=some .free)->∃ c,cl.lookup x=some c) (hcap:yc X scope cl xs is)
  (hf:∀ b∈fp,uz X pins H3 b) (hfl:∀ b∈fp,b < s3.heap.objs.size) (hns:h1.Ns s3.heap.objs.size m) (hk:∀ b o,s3.heap.get? b=some o->h1.get? b=some o) :
  L2.Inv (Aw X (xs++ts) scope cl s3.heap.objs.size s3 H3 fp) [] (uG is σ++List.replicate ts.length none) H3 { s3 with heap:=h1,toks:=tk }:=by
 obtain⟨hl,hc⟩:=hcap.get
 refine⟨⟨I3.ok.mod,hkind,I3.ok.glob,I3.ok.blt,zg _,fun x y c e1 e2=>?_,fun x hx=>hhas x hx,fun x c e=>(by cases e),I3.ok.hd,I3.ok.frames,.inl rfl,fun b hb=>⟨zD (hfl b hb),fun x c e=>?_⟩,I3.bs,z4 I3.ok.Xe I3.sz,fun b o e hb=>?_,fun b hb hb'=>?_,I3.stack,I3.Qe⟩,
  rfl,I3.bare,Un.kept hk,⟨m,hns,fun j x v e1 e2 _=>?_⟩,fun x c e=>?_,I3.hok.fresh (zg _),fun x c e=>I3.o8 x c (hsub.get e),fun q hq=>absurd (show q∈([]:List (Addr×Obj)) from hq) (by simp),I3.hok.kept hk,?_⟩
 ·exact I3.ok.inj x y c (hsub.get e1) (hsub.get e2)
 ·exact (hf b hb).2.2.2.2.1 x c (hsub.get e)
 ·obtain⟨_,_,_,z,_⟩:=hf b hb
  rcases z with z|z
  ·exact I3.ok.Ub b o e z
  ·exact absurd (ZA (zv e) (z4 I3.ok.Xe z)) (JU _)
 ·obtain⟨_,n1,n2,_⟩:=hf b hb
  rcases List.mem_cons.mp (I3.HF b hb') with z|z
  ·exact n1 z
  ·exact n2 z
 ·have hj:j < is.length:=by
   by_cases hj:j < is.length
   ·exact hj
   ·rw[ZT (by simp[uG];omega)] at e2
    rw[qB] at e2
    split at e2<;>cases e2
  have e1':xs[j]?=some x:=by
   have e1:(xs++ts)[j]?=some x:=e1
   rw[Zs (by omega)] at e1;exact e1
  obtain⟨i,ei,hcp⟩:=hc j x e1'
  have e3:σ[i]?=some (some v):=by
   rw[Zs (by simp[uG];omega)] at e2
   unfold uG at e2
   rw[zS,ei] at e2
   cases q:σ[i]? with
   |none=>rw[Option.map_some,q] at e2;cases e2
   |some o=>
    rw[Option.map_some,q] at e2
    have:o=some v:=by simpa using e2
    rw[this]
  have vis:T5 X.env.scope x:=by
   rcases hcp.k with k|k
   ·exact .inr (.inl k)
   ·exact .inr (.inr k)
  obtain⟨m',hn',hlk⟩:=I3.loc
  obtain⟨u,r,l⟩:=hlk i x v hcp.n e3 vis
  refine⟨u,r,?_⟩
  rcases l with⟨k,_⟩|⟨k,c,ec,ic⟩
  ·rcases hcp.k with k'|k'<;>(rw[k] at k';cases k')
  ·obtain⟨c',ec'⟩:=hcp.c
   have:=hsub.get ec'
   rw[ec] at this;cases this
   refine .inr ⟨hcp.k',c,ec',?_⟩
   obtain⟨o,ho,hd⟩:=ic
   exact⟨o,hk c o ho,hd⟩
 ·obtain⟨v,o,ho,hd⟩:=I3.cell x c (hsub.get e)
  exact⟨v,o,hk c o ho,hd⟩
 ·show (uG is σ++List.replicate ts.length none).length=(xs++ts).length
  simp[uG,hl]
theorem bJ.caps {K:PySem.W.Frag} {H0 H:Hp} {σ:L2.St} {ρ:Ev} (E:bJ K H0 H σ ρ) (is:List Nat) (n:Nat):bJ K H H (uG is σ++List.replicate n none) (jB is ρ++List.replicate n none):=by
 have NQ:∀ (j:Nat) c,(jB is ρ++List.replicate n none)[j]?=some (some c)->uo c=false:=fun j c e=>by
  by_cases hj:j < is.length
  ·rw[Zs (by simp[jB];omega)] at e
   unfold jB at e
   rw[zS] at e
   cases q:is[j]? with
   |none=>rw[q] at e;cases e
   |some i=>
    rw[q] at e
    have:vQ ρ i=some c:=by simpa using e
    exact xX this
  ·rw[ZT (by simp[jB];omega),qB] at e
   split at e<;>cases e
 refine⟨by simp[uG,jB],fun j b e=>?_,fun j k c a b e ec=>absurd ec (by rw[NQ j c e];exact Zp),Same.refl H,fun j c a e ec=>absurd ec (by rw[NQ j c e];exact Zp)⟩
 by_cases hj:j < is.length
 ·rw[Zs (by simp[jB];omega)] at e
  rw[Zs (by simp[uG];omega)]
  unfold jB at e
  unfold uG
  rw[zS] at e ⊢
  cases q:is[j]? with
  |none=>rw[q] at e;cases e
  |some i=>
   rw[q] at e
   have:vQ ρ i=some b:=by simpa using e
   obtain⟨v,e1,r⟩:=Kw E this
   exact⟨v,by simp[e1],r⟩
 ·rw[ZT (by simp[jB];omega),qB] at e
  split at e<;>cases e
theorem bJ.forget {K:PySem.W.Frag} {H0 H:Hp} {σ:L2.St} {ρ ρ':Ev} (E:bJ K H0 H σ ρ') (hl:ρ'.length=ρ.length) (h:∀ (j:Nat) b,ρ[j]?=some (some b)->ρ'[j]?=some (some b)):bJ K H0 H σ ρ:=
 ⟨E.len.trans hl,fun j b e=>E.val j b (h j b e),fun i j c a b e1 ec e2 e3 e4 e5=>E.own i j c a b (h _ _ e1) ec e2 (h _ _ e3) e4 e5,E.base,fun i c a e1 ec e2=>E.new i c a (h _ _ e1) ec e2⟩
def Yj (X:Cx) (el:Addr->Env->Sem Unit) (fe:Ev->Option Bx) (Ac:Hp->Nat->List Dt->HO->Prop) (N:Nat):Prop:=∀ (pins:List (Addr×Obj)) (s:Shared) (σ:L2.St) (H H0:Hp) (ρ:Ev) (D:Addr) (o:HO) (i:Nat) (o1:List Dt) (y:Dt),L2.Inv X pins σ H s->bJ X.K H0 H σ ρ->fe ρ=some (.z y)->H D=some o->Ac H i o1 o->i < N →
 wpAny (model X.prog X.w) X.A (el D X.env) (fun _ s'=>∃ H9 o',L2.Inv X pins σ (upd H9 D o') s'/\Same H H9/\Kp H9 (upd H9 D o')/\Ac (upd H9 D o') (i+1) (o1++[y]) o') X.xe s
theorem G4 {comp:Expr} {mk:Sem Value} {o0:Obj} {O0:HO} {Ac:Hp->Nat->List Dt->HO->Prop} {el:Addr->Env->Sem Unit} {N:Nat} {pins:List (Addr×Obj)} {σ:L2.St} {H H2:Hp} {s2:Shared} {it:Addr} {fp:List Addr} {tn:Nat->Heap->Prop} {J:It} {ds out:List Dt} {ρ:Ev} {RR:Value->Addr->Result->Shared->Prop} {E:Value->Shared->Prop}
  (hkind:scope.kind=.function) (hcell:∀ y∈scope.names,y.2≠.cell) (hcalm:X.calm=true)
  (hsub:SubL X.env.cells cl) (hhas:∀ x,((relabel scope X.env).names.lookup x=some .cell\/(relabel scope X.env).names.lookup x=some .free)->∃ c,cl.lookup x=some c) (hcap:yc X scope cl xs is)
  (J9:∀ C s₀ H₀ fp,PTg (Aw X (xs++ts) scope cl C s₀ H₀ fp) tgt gt) (hif:∀ C s₀ H₀ fp,Tests (Aw X (xs++ts) scope cl C s₀ H₀ fp) ifs p) (helt:∀ C s₀ H₀ fp,Yj (Aw X (xs++ts) scope cl C s₀ H₀ fp) el fe Ac N) (htk:Xg is.length gt)
  (I2:L2.Inv X pins σ H2 s2) (Ec:bJ X.K H2 H2 (uG is σ++List.replicate ts.length none) (jB is ρ++List.replicate ts.length none)) (T:Turn X.prog X.w X.K tgt J fp it tn) (st:tn 0 s2.heap) (hf:∀ b∈fp,uz X pins H2 b) (Y:Yields X.K J ds H2)
  (hlen:ds.length<=N) (hout:qe gt p fe (jB is ρ++List.replicate ts.length none) ds=some out)
  (hRR:∀ (D C:Addr) (s':Shared) (H':Hp) (o:HO) (i:Nat),H2 D=none->L2.Inv X pins σ H' s'->uz X pins H' C->(∃ m,s'.heap.Ns C m)->Same H2 H'->H' D=some o->Ac H' i out o->RR (.ref D) C (.ok .next) s')
  (hmk:∀ {Q:Value->Shared->Prop},Q (.ref s2.heap.objs.size) { s2 with heap:=s2.heap.push o0 }->wpAny (model X.prog X.w) X.A mk Q E s2) (hO0:∀ H,iw X.prog X.w H (s2.heap.push o0) s2.heap.objs.size O0) (hA0:∀ H,Ac H 0 [] O0)
  (hAk:∀ {H H':Hp} {i i':Nat} {o1:List Dt} {o:HO},Kp H H'->i<=i'->Ac H i o1 o->Ac H' i' o1 o)
  (hturn:∀ (it:Value) (D:Addr) (env:Env),compTurn comp 0 it (.ref D) env=(standAt iter.pos >>= fun _=>pyNext it >>= fun r=>match r with
   |none=>pure (.done .next)
   |some v=>letOwnedTupleGo tgt it v >>= fun _=>assign tgt env v >>= fun _=>(forIn ifs true fun c r=>if r=true then isTrue c env (eval c env) >>= fun ok=>pure (ForInStep.yield ok) else pure (ForInStep.yield r)) >>= fun ok=>if ok=true then el D env >>= fun _=>again (.compLoop comp 0 it (.ref D) env) else again (.compLoop comp 0 it (.ref D) env)))
  (hstart:∀ {it acc:Value} {env:Env} {R:Result->Shared->Prop} {s:Shared},codeAny (model X.prog X.w) X.A (.compLoop comp 0 it acc env) R s->wpAny (model X.prog X.w) X.A (pyIter it) (fun it' s'=>codeAny (model X.prog X.w) X.A (.compLoop comp 0 it' acc env) R s') (notedBy (model X.prog X.w) X.A env fun x s'=>R (.error x) s') s->codeAny (model X.prog X.w) X.A (.compStart comp 0 it acc env) R s)
  (hsh:∀ {it acc:Value} {env:Env} {Q:Fin->Shared->Prop} {E:Value->Shared->Prop} {s:Shared},wpAny (model X.prog X.w) X.A ((compTurn comp 0 it acc env).onRaise (fun x=>noteFrame x env >>= fun _=>theTreesLotGoes x)) Q E s->wpAny (model X.prog X.w) (X.A.under (.compLoop comp 0 it acc env)) ((model X.prog X.w).den (.compLoop comp 0 it acc env)) Q E s) :
  wpAny (model X.prog X.w) X.A mk (fun acc s₃=>wpAny (model X.prog X.w) X.A (newFunctionEnv scope X.env.globals cl [] X.env.qual none .none (some X.env)) (fun cenv s₄=>
   codeAny (model X.prog X.w) X.A (.compStart comp 0 (.ref it) acc { cenv with scope:=relabel scope X.env }) (RR acc cenv.locals) s₄) E s₃) E s2:=by
 refine hmk (wpAny_newFunctionEnv hcell (by intro y hy;simp at hy) (fun h₁ hns₁ hsb₁=>?_) hkind)
 have hD:H2 s2.heap.objs.size=none:=I2.hok.fresh (zg _)
 have I3:L2.Inv X pins σ (upd H2 s2.heap.objs.size O0) { s2 with heap:=s2.heap.push o0 }:=
  I2.laid (t':=s2.toks) (fun b o e=>zd _ e) (zg _) (hO0 _)
 have sD:Same H2 (upd H2 s2.heap.objs.size O0):=bU hD
 have ady:∀ b∈fp,b < s2.heap.objs.size:=fun b hb=>let ⟨o,e,_⟩:=T.obj 0 _ st b hb;zv e
 have hf3:∀ b∈fp,uz X pins (upd H2 s2.heap.objs.size O0) b:=fun b hb=>⟨by rw[aF (zD (ady b hb))];exact (hf b hb).1,(hf b hb).2⟩
 generalize hs3:({ s2 with heap:=s2.heap.push o0 }:Shared)=s3 at *
 have adz:s3.heap=s2.heap.push o0:=by rw[<-hs3]
 have adA:∀ b∈fp,b < s3.heap.objs.size:=fun b hb=>by rw[adz,ZZ];exact qk (ady b hb)
 have hk:∀ b o,s3.heap.get? b=some o->h₁.get? b=some o:=fun b o e=>hsb₁.extBut b o (zD (zv e)) (zd _ e)
 have IC:=U9 (ts:=ts) (tk:=s3.toks+([]:List (Str×Value)).length) I3 hkind hcell hsub hhas hcap hf3 adA hns₁ hk
 have st1:tn 0 h₁:=T.keep 0 _ _ st fun b hb o e=>hk b o (by rw[adz];exact zd _ e)
 generalize hX':Aw X (xs++ts) scope cl s3.heap.objs.size s3 (upd H2 s2.heap.objs.size O0) fp=X' at *
 have hXe:X'.env=compEnvC scope cl s3.heap.objs.size X.env:=by rw[<-hX'];rfl
 have hXK:X'.K=X.K:=by rw[<-hX'];rfl
 have hXA:X'.A=X.A:=by rw[<-hX'];rfl
 have hXp:X'.prog=X.prog:=by rw[<-hX'];rfl
 have hXw:X'.w=X.w:=by rw[<-hX'];rfl
 have hXc:X'.calm=true:=by rw[<-hX'];exact hcalm
 have hXx:X'.xe=fun _ _=>False:=by rw[<-hX'];rfl
 have afI:bJ X.K H2 (upd H2 s2.heap.objs.size O0) (uG is σ++List.replicate ts.length none) (jB is ρ++List.replicate ts.length none):=Ec.grow sD
 have hl0:(jB is ρ++List.replicate ts.length (none:Option Bx)).length=is.length+ts.length:=by simp[jB]
 have hb0:∀ (j:Nat) b,(jB is ρ++List.replicate ts.length (none:Option Bx))[j]?=some (some b)->j < is.length:=fun j b e=>by
  by_cases hj:j < is.length
  ·exact hj
  ·rw[ZT (by simp[jB];omega),qB] at e
   split at e<;>cases e
 have afJ:PTg X' tgt gt:=by rw[<-hX'];exact J9 _ _ _ _
 have afK:Tests X' ifs p:=by rw[<-hX'];exact hif _ _ _ _
 have adC:Yj X' el fe Ac N:=by rw[<-hX'];exact helt _ _ _ _
 have hfC:∀ {H':Hp},(∀ b∈fp,H' b=none)->∀ b∈fp,uz X' [] H' b:=fun {H'} hn b hb=>by
  obtain⟨f0,f1,f2,f3,f4,f5⟩:=hf3 b hb
  refine⟨hn b hb,?_,?_,.inl (by rw[<-hX'];exact hb),?_,?_⟩
  ·rw[hXe];exact zD (adA b hb)
  ·intro z
   have z:b∈frs X.stack:=by rw[<-hX'] at z;exact z
   rcases List.mem_cons.mp (I3.HF b z) with q|q
   ·exact f1 q
   ·exact f2 q
  ·intro x c e
   rw[hXe] at e
   exact f4 x c (hsub.get e)
  ·intro q hq
   have:q∈([]:List (Addr×Obj)):=by rw[<-hX'] at hq;simpa [Aw] using hq
   cases this
 have afM:∀ (j:Nat) c a,(jB is ρ++List.replicate ts.length (none:Option Bx))[j]?=some (some c)->loose c=true->(uG is σ++List.replicate ts.length none)[j]?=some (some (.ref a))->H2 a≠none:=fun j c a e hl ea z=>by
  obtain⟨v,e1,rc⟩:=Ec.val j _ e
  rw[ea] at e1;cases e1
  cases c with
  |z d=>cases hl
  |l dz=>
   obtain⟨a',vs,e2,q,_⟩:=rc
   cases e2
   rcases q with q|⟨o,q⟩<;>(rw[z] at q;cases q)
  |n dz=>
   obtain⟨a',vs,e2,q,_⟩:=rc
   cases e2
   rcases q with q|⟨o,q⟩<;>(rw[z] at q;cases q)
  |o dz=>
   obtain⟨a',vs,e2,q,_⟩:=rc
   cases e2
   rw[z] at q;cases q
  |m dz _=>
   obtain⟨a',vs,e2,q,_⟩:=rc
   cases e2
   rw[z] at q;cases q
 generalize hρ0:jB is ρ++List.replicate ts.length (none:Option Bx)=ρ0 at *
 have loop:∀ s₃:Shared,s₃={ s3 with heap:=h₁,toks:=s3.toks+([]:List (Str×Value)).length } →
   codeAny (model X.prog X.w) X.A (.compLoop comp 0 (.ref it) (.ref s2.heap.objs.size) (compEnvC scope cl s3.heap.objs.size X.env)) (RR (.ref s2.heap.objs.size) s3.heap.objs.size) s₃:=by
  rintro s₃ rfl
  refine codeAny_loop rfl (fun n s'=>∃ (i:Nat) (σ':L2.St) (H':Hp) (o1 o2:List Dt) (o:HO),n=ds.length - i/\i<=ds.length/\L2.Inv X' [] σ' H' s'/\tn i s'.heap/\(∀ b∈fp,H' b=none)/\bJ X.K H2 H' σ' ρ0/\(∀ (j:Nat) c a,ρ0[j]?=some (some c)->loose c=true->σ'[j]?=some (some (.ref a))->H2 a≠none)/\H' s2.heap.objs.size=some o/\Ac H' i o1 o/\qe gt p fe ρ0 (ds.drop i)=some o2/\o1++o2=out) ?_ ds.length
   ⟨0,_,_,[],out,O0,by simp,qS _,IC,st1,fun b hb=>(hf3 b hb).1,afI,afM,aX,hA0 _,by simpa using hout,rfl⟩
  rintro n s4 ⟨i,σ4,H4,o1,o2,o,rfl,hi,I4,st4,fr4,E4,afN,hD4,r4,e4,ho⟩
  refine hsh ?_
  refine wpAny_noted ?_
  rw[hturn]
  obtain⟨y1,y2⟩:=Y i H4 E4.base
  by_cases hlt:i < ds.length
  ·have hd:ds[i]?=some ds[i]:=by simp[hlt]
   obtain⟨go,yl⟩:=y1 _ hd
   rw[List.drop_eq_getElem_cons hlt] at e4
   simp only[qe] at e4
   obtain⟨ρ1,e1,e4⟩:=bind_some e4
   obtain⟨k,ek,e4⟩:=bind_some e4
   obtain⟨hl1,hk1⟩:=htk _ _ _ e1
   have back:∀ {σ5:L2.St} {H5:Hp},bJ X.K H2 H5 σ5 ρ1->bJ X.K H2 H5 σ5 ρ0:=fun E5=>E5.forget hl1 fun j b e=>by rw[hk1 j (hb0 j b e)];exact e
   refine zb (KL (zb ?_))
   have T4:=T.item X' hXp hXw hXK hXc i [] s4 σ4 H4 (notedBy (model X.prog X.w) X.A (compEnvC scope cl s3.heap.objs.size X.env) fun e s'=>RR (.ref s2.heap.objs.size) s3.heap.objs.size (.error e) s') I4 (hfC fr4) st4 go
   rw[hXA] at T4
   refine mH T4 fun r s5 ⟨u,hr,h5⟩=>?_
   subst hr
   refine zb (mH h5 fun _ s6 ⟨x,H6,I6,r6,y6,st6,fr6⟩=>?_)
   obtain⟨sm,rx⟩:=yl x H6 y6
   have E4:=E4.grow sm
   have hD4:=sm _ _ hD4
   have r4:=hAk (.of sm) (zg _) r4
   have I6':=I6.pinned (hfC fr6) (T.obj _ _ st6)
   have ha:=afJ _ s6 σ4 H6 x u (fun σ' H'=>H'=H6/\bJ X.K H2 H6 σ' ρ1/\Lo σ4 ρ0 σ' ρ1) I6' r6 ⟨H2,ρ0,ds[i],ρ1,by rw[hXK];exact E4,by rw[hXK];exact rx,e1,fun σ' E' L'=>⟨rfl,by rw[hXK] at E';exact E',L'⟩⟩
   rw[hXA,hXe,hXx] at ha
   simp only[hXp,hXw] at ha
   refine zb (qr ha (fun _ s7 h7=>?_) fun _ _ z=>z.elim)
   obtain⟨σ7,H7,I7,rfl,E7,L7⟩:=h7
   have Yk:∀ (j:Nat) c a,ρ0[j]?=some (some c)->loose c=true->σ7[j]?=some (some (.ref a))->H2 a≠none:=fun j c a e hl ea=>by
    have e':ρ1[j]?=some (some c):=by rw[hk1 j (hb0 j _ e)];exact e
    exact afN j c a e hl (by rw[<-(L7 j _ hl e').2];exact ea)
   have ht:wpAny (model X.prog X.w) X.A (forIn ifs true fun c r=>if r=true then do let ok <-isTrue c (compEnvC scope cl s3.heap.objs.size X.env) (eval c (compEnvC scope cl s3.heap.objs.size X.env));pure (ForInStep.yield ok) else pure (ForInStep.yield r))
     (fun ok s8=>ok=k/\∃ H8,L2.Inv X' ([]++zJ fp s6.heap) σ7 H8 s8/\Same H7 H8) (notedBy (model X.prog X.w) X.A (compEnvC scope cl s3.heap.objs.size X.env) fun e s'=>RR (.ref s2.heap.objs.size) s3.heap.objs.size (.error e) s') s7:=by
    rcases afK with⟨rfl,rfl⟩|⟨c,rfl,hc⟩
    ·cases ek
     exact wpAny_tests_nil ⟨rfl,H7,I7,Same.refl H7⟩
    ·refine wpAny_tests_one ?_
     have:=hc _ s7 σ7 H7 (fun b H8=>b=k/\Same H7 H8) I7 ⟨H2,ρ1,k,by rw[hXK];exact E7,ek,fun H8 s8=>⟨rfl,s8⟩⟩
     rw[hXA,hXe,hXx] at this
     simp only[hXp,hXw] at this
     exact qr this (fun b s8 ⟨H8,I8,eb,s8'⟩=>⟨eb,H8,I8,s8'⟩) fun _ _ z=>z.elim
   refine zb (qr ht (fun ok s8 h8=>?_) fun _ _ z=>z)
   obtain⟨rfl,H8,I8,s78⟩:=h8
   have Va:∀ {σ9:L2.St} {H9:Hp} {s9:Shared},L2.Inv X' ([]++zJ fp s6.heap) σ9 H9 s9->L2.Inv X' [] σ9 H9 s9/\tn (i+1) s9.heap/\∀ b∈fp,H9 b=none:=fun {σ9 H9 s9} I9=>by
    refine⟨I9.uD,T.keep _ _ _ st6 fun b hb o e=>(I9.pin (b,o) (qc _ (qc _ (sJ hb e)))).1,fun b hb=>?_⟩
    obtain⟨o,e,d⟩:=T.obj _ _ st6 b hb
    exact (I9.pin (b,o) (qc _ (qc _ (sJ hb e)))).2.1
   cases ok with
   |false=>
    rw[zw Zp] at e4
    obtain⟨I9,st9,fr9⟩:=Va I8
    exact ze ⟨rfl,ds.length - (i+1),by omega,i+1,σ7,H8,o1,o2,o,rfl,hlt,I9,st9,fr9,back (E7.grow s78),Yk,s78 _ _ hD4,hAk (.of s78) (Kk _) r4,e4,ho⟩
   |true=>
    rw[zk rfl] at e4
    obtain⟨b,eb,e4⟩:=bind_some e4
    cases b with
    |z y=>
     obtain⟨ys,e5,e4⟩:=bind_some e4
     cases e4
     have he:=adC _ s8 σ7 H8 H2 ρ1 s2.heap.objs.size o i o1 y I8 (by rw[hXK];exact E7.grow s78) eb (s78 _ _ hD4) (hAk (.of s78) (zg _) r4) (ZA hlt hlen)
     rw[hXA,hXe,hXx] at he
     simp only[hXp,hXw] at he
     refine zb (qr he (fun _ s10 h10=>?_) fun _ _ z=>z.elim)
     obtain⟨H9,o',I10,Yl,kp,a5⟩:=h10
     have s79:=s78.trans Yl
     obtain⟨I11,afP,afQ⟩:=Va I10
     have E9:=back (E7.grow s79)
     refine ze ⟨rfl,ds.length - (i+1),by omega,i+1,σ7,_,o1++[y],ys,o',rfl,hlt,I11,afP,afQ,?_,Yk,aX,a5,e5,by simpa using ho⟩
     have NQ:∀ (j:Nat) c,ρ0[j]?=some (some c)->uo c=false:=fun j c e=>by
      rw[<-hρ0] at e
      by_cases hj:j < is.length
      ·rw[Zs (by simp[jB];omega)] at e
       unfold jB at e
       rw[zS] at e
       cases q:is[j]? with
       |none=>rw[q] at e;cases e
       |some i=>rw[q] at e;exact xX (by simpa using e)
      ·rw[ZT (by simp[jB];omega),qB] at e
       split at e<;>cases e
     have EH2:∀ (j:Nat) b,ρ0[j]?=some (some b)->∀ v,σ7[j]?=some (some v)->bf X.K H9 b v->bf X.K (upd H9 s2.heap.objs.size o') b v:=fun j b e v ev rb=>by
      cases b with
      |z d=>exact Rep.kp kp rb
      |o dz=>have:=NQ j _ e;cases this
      |m dz _=>have:=NQ j _ e;cases this
      |n dz=>
       obtain⟨a,vs,rfl,q,rr⟩:=rb
       refine⟨a,vs,rfl,?_,rr.kp kp⟩
       by_cases ha:a=s2.heap.objs.size
       ·subst ha;exact absurd hD (Yk j _ _ e rfl ev)
       ·rcases q with q|⟨o,q⟩
        ·exact .inl (by rw[aF ha];exact q)
        ·exact .inr ⟨o,by rw[aF ha];exact q⟩
      |l dz=>
       obtain⟨a,vs,rfl,q,rr⟩:=rb
       refine⟨a,vs,rfl,?_,rr.kp kp⟩
       by_cases ha:a=s2.heap.objs.size
       ·subst ha;exact absurd hD (Yk j _ _ e rfl ev)
       ·rcases q with q|⟨o,q⟩
        ·exact .inl (by rw[aF ha];exact q)
        ·exact .inr ⟨o,by rw[aF ha];exact q⟩
     refine⟨E9.len,fun j b e=>?_,fun j k c a b e ec=>absurd ec (by rw[NQ j c e];exact Zp),fun c o e=>?_,fun j c a e ec=>absurd ec (by rw[NQ j c e];exact Zp)⟩
     ·obtain⟨v,ev,rb⟩:=E9.val j b e
      exact⟨v,ev,EH2 j b e v ev rb⟩
     ·rw[aF (dY e hD)];exact E9.base c o e
    |l _=>cases e4
    |o _=>cases e4
    |n _=>cases e4
    |m _ _=>cases e4
  ·have hge:ds.length<=i:=by omega
   rw[List.drop_eq_nil_of_le hge] at e4
   cases e4
   refine zb (KL (zb ?_))
   have T4:=T.done X' hXp hXw hXK hXc i [] s4 σ4 H4 (notedBy (model X.prog X.w) X.A (compEnvC scope cl s3.heap.objs.size X.env) fun e s'=>RR (.ref s2.heap.objs.size) s3.heap.objs.size (.error e) s') I4 (hfC fr4) st4 (y2 hge)
   rw[hXA] at T4
   refine mH T4 fun r s5 ⟨hr,I5⟩=>?_
   subst hr
   refine ze ?_
   have IB:L2.Inv X pins σ H4 s5:=I3.call' (ch:=fp) (by have:=I5.os;rw[<-hX'] at this;exact this) (by have:=I5.base;rw[<-hX'] at this;exact this) (by have:=I5.hok;rw[hXp,hXw] at this;exact this) I5.bare fun b hb=>by
    obtain⟨f0,f1,f2,f3,f4,f5⟩:=hf3 b hb
    exact⟨f3,f1,f4,f5⟩
   have hC:H4 s3.heap.objs.size=none:=by have:=I5.free;rw[hXe] at this;exact this
   refine hRR _ _ s5 H4 o i hD IB (I3.RQ (zg _) hC) ?_ E4.base hD4 (by rw[km] at ho;rw[<-ho];exact r4)
   obtain⟨m,hn,_⟩:=I5.loc
   rw[hXe] at hn
   exact⟨m,hn⟩
 exact hstart (loop _ rfl) (T.self _ 0 _ _ _ st1 (loop _ rfl))
def AcL (K:PySem.W.Frag) (H:Hp) (i:Nat) (o1:List Dt) (o:HO):Prop:=∃ us,o=.lst us/\aK K H o1 us/\o1.length<=i
theorem Ym (h:PV X elt fe):Yj X (fun D env=>do let _ <-call (.builtin "list.append") [.ref D,<-eval elt env]) fe (AcL X.K) 100000:=by
 intro pins s σ H H0 ρ D o i o1 y I En ee hD ⟨us,e,r4,hl⟩ hi
 subst e
 refine zb (qr (h pins s σ H (fun v H9=>Same H H9/\Rep X.K H9 y v) I ⟨H0,ρ,_,En,ee,fun v H9 s9 _ r9=>⟨s9,r9⟩⟩) (fun v s9 h9=>?_) fun _ _ z=>z)
 obtain⟨v',H9,I9,rv,Yl,r9⟩:=h9
 have hD9:=Yl _ _ hD
 refine zb (qr ((vJ (X:=X)) _ s9 σ H9 (.ref D) [v'] (.ref D) [v] (fun w H10=>H10=upd H9 D (.lst (us++[v']))) I9 rfl (.cons rv .nil) ⟨_,us,v',rfl,rfl,hD9,by rw[r4.length];have h0:(100000:Nat) < sizeLine:=(by decide);omega,rfl⟩) (fun w s10 h10=>?_) fun _ _ z=>z)
 obtain⟨w',H10,I10,_,rfl⟩:=h10
 have kp:Kp H9 (upd H9 D (.lst (us++[v']))):=.lst hD9
 exact ze ⟨H9,_,I10,Yl,kp,us++[v'],rfl,((r4.kp (.of Yl)).append (aK.cons r9 aK.nil)).kp kp,by simp;omega⟩
theorem yd {pins:List (Addr×Obj)} {σ:L2.St} {H H2:Hp} {s2:Shared} {it:Addr} {fp:List Addr} {tn:Nat->Heap->Prop} {J:It} {ds out:List Dt} {ρ:Ev} {RR:Value->Addr->Result->Shared->Prop} {E:Value->Shared->Prop}
  (hkind:scope.kind=.function) (hcell:∀ y∈scope.names,y.2≠.cell) (hcalm:X.calm=true)
  (hsub:SubL X.env.cells cl) (hhas:∀ x,((relabel scope X.env).names.lookup x=some .cell\/(relabel scope X.env).names.lookup x=some .free)->∃ c,cl.lookup x=some c) (hcap:yc X scope cl xs is)
  (J9:∀ C s₀ H₀ fp,PTg (Aw X (xs++ts) scope cl C s₀ H₀ fp) tgt gt) (hif:∀ C s₀ H₀ fp,Tests (Aw X (xs++ts) scope cl C s₀ H₀ fp) ifs p) (helt:∀ C s₀ H₀ fp,PV (Aw X (xs++ts) scope cl C s₀ H₀ fp) elt fe) (htk:Xg is.length gt)
  (I2:L2.Inv X pins σ H2 s2) (Ec:bJ X.K H2 H2 (uG is σ++List.replicate ts.length none) (jB is ρ++List.replicate ts.length none)) (T:Turn X.prog X.w X.K tgt J fp it tn) (st:tn 0 s2.heap) (hf:∀ b∈fp,uz X pins H2 b) (Y:Yields X.K J ds H2)
  (hlen:ds.length<=100000) (hout:qe gt p fe (jB is ρ++List.replicate ts.length none) ds=some out)
  (hRR:∀ (D C:Addr) (s':Shared) (H':Hp) (us:List V),H2 D=none->L2.Inv X pins σ H' s'->uz X pins H' C->(∃ m,s'.heap.Ns C m)->Same H2 H'->H' D=some (.lst us)->aK X.K H' out us->RR (.ref D) C (.ok .next) s') :
  wpAny (model X.prog X.w) X.A (newList []) (fun acc s₃=>wpAny (model X.prog X.w) X.A (newFunctionEnv scope X.env.globals cl [] X.env.qual none .none (some X.env)) (fun cenv s₄=>
   codeAny (model X.prog X.w) X.A (.compStart (.ListComp elt [⟨tgt,iter,ifs,0⟩] scope pos) 0 (.ref it) acc { cenv with scope:=relabel scope X.env }) (RR acc cenv.locals) s₄) E s₃) E s2:=
 G4 (H:=H) (Ac:=AcL X.K) (O0:=.lst []) (N:=100000) hkind hcell hcalm hsub hhas hcap J9 hif (fun C s₀ H₀ fp=>Ym (helt C s₀ H₀ fp)) htk I2 Ec T st hf Y hlen hout (fun D C s' H' o i a b c d e f g=>by obtain⟨us,rfl,r,_⟩:=g;exact hRR D C s' H' us a b c d e f r)
  qi (fun _=>⟨qS _,[],0,.nil,zt _ rfl⟩) (fun _=>⟨[],rfl,aK.nil,zg _⟩) (fun k l ⟨us,e,r,z⟩=>⟨us,e,r.kp k,z4 z l⟩) (fun _ _ _=>rfl) codeAny_compStart_list fun h=>h
end
def iC (K:PySem.W.Frag) (f:Ev->Option (List Dt)):TI:=fun σ H R=>∃ H0 ρ ds,bJ K H0 H σ ρ/\f ρ=some ds/\∀ J H',Same H H'->Yields K J ds H'->R J H'
def PIC (X:Cx) (tg iter:Expr) (f:Ev->Option (List Dt)):Prop:=PI X tg iter (iC X.K f)
structure QIC (X:Cx) (tg iter:Expr) (f:Ev->Option (List Dt)):Prop where
 run:PIC X tg iter f
def Yn:Bx->Option (List Dt)
 |.z (.lst ds)=>some ds
 |.z (.tup ds)=>some ds
 |.z (.str x)=>some (signs x)
 |.o ds=>some ds
 |.l ds=>some ds
 |_=>none
section
variable {X:Cx} {e elt tgt iter:Expr} {es ifs:List Expr} {f:Ev->Option Bx} {fs:Ev->Option (List Bx)} {scope:Scope} {cl:List (Str×Addr)} {pos:Pos} {xs ts:List Str} {is:List Nat} {gt:Dt->Ev->Option Ev} {p:Ev->Option Bool} {fe:Ev->Option Bx} {fi:Ev->Option (List Dt)}
theorem NT (h:QIF X tgt iter fi):QIC X tgt iter fi:=⟨have h:=h.run;fun pins s σ H R I q=>by
 obtain⟨H0,ρ,ds,E,e,q⟩:=q
 exact h pins s σ H R I ⟨H0,ρ,ds,E,e,fun J H' s' y=>q J H' s' (y H' (Same.refl H') (fun _ _=>rfl) (fun _ _ _ _=>rfl) fun _ _ _=>rfl)⟩⟩
theorem jD (h:QV X e f):QIC X tgt e (fun ρ=>(f ρ).bind Yn):=⟨have h:=h.run;fun pins s σ H R I q=>by
 refine NP h pins s σ H R I ?_
 obtain⟨H0,ρ,ds,E,e,q⟩:=q
 obtain⟨b,eb,e⟩:=bind_some e
 refine⟨H0,ρ,b,E,eb,fun v H1 s1 n1 r1=>?_⟩
 cases b with
 |z d=>
  cases d with
  |tup ds'=>
   cases e
   simp only[bf,Rep] at r1
   obtain⟨a,vs,rfl,hq,rs⟩:=r1
   exact .inr (.inl ⟨a,rfl,⟨vs,hq⟩,q _ _ s1 (.tup hq rs)⟩)
  |lst ds'=>
   cases e
   obtain⟨a,vs,rfl,hq,rs⟩:=r1.FQ rfl
   exact .inl ⟨a,rfl,⟨vs,hq⟩,q _ _ s1 (.list hq rs)⟩
  |str x=>
   cases e
   simp only[bf,Rep] at r1
   obtain⟨rfl,_⟩:=r1
   exact .inr (.inr ⟨x,rfl,q _ _ s1 (.str x)⟩)
  |_=>cases e
 |l ds'=>
  cases e
  obtain⟨a,vs,rfl,hq,rs⟩:=r1.FQ rfl
  exact .inl ⟨a,rfl,⟨vs,hq⟩,q _ _ s1 (.list hq rs)⟩
 |o ds'=>
  cases e
  obtain⟨a,vs,rfl,hq,rs⟩:=r1.FQ rfl
  exact .inl ⟨a,rfl,⟨vs,hq⟩,q _ _ s1 (.list hq rs)⟩
 |n _=>cases e
 |m _ _=>cases e⟩
def eX (fi:Ev->Option (List Dt)) (gt:Dt->Ev->Option Ev) (p:Ev->Option Bool) (fe:Ev->Option Bx) (is:List Nat) (n:Nat):Ev->Option Bx:=fun ρ=>(fi ρ).bind fun ds=>
 if ds.length<=100000 then (qe gt p fe (jB is ρ++List.replicate n none) ds).bind fun out=>some (.o out) else none
structure zO (X:Cx) (scope:Scope) (cl:List (Str×Addr)) (xs:List Str) (is:List Nat):Prop where
 clos:closureFor scope X.env=pure cl
 kind:scope.kind=.function
 cell:∀ y∈scope.names,y.2≠.cell
 names:∀ y∈scope.names,y.2=.local->scope.names.lookup y.1=some .local
 sub:SubL X.env.cells cl
 has:∀ x,((relabel scope X.env).names.lookup x=some .cell\/(relabel scope X.env).names.lookup x=some .free)->∃ c,cl.lookup x=some c
 cap:yc X scope cl xs is
theorem mZ (ts:List Str) (O:zO X scope cl xs is) (hcalm:X.calm=true) (hi:QIC X tgt iter fi) (J9:∀ C s₀ H₀ fp,Xf (Aw X (xs++ts) scope cl C s₀ H₀ fp) tgt gt) (hif:∀ C s₀ H₀ fp,zN (Aw X (xs++ts) scope cl C s₀ H₀ fp) ifs p) (helt:∀ C s₀ H₀ fp,QV (Aw X (xs++ts) scope cl C s₀ H₀ fp) elt fe) (htk:Xg is.length gt) (hs:∀ x,foldedSetIterable iter X.env x=pure x:=by intro _;rfl):QV X (.ListComp elt [⟨tgt,iter,ifs,0⟩] scope pos) (eX fi gt p fe is ts.length):=⟨have hi:=hi.run;have J9:=fun C s₀ H₀ fp=>(J9 C s₀ H₀ fp).run;have hif:=fun C s₀ H₀ fp=>(hif C s₀ H₀ fp).run;have helt:=fun C s₀ H₀ fp=>(helt C s₀ H₀ fp).run;fun pins s σ H Q I h=>by
 obtain⟨H0,ρ,b,E,e,q⟩:=h
 obtain⟨ds,ed,e⟩:=bind_some e
 split at e
 ·rename_i hlen
  obtain⟨out,eo,e⟩:=bind_some e
  cases e
  rw[eval_ListComp]
  refine kz (use:=none) rfl hs O.clos O.kind O.names ?_
  refine mH (hi pins s σ H (fun J H'=>Same H H'/\Yields X.K J ds H') I ⟨H0,ρ,ds,E,ed,fun J H' s' y=>⟨s',y⟩⟩) fun v s1 h1=>mH h1 fun itv s2 h2=>?_
  obtain⟨it,fp,tn,J,H2,rfl,I2,T,st,hf,s12,Y⟩:=h2
  refine yd (RR:=fun acc C=>compPost (model X.prog X.w) X.A X.xe none (EP X pins σ Q) acc C) (ts:=ts) (xs:=xs) (H:=H) O.kind O.cell hcalm O.sub O.has O.cap J9 hif helt htk I2 ((E.grow s12).caps is ts.length) T st hf Y hlen eo ?_
  intro D C s' H' us hD I' fC ⟨m,hn⟩ s2' hD' r'
  refine⟨m,hn,fun h' sb=>⟨.ref D,H',?_,rfl,q _ _ (s12.trans s2') (fun a ea=>by cases ea;exact s12.free hD) ⟨D,us,rfl,hD',r'⟩⟩⟩
  obtain⟨f0,f1,f2,f3,f4,f5⟩:=fC
  exact I'.turned (t':=s'.toks) (fun b o hb e=>(sb.2 b hb).trans e) f0 f1 f3 f4 f5
 ·cases e⟩
theorem yg (i:Nat) {y:Str} {py spos:Pos} (ts:List Str) (O:zO X scope cl xs is) (hcalm:X.calm=true) (hN:X.N.Nodup) (hi:QIC X tgt iter fi) (J9:∀ C s₀ H₀ fp,Xf (Aw X (xs++ts) scope cl C s₀ H₀ fp) tgt gt) (hif:∀ C s₀ H₀ fp,zN (Aw X (xs++ts) scope cl C s₀ H₀ fp) ifs p) (helt:∀ C s₀ H₀ fp,QV (Aw X (xs++ts) scope cl C s₀ H₀ fp) elt fe) (htk:Xg is.length gt) (hsw:swapsWith (.ListComp elt [⟨tgt,iter,ifs,0⟩] scope pos) (some (.Name y py)) spos.line X.env=pure true:=by with_unfolding_all rfl) (hy:X.N[i]?=some y:=by rfl) (hx:Loc X.env.scope y:=by first|exact JP rfl|exact QR rfl) (hf:X.fn y=true\/X.env.scope.names.lookup y=some .local:=by first|exact .inl rfl|exact .inr rfl) (hs:∀ x,foldedSetIterable iter X.env x=pure x:=by intro _;rfl):Qq X (.Assign [.Name y py] (.ListComp elt [⟨tgt,iter,ifs,0⟩] scope pos) spos) (fun ρ=>(eX fi gt p fe is ts.length ρ).bind fun b=>(U4 ρ i b).bind fun ρ'=>some (.nx ρ')):=⟨have hi:=hi.run;have J9:=fun C s₀ H₀ fp=>(J9 C s₀ H₀ fp).run;have hif:=fun C s₀ H₀ fp=>(hif C s₀ H₀ fp).run;have helt:=fun C s₀ H₀ fp=>(helt C s₀ H₀ fp).run;fun pins s σ H D I h=>by
 obtain⟨H0,ρ,r,E,e,q⟩:=h
 obtain⟨b,eb,e⟩:=bind_some e
 obtain⟨ds,ed,eb⟩:=bind_some eb
 split at eb
 ·rename_i hlen
  obtain⟨out,eo,eb⟩:=bind_some eb
  cases eb
  cases e
  rw[exec_Assign_Name_used _ _ _ _ hsw]
  refine zb (KL (zb ?_))
  show wpAny _ X.A (do let _ <-comprehension (.ListComp elt [⟨tgt,iter,ifs,0⟩] scope pos) scope X.env _ (newList []) false (eval iter X.env) (some (assign (.Name y py) X.env))) _ _ s
  refine zb (qr (kz (use:=some (assign (.Name y py) X.env)) (Q:=fun _ s'=>SP X pins D .next s') rfl hs O.clos O.kind O.names ?_) (fun _ s' hq=>ze (ze hq)) fun _ _ e=>e)
  refine mH (hi pins s σ H (fun J H'=>Same H H'/\Yields X.K J ds H') I ⟨H0,ρ,ds,E,ed,fun J H' s' y=>⟨s',y⟩⟩) fun v s1 h1=>mH h1 fun itv s2 h2=>?_
  obtain⟨it,fp,tn,J,H2,rfl,I2,T,st,hf',s12,Y⟩:=h2
  refine yd (RR:=fun acc C=>compPost (model X.prog X.w) X.A X.xe (some (assign (.Name y py) X.env)) (fun _ s'=>SP X pins D .next s') acc C) (ts:=ts) (xs:=xs) (H:=H) O.kind O.cell hcalm O.sub O.has O.cap J9 hif helt htk I2 ((E.grow s12).caps is ts.length) T st hf' Y hlen eo ?_
  intro Da C s' H' us hD I' fC ⟨m,hn⟩ s2' hD' r'
  show wpAny _ X.A (assign (.Name y py) X.env (.ref Da)) _ _ s'
  obtain⟨f0,f1,f2,f3,f4,f5⟩:=fC
  obtain⟨oC,es',ep,hoC,hdC,hrest⟩:=id hn
  have I'':L2.Inv X (pins++[(C,oC)]) σ H' s':=I'.HJ fun pp hp=>by
   rcases List.mem_append.mp hp with z|z
   ·exact I'.pin pp (qc _ z)
   ·have:pp=(C,oC):=by simpa using z
    subst this
    exact⟨hoC,f0,f1,f2,fun v z=>by rw[hdC] at z;cases z⟩
  refine mH (L2.Qg hN hy hx hf (pins++[(C,oC)]) s' σ H' (.ref Da) (.ref Da) (fun σ' H''=>σ'=σ.set i (some (.ref Da))/\H''=H') I'' rfl ⟨rfl,rfl⟩) fun _ s'' ⟨σ',H'',J',e1,e2⟩=>?_
  subst e1 e2
  have hC':=(J'.pin (C,oC) (by simp)).1
  refine⟨m,⟨oC,es',ep,hC',hdC,hrest⟩,fun h' sb=>?_⟩
  refine⟨σ.set i (some (.ref Da)),H'',J'.uD.turned (t':=s''.toks) (fun b o hb e=>(sb.2 b hb).trans e) f0 f1 f3 f4 f5,q _ _ ?_⟩
  exact E.set (s12.trans s2') (b:=.o out) ⟨Da,us,rfl,hD',r'⟩ (.inl rfl) fun a ea=>by cases ea;exact s12.free hD
 ·cases eb⟩
def lend:Bx->Bx
 |.o ds=>.l ds
 |.m ds _=>.n ds
 |b=>b
def isO:Bx->Bool
 |.o _=>true
 |.m _ _=>true
 |_=>false
def qK (K:PySem.W.Frag) (n:Nat) (F:List Bx->Option Bx):Sp:=fun vs H Q _=>vs.length=n/\∃ bs r,o9 K H bs vs/\bs.all (fun b=>!isO b)=true/\F bs=some r/\∀ v H',Same H H'->Nw H r v->bf K H' r v->Q v H'
def lH (n:Nat) (g:Ev->Option Out):List Bx->Option Bx:=fun bs=>(g (bs.map some++List.replicate (n - bs.length) none)).bind fun r=>match r with
 |.rt b=>some b
 |.nx _=>some (.z .non)
 |_=>none
theorem bJ.start {K:PySem.W.Frag} {H:Hp} {N:List Str} {bs:List Bx} {vs:List V} (r:o9 K H bs vs) (ho:bs.all (fun b=>!isO b)=true):bJ K H H (L2.start N vs) (bs.map some++List.replicate (N.length - bs.length) none):=by
 have hl:bs.length=vs.length:=Paired.length r
 have get:∀ (i:Nat) b,(bs.map some++List.replicate (N.length - bs.length) none)[i]?=some (some b)->bs[i]?=some b:=fun i b e=>by
  by_cases hi:i < bs.length
  ·rw[Zs (by simpa using hi),zS] at e
   cases q:bs[i]? with
   |none=>rw[q] at e;cases e
   |some b'=>rw[q] at e;simpa using e
  ·rw[ZT (by simp;omega),qB] at e
   split at e<;>cases e
 have NQ:∀ (i:Nat) c,(bs.map some++List.replicate (N.length - bs.length) none)[i]?=some (some c)->uo c=true->False:=fun i c e ec=>by
  have:=List.all_eq_true.mp ho _ (ZO (get i _ e))
  cases c with
  |o ds=>cases this
  |m ds _=>cases this
  |_=>cases ec
 refine⟨?_,fun i b e=>?_,fun i j c a b e ec=>(NQ i c e ec).elim,Same.refl H,fun i c a e ec=>(NQ i c e ec).elim⟩
 ·unfold L2.start
  simp[hl]
 ·have e':=get i b e
  have hi:i < bs.length:=(List.getElem?_eq_some_iff.mp e').1
  have:∀ {bs:List Bx} {vs:List V} {i:Nat} {b:Bx},Paired (bf K H) bs vs->bs[i]?=some b->∃ v,vs[i]?=some v/\bf K H b v:=by
   intro bs vs i b r
   induction r generalizing i with
   |nil=>intro e;simp at e
   |cons p t ih=>
    intro e
    cases i with
    |zero=>simp at e;subst e;exact⟨_,rfl,p⟩
    |succ i=>obtain⟨v,e1,e2⟩:=ih (i:=i) (by simpa using e);exact⟨v,by simpa using e1,e2⟩
  obtain⟨v,e1,e2⟩:=this r e'
  refine⟨v,?_,e2⟩
  unfold L2.start
  rw[Zs (by simp;omega),zS,e1]
  rfl
end
section
variable {P:Program} {w:World} {K:PySem.W.Frag} {mg:Str->Option Value} {base:Heap}
theorem afS {x qual:Str} {st:Stmt} {f:Addr} {fd:FuncData} {N ps:List Str} {k:Nat} {g:Ev->Option Out} (F:zM K x qual st f fd) (S:cQ N ps (aJ st))
  (hbody:∀ (cdv:Value) (A:Around) (outer:List Env) (s:Shared) (H:Hp) (E:XK),mQ k (A.deeper (envOfC qual (aJ st) s.heap.objs.size f cdv))->RN (CN mR P w K mg base N qual (aJ st) f cdv A outer s H E).RM (cF st) g) :
  cU P w K mg base mR (k+1) f fd ps (qK K ps.length (lH N.length g)):=by
 refine F.ok S (fun vs H Q E h=>h.1) fun cdv A outer s H vs Q E hr h=>?_
 obtain⟨hl,bs,r,rb,ho,e,q⟩:=h
 refine⟨_,hbody cdv A outer s H E hr,?_⟩
 obtain⟨r',er,e⟩:=bind_some e
 refine⟨H,_,r',bJ.start rb ho,er,?_⟩
 cases r' with
 |rt b=>cases e;exact fun v H' s' n' r'=>q v H' s' n' r'
 |nx ρ=>cases e;exact fun σ H' E'=>q _ H' E'.base trivial (by unfold bf Rep;rfl)
 |bk ρ=>cases e
 |ct ρ=>cases e
end
section
variable {X:Cx} {k:Nat} {f:Addr} {fd:FuncData} {ps:List Str} {F:List Bx->Option Bx} {x:Str} {p pos:Pos} {e:Expr} {es:List Expr} {fs:Ev->Option (List Bx)} {n:Nat}
theorem Dk {K:PySem.W.Frag} {H:Hp}:∀ {bs:List Bx} {vs:List V},o9 K H bs vs->o9 K H (bs.map lend) vs
 |_,_,.nil=>.nil
 |b::bs,_,.cons h t=>by
  refine .cons ?_ (Dk t)
  cases b with
  |z d=>exact h
  |l ds=>exact h
  |o ds=>obtain⟨a,vs,e,q,r⟩:=h;exact⟨a,vs,e,.inl q,r⟩
  |n ds=>exact h
  |m ds _=>obtain⟨a,vs,e,q,r⟩:=h;exact⟨a,vs,e,.inl q,r.1⟩
theorem Iw:∀ bs:List Bx,(bs.map lend).all (fun b=>!isO b)=true
 |[]=>rfl
 |b::bs=>by
  rw[zr,kq,Iw bs]
  cases b<;>rfl
def cV (n:Nat) (F:List Bx->Option Bx) (fs:Ev->Option (List Bx)):Ev->Option Bx:=fun ρ=>(fs ρ).bind fun bs=>if bs.length=n then F (bs.map lend) else none
theorem bO (G:cU X.prog X.w X.K X.mg X.base mR k f fd ps (qK X.K n F)) (hr:mQ k X.A) (hg:Gl X x) (hm:X.mg x=some (.ref f)) (hk:PySem.W.keepIn X.K (.ref f)=true) (hb:Binds X.K fd ps []) (ha:T6 X (e::es) fs) (hdb:(x==("__debug__" : Str))=false:=by decide) (he:starEach (e::es) X.env=(false,eval e X.env)::starEach es X.env:=by rfl) (hpl:(backTo pos (starEach es X.env)).any (·.1)=false:=by rfl):QV X (.Call (.Name x p) (e::es) [] pos) (cV n F fs):=⟨have ha:=ha.run;Ij (HW G hr hg hm hk hb .nil (Uz) ha hdb he hpl) fun σ H Q h=>by
 obtain⟨H0,ρ,r,E,e,q⟩:=h
 obtain⟨bs,eb,e⟩:=bind_some e
 refine⟨H0,ρ,bs,E,eb,fun vs H1 s1 r1=>?_⟩
 split at e
 ·rename_i hn
  rw[km]
  exact⟨by rw[<-Paired.length r1];exact hn,_,r,Dk r1,Iw bs,e,fun v H2 s2 n2 r2=>q v H2 (s1.trans s2) (n2.old s1) r2⟩
 ·cases e⟩
end
end P1
end
section
namespace P1
open PySem PySem.Spec PyProof.Rows L2 SeqAt
mutual
def vX:Dt->Nat
 |.tup xs=>uH xs+1
 |.lst xs=>uH xs+1
 |_=>1
def uH:List Dt->Nat
 |[]=>0
 |d::ds=>max (vX d) (uH ds)
end
mutual
def yh:Dt->Dt->Option Bool
 |.non,.non=>some true
 |.non,.bl _=>some false|.non,.int _=>some false|.non,.str _=>some false|.non,.tup _=>some false|.non,.lst _=>some false
 |.bl a,.bl b=>some (a==b)
 |.bl a,.int b=>some ((if a then 1 else 0)==b)
 |.bl _,.non=>some false|.bl _,.str _=>some false|.bl _,.tup _=>some false|.bl _,.lst _=>some false
 |.int a,.int b=>some (a==b)
 |.int a,.bl b=>some (a==(if b then 1 else 0))
 |.int _,.non=>some false|.int _,.str _=>some false|.int _,.tup _=>some false|.int _,.lst _=>some false
 |.str a,.str b=>some (a==b)
 |.str _,.non=>some false|.str _,.bl _=>some false|.str _,.int _=>some false|.str _,.tup _=>some false|.str _,.lst _=>some false
 |.tup xs,.tup ys=>nC xs ys
 |.tup _,.non=>some false|.tup _,.bl _=>some false|.tup _,.int _=>some false|.tup _,.str _=>some false|.tup _,.lst _=>some false
 |.lst xs,.lst ys=>nC xs ys
 |.lst _,.non=>some false|.lst _,.bl _=>some false|.lst _,.int _=>some false|.lst _,.str _=>some false|.lst _,.tup _=>some false
 |_,_=>none
def nC:List Dt->List Dt->Option Bool
 |[],[]=>some true
 |[],_::_=>some false
 |_::_,[]=>some false
 |x::xs,y::ys=>match yh x y with
  |some b=>match nC xs ys with
   |some c=>some (b&&c)
   |none=>none
  |none=>none
end
mutual
theorem KC:∀ {d:Dt} {k:Bool},yh d d=some k->k=true
 |.non,_,e=>by cases e;rfl
 |.bl b,_,e=>by cases e;simp
 |.int b,_,e=>by cases e;simp
 |.str b,_,e=>by cases e;simp
 |.tup xs,_,e=>zP (ds:=xs) e
 |.lst xs,_,e=>zP (ds:=xs) e
 |.emp,_,e=>by cases e
theorem zP:∀ {ds:List Dt} {k:Bool},nC ds ds=some k->k=true
 |[],_,e=>by simp only[nC] at e;cases e;rfl
 |d::ds,_,e=>by
  simp only[nC] at e
  cases h:yh d d with
  |none=>rw[h] at e;cases e
  |some b=>
   rw[h] at e
   simp only at e
   cases h2:nC ds ds with
   |none=>rw[h2] at e;cases e
   |some c=>
    rw[h2] at e
    cases e
    rw[KC h,zP h2]
    rfl
end
theorem Cg (xs ys:List Dt):yh (.tup xs) (.tup ys)=nC xs ys:=rfl
theorem uI:∀ {xs ys:List Dt} {k:Bool},nC xs ys=some k->∃ e:Nat->Bool,(∀ (j:Nat) x y,xs[j]?=some x->ys[j]?=some y->yh x y=some (e j))/\k=((List.range (min xs.length ys.length)).all e&&xs.length==ys.length)
 |[],[],k,h=>by simp only[nC] at h;cases h;exact⟨fun _=>true,fun j x y e=>by simp at e,by simp⟩
 |[],y::ys,k,h=>by simp only[nC] at h;cases h;exact⟨fun _=>true,fun j x y e=>by simp at e,by simp⟩
 |x::xs,[],k,h=>by simp only[nC] at h;cases h;exact⟨fun _=>true,fun j x y _ e=>by simp at e,by simp⟩
 |x::xs,y::ys,k,h=>by
  simp only[nC] at h
  cases h1:yh x y with
  |none=>rw[h1] at h;cases h
  |some b=>
   rw[h1] at h
   simp only at h
   cases h2:nC xs ys with
   |none=>rw[h2] at h;cases h
   |some c=>
    rw[h2] at h
    cases h
    obtain⟨e,g,hc⟩:=uI h2
    refine⟨fun j=>match j with|0=>b|j+1=>e j,fun j u v eu ev=>?_,?_⟩
    ·cases j with
     |zero=>simp at eu ev;subst eu ev;exact h1
     |succ j=>exact g j u v (by simpa using eu) (by simpa using ev)
    ·have:min (x::xs).length (y::ys).length=min xs.length ys.length+1:=by simp only[qv];omega
     rw[this,List.range_succ_eq_map,kq,List.all_map,hc]
     have hb:((x::xs).length==(y::ys).length)=(xs.length==ys.length):=by
      rw[ko];simp
     rw[hb,Bool.and_assoc]
     rfl
theorem uJ:∀ {ds:List Dt} {j:Nat} {d:Dt},ds[j]?=some d->vX d<=uH ds
 |[],_,_,e=>by simp at e
 |d::ds,0,_,e=>by simp at e;subst e;simp only[uH];exact Nat.le_max_left _ _
 |d::ds,j+1,_,e=>by
  simp only[uH]
  exact z4 (uJ (ds:=ds) (j:=j) (by simpa using e)) (Nat.le_max_right _ _)
section
variable {X:Cx} {pins:List (Addr×Obj)} {σ:L2.St} {H:Hp} {s:Shared}
theorem Ci (I:L2.Inv X pins σ H s) {a:Addr} {vs:List V} (h:xM X.K H a vs):∃ ob,s.heap.get? a=some ob/\ob.cls=.type "tuple" := by
 obtain⟨its,_,⟨ob,e,c,_⟩,_⟩:=I.tuple h
 exact⟨ob,e,c⟩
theorem Cj (I:L2.Inv X pins σ H s) {a:Addr} {vs:List V} (h:um X.K H a vs):∃ ob,s.heap.get? a=some ob/\ob.cls=.type "list" := by
 obtain⟨its,_,⟨ob,n,e,c,_⟩,_⟩:=I.list h
 exact⟨ob,e,c⟩
theorem vL (I:L2.Inv X pins σ H s) {a:Addr} {o:Obj} (h:H a=some (.lG o (.dK []))):∃ ob,s.heap.get? a=some ob/\ob.cls=.type "dict" := by
 obtain⟨e,_,_,vs,_,ob,es,ep,e2,ex,_⟩:=I.hok a _ h
 exact⟨ob,e2,ex.1⟩
theorem zQ {a:Addr} {n m:String} (h:∃ ob,s.heap.get? a=some ob/\ob.cls=.type n) (q:∃ ob,s.heap.get? a=some ob/\ob.cls=.type m) (hn:n≠m):False:=by
 obtain⟨o,e,c⟩:=h
 obtain⟨o',e',c'⟩:=q
 rw[e] at e';cases e'
 rw[c] at c'
 exact hn (by injection c')
mutual
theorem Rep.inj (I:L2.Inv X pins σ H s):∀ {d e:Dt} {v:V},Rep X.K H d v->Rep X.K H e v->d=e
 |.non,e,v,h,q=>by
  simp only[Rep] at h;subst h
  cases e<;>simp only[Rep] at q<;>first|rfl|(cases q;done)|(obtain⟨a,b,z,_⟩:=q;cases z;done)|(obtain⟨z,_⟩:=q;cases z;done)
 |.bl _,e,v,h,q=>by
  simp only[Rep] at h;subst h
  cases e<;>simp only[Rep] at q<;>first|(cases q;rfl)|(cases q;done)|(obtain⟨a,b,z,_⟩:=q;cases z;done)|(obtain⟨z,_⟩:=q;cases z;done)
 |.int _,e,v,h,q=>by
  simp only[Rep] at h;subst h
  cases e<;>simp only[Rep] at q<;>first|(cases q;rfl)|(cases q;done)|(obtain⟨a,b,z,_⟩:=q;cases z;done)|(obtain⟨z,_⟩:=q;cases z;done)
 |.str x,e,v,h,q=>by
  simp only[Rep] at h
  have hv:v=.str x:=h.1
  subst hv
  cases e with
  |str y=>
   simp only[Rep] at q
   have z:V.str x=V.str y:=q.1
   injection z with z
   rw[z]
  |tup es=>simp only[Rep] at q;obtain⟨a,b,z,_⟩:=q;cases z
  |lst es=>simp only[Rep] at q;obtain⟨a,b,z,_⟩:=q;cases z
  |emp=>simp only[Rep] at q;obtain⟨a,b,z,_⟩:=q;cases z
  |_=>simp only[Rep] at q;cases q
 |.tup ds,e,v,h,q=>by
  simp only[Rep] at h
  obtain⟨a,vs,rfl,sq,r⟩:=h
  cases e with
  |tup es=>
   simp only[Rep] at q
   obtain⟨b,us,z,NZ,r'⟩:=q
   cases z
   have:=I.GF sq NZ
   subst this
   rw[aK.inj I r r']
  |lst es=>
   simp only[Rep] at q
   obtain⟨b,us,z,NZ,r'⟩:=q
   cases z
   exact (zQ (Ci I sq) (Cj I NZ.sq) (by decide)).elim
  |emp=>
   simp only[Rep] at q
   obtain⟨b,o,z,NZ⟩:=q
   cases z
   exact (zQ (Ci I sq) (vL I NZ) (by decide)).elim
  |str x=>simp only[Rep] at q;have z:=q.1;cases z
  |_=>simp only[Rep] at q;cases q
 |.lst ds,e,v,h,q=>by
  simp only[Rep] at h
  obtain⟨a,vs,rfl,sq,r⟩:=h
  cases e with
  |lst es=>
   simp only[Rep] at q
   obtain⟨b,us,z,NZ,r'⟩:=q
   cases z
   have:=I.Kg sq.sq NZ.sq
   subst this
   rw[aK.inj I r r']
  |tup es=>
   simp only[Rep] at q
   obtain⟨b,us,z,NZ,r'⟩:=q
   cases z
   exact (zQ (Cj I sq.sq) (Ci I NZ) (by decide)).elim
  |emp=>
   simp only[Rep] at q
   obtain⟨b,o,z,NZ⟩:=q
   cases z
   exact (zQ (Cj I sq.sq) (vL I NZ) (by decide)).elim
  |str x=>simp only[Rep] at q;have z:=q.1;cases z
  |_=>simp only[Rep] at q;cases q
 |.emp,e,v,h,q=>by
  simp only[Rep] at h
  obtain⟨a,o,rfl,sq⟩:=h
  cases e with
  |emp=>rfl
  |tup es=>
   simp only[Rep] at q
   obtain⟨b,us,z,NZ,r'⟩:=q
   cases z
   exact (zQ (vL I sq) (Ci I NZ) (by decide)).elim
  |lst es=>
   simp only[Rep] at q
   obtain⟨b,us,z,NZ,r'⟩:=q
   cases z
   exact (zQ (vL I sq) (Cj I NZ.sq) (by decide)).elim
  |str x=>simp only[Rep] at q;have z:=q.1;cases z
  |_=>simp only[Rep] at q;cases q
theorem aK.inj (I:L2.Inv X pins σ H s):∀ {ds es:List Dt} {vs:List V},aK X.K H ds vs->aK X.K H es vs->ds=es
 |[],es,vs,h,q=>by
  simp only[aK] at h;subst h
  cases es with
  |nil=>rfl
  |cons e es=>simp only[aK] at q;obtain⟨_,_,z,_⟩:=q;cases z
 |d::ds,es,vs,h,q=>by
  simp only[aK] at h
  obtain⟨v,r,rfl,h1,h2⟩:=h
  cases es with
  |nil=>simp only[aK] at q;cases q
  |cons e es=>
   simp only[aK] at q
   obtain⟨v',r',z,q1,q2⟩:=q
   cases z
   rw[Rep.inj I h1 q1,aK.inj I h2 q2]
end
theorem Z7 (I:L2.Inv X pins σ H s):∀ (n:Nat) {A:Around} {d e:Dt} {x y:V} {u v:Value} {k:Bool},min (vX d) (vX e)<=n->A.units+n < cLine->Rep X.K H d x->Rep X.K H e y->RelV x u->RelV y v->yh d e=some k->EqAt A s u v k:=by
 intro n
 induction n with
 |zero=>
  intro A d e x y u v k hn
  have h1:1<=vX d:=by cases d<;>simp only[vX]<;>omega
  have h2:1<=vX e:=by cases e<;>simp only[vX]<;>omega
  omega
 |succ n ih=>
  intro A d e x y u v k hn hA rd re ru rv ek
  have hu:A.units < cLine:=by omega
  by_cases hxy:u=v/\∃ a,u=.ref a
  ·obtain⟨rfl,a,rfl⟩:=hxy
   have hx:x=.ref a:=by have:=ru.abs;simpa [aaK] using this.symm
   have hy:y=.ref a:=by have:=rv.abs;simpa [aaK] using this.symm
   subst hx hy
   have:=Rep.inj I rd re
   subst this
   rw[KC ek]
   exact EqAt.same _
  ·have items:∀ {ds es:List Dt} {vs us:List V} {its its2:List Value} {f:Nat->Bool},min (uH ds) (uH es)<=n->aK X.K H ds vs->aK X.K H es us->Vals vs its->Vals us its2->(∀ (j:Nat) x y,ds[j]?=some x->es[j]?=some y->yh x y=some (f j)) →
     ∀ j (h1:j < its.toArray.size) (h2:j < its2.toArray.size),EqAt A.in1 s its.toArray[j] its2.toArray[j] (f j):=by
    intro ds es vs us its its2 f hm r1 r2 w1 w2 hf j h1 h2
    have l1:=w1.length
    have l2:=w2.length
    have l3:=r1.length
    have l4:=r2.length
    have j1:j < its.length:=by simpa using h1
    have j2:j < its2.length:=by simpa using h2
    have d1:ds[j]?=some ds[j]:=by simp
    have d2:es[j]?=some es[j]:=by simp
    obtain⟨a,ea,ra⟩:=r1.get d1
    obtain⟨b,eb,rb⟩:=r2.get d2
    obtain⟨p,ep,rp⟩:=w1.get ea
    obtain⟨q,eq,rq⟩:=w2.get eb
    have e1:its.toArray[j]=p:=by simpa [j1] using ep
    have e2:its2.toArray[j]=q:=by simpa [j2] using eq
    rw[e1,e2]
    have m1:=uJ d1
    have m2:=uJ d2
    exact ih (by omega) (by rw[units_in1];omega) ra rb rp rq (hf j _ _ d1 d2)
   cases d with
   |non=>
    cases rd;cases ru
    cases e with
    |non=>cases re;cases rv;cases ek;exact EqAt.same _
    |bl b=>cases re;cases rv;cases ek;exact EqAt.none_bool b
    |int b=>cases re;obtain⟨t,rfl⟩:=rv;cases ek;exact EqAt.none_int b t
    |str b=>obtain⟨rfl,_⟩:=re;obtain⟨t,rfl⟩:=rv;cases ek;exact EqAt.none_str b t
    |tup es=>obtain⟨b,us,rfl,sq,_⟩:=re;cases rv;cases ek;obtain⟨_,_,p,_⟩:=I.tuple sq;exact EqAt.none_tuple p hu
    |lst es=>obtain⟨b,us,rfl,sq,_⟩:=re;cases rv;cases ek;obtain⟨_,_,p,_⟩:=I.list sq.sq;exact EqAt.none_list p.isList hu
    |emp=>cases ek
   |bl a=>
    cases rd;cases ru
    cases e with
    |non=>cases re;cases rv;cases ek;exact EqAt.bool_none a
    |bl b=>cases re;cases rv;cases ek;exact EqAt.bool_bool a b
    |int b=>cases re;obtain⟨t,rfl⟩:=rv;cases ek;exact EqAt.bool_int a b t
    |str b=>obtain⟨rfl,_⟩:=re;obtain⟨t,rfl⟩:=rv;cases ek;exact EqAt.bool_str a b t
    |tup es=>obtain⟨b,us,rfl,sq,_⟩:=re;cases rv;cases ek;obtain⟨_,_,p,_⟩:=I.tuple sq;exact EqAt.bool_tuple a p hu
    |lst es=>obtain⟨b,us,rfl,sq,_⟩:=re;cases rv;cases ek;obtain⟨_,_,p,_⟩:=I.list sq.sq;exact EqAt.bool_list a p.isList hu
    |emp=>cases ek
   |int a=>
    cases rd;obtain⟨t',rfl⟩:=ru
    cases e with
    |non=>cases re;cases rv;cases ek;exact EqAt.int_none a t'
    |bl b=>cases re;cases rv;cases ek;exact EqAt.int_bool a t' b
    |int b=>cases re;obtain⟨t,rfl⟩:=rv;cases ek;exact EqAt.int_int a t' b t
    |str b=>obtain⟨rfl,_⟩:=re;obtain⟨t,rfl⟩:=rv;cases ek;exact EqAt.int_str a t' b t
    |tup es=>obtain⟨b,us,rfl,sq,_⟩:=re;cases rv;cases ek;obtain⟨_,_,p,_⟩:=I.tuple sq;exact EqAt.int_tuple a t' p hu
    |lst es=>obtain⟨b,us,rfl,sq,_⟩:=re;cases rv;cases ek;obtain⟨_,_,p,_⟩:=I.list sq.sq;exact EqAt.int_list a t' p.isList hu
    |emp=>cases ek
   |str a=>
    obtain⟨rfl,_⟩:=rd;obtain⟨t',rfl⟩:=ru
    cases e with
    |non=>cases re;cases rv;cases ek;exact EqAt.str_none a t'
    |bl b=>cases re;cases rv;cases ek;exact EqAt.str_bool a t' b
    |int b=>cases re;obtain⟨t,rfl⟩:=rv;cases ek;exact EqAt.str_int a t' b t
    |str b=>obtain⟨rfl,_⟩:=re;obtain⟨t,rfl⟩:=rv;cases ek;exact EqAt.str_str a t' b t
    |tup es=>obtain⟨b,us,rfl,sq,_⟩:=re;cases rv;cases ek;obtain⟨_,_,p,_⟩:=I.tuple sq;exact EqAt.str_tuple a t' p hu
    |lst es=>obtain⟨b,us,rfl,sq,_⟩:=re;cases rv;cases ek;obtain⟨_,_,p,_⟩:=I.list sq.sq;exact EqAt.str_list a t' p.isList hu
    |emp=>cases ek
   |tup ds=>
    obtain⟨a,vs,rfl,sa,ra⟩:=rd;cases ru
    obtain⟨its,wv,p,_⟩:=I.tuple sa
    cases e with
    |non=>cases re;cases rv;cases ek;exact EqAt.tuple_none p hu
    |bl b=>cases re;cases rv;cases ek;exact EqAt.tuple_bool b p hu
    |int b=>cases re;obtain⟨t,rfl⟩:=rv;cases ek;exact EqAt.tuple_int b t p hu
    |str b=>obtain⟨rfl,_⟩:=re;obtain⟨t,rfl⟩:=rv;cases ek;exact EqAt.tuple_str b t p hu
    |lst es=>obtain⟨b,us,rfl,sq,_⟩:=re;cases rv;cases ek;obtain⟨_,_,p2,_⟩:=I.list sq.sq;exact EqAt.tuple_list p p2.isList hu
    |tup es=>
     obtain⟨b,us,rfl,sb,rb⟩:=re;cases rv
     obtain⟨its2,wu,p2,_⟩:=I.tuple sb
     change nC _ _=some _ at ek
     obtain⟨f,hf,rfl⟩:=uI ek
     have hne:a≠b:=fun z=>hxy ⟨by rw[z],a,rfl⟩
     have z:=EqAt.of_refs hne (RcAt.tuples (A:=A) (e:=f) p p2 hu (items (by simp only[vX] at hn;omega) ra rb wv wu hf))
     have q1:its.toArray.size=ds.length:=by rw[zz,<-wv.length,ra.length]
     have q2:its2.toArray.size=es.length:=by rw[zz,<-wu.length,rb.length]
     rw[q1,q2] at z
     exact z
    |emp=>cases ek
   |lst ds=>
    obtain⟨a,vs,rfl,sa,ra⟩:=rd;cases ru
    obtain⟨its,wv,p,_⟩:=I.list sa.sq
    cases e with
    |non=>cases re;cases rv;cases ek;exact EqAt.list_none p.isList hu
    |bl b=>cases re;cases rv;cases ek;exact EqAt.list_bool b p.isList hu
    |int b=>cases re;obtain⟨t,rfl⟩:=rv;cases ek;exact EqAt.list_int b t p.isList hu
    |str b=>obtain⟨rfl,_⟩:=re;obtain⟨t,rfl⟩:=rv;cases ek;exact EqAt.list_str b t p.isList hu
    |tup es=>obtain⟨b,us,rfl,sq,_⟩:=re;cases rv;cases ek;obtain⟨_,_,p2,_⟩:=I.tuple sq;exact EqAt.list_tuple p.isList p2 hu
    |lst es=>
     obtain⟨b,us,rfl,sb,rb⟩:=re;cases rv
     obtain⟨its2,wu,p2,_⟩:=I.list sb.sq
     change nC _ _=some _ at ek
     obtain⟨f,hf,rfl⟩:=uI ek
     have hne:a≠b:=fun z=>hxy ⟨by rw[z],a,rfl⟩
     have q1:its.toArray.size=ds.length:=by rw[zz,<-wv.length,ra.length]
     have q2:its2.toArray.size=es.length:=by rw[zz,<-wu.length,rb.length]
     by_cases hsz:its.toArray.size=its2.toArray.size
     ·have z:=EqAt.of_refs hne (RcAt.lists (A:=A) (e:=f) p.isList p2.isList hsz hu (items (by simp only[vX] at hn;omega) ra rb wv wu hf))
      have hl:ds.length=es.length:=by omega
      rw[q1] at z
      rw[hl,Nat.min_self,beq_self_eq_true,Ki,<-hl]
      exact z
     ·have hl:(ds.length==es.length)=false:=by rw[beq_eq_false_iff_ne];omega
      rw[hl,Bool.and_false]
      exact EqAt.of_refs hne (RcAt.lists_lengths p.isList p2.isList (by simpa using hsz) hu)
    |emp=>cases ek
   |emp=>cases e<;>cases ek
theorem KD (I:L2.Inv X pins σ H s) {n:Nat} {A:Around} {ds es:List Dt} {vs us:List V} {its its2:List Value} {f:Nat->Bool} (hm:min (uH ds) (uH es)<=n) (hA:A.units+n+1 < cLine) (r1:aK X.K H ds vs) (r2:aK X.K H es us) (w1:Vals vs its) (w2:Vals us its2)
  (hf:∀ (j:Nat) x y,ds[j]?=some x->es[j]?=some y->yh x y=some (f j)):∀ j (h1:j < its.toArray.size) (h2:j < its2.toArray.size),EqAt A.in1 s its.toArray[j] its2.toArray[j] (f j):=by
 intro j h1 h2
 have l1:=w1.length
 have l2:=w2.length
 have l3:=r1.length
 have l4:=r2.length
 have j1:j < its.length:=by simpa using h1
 have j2:j < its2.length:=by simpa using h2
 have d1:ds[j]?=some (ds[j]'(by omega)):=by simp
 have d2:es[j]?=some (es[j]'(by omega)):=by simp
 obtain⟨a,ea,ra⟩:=r1.get d1
 obtain⟨b,eb,rb⟩:=r2.get d2
 obtain⟨p,ep,rp⟩:=w1.get ea
 obtain⟨q,eq,rq⟩:=w2.get eb
 have e1:its.toArray[j]=p:=by simpa [j1] using ep
 have e2:its2.toArray[j]=q:=by simpa [j2] using eq
 rw[e1,e2]
 have m1:=uJ d1
 have m2:=uJ d2
 exact Z7 I n (by omega) (by rw[units_in1];omega) ra rb rp rq (hf j _ _ d1 d2)
end
def sV (K:PySem.W.Frag) (H:Hp):Dt->V->Prop
 |.lst ds,v=>∃ a vs,v=.ref a/\um K H a vs/\aK K H ds vs
 |d,v=>Rep K H d v
def qL:Bx->Bool
 |.n _=>true
 |.m _ _=>true
 |_=>false
def toD:Bx->Dt
 |.z d=>d
 |.l ds=>.lst ds
 |.o ds=>.lst ds
 |.n _=>.non
 |.m _ _=>.non
theorem bf.toD {K:PySem.W.Frag} {H:Hp} {b:Bx} {v:V} (h:bf K H b v) (hm:qL b=false):sV K H (toD b) v:=by
 cases b with
 |z d=>
  cases d with
  |lst ds=>exact h.FQ rfl
  |_=>exact h
 |l ds=>exact h.FQ rfl
 |o ds=>exact h.FQ rfl
 |n _=>cases hm
 |m _ _=>cases hm
section
variable {X:Cx} {pins:List (Addr×Obj)} {σ:L2.St} {H:Hp} {s:Shared}
theorem Qw (I:L2.Inv X pins σ H s) {d e:Dt} {x y:V} {u v:Value} {k:Bool} (hm:min (vX d) (vX e)<=100) (hA:X.A.units+100 < cLine) (rd:sV X.K H d x) (re:sV X.K H e y) (ru:RelV x u) (rv:RelV y v) (ek:yh d e=some k):RcAt X.A s u v k/\RcNeAt X.A s u v (!k):=by
 have hu:X.A.units < cLine:=by omega
 cases d with
 |non=>
  cases rd;cases ru
  cases e with
  |non=>
   cases re;cases rv
   cases ek
   exact⟨.none_none,.none_none⟩
  |bl x2=>
   cases re;cases rv
   cases ek
   exact⟨.none_bool x2,.none_bool x2⟩
  |int x2=>
   cases re;obtain⟨t2,rfl⟩:=rv
   cases ek
   exact⟨.none_int x2 t2,.none_int x2 t2⟩
  |str x2=>
   obtain⟨rfl,_⟩:=re;obtain⟨t2,rfl⟩:=rv
   cases ek
   exact⟨.none_str x2 t2,.none_str x2 t2⟩
  |tup x2=>
   obtain⟨a2,vs2,rfl,Dl,N5⟩:=re;cases rv;obtain⟨its2,w2,p2,_⟩:=I.tuple Dl
   cases ek
   exact⟨.none_tuple p2 hu,.none_tuple p2 hu⟩
  |lst x2=>
   obtain⟨a2,vs2,rfl,Dl,N5⟩:=re;cases rv;obtain⟨its2,w2,p2,_⟩:=I.list Dl
   cases ek
   exact⟨.none_list p2.isList hu,.none_list p2.isList hu⟩
  |emp=>cases ek
 |bl x1=>
  cases rd;cases ru
  cases e with
  |non=>
   cases re;cases rv
   cases ek
   exact⟨.bool_none x1,.bool_none x1⟩
  |bl x2=>
   cases re;cases rv
   cases ek
   exact⟨.bool_bool x1 x2,.bool_bool x1 x2⟩
  |int x2=>
   cases re;obtain⟨t2,rfl⟩:=rv
   cases ek
   exact⟨.bool_int x1 x2 t2,.bool_int x1 x2 t2⟩
  |str x2=>
   obtain⟨rfl,_⟩:=re;obtain⟨t2,rfl⟩:=rv
   cases ek
   exact⟨.bool_str x1 x2 t2,.bool_str x1 x2 t2⟩
  |tup x2=>
   obtain⟨a2,vs2,rfl,Dl,N5⟩:=re;cases rv;obtain⟨its2,w2,p2,_⟩:=I.tuple Dl
   cases ek
   exact⟨.bool_tuple x1 p2 hu,.bool_tuple x1 p2 hu⟩
  |lst x2=>
   obtain⟨a2,vs2,rfl,Dl,N5⟩:=re;cases rv;obtain⟨its2,w2,p2,_⟩:=I.list Dl
   cases ek
   exact⟨.bool_list x1 p2.isList hu,.bool_list x1 p2.isList hu⟩
  |emp=>cases ek
 |int x1=>
  cases rd;obtain⟨t1,rfl⟩:=ru
  cases e with
  |non=>
   cases re;cases rv
   cases ek
   exact⟨.int_none x1 t1,.int_none x1 t1⟩
  |bl x2=>
   cases re;cases rv
   cases ek
   exact⟨.int_bool x1 t1 x2,.int_bool x1 t1 x2⟩
  |int x2=>
   cases re;obtain⟨t2,rfl⟩:=rv
   cases ek
   exact⟨.int_int x1 t1 x2 t2,.int_int x1 t1 x2 t2⟩
  |str x2=>
   obtain⟨rfl,_⟩:=re;obtain⟨t2,rfl⟩:=rv
   cases ek
   exact⟨.int_str x1 t1 x2 t2,.int_str x1 t1 x2 t2⟩
  |tup x2=>
   obtain⟨a2,vs2,rfl,Dl,N5⟩:=re;cases rv;obtain⟨its2,w2,p2,_⟩:=I.tuple Dl
   cases ek
   exact⟨.int_tuple x1 t1 p2 hu,.int_tuple x1 t1 p2 hu⟩
  |lst x2=>
   obtain⟨a2,vs2,rfl,Dl,N5⟩:=re;cases rv;obtain⟨its2,w2,p2,_⟩:=I.list Dl
   cases ek
   exact⟨.int_list x1 t1 p2.isList hu,.int_list x1 t1 p2.isList hu⟩
  |emp=>cases ek
 |str x1=>
  obtain⟨rfl,_⟩:=rd;obtain⟨t1,rfl⟩:=ru
  cases e with
  |non=>
   cases re;cases rv
   cases ek
   exact⟨.str_none x1 t1,.str_none x1 t1⟩
  |bl x2=>
   cases re;cases rv
   cases ek
   exact⟨.str_bool x1 t1 x2,.str_bool x1 t1 x2⟩
  |int x2=>
   cases re;obtain⟨t2,rfl⟩:=rv
   cases ek
   exact⟨.str_int x1 t1 x2 t2,.str_int x1 t1 x2 t2⟩
  |str x2=>
   obtain⟨rfl,_⟩:=re;obtain⟨t2,rfl⟩:=rv
   cases ek
   exact⟨.str_str x1 t1 x2 t2,.str_str x1 t1 x2 t2⟩
  |tup x2=>
   obtain⟨a2,vs2,rfl,Dl,N5⟩:=re;cases rv;obtain⟨its2,w2,p2,_⟩:=I.tuple Dl
   cases ek
   exact⟨.str_tuple x1 t1 p2 hu,.str_tuple x1 t1 p2 hu⟩
  |lst x2=>
   obtain⟨a2,vs2,rfl,Dl,N5⟩:=re;cases rv;obtain⟨its2,w2,p2,_⟩:=I.list Dl
   cases ek
   exact⟨.str_list x1 t1 p2.isList hu,.str_list x1 t1 p2.isList hu⟩
  |emp=>cases ek
 |tup x1=>
  obtain⟨a1,vs1,rfl,sq1,rr1⟩:=rd;cases ru;obtain⟨Yo,w1,p1,_⟩:=I.tuple sq1
  cases e with
  |non=>
   cases re;cases rv
   cases ek
   exact⟨.tuple_none p1 hu,.tuple_none p1 hu⟩
  |bl x2=>
   cases re;cases rv
   cases ek
   exact⟨.tuple_bool x2 p1 hu,.tuple_bool x2 p1 hu⟩
  |int x2=>
   cases re;obtain⟨t2,rfl⟩:=rv
   cases ek
   exact⟨.tuple_int x2 t2 p1 hu,.tuple_int x2 t2 p1 hu⟩
  |str x2=>
   obtain⟨rfl,_⟩:=re;obtain⟨t2,rfl⟩:=rv
   cases ek
   exact⟨.tuple_str x2 t2 p1 hu,.tuple_str x2 t2 p1 hu⟩
  |tup x2=>
   obtain⟨a2,vs2,rfl,Dl,N5⟩:=re;cases rv;obtain⟨its2,w2,p2,_⟩:=I.tuple Dl
   change nC _ _=some _ at ek
   obtain⟨f,hf,rfl⟩:=uI ek
   have q1:Yo.toArray.size=x1.length:=by rw[zz,<-w1.length,rr1.length]
   have q2:its2.toArray.size=x2.length:=by rw[zz,<-w2.length,N5.length]
   have it:=KD I (n:=99) (A:=X.A) (by simp only[vX] at hm;omega) (by omega) rr1 N5 w1 w2 hf
   rw[<-q1,<-q2]
   exact⟨.tuples p1 p2 hu it,.tuples p1 p2 hu it⟩
  |lst x2=>
   obtain⟨a2,vs2,rfl,Dl,N5⟩:=re;cases rv;obtain⟨its2,w2,p2,_⟩:=I.list Dl
   cases ek
   exact⟨.tuple_list p1 p2.isList hu,.tuple_list p1 p2.isList hu⟩
  |emp=>cases ek
 |lst x1=>
  obtain⟨a1,vs1,rfl,sq1,rr1⟩:=rd;cases ru;obtain⟨Yo,w1,p1,_⟩:=I.list sq1
  cases e with
  |non=>
   cases re;cases rv
   cases ek
   exact⟨.list_none p1.isList hu,.list_none p1.isList hu⟩
  |bl x2=>
   cases re;cases rv
   cases ek
   exact⟨.list_bool x2 p1.isList hu,.list_bool x2 p1.isList hu⟩
  |int x2=>
   cases re;obtain⟨t2,rfl⟩:=rv
   cases ek
   exact⟨.list_int x2 t2 p1.isList hu,.list_int x2 t2 p1.isList hu⟩
  |str x2=>
   obtain⟨rfl,_⟩:=re;obtain⟨t2,rfl⟩:=rv
   cases ek
   exact⟨.list_str x2 t2 p1.isList hu,.list_str x2 t2 p1.isList hu⟩
  |tup x2=>
   obtain⟨a2,vs2,rfl,Dl,N5⟩:=re;cases rv;obtain⟨its2,w2,p2,_⟩:=I.tuple Dl
   cases ek
   exact⟨.list_tuple p1.isList p2 hu,.list_tuple p1.isList p2 hu⟩
  |lst x2=>
   obtain⟨a2,vs2,rfl,Dl,N5⟩:=re;cases rv;obtain⟨its2,w2,p2,_⟩:=I.list Dl
   change nC _ _=some _ at ek
   obtain⟨f,hf,rfl⟩:=uI ek
   have q1:Yo.toArray.size=x1.length:=by rw[zz,<-w1.length,rr1.length]
   have q2:its2.toArray.size=x2.length:=by rw[zz,<-w2.length,N5.length]
   have it:=KD I (n:=99) (A:=X.A) (by simp only[vX] at hm;omega) (by omega) rr1 N5 w1 w2 hf
   by_cases hsz:Yo.toArray.size=its2.toArray.size
   ·have hl:x1.length=x2.length:=by omega
    rw[hl,Nat.min_self,beq_self_eq_true,Ki,<-hl,<-q1]
    exact⟨.lists p1.isList p2.isList hsz hu it,.lists p1.isList p2.isList hsz hu it⟩
   ·have hl:(x1.length==x2.length)=false:=by rw[beq_eq_false_iff_ne];omega
    rw[hl,Bool.and_false]
    exact⟨.lists_lengths p1.isList p2.isList (by simpa using hsz) hu,.lists_lengths p1.isList p2.isList (by simpa using hsz) hu⟩
  |emp=>cases ek
 |emp=>cases e<;>cases ek
def eqB (a b:Bx):Option Bx:=if qL a=true\/qL b=true then none else if min (vX (toD a)) (vX (toD b))<=100 then (yh (toD a) (toD b)).bind fun k=>some (.z (.bl k)) else none
def Iz (a b:Bx):Option Bx:=if qL a=true\/qL b=true then none else if min (vX (toD a)) (vX (toD b))<=100 then (yh (toD a) (toD b)).bind fun k=>some (.z (.bl (!k))) else none
theorem of_eq (hu:X.A.units+100 < cLine):J8 X (compareOp .Eq) eqB:=by
 intro pins s σ H x y v u Q I rx ry h
 obtain⟨a,b,c,ra,rb,e,q⟩:=h
 unfold eqB at e
 split at e
 ·cases e
 rename_i hz
 have ha:qL a=false:=by cases h:qL a with|false=>rfl|true=>exact absurd (.inl h) hz
 have hb:qL b=false:=by cases h:qL b with|false=>rfl|true=>exact absurd (.inr h) hz
 split at e
 ·rename_i hm
  obtain⟨k,ek,e⟩:=bind_some e
  cases e
  exact (Qw I hm hu (ra.toD ha) (rb.toD hb) rx ry ek).1 X.prog X.w X.xe _ ⟨.bl k,H,I,rfl,q _ H (Same.refl H) trivial (by unfold bf Rep;rfl)⟩
 ·cases e
theorem tY (hu:X.A.units+100 < cLine):J8 X (compareOp .NotEq) Iz:=by
 intro pins s σ H x y v u Q I rx ry h
 obtain⟨a,b,c,ra,rb,e,q⟩:=h
 unfold Iz at e
 split at e
 ·cases e
 rename_i hz
 have ha:qL a=false:=by cases h:qL a with|false=>rfl|true=>exact absurd (.inl h) hz
 have hb:qL b=false:=by cases h:qL b with|false=>rfl|true=>exact absurd (.inr h) hz
 split at e
 ·rename_i hm
  obtain⟨k,ek,e⟩:=bind_some e
  cases e
  exact (Qw I hm hu (ra.toD ha) (rb.toD hb) rx ry ek).2 X.prog X.w X.xe _ ⟨.bl (!k),H,I,rfl,q _ H (Same.refl H) trivial (by unfold bf Rep;rfl)⟩
 ·cases e
end
section
variable {X:Cx} {pins:List (Addr×Obj)} {σ:L2.St} {H:Hp} {s:Shared}
theorem Dm {K:PySem.W.Frag} {H:Hp} {i:Int}:bf K H (.z (.int i)) (.int i):=by unfold bf Rep;rfl
theorem N6 {K:PySem.W.Frag} {H:Hp} {b:Bool}:bf K H (.z (.bl b)) (.bl b):=by unfold bf Rep;rfl
theorem Yp {K:PySem.W.Frag} {H:Hp} {x:Str} (h:x.length<=sizeLine):bf K H (.z (.str x)) (.str x):=by unfold bf Rep;exact⟨rfl,h⟩
theorem Ka {K:PySem.W.Frag} {H:Hp} {i:Int} {v:V} (h:bf K H (.z (.int i)) v):v=.int i:=by simpa only[bf,Rep] using h
theorem N7 {K:PySem.W.Frag} {H:Hp} {x:Str} {v:V} (h:bf K H (.z (.str x)) v):v=.str x/\x.length<=sizeLine:=by simpa only[bf,Rep] using h
theorem inT {K:PySem.W.Frag} {H:Hp} {ds:List Dt} {v:V} (h:bf K H (.z (.tup ds)) v):∃ a vs,v=.ref a/\xM K H a vs/\aK K H ds vs:=by simpa only[bf,Rep] using h
def i2 (g:Int->Int->Option Dt):Bx->Bx->Option Bx
 |.z (.int i),.z (.int j)=>(g i j).bind fun d=>some (.z d)
 |_,_=>none
theorem G5 {f:Value->Value->Sem Value} {r:R2} {g:Int->Int->Option Dt} (ho:wO X f r) (h:∀ i j d H Q,g i j=some d->(∀ v,Rep X.K H d v->Q v H)->r (.int i) (.int j) H Q):J8 X f (i2 g):=wO.imp ho fun x y H Q q=>by
 obtain⟨a,b,c,ra,rb,e,q⟩:=q
 unfold i2 at e
 split at e
 ·rename_i i j
  obtain⟨d,ed,e⟩:=bind_some e
  cases e
  rw[Ka ra,Ka rb]
  exact h i j d H Q ed fun v rv=>q v H (Same.refl H) trivial rv
 ·cases e
theorem okI {K:PySem.W.Frag} {H:Hp} {i:Int}:Rep K H (.int i) (.int i):=by unfold Rep;rfl
theorem okT {K:PySem.W.Frag} {H:Hp} {b:Bool}:Rep K H (.bl b) (.bl b):=by unfold Rep;rfl
abbrev subB:=i2 fun i j=>some (.int (i - j))
abbrev gtB:=i2 fun i j=>some (.bl (decide (j < i)))
abbrev geB:=i2 fun i j=>some (.bl (decide (j<=i)))
abbrev Dp:=i2 fun i j=>if 0 < j/\j < 1073741824 then some (.int (i / j)) else none
abbrev iT:=i2 fun i j=>if 0 < j then some (.int (i % j)) else none
abbrev abo:=i2 fun i j=>if 0<=j/\j<=1000/\i.natAbs < 2 ^ 64 then some (.int (i ^ j.toNat)) else none
theorem Dq:J8 X (binaryOp .Sub) subB:=G5 aaU fun i j d H Q e q=>by cases e;exact⟨i,j,rfl,rfl,q _ okI⟩
theorem adI:J8 X (compareOp .Gt) gtB:=G5 ac8 fun i j d H Q e q=>by cases e;exact⟨i,j,rfl,rfl,q _ okT⟩
theorem adJ:J8 X (compareOp .GtE) geB:=G5 ac9 fun i j d H Q e q=>by cases e;exact⟨i,j,rfl,rfl,q _ okT⟩
theorem yj:J8 X (binaryOp .FloorDiv) Dp:=G5 Xq fun i j d H Q e q=>by
 split at e
 ·rename_i h;cases e;exact⟨i,j,rfl,rfl,h,q _ okI⟩
 ·cases e
theorem cH:J8 X (binaryOp .Mod) iT:=G5 aaW fun i j d H Q e q=>by
 split at e
 ·rename_i h;cases e;exact⟨i,j,rfl,rfl,h,q _ okI⟩
 ·cases e
theorem abp:J8 X (binaryOp .Pow) abo:=G5 aaX fun i j d H Q e q=>by
 split at e
 ·rename_i h;cases e;exact⟨i,j,rfl,rfl,⟨h.1,by omega,h.2.2⟩,q _ okI⟩
 ·cases e
def N8:Nat:=1000000
theorem Yq:N8<=sizeLine:=by decide
theorem abq {l b:Addr} {vs us:List V} {Q:VK} (I:L2.Inv X pins σ H s) (hl:um X.K H l vs) (hb:um X.K H b us) (hz:vs.length+us.length<=sizeLine) (q:∀ p,H p=none->Q (.ref p) (upd H p (.lst (vs++us)))) :
  wpAny (model X.prog X.w) X.A (binaryOp .Add (.ref l) (.ref b)) (EP X pins σ Q) X.xe s:=by
 obtain⟨its,r1,⟨⟨cls,dd,data,sl⟩,n1,e1,c1,d1,dd1⟩,z1⟩:=I.list hl
 obtain⟨its2,r2,⟨⟨cls2,dd2,data2,sl2⟩,n2,e2,c2,d2,Vb⟩,z2⟩:=I.list hb
 simp only at c1 d1 dd1 c2 d2 Vb
 subst c1 d1 dd1 c2 d2 Vb
 have l1:=r1.length
 have l2:=r2.length
 have e:its.toArray++its2.toArray=(its++its2).toArray:=by simp
 refine concat_meets ⟨_,e1,rfl⟩ ⟨_,e2,rfl⟩ noFill_list_add seq_list_add PySem.F.slot_list_add PySem.F.entry_list_add (PySem.F.args_list_add_2 _ _) (list_addW l b its.toArray its2.toArray n1 n2 none none sl sl2 (by rw[zz,zz];omega)) ⟨e1,e2,?_⟩
 rw[e]
 exact⟨.ref s.heap.objs.size,_,I.laid (t':=s.toks) (o:=.lst (vs++us)) (fun b ob q=>zd _ q) (zg _) ⟨by rw[z5];exact hz,_,0,r1.append r2,zt _ rfl⟩,rfl,q _ (I.hok.fresh (zg _))⟩
theorem abr {l b:Addr} {vs us:List V} {Q:VK} (I:L2.Inv X pins σ H s) (hl:xM X.K H l vs) (hb:xM X.K H b us) (hz:vs.length+us.length<=sizeLine) (q0:vs=[]->Q (.ref b) H) (q1:us=[]->Q (.ref l) H) (q2:∀ p,H p=none->Q (.ref p) (upd H p (.tup (vs++us)))) :
  wpAny (model X.prog X.w) X.A (binaryOp .Add (.ref l) (.ref b)) (EP X pins σ Q) X.xe s:=by
 by_cases hv:vs=[]
 ·obtain⟨its,r1,⟨⟨cls,dd,data,sl⟩,e1,c1,n1,dd1⟩,z1⟩:=I.tuple hl
  obtain⟨its2,r2,⟨⟨cls2,dd2,data2,sl2⟩,e2,c2,n2,Vb⟩,z2⟩:=I.tuple hb
  simp only at c1 dd1 c2 Vb
  subst c1 dd1 c2 Vb
  have:its=[]:=r1.Ce.mpr hv
  exact concat_meets ⟨_,e1,rfl⟩ ⟨_,e2,rfl⟩ noFill_tuple_add seq_tuple_add PySem.F.slot_tuple_add ya (KS _ _)
   (tuple_addW0 l b its.toArray its2.toArray n1 n2 dd dd2 sl sl2 (by simp[this])) ⟨e1,e2,⟨.ref b,H,I,rfl,q0 hv⟩⟩
 ·exact XC pins s σ H (.ref l) (.ref b) (.ref l) (.ref b) Q I rfl rfl ⟨l,b,vs,us,rfl,rfl,hl,hb,hv,hz,q1,fun _=>q2⟩
def iz:Bx->Bx->Option Bx
 |.z (.int i),.z (.int j)=>some (.z (.int (i+j)))
 |.z (.str i),.z (.str j)=>if i.length+j.length<=N8 then some (.z (.str (i++j))) else none
 |.z (.tup xs),.z (.tup ys)=>if xs.length+ys.length<=N8 then some (.z (.tup (xs++ys))) else none
 |a,b=>(rC a).bind fun xs=>(rC b).bind fun ys=>if xs.length+ys.length<=N8 then some (.o (xs++ys)) else none
theorem str_len (i j:Str):(i++j).length=i.length+j.length:=by
 show (i.cps++j.cps).size=_
 rw[kP];rfl
theorem dj:J8 X (binaryOp .Add) iz:=by
 intro pins s σ H x y v u Q I rx ry h
 obtain⟨a,b,c,ra,rb,e,q⟩:=h
 have hbig:=Yq
 unfold iz at e
 split at e
 ·rename_i i j
  cases e
  exact aaT pins s σ H x y v u Q I rx ry ⟨i,j,Ka ra,Ka rb,q _ H (Same.refl H) trivial Dm⟩
 ·rename_i i j
  split at e
  ·rename_i hl
   cases e
   exact Np pins s σ H x y v u Q I rx ry ⟨i,j,(N7 ra).1,(N7 rb).1,by omega,q _ H (Same.refl H) trivial (Yp (by rw[str_len];omega))⟩
  ·cases e
 ·rename_i xs ys
  split at e
  ·rename_i hl
   cases e
   obtain⟨l,vs,rfl,sl,rl⟩:=inT ra
   obtain⟨m,us,rfl,sm,rm⟩:=inT rb
   cases rx
   cases ry
   have h1:=rl.length
   have h2:=rm.length
   refine abr I sl sm (by omega) (fun z=>q _ H (Same.refl H) trivial ?_) (fun z=>q _ H (Same.refl H) trivial ?_) fun p hp=>q _ _ (bU hp) trivial ?_
   ·unfold bf Rep
    refine⟨m,us,rfl,sm,?_⟩
    have:xs=[]:=by subst z;exact List.eq_nil_of_length_eq_zero (by simpa using h1.symm)
    rw[this,List.nil_append];exact rm
   ·unfold bf Rep
    refine⟨l,vs,rfl,sl,?_⟩
    have:ys=[]:=by subst z;exact List.eq_nil_of_length_eq_zero (by simpa using h2.symm)
    rw[this,km];exact rl
   ·unfold bf Rep
    exact⟨p,_,rfl,.inl (.inl aX),(rl.append rm).kp (.of (bU hp))⟩
  ·cases e
 ·obtain⟨xs,ea,e⟩:=bind_some e
  obtain⟨ys,eb,e⟩:=bind_some e
  split at e
  ·rename_i hl
   cases e
   obtain⟨l,vs,rfl,sl,rl⟩:=ra.FQ ea
   obtain⟨m,us,rfl,sm,rm⟩:=rb.FQ eb
   cases rx
   cases ry
   have h1:=rl.length
   have h2:=rm.length
   refine abq I sl sm (by omega) fun p hp=>q _ _ (bU hp) (fun a ea=>by cases ea;exact hp) ⟨p,_,rfl,aX,(rl.append rm).kp (.of (bU hp))⟩
  ·cases e
def uK:Bx->Bx->Option Bx
 |.z (.int i),.z (.int j)=>if (-(2 ^ 64) < i/\i < 2 ^ 64)\/(-(2 ^ 64) < j/\j < 2 ^ 64) then some (.z (.int (i * j))) else none
 |.z (.str x),.z (.int n)=>if n<=1000 ∧ -1000<=n/\x.length<=1000 then some (.z (.str (Txt.mul x n))) else none
 |_,_=>none
theorem vY (x:Array Nat):∀ (n:Nat) (acc:Array Nat),((List.replicate n x).foldl (·++·) acc).size=acc.size+n * x.size
 |0,acc=>by simp
 |n+1,acc=>by
  rw[List.replicate_succ,QA,vY x n,kP,Nat.succ_mul]
  omega
theorem IK (x:Str) (n:Int):(Txt.mul x n).length<=n.toNat * x.length+x.length:=by
 unfold Txt.mul
 split
 ·exact qS _
 ·split
  ·exact Nat.le_add_left _ _
  ·show ((List.replicate n.toNat x.cps).foldl (·++·) #[]).size<=_
   rw[vY]
   show (#[]:Array Nat).size+n.toNat * x.cps.size<=n.toNat * x.cps.size+x.cps.size
   simp
theorem qg:J8 X (binaryOp .Mult) uK:=by
 intro pins s σ H x y v u Q I rx ry h
 obtain⟨a,b,c,ra,rb,e,q⟩:=h
 unfold uK at e
 split at e
 ·rename_i i j
  split at e
  ·rename_i hl
   cases e
   exact aaV pins s σ H x y v u Q I rx ry ⟨i,j,Ka ra,Ka rb,hl,q _ H (Same.refl H) trivial Dm⟩
  ·cases e
 ·rename_i x' n
  split at e
  ·rename_i hl
   cases e
   obtain⟨rfl,hx⟩:=N7 ra
   have hy:=Ka rb
   subst hy
   obtain⟨t,rfl⟩:=rx
   obtain⟨t',rfl⟩:=ry
   have hs:sizeLine=16777216:=sizeLine_eq
   have hm:n.toNat * x'.length<=1000 * 1000:=Nat.mul_le_mul (by omega) hl.2.2
   refine SB.mul ⟨?_,fun h1 h2=>?_,fun h1 h2=>?_⟩ fun t' k=>⟨.str _,H,I.tok _,⟨_,rfl⟩,q _ H (Same.refl H) trivial (Yp (z4 (IK x' n) (by omega)))⟩
   ·have e1:decide (n < -(2 ^ 63:Int))=false:=qh (by omega)
    have e2:decide (n>=2 ^ 63)=false:=qh (by omega)
    rw[e1,e2];rfl
   ·have hn:0 < n:=by omega
    have:(1000:Int)<=(2 ^ 63 - 1) / n:=(Int.le_ediv_iff_mul_le hn).mpr (by omega)
    omega
   ·show decide (x'.length * n.toNat > sizeLine)=false
    rw[Nat.mul_comm]
    exact qh (by omega)
  ·cases e
 ·cases e
def Z8 (i j:Str):Bool:=!(Builtin.Str.occurrences j i 0 j.length 1).isEmpty
def yp:Dt->Bool
 |.non=>true
 |.bl _=>true
 |.int _=>true
 |.str _=>true
 |_=>false
def memD (x:Dt) (ys:List Dt):Option Bool:=if yp x=true/\ys.all yp=true then some (ys.any fun y=>match yh y x with|some true=>true|_=>false) else none
def yq:Bx->Option (List Dt)
 |.z (.lst ds)=>some ds
 |.z (.tup ds)=>some ds
 |.l ds=>some ds
 |.o ds=>some ds
 |_=>none
def inB:Bx->Bx->Option Bool
 |.z (.str i),.z (.str j)=>some (Z8 i j)
 |.z d,b=>(yq b).bind fun ys=>memD d ys
 |_,_=>none
def inF (a b:Bx):Option Bx:=(inB a b).bind fun k=>some (.z (.bl k))
theorem KH {K:PySem.W.Frag} {H:Hp} {d:Dt} {v:V} (r:Rep K H d v) (f:yp d=true):tX v=true:=by
 cases d<;>first|(cases f;done)|skip
 all_goals simp only[Rep] at r
 ·subst r;rfl
 ·subst r;rfl
 ·subst r;rfl
 ·obtain⟨rfl,_⟩:=r;rfl
theorem G6 {K:PySem.W.Frag} {H:Hp}:∀ {ds:List Dt} {vs:List V},aK K H ds vs->ds.all yp=true->vs.all tX=true
 |[],_,h,_=>by simp only[aK] at h;subst h;rfl
 |d::ds,_,h,f=>by
  simp only[aK] at h
  obtain⟨v,r,rfl,h1,h2⟩:=h
  rw[kq,ZN] at f
  rw[kq,KH h1 f.1,G6 h2 f.2];rfl
theorem IV (b:Bool):(match some b with|some true=>true|_=>false)=b:=by cases b<;>rfl
theorem Yr {K:PySem.W.Frag} {H:Hp} {d e:Dt} {x y:V} (rd:Rep K H d x) (re:Rep K H e y) (fd:yp d=true) (fe:yp e=true):R4 x y=(match yh d e with|some true=>true|_=>false):=by
 cases d<;>first|(cases fd;done)|skip
 all_goals (cases e<;>first|(cases fe;done)|skip)
 all_goals simp only[Rep] at rd re
 all_goals first
  |(subst rd;subst re;simp only[R4,yh,IV])
  |(obtain⟨rfl,_⟩:=rd;subst re;simp only[R4,yh,IV])
  |(subst rd;obtain⟨rfl,_⟩:=re;simp only[R4,yh,IV])
  |(obtain⟨rfl,_⟩:=rd;obtain⟨rfl,_⟩:=re;simp only[R4,yh,IV])
theorem Qx {K:PySem.W.Frag} {H:Hp} {d:Dt} {x:V} (rd:Rep K H d x) (fd:yp d=true):∀ {ds:List Dt} {vs:List V},aK K H ds vs->ds.all yp=true->inV x vs=ds.any fun y=>match yh y d with|some true=>true|_=>false
 |[],_,h,_=>by simp only[aK] at h;subst h;rfl
 |e::ds,_,h,f=>by
  simp only[aK] at h
  obtain⟨v,r,rfl,h1,h2⟩:=h
  rw[kq,ZN] at f
  have:=Qx rd fd h2 f.2
  unfold inV at this ⊢
  rw[JY,JY,Yr h1 rd f.1 fd,this]
theorem yr {K:PySem.W.Frag} {H:Hp} {b:Bx} {v:V} {ds:List Dt} (h:bf K H b v) (e:yq b=some ds):∃ a vs,v=.ref a/\(um K H a vs\/xM K H a vs)/\aK K H ds vs:=by
 cases b with
 |z d=>
  cases d<;>first|(cases e;done)|skip
  ·cases e
   obtain⟨a,vs,e,q,r⟩:=inT h
   exact⟨a,vs,e,.inr q,r⟩
  ·cases e
   obtain⟨a,vs,e,q,r⟩:=h.FQ rfl
   exact⟨a,vs,e,.inl q,r⟩
 |l ds'=>
  cases e
  obtain⟨a,vs,e,q,r⟩:=h.FQ rfl
  exact⟨a,vs,e,.inl q,r⟩
 |o ds'=>
  cases e
  obtain⟨a,vs,e,q,r⟩:=h.FQ rfl
  exact⟨a,vs,e,.inl q,r⟩
 |n _=>cases e
 |m _ _=>cases e
theorem Sq {H:Hp} {a b:Bx} {x y:V} {k:Bool} (ra:bf X.K H a x) (rb:bf X.K H b y) (e:inB a b=some k) :
  (∃ i j,x=.str i/\y=.str j/\k=Z8 i j)\/(∃ p xs,y=.ref p/\(um X.K H p xs\/xM X.K H p xs)/\tX x=true/\xs.all tX=true/\k=inV x xs):=by
 unfold inB at e
 split at e
 ·rename_i i j
  cases e
  exact .inl ⟨i,j,(N7 ra).1,(N7 rb).1,rfl⟩
 ·rename_i d _
  obtain⟨ys,ey,e⟩:=bind_some e
  unfold memD at e
  split at e
  ·rename_i hf
   cases e
   obtain⟨p,vs,rfl,sq,rs⟩:=yr rb ey
   have ra':Rep X.K H d x:=ra
   exact .inr ⟨p,vs,rfl,sq,KH ra' hf.1,G6 rs hf.2,(Qx ra' hf.1 rs hf.2).symm⟩
  ·cases e
 ·cases e
theorem yt:J8 X (compareOp .In) inF:=by
 intro pins s σ H x y v u Q I rx ry h
 obtain⟨a,b,c,ra,rb,e,q⟩:=h
 obtain⟨k,ek,e⟩:=bind_some e
 cases e
 rcases Sq ra rb ek with⟨i,j,rfl,rfl,rfl⟩|⟨p,xs,rfl,sq,f1,f2,rfl⟩
 ·exact RX pins s σ H _ _ v u Q I rx ry ⟨i,j,rfl,rfl,q _ H (Same.refl H) trivial N6⟩
 ·exact R5 pins s σ H _ _ v u Q I rx ry ⟨p,xs,rfl,sq,f1,f2,q _ H (Same.refl H) trivial N6⟩
def Oa:Bx->Bool
 |.z .non=>true
 |_=>false
theorem Ss {K:PySem.W.Frag} {H:Hp} {b:Bx} {v:V} (h:bf K H b v):decide (v=.non)=Oa b:=by
 cases b with
 |z d=>
  cases d<;>simp only[bf,Rep] at h
  ·subst h;rfl
  ·subst h;rfl
  ·subst h;rfl
  ·obtain⟨rfl,_⟩:=h;rfl
  ·obtain⟨_,_,rfl,_⟩:=h;rfl
  ·obtain⟨_,_,rfl,_⟩:=h;rfl
  ·obtain⟨_,_,rfl,_⟩:=h;rfl
 |l ds=>obtain⟨_,_,rfl,_⟩:=h;rfl
 |o ds=>obtain⟨_,_,rfl,_⟩:=h;rfl
 |n ds=>obtain⟨_,_,rfl,_⟩:=h;rfl
 |m ds _=>obtain⟨_,_,rfl,_⟩:=h;rfl
def isB (a:Bx):Bx->Option Bx
 |.z .non=>some (.z (.bl (Oa a)))
 |_=>none
theorem of_is:J8 X (compareOp .Is) isB:=wO.imp aaY fun x y H Q q=>by
 obtain⟨a,b,c,ra,rb,e,q⟩:=q
 unfold isB at e
 split at e
 ·cases e
  simp only[bf,Rep] at rb
  exact⟨rb,by rw[Ss ra];exact q _ H (Same.refl H) trivial N6⟩
 ·cases e
def jr:Bx->Bx->Option Bx
 |.z (.str x),.z (.int i)=>(FJ x.cps.toList i).bind fun c=>some (.z (.str ⟨#[c]⟩))
 |b,.z (.int i)=>(yq b).bind fun ds=>(FJ ds i).bind fun d=>some (.z d)
 |_,_=>none
theorem Ys {K:PySem.W.Frag} {H:Hp} {ds:List Dt} {vs:List V} {i:Int} {d:Dt} (r:aK K H ds vs) (e:FJ ds i=some d):∃ v,FJ vs i=some v/\Rep K H d v:=by
 unfold FJ at e ⊢
 rw[r.length]
 obtain⟨j,ej,e⟩:=bind_some e
 rw[ej]
 exact r.get e
theorem bx {a b:Expr} {fa fb:Ev->Option Bx} {pos:Pos} (ha:QV X a fa) (hb:QV X b fb) (hs:Ql b:=by intro _ _;with_unfolding_all rfl):QV X (.Subscript a b pos) (b2 jr fa fb):=⟨have ha:=ha.run;have hb:=hb.run;Ij (Qm aa9 ha hb hs) fun σ H Q h=>by
 obtain⟨H0,ρ,c,E,e,q⟩:=h
 obtain⟨a,ea,e⟩:=bind_some e
 obtain⟨b,eb,e⟩:=bind_some e
 refine⟨H0,ρ,a,E,ea,fun v H1 s1 n1 r1=>⟨H0,ρ,b,E.grow s1,eb,fun u H2 s2 n2 r2=>?_⟩⟩
 have r1':=r1.same s2
 unfold jr at e
 split at e
 ·rename_i x i
  obtain⟨c',ec,e⟩:=bind_some e
  cases e
  exact .inr (.inr ⟨_,_,c',(N7 r1').1,Ka r2,(N7 r1').2,ec,q _ _ (s1.trans s2) trivial (Yp (by show (1:Nat)<=sizeLine;decide))⟩)
 ·obtain⟨ds,ed,e⟩:=bind_some e
  obtain⟨d,ei,e⟩:=bind_some e
  cases e
  obtain⟨p,vs,rfl,sq,rs⟩:=yr r1' ed
  obtain⟨w,ew,Qh⟩:=Ys rs ei
  have hi:=Ka r2
  rcases sq with sq|sq
  ·exact .inl ⟨p,vs,_,w,rfl,hi,sq,ew,q _ _ (s1.trans s2) trivial Qh⟩
  ·exact .inr (.inl ⟨p,vs,_,w,rfl,hi,sq,ew,q _ _ (s1.trans s2) trivial Qh⟩)
 ·cases e⟩
end
theorem abt:bootBuiltins "int" = some (.type "int"):=by decide +kernel
theorem lR:bootBuiltins "tuple" = some (.type "tuple"):=by decide +kernel
theorem Qy:bootBuiltins "list" = some (.type "list"):=by decide +kernel
theorem vZ:bootBuiltins "isinstance" = some (.builtin "isinstance"):=by decide +kernel
theorem Ob:bootBuiltins "len" = some (.builtin "len"):=by decide +kernel
theorem abu:bootBuiltins "abs" = some (.builtin "abs"):=by decide +kernel
theorem abv:bootBuiltins "all" = some (.builtin "all"):=by decide +kernel
theorem abw:bootBuiltins "any" = some (.builtin "any"):=by decide +kernel
theorem zR:bootBuiltins "min" = some (.builtin "min"):=by decide +kernel
theorem sW:bootBuiltins "max" = some (.builtin "max"):=by decide +kernel
theorem jt:bootBuiltins "sorted" = some (.builtin "sorted"):=by decide +kernel
section
variable {X:Cx} {pins:List (Addr×Obj)} {σ:L2.St} {H:Hp} {s:Shared}
def jM:Dt->Bool
 |.tup _=>true
 |_=>false
theorem Sv (I:L2.Inv X pins σ H s) {d:Dt} {x:V} {v:Value} {Q:VK} (rd:sV X.K H d x) (rv:RelV x v) (q:Q (.bl (jM d)) H):wpAny (model X.prog X.w) X.A (call (.builtin "isinstance") [v,.type "tuple"]) (EP X pins σ Q) X.xe s:=by
 cases d with
 |non=>simp only[sV,Rep] at rd;subst rd;cases rv;exact IsiPair.NoneType_tuple ⟨.bl _,H,I.tok _,rfl,q⟩
 |bl b=>simp only[sV,Rep] at rd;subst rd;cases rv;exact IsiPair.bool_tuple ⟨.bl _,H,I.tok _,rfl,q⟩
 |int b=>simp only[sV,Rep] at rd;subst rd;obtain⟨t,rfl⟩:=rv;exact IsiPair.int_tuple ⟨.bl _,H,I.tok _,rfl,q⟩
 |str b=>simp only[sV,Rep] at rd;obtain⟨rfl,_⟩:=rd;obtain⟨t,rfl⟩:=rv;exact IsiPair.str_tuple ⟨.bl _,H,I.tok _,rfl,q⟩
 |tup ds=>simp only[sV,Rep] at rd;obtain⟨a,vs,rfl,sq,_⟩:=rd;cases rv;obtain⟨_,_,p,_⟩:=I.tuple sq;exact IsiPair.isTuple_tuple p (fun _ _ e=>e) ⟨.bl _,H,I,rfl,q⟩
 |lst ds=>simp only[sV] at rd;obtain⟨a,vs,rfl,sq,_⟩:=rd;cases rv;obtain⟨_,_,p,_⟩:=I.list sq;exact IsiPair.isList_tuple p.isList (fun _ _ e=>e) ⟨.bl _,H,I.tok _,rfl,q⟩
 |emp=>simp only[sV,Rep] at rd;obtain⟨a,o,rfl,sq⟩:=rd;cases rv;obtain⟨ob,e,c⟩:=vL I sq;exact IsiPair.dict_tuple e c ⟨.bl _,H,I.tok _,rfl,q⟩
theorem IW {e:Expr} {f:Ev->Option Bx} {p p2 pos:Pos} (he:QV X e f) (hg:Gl X "isinstance") (hm:X.mg "isinstance" = none) (hg2:Gl X "tuple") (hm2:X.mg "tuple" = none) (hs:starEach [e,.Name "tuple" p2] X.env=[(false,eval e X.env),(false,eval (.Name "tuple" p2) X.env)]:=by rfl):QV X (.Call (.Name "isinstance" p) [e,.Name "tuple" p2] [] pos) (b1 (fun b=>if qL b=true then none else some (.z (.bl (jM (toD b))))) f):=⟨by
 have he:=he.run
 have hc:jk X (.builtin "isinstance") (fun xs H Q=>∃ b x,xs=[x,.ty "tuple"]/\bf X.K H b x/\qL b=false/\Q (.bl (jM (toD b))) H):=by
  intro pins s σ H xs us Q I r h
  obtain⟨b,x,rfl,rb,hmb,q⟩:=h
  obtain⟨u,w',rfl,r1,r2⟩:=vals2 r
  cases r2
  exact Sv I (rb.toD hmb) r1 q
 have ha:PA X [e,.Name "tuple" p2] (CK (tF X.K f) (CK (tC (.ty "tuple")) Uk)):=jC he (jC (Qf hg2 hm2 (v:=.ty "tuple") (u:=.type "tuple") lR rfl) sO) (by rw[hs]<;>rfl)
 refine Ij (xT hc hg hm vZ ha (by decide) (by decide) (by rw[hs]<;>rfl) rfl) fun σ H Q h=>?_
 obtain⟨H0,ρ,c,E,e,q⟩:=h
 obtain⟨b,eb,e⟩:=bind_some e
 split at e
 ·cases e
 rename_i hz
 cases e
 exact⟨H0,ρ,b,E,eb,fun v H1 s1 n1 r1=>⟨b,v,rfl,r1,by simpa using hz,q _ _ s1 trivial N6⟩⟩⟩
def is_list:Dt->Bool
 |.lst _=>true
 |_=>false
theorem Vc (I:L2.Inv X pins σ H s) {d:Dt} {x:V} {v:Value} {Q:VK} (rd:sV X.K H d x) (rv:RelV x v) (q:Q (.bl (is_list d)) H):wpAny (model X.prog X.w) X.A (call (.builtin "isinstance") [v,.type "list"]) (EP X pins σ Q) X.xe s:=by
 cases d with
 |non=>simp only[sV,Rep] at rd;subst rd;cases rv;exact IsiPair.NoneType_list ⟨.bl _,H,I.tok _,rfl,q⟩
 |bl b=>simp only[sV,Rep] at rd;subst rd;cases rv;exact IsiPair.bool_list ⟨.bl _,H,I.tok _,rfl,q⟩
 |int b=>simp only[sV,Rep] at rd;subst rd;obtain⟨t,rfl⟩:=rv;exact IsiPair.int_list ⟨.bl _,H,I.tok _,rfl,q⟩
 |str b=>simp only[sV,Rep] at rd;obtain⟨rfl,_⟩:=rd;obtain⟨t,rfl⟩:=rv;exact IsiPair.str_list ⟨.bl _,H,I.tok _,rfl,q⟩
 |tup ds=>simp only[sV,Rep] at rd;obtain⟨a,vs,rfl,sq,_⟩:=rd;cases rv;obtain⟨_,_,p,_⟩:=I.tuple sq;exact IsiPair.isTuple_list p (fun _ _ e=>e) ⟨.bl _,H,I.tok _,rfl,q⟩
 |lst ds=>simp only[sV] at rd;obtain⟨a,vs,rfl,sq,_⟩:=rd;cases rv;obtain⟨_,_,p,_⟩:=I.list sq;exact IsiPair.isList_list p.isList (fun _ _ e=>e) ⟨.bl _,H,I,rfl,q⟩
 |emp=>simp only[sV,Rep] at rd;obtain⟨a,o,rfl,sq⟩:=rd;cases rv;obtain⟨ob,e,c⟩:=vL I sq;exact IsiPair.dict_list e c ⟨.bl _,H,I.tok _,rfl,q⟩
theorem KJ {e:Expr} {f:Ev->Option Bx} {p p2 pos:Pos} (he:QV X e f) (hg:Gl X "isinstance") (hm:X.mg "isinstance" = none) (hg2:Gl X "list") (hm2:X.mg "list" = none) (hs:starEach [e,.Name "list" p2] X.env=[(false,eval e X.env),(false,eval (.Name "list" p2) X.env)]:=by rfl):QV X (.Call (.Name "isinstance" p) [e,.Name "list" p2] [] pos) (b1 (fun b=>if qL b=true then none else some (.z (.bl (is_list (toD b))))) f):=⟨by
 have he:=he.run
 have hc:jk X (.builtin "isinstance") (fun xs H Q=>∃ b x,xs=[x,.ty "list"]/\bf X.K H b x/\qL b=false/\Q (.bl (is_list (toD b))) H):=by
  intro pins s σ H xs us Q I r h
  obtain⟨b,x,rfl,rb,hmb,q⟩:=h
  obtain⟨u,w',rfl,r1,r2⟩:=vals2 r
  cases r2
  exact Vc I (rb.toD hmb) r1 q
 have ha:PA X [e,.Name "list" p2] (CK (tF X.K f) (CK (tC (.ty "list")) Uk)):=jC he (jC (Qf hg2 hm2 (v:=.ty "list") (u:=.type "list") Qy rfl) sO) (by rw[hs]<;>rfl)
 refine Ij (xT hc hg hm vZ ha (by decide) (by decide) (by rw[hs]<;>rfl) rfl) fun σ H Q h=>?_
 obtain⟨H0,ρ,c,E,e,q⟩:=h
 obtain⟨b,eb,e⟩:=bind_some e
 split at e
 ·cases e
 rename_i hz
 cases e
 exact⟨H0,ρ,b,E,eb,fun v H1 s1 n1 r1=>⟨b,v,rfl,r1,by simpa using hz,q _ _ s1 trivial N6⟩⟩⟩
def tFO (K:PySem.W.Frag) (f:Ev->Option (Option Int)):TO:=fun σ H Q=>∃ H0 ρ o,bJ K H0 H σ ρ/\f ρ=some o/\∀ H',Same H H'->Q o H'
def PVo (X:Cx) (e:Option Expr) (f:Ev->Option (Option Int)):Prop:=PO X e (tFO X.K f)
structure QVo (X:Cx) (e:Option Expr) (f:Ev->Option (Option Int)):Prop where
 run:PVo X e f
theorem poM {e:Option Expr} {t t':TO} (h:PO X e t) (m:∀ σ H Q,t' σ H Q->t σ H Q):PO X e t':=fun pins s σ H Q I q=>h pins s σ H Q I (m σ H Q q)
def wU:Ev->Option (Option Int):=fun _=>some none
theorem uL  : QVo X none wU:=⟨poM Xy fun σ H Q h=>by
 obtain⟨H0,ρ,o,E,e,q⟩:=h
 cases e
 exact q H (Same.refl H)⟩
def abx:Bx->Option (Option Int)
 |.z (.int i)=>some (some i)
 |_=>none
def Ax (f:Ev->Option Bx):Ev->Option (Option Int):=fun ρ=>(f ρ).bind abx
theorem uM {e:Expr} {f:Ev->Option Bx} (h:QV X e f):QVo X (some e) (Ax f):=⟨have h:=h.run;poM (Xz h) fun σ H Q q=>by
 obtain⟨H0,ρ,o,E,e,q⟩:=q
 obtain⟨b,eb,e⟩:=bind_some e
 refine⟨H0,ρ,b,E,eb,fun v H1 s1 n1 r1=>?_⟩
 unfold abx at e
 split at e
 ·rename_i i
  cases e
  exact⟨i,Ka r1,q H1 s1⟩
 ·cases e⟩
def cutD (xs:List Dt) (lo hi:Option Int):List Dt:=(xs.drop (HT.jK xs.length 0 lo)).take (HT.jK xs.length xs.length hi - HT.jK xs.length 0 lo)
theorem KN {K:PySem.W.Frag} {H:Hp} {ds:List Dt} {vs:List V} (r:aK K H ds vs) (lo hi:Option Int):aK K H (cutD ds lo hi) (Kl vs lo hi):=by
 unfold cutD Kl
 rw[r.length]
 exact (r.drop _).take _
theorem Vd (ds:List Dt) {lo hi:Option Int} (h1:HT.jK ds.length 0 lo=0) (h2:HT.jK ds.length ds.length hi=ds.length):cutD ds lo hi=ds:=by
 unfold cutD
 rw[h1,h2]
 simp
theorem yu {t sl:Addr} {items:Array Value} {vl vu:Value} {lo hi:Option Int} {Q:Value->Shared->Prop} {prog:Program} {w:World} {A:Around} {E:Value->Shared->Prop} {s:Shared} (ht:IsTup s.heap t items) (hs:s.heap.IsSliceOf sl vl vu .none) (pl:IsPart vl lo) (pu:IsPart vu hi)
  (h1:HT.jK items.size 0 lo=0) (h2:HT.jK items.size items.size hi=items.size)
  (h:Q (.ref t) s):wpAny (model prog w) A (getItem (.ref t) (.ref sl)) Q E s:=by
 obtain⟨os,hos,hcs,hds⟩:=id hs
 have hTs:s.TypeIs (.ref sl) "slice" := ⟨os,hos,hcs⟩
 unfold getItem
 try with_reducible refine Qr ?_
 first|refine zb (ze ?_)|skip
 refine zb (wpAny_sequenceKey ht.typeIs (by decide) ?_)
 refine zb (K2 (name:=Str.ofString "__getitem__") ht.typeIs PyProof.Rows.slot_tuple_getitem
  (js PyProof.Rows.slot_tuple_getitem ht.typeIs entry_tuple_getitem ?_ (args_tuple_getitem _ _)))
 show wpAny _ _ (Builtin.Tuple.tupleItemsOf (.ref t) >>= _) _ _ s
 refine zb (tupleItemsOf_ ht ?_)
 refine zb (QE hTs ?_)
 rw[zk (by decide)]
 refine zb (HT.rQ hs pl pu ?_)
 have hyes:(((HT.jK items.size 0 lo:Nat):Int)==0&&(1:Int)==1&&(HT.jK items.size items.size hi - HT.jK items.size 0 lo)==items.size)=true:=by
  rw[h1,h2];simp
 show wpAny _ _ (if (((HT.jK items.size 0 lo:Nat):Int)==0&&(1:Int)==1&&(HT.jK items.size items.size hi - HT.jK items.size 0 lo)==items.size)=true then _ else _) _ _ s
 rw[zk hyes]
 first
  |refine zb (zb (QE ht.typeIs (ze ?_)))
  |refine zb (QE ht.typeIs (zb (ze ?_)))
  |refine zb (QE ht.typeIs ?_)
 rw[zk (by decide)]
 first
  |exact zb (wpAny_rule (ze ⟨_,rfl,ze h⟩))
  |exact zb (wpAny_rule (zb (ze (ze ⟨_,rfl,ze h⟩))))
def slB (b:Bx) (lo hi:Option Int):Option Bx:=match b with
 |.z (.str x)=>some (.z (.str (Txt.slice x lo hi)))
 |.z (.tup ds)=>some (.z (.tup (cutD ds lo hi)))
 |b=>(rC b).bind fun ds=>some (.o (cutD ds lo hi))
def rSl (K:PySem.W.Frag):V->Option Int->Option Int->Hp->VK->Prop:=fun x lo hi H Q=>∃ b c,bf K H b x/\slB b lo hi=some c/\∀ w H',Same H H'->Nw H c w->bf K H' c w->Q w H'
theorem aby:Z1 X (rSl X.K):=by
 intro pins s σ H x v vl vu lo hi sl Q I rx hs pl pu h
 obtain⟨b,c,rb,e,q⟩:=h
 unfold slB at e
 split at e
 ·rename_i y
  cases e
  obtain⟨rfl,hy⟩:=N7 rb
  obtain⟨t,rfl⟩:=rx
  refine⟨"str", _,F.slot_str_getitem.lookup,typeIs_str _ _ _,?_⟩
  obtain⟨o,e1,e2,e3⟩:=hs
  have fin:∀ t' k,EP X pins σ Q (.str (Txt.slice y lo hi) t') { s with toks:=k }:=fun t' k=>⟨.str _,H,I.tok _,⟨_,rfl⟩,q _ H (Same.refl H) trivial (Yp (z4 (Txt.slice_le y _ _) hy))⟩
  cases pl with
  |none=>
   cases pu with
   |none=>exact kA (l:=none) (u:=none) (st:=none) ⟨o,e1,e2,e3⟩ rfl (post_val_or_str ⟨z4 (Txt.slice_le y _ _) hy,fin⟩)
   |int j uj=>exact kA (l:=none) (u:=some (j,uj)) (st:=none) ⟨o,e1,e2,e3⟩ rfl (post_val_or_str ⟨z4 (Txt.slice_le y _ _) hy,fin⟩)
  |int i ui=>
   cases pu with
   |none=>exact kA (l:=some (i,ui)) (u:=none) (st:=none) ⟨o,e1,e2,e3⟩ rfl (post_val_or_str ⟨z4 (Txt.slice_le y _ _) hy,fin⟩)
   |int j uj=>exact kA (l:=some (i,ui)) (u:=some (j,uj)) (st:=none) ⟨o,e1,e2,e3⟩ rfl (post_val_or_str ⟨z4 (Txt.slice_le y _ _) hy,fin⟩)
 ·rename_i ds
  cases e
  obtain⟨a,vs,rfl,sq,rs⟩:=inT rb
  by_cases hw:HT.jK vs.length 0 lo=0/\HT.jK vs.length vs.length hi=vs.length
  ·cases rx
   obtain⟨its,r,ht,hz⟩:=I.tuple sq
   have hlen:its.toArray.size=vs.length:=by rw[zz];exact r.length.symm
   refine⟨"tuple", _,PyProof.Rows.slot_tuple_getitem.lookup,ht.typeIs,yu ht hs pl pu (by rw[hlen];exact hw.1) (by rw[hlen];exact hw.2) ⟨.ref a,H,I,rfl,q _ H (Same.refl H) trivial ?_⟩⟩
   rw[Vd ds (by rw[<-rs.length];exact hw.1) (by rw[<-rs.length];exact hw.2)]
   exact rb
  ·refine aa6 pins s σ H _ v vl vu lo hi sl Q I rx hs pl pu ⟨a,vs,rfl,sq,hw,fun p hp=>q _ _ (bU hp) trivial ?_⟩
   unfold bf Rep
   exact⟨p,_,rfl,.inl (.inl aX),(KN rs lo hi).kp (.of (bU hp))⟩
 ·obtain⟨ds,ed,e⟩:=bind_some e
  cases e
  obtain⟨a,vs,rfl,sq,rs⟩:=rb.FQ ed
  exact XJ pins s σ H _ v vl vu lo hi sl Q I rx hs pl pu ⟨a,vs,rfl,sq,fun p hp=>q _ _ (bU hp) (fun a ea=>by cases ea;exact hp) ⟨p,_,rfl,aX,(KN rs lo hi).kp (.of (bU hp))⟩⟩
def Xh (f:Ev->Option Bx) (fl fh:Ev->Option (Option Int)):Ev->Option Bx:=fun ρ=>(f ρ).bind fun b=>(fl ρ).bind fun lo=>(fh ρ).bind fun hi=>slB b lo hi
theorem KQ {e:Expr} {lo hi:Option Expr} {f:Ev->Option Bx} {fl fh:Ev->Option (Option Int)} {p2 pos:Pos} (he:QV X e f) (hl:QVo X lo fl) (hh:QVo X hi fh):QV X (.Subscript e (.Slice lo hi none p2) pos) (Xh f fl fh):=⟨have he:=he.run;have hl:=hl.run;have hh:=hh.run;Ij (Uq aby he hl hh) fun σ H Q h=>by
 obtain⟨H0,ρ,c,E,e,q⟩:=h
 obtain⟨b,eb,e⟩:=bind_some e
 obtain⟨lo,el,e⟩:=bind_some e
 obtain⟨hi,eh,e⟩:=bind_some e
 refine⟨H0,ρ,b,E,eb,fun v H1 s1 n1 r1=>⟨H0,ρ,lo,E.grow s1,el,fun H2 s2=>⟨H0,ρ,hi,E.grow (s1.trans s2),eh,fun H3 s3=>?_⟩⟩⟩
 have s13:=(s1.trans s2).trans s3
 exact⟨b,c,(r1.same s2).same s3,e,fun w H4 s4 n4 r4=>q w H4 (s13.trans s4) (n4.old s13) r4⟩⟩
def FW:List Bx->Option Bx
 |[.z (.str x)]=>some (.z (.int x.length))
 |[b]=>(yq b).bind fun ds=>some (.z (.int ds.length))
 |_=>none
theorem rep1 {K:PySem.W.Frag} {H:Hp} {b:Bx} {vs:List V} (r:o9 K H [b] vs):∃ v,vs=[v]/\bf K H b v:=by
 cases r with
 |cons p t=>cases t;exact⟨_,rfl,p⟩
theorem Oc:pq X (.builtin "len") FW:=jk.imp (Ie.or Ig) fun xs H Q q=>by
 obtain⟨bs,c,rb,e,q⟩:=q
 unfold FW at e
 split at e
 ·rename_i x
  cases e
  obtain⟨v,rfl,r1⟩:=rep1 rb
  obtain⟨rfl,hx⟩:=N7 r1
  exact .inr ⟨x,rfl,hx,q _ H (Same.refl H) trivial Dm⟩
 ·obtain⟨ds,ed,e⟩:=bind_some e
  cases e
  obtain⟨v,rfl,r1⟩:=rep1 rb
  obtain⟨p,vs,rfl,sq,rs⟩:=yr r1 ed
  exact .inl ⟨p,vs,rfl,sq,by rw[rs.length];exact q _ H (Same.refl H) trivial Dm⟩
 ·cases e
def Ve:List Bx->Option Bx
 |[.z (.int i)]=>some (.z (.int (if i < 0 then -i else i)))
 |_=>none
theorem abz:pq X (.builtin "abs") Ve:=jk.imp Uj fun xs H Q q=>by
 obtain⟨bs,c,rb,e,q⟩:=q
 unfold Ve at e
 split at e
 ·rename_i i
  cases e
  obtain⟨v,rfl,r1⟩:=rep1 rb
  have:=Ka r1
  subst this
  exact⟨i,rfl,q _ H (Same.refl H) trivial Dm⟩
 ·cases e
def Vf:List Bx->Option Bx
 |[.z (.int i)]=>some (.z (.int i))
 |[.z (.bl k)]=>some (.z (.int (if k then 1 else 0)))
 |_=>none
theorem abA:pq X (.type "int") Vf:=jk.imp RZ fun xs H Q q=>by
 obtain⟨bs,c,rb,e,q⟩:=q
 unfold Vf at e
 split at e
 ·rename_i i
  cases e
  obtain⟨v,rfl,r1⟩:=rep1 rb
  have:=Ka r1
  subst this
  exact .inl ⟨i,rfl,q _ H (Same.refl H) trivial Dm⟩
 ·rename_i k
  cases e
  obtain⟨v,rfl,r1⟩:=rep1 rb
  simp only[bf,Rep] at r1
  subst r1
  exact .inr ⟨k,rfl,q _ H (Same.refl H) trivial Dm⟩
 ·cases e
def lM:List Bx->Option Bx
 |[b]=>(yq b).bind fun ds=>some (.z (.tup ds))
 |_=>none
theorem m5:pq X (.type "tuple") lM:=jk.imp FP fun xs H Q q=>by
 obtain⟨bs,c,rb,e,q⟩:=q
 unfold lM at e
 split at e
 ·obtain⟨ds,ed,e⟩:=bind_some e
  cases e
  obtain⟨v,rfl,r1⟩:=rep1 rb
  obtain⟨p,vs,rfl,sq,rs⟩:=yr r1 ed
  refine⟨p,vs,rfl,?_⟩
  rcases sq with sq|sq
  ·refine .inl ⟨sq,fun l hl=>q _ _ (bU hl) trivial ?_⟩
   unfold bf Rep
   exact⟨l,vs,rfl,.inl (.inl aX),rs.kp (.of (bU hl))⟩
  ·refine .inr ⟨sq,q _ H (Same.refl H) trivial ?_⟩
   unfold bf Rep
   exact⟨p,vs,rfl,sq,rs⟩
 ·cases e
def Dr:List Dt->Option (List Bool)
 |[]=>some []
 |.bl b::ds=>(Dr ds).bind fun bs=>some (b::bs)
 |_=>none
theorem wV {K:PySem.W.Frag} {H:Hp}:∀ {ds:List Dt} {bs:List Bool} {vs:List V} {us:List Value},Dr ds=some bs->aK K H ds vs->Vals vs us->us=bs.map Value.bool
 |[],_,_,_,e,r,w=>by
  cases e
  simp only[aK] at r;subst r;cases w;rfl
 |d::ds,_,_,_,e,r,w=>by
  simp only[aK] at r
  obtain⟨v,r',rfl,h1,h2⟩:=r
  cases d<;>first|(cases e;done)|skip
  simp only[Dr] at e
  obtain⟨bs,e1,e⟩:=bind_some e
  cases e
  simp only[Rep] at h1
  subst h1
  cases w with
  |cons p t=>
   cases p
   rw[wV e1 h2 t]
   rfl
theorem all_range (bs:List Bool):((List.range bs.length).all fun i=>bs.getD i false)=bs.all id:=by
 rw[ko,qA,qA]
 constructor
 ·intro h b hb
  obtain⟨i,hi,rfl⟩:=List.mem_iff_getElem.mp hb
  have:=h i (by simpa using hi)
  simpa [List.getD,hi] using this
 ·intro h i hi
  have hi:i < bs.length:=by simpa using hi
  have:=h bs[i] (kX hi)
  simpa [List.getD,hi] using this
theorem any_range (bs:List Bool):((List.range bs.length).any fun i=>bs.getD i false)=bs.any id:=by
 rw[ko,QQ,QQ]
 constructor
 ·rintro⟨i,hi,h⟩
  have hi:i < bs.length:=by simpa using hi
  exact⟨bs[i],kX hi,by simpa [List.getD,hi] using h⟩
 ·rintro⟨b,hb,h⟩
  obtain⟨i,hi,rfl⟩:=List.mem_iff_getElem.mp hb
  exact⟨i,by simpa using hi,by simpa [List.getD,hi] using h⟩
def allB:List Bx->Option Bx
 |[b]=>(rC b).bind fun ds=>(Dr ds).bind fun bs=>some (.z (.bl (bs.all id)))
 |_=>none
def anyB:List Bx->Option Bx
 |[b]=>(rC b).bind fun ds=>(Dr ds).bind fun bs=>some (.z (.bl (bs.any id)))
 |_=>none
theorem Ay {prog:Program} {w:World} {A:Around} (bs:List Bool):TruthOf prog w A (fun i v=>(bs.map Value.bool).toArray[i]?=some v) fun i=>bs.getD i false:=fun i v s Q E h q=>by
 have h':(bs.map Value.bool)[i]?=some v:=by simpa using h
 rw[zS] at h'
 cases e:bs[i]? with
 |none=>rw[e] at h';cases h'
 |some b=>
  rw[e] at h'
  cases h'
  have:bs.getD i false=b:=by simp[List.getD,e]
  have q':Q b s:=by rw[<-this];exact q
  exact JJ q'
theorem abB (hc:X.calm=true):pq X (.builtin "all") allB:=by
 intro pins s σ H xs us Q I r h
 obtain⟨bs,c,rb,e,q⟩:=h
 unfold allB at e
 split at e
 ·obtain⟨ds,ed,e⟩:=bind_some e
  obtain⟨ks,ek,e⟩:=bind_some e
  cases e
  obtain⟨v,rfl,r1⟩:=rep1 rb
  obtain⟨a,vs,rfl,sq,rs⟩:=r1.FQ ed
  obtain⟨u,rfl,ru⟩:=vals1 r
  cases ru
  obtain⟨its,w,pl,hz⟩:=I.list sq
  have hv:=wV ek rs w
  have hlt:a < s.heap.objs.size:=by obtain⟨o,n,e,_⟩:=pl;exact zv e
  refine call_all_walk (KF pl.isList ?_)
  refine⟨s.heap.objs.size,_,_,_,_,_,fun i=>ks.getD i false,rfl,Walks.list (by show X.A.handled=none;exact I.ok.hd hc) s.heap.objs.size a (zD hlt) its.toArray,⟨⟨_,zt _ rfl,rfl,rfl⟩,pl.isList.push _⟩,?_,fun h' tk k=>?_⟩
  ·rw[hv];exact Ay ks
  ·have hn:its.toArray.size=ks.length:=by rw[hv];simp
   rw[hn,all_range]
   have I1:L2.Inv X pins σ H { s with heap:=s.heap.push { cls:=.type "list_iterator", data:=.fields #[.ref a,.int 0 0] } }:=I.kept (t':=s.toks) fun b o e=>zd _ e
   refine⟨.bl _,H,?_,rfl,q _ H (Same.refl H) trivial N6⟩
   obtain⟨f0,f1,f2,f3,f4,f5⟩:=I.RQ (b:=s.heap.objs.size) (H':=H) (zg _) (I.hok.fresh (zg _))
   exact I1.turned (it:=s.heap.objs.size) (fun b o hb e=>k b o (by simpa using hb) e) f0 f1 f3 f4 f5
 ·cases e
theorem abC (hc:X.calm=true):pq X (.builtin "any") anyB:=by
 intro pins s σ H xs us Q I r h
 obtain⟨bs,c,rb,e,q⟩:=h
 unfold anyB at e
 split at e
 ·obtain⟨ds,ed,e⟩:=bind_some e
  obtain⟨ks,ek,e⟩:=bind_some e
  cases e
  obtain⟨v,rfl,r1⟩:=rep1 rb
  obtain⟨a,vs,rfl,sq,rs⟩:=r1.FQ ed
  obtain⟨u,rfl,ru⟩:=vals1 r
  cases ru
  obtain⟨its,w,pl,hz⟩:=I.list sq
  have hv:=wV ek rs w
  have hlt:a < s.heap.objs.size:=by obtain⟨o,n,e,_⟩:=pl;exact zv e
  refine call_any_walk (KF pl.isList ?_)
  refine⟨s.heap.objs.size,_,_,_,_,_,fun i=>ks.getD i false,rfl,Walks.list (by show X.A.handled=none;exact I.ok.hd hc) s.heap.objs.size a (zD hlt) its.toArray,⟨⟨_,zt _ rfl,rfl,rfl⟩,pl.isList.push _⟩,?_,fun h' tk k=>?_⟩
  ·rw[hv];exact Ay ks
  ·have hn:its.toArray.size=ks.length:=by rw[hv];simp
   rw[hn,any_range]
   have I1:L2.Inv X pins σ H { s with heap:=s.heap.push { cls:=.type "list_iterator", data:=.fields #[.ref a,.int 0 0] } }:=I.kept (t':=s.toks) fun b o e=>zd _ e
   refine⟨.bl _,H,?_,rfl,q _ H (Same.refl H) trivial N6⟩
   obtain⟨f0,f1,f2,f3,f4,f5⟩:=I.RQ (b:=s.heap.objs.size) (H':=H) (zg _) (I.hok.fresh (zg _))
   exact I1.turned (it:=s.heap.objs.size) (fun b o hb e=>k b o (by simpa using hb) e) f0 f1 f3 f4 f5
 ·cases e
end
end P1
end
section
namespace P1
open PySem PySem.Spec PyProof.Rows L2
def gv (i:Nat):Ev->Option Bx:=fun ρ=>vQ ρ i
def uq (g:Bx->Bx->Option Bx) (fa fb:Ev->Option Bx):Ev->Option Bool:=fun ρ=>(b2 g fa fb ρ).bind Ik
def tV (f:Ev->Option Bx):Ev->Option Bool:=fun ρ=>(f ρ).bind X7
def aG:Ev->Option (List Bx):=fun _=>some []
def G7 (p:Dt->Bool) (f:Ev->Option Bx):Ev->Option Bx:=b1 (fun b=>if qL b=true then none else some (.z (.bl (p (toD b))))) f
def gC:Ev->Option Out:=fun ρ=>some (.nx ρ)
def jH (f:Ev->Option Bx):Ev->Option Out:=fun ρ=>(f ρ).bind U3
def setG (i:Nat) (f:Ev->Option Bx):Ev->Option Out:=fun ρ=>(f ρ).bind fun b=>(U4 ρ i b).bind fun ρ'=>some (.nx ρ')
def KR (gt:Dt->Ev->Option Ev) (f:Ev->Option Bx):Ev->Option Out:=fun ρ=>(f ρ).bind fun b=>match b with|.z d=>(gt d ρ).bind fun ρ'=>some (.nx ρ')|_=>none
def Vg (i j:Nat) (fs:Ev->Option (List Bx)):Ev->Option Out:=fun ρ=>(fs ρ).bind (Yg i j ρ)
def zT (i:Nat) (f:Ev->Option Bx):Ev->Option Out:=fun ρ=>(f ρ).bind (U5 ρ i)
def rD (fi:Ev->Option (List Dt)) (gt:Dt->Ev->Option Ev) (gb:Ev->Option Out):Ev->Option Out:=fun ρ=>(fi ρ).bind fun ds=>qd gt gb ds ρ
def itF (f:Ev->Option Bx):Ev->Option (List Dt):=fun ρ=>(f ρ).bind Yh
def G8 (f:Ev->Option Bx):Ev->Option (List Dt):=fun ρ=>(f ρ).bind Yn
def Kc (fs:Ev->Option (List Bx)):Ev->Option (List Dt):=fun ρ=>(fs ρ).bind abk
def lN (i:Nat):Dt->Ev->Option Ev:=fun d ρ=>some (ρ.set i (some (.z d)))
def ur:Ev->Option Bool:=fun _=>some true
theorem gk {X:Cx}:zN X [] ur:=⟨.inl ⟨rfl,rfl⟩⟩
theorem jN {X:Cx} {c:Expr} {p:Ev->Option Bool} (h:QB X c p):zN X [c] p:=⟨have h:=h.run;.inr ⟨c,rfl,h⟩⟩
theorem abD {X:Cx} {scope:Scope} {cl:List (Str×Addr)}:yc X scope cl [] []:=trivial
theorem Yt {X:Cx} {scope:Scope} {cl:List (Str×Addr)} {x:Str} {i:Nat} {xs:List Str} {is:List Nat} (n:X.N[i]?=some x) (k:X.env.kindOf x=some .cell\/X.env.kindOf x=some .free)
  (k':(relabel scope X.env).names.lookup x=some .cell\/(relabel scope X.env).names.lookup x=some .free) (c:∃ c,cl.lookup x=some c) (r:yc X scope cl xs is):yc X scope cl (x::xs) (i::is):=⟨⟨n,k,k',c⟩,r⟩
theorem mem_of_lookup {names:List (Str×NameKind)} {x:Str} {k:NameKind}:names.lookup x=some k->(x,k)∈names:=kb
theorem abE {X:Cx} {scope:Scope} {cl:List (Str×Addr)} {xs:List Str} {is:List Nat} (clos:closureFor scope X.env=pure cl) (kind:scope.kind=.function) (cell:scope.names.all (fun y=>decide (y.2≠.cell))=true)
  (names:scope.names.all (fun y=>decide (y.2=.local->scope.names.lookup y.1=some .local))=true) (sub:SubL X.env.cells cl)
  (has:(relabel scope X.env).names.all (fun y=>!(y.2==.cell||y.2==.free)||(cl.lookup y.1).isSome)=true) (cap:yc X scope cl xs is):zO X scope cl xs is where
 clos:=clos
 kind:=kind
 cell:=fun y hy=>JO (List.all_eq_true.mp cell y hy)
 names:=fun y hy=>JO (List.all_eq_true.mp names y hy)
 sub:=sub
 has:=fun x hx=>by
  have h:∃ k,(relabel scope X.env).names.lookup x=some k/\(k==NameKind.cell||k==NameKind.free)=true:=by
   rcases hx with hx|hx
   ·exact⟨_,hx,rfl⟩
   ·exact⟨_,hx,rfl⟩
  obtain⟨k,e,hk⟩:=h
  have:=List.all_eq_true.mp has _ (mem_of_lookup e)
  simp only[hk,kr,Bool.false_or] at this
  exact Option.isSome_iff_exists.mp this
 cap:=cap
theorem gB {k:Nat} {A:Around} (r:mQ k A):A.units+100 < cLine:=by have:=r.un;omega
theorem abF {F:List Bx->Option Bx} (h:∀ ns:List Int,ns.length<=63->F [.z (.lst (ns.map .int))]=some (.z (.bl true))) (hl:∀ ns:List Int,ns.length<=63->F [.l (ns.map .int)]=some (.z (.bl true))) (K:PySem.W.Frag) (H:Hp) (a:Addr) (ns:List Int) (hn:ns.length<=63) (_:Only H) (hS:um K H a (ns.map V.int)) :
  qK K 1 F [.ref a] H (fun v _=>v=.bl true) fun _ _ _=>False:=by
 have rs:∀ ms:List Int,aK K H (ms.map Dt.int) (ms.map V.int):=fun ms=>by
  induction ms with
  |nil=>exact aK.nil
  |cons m ms ih=>exact aK.cons (by unfold Rep;rfl) ih
 have fin:∀ v (H':Hp),Same H H'->Nw H (.z (.bl true)) v->bf K H' (.z (.bl true)) v->v=.bl true:=fun v H' _ _ r=>by simpa only[bf,Rep] using r
 rcases hS with hS|hS
 ·exact⟨rfl,[.l (ns.map .int)],_,.cons ⟨a,_,rfl,hS,rs ns⟩ .nil,rfl,hl ns hn,fin⟩
 ·refine⟨rfl,[.z (.lst (ns.map .int))],_,.cons ?_ .nil,rfl,h ns hn,fin⟩
  unfold bf Rep
  exact⟨a,_,rfl,.inr hS,rs ns⟩
theorem afV {P:Program} {w:World} {K:PySem.W.Frag} {mg:Str->Option Value} {base:Heap} {x qual:Str} {st:Stmt} {f:Addr} {fd:FuncData} {N ps:List Str} {k n m:Nat} {g:Ev->Option Out} (F:zM K x qual st f fd) (S:cQ N ps (aJ st)) (hn:N.length=n) (hm:ps.length=m)
  (hbody:∀ (cdv:Value) (A:Around) (outer:List Env) (s:Shared) (H:Hp) (E:XK),mQ k (A.deeper (envOfC qual (aJ st) s.heap.objs.size f cdv))->RN (CN mR P w K mg base N qual (aJ st) f cdv A outer s H E).RM (cF st) g) :
  cU P w K mg base mR (k+1) f fd ps (qK K m (lH n g)):=by
 subst hn hm
 exact afS F S hbody
section
variable {X:Cx} {e st:Expr} {f fs:Ev->Option Bx} {pos p2:Pos}
section
variable {prog:Program} {w:World} {A:Around} {E:Value->Shared->Prop} {s:Shared}
theorem Ja {α β:Type} {f:α->Option β} {g:α->β}:∀ l:List α,(∀ a∈l,f a=some (g a))->l.filterMap f=l.map g
 |[],_=>rfl
 |a::l,h=>by
  rw[ky,h a (zh ..),zr,Ja l fun b hb=>h b (zo _ hb)]
end
end
section
variable {X:Cx} {e:Expr} {f:Ev->Option Bx}
def ltA:Bx->Bx->Option Bx
 |.z (.int i),.z (.int j)=>some (.z (.bl (decide (i < j))))
 |.z (.str x),.z (.str y)=>some (.z (.bl (decide (x.cps.toList < y.cps.toList))))
 |_,_=>none
theorem Vh:J8 X (compareOp .Lt) ltA:=by
 intro pins s σ H x y v u Q I rx ry h
 obtain⟨a,b,c,ra,rb,e,q⟩:=h
 unfold ltA at e
 split at e
 ·rename_i i j
  cases e
  exact ac7 pins s σ H x y v u Q I rx ry ⟨i,j,Ka ra,Ka rb,q _ H (Same.refl H) trivial (by unfold bf;exact okT)⟩
 ·rename_i i j
  cases e
  obtain⟨rfl,_⟩:=N7 ra
  obtain⟨rfl,_⟩:=N7 rb
  obtain⟨t,rfl⟩:=rx
  obtain⟨t',rfl⟩:=ry
  exact PySem.P.lt_str ⟨.bl _,H,I,rfl,q _ H (Same.refl H) trivial (by unfold bf;exact okT)⟩
 ·cases e
def Az:List Dt->Option (List Str)
 |[]=>some []
 |.str x::r=>(Az r).bind fun ys=>some (x::ys)
 |_=>none
theorem vM {K:PySem.W.Frag} {H:Hp}:∀ {ds:List Dt} {vs:List V} {ys:List Str},aK K H ds vs->Az ds=some ys->vs=ys.map V.str/\∀ y∈ys,y.length<=sizeLine
 |[],_,_,h,e=>by cases e;simp only[aK] at h;subst h;exact⟨rfl,fun y hy=>by cases hy⟩
 |.str x::ds,_,_,h,e=>by
  simp only[Az] at e
  obtain⟨ys,e1,e2⟩:=bind_some e
  cases e2
  simp only[aK] at h
  obtain⟨v,r,rfl,hd,hr⟩:=h
  obtain⟨rfl,hx⟩:v=.str x/\x.length<=sizeLine:=by simpa only[Rep] using hd
  obtain⟨rfl,h2⟩:=vM hr e1
  refine⟨rfl,fun y hy=>?_⟩
  rcases List.mem_cons.mp hy with rfl|hy
  ·exact hx
  ·exact h2 y hy
 |.non::_,_,_,_,e=>by cases e
 |.bl _::_,_,_,_,e=>by cases e
 |.int _::_,_,_,_,e=>by cases e
 |.tup _::_,_,_,_,e=>by cases e
 |.lst _::_,_,_,_,e=>by cases e
 |.emp::_,_,_,_,e=>by cases e
theorem yw {K:PySem.W.Frag} {H:Hp}:∀ {ys:List Str},(∀ y∈ys,y.length<=sizeLine)->aK K H (ys.map Dt.str) (ys.map V.str)
 |[],_=>aK.nil
 |y::ys,h=>aK.cons (by unfold Rep;exact⟨rfl,h y (zh ..)⟩) (yw fun z hz=>h z (zo _ hz))
theorem sX:∀ {ys:List Str} {its:List Value},Vals (ys.map V.str) its->StrsAre its ys
 |[],_,h=>by cases h;exact .nil
 |y::ys,_,h=>by
  cases h with
  |cons r t=>
   obtain⟨tk,rfl⟩:=r
   exact .cons y tk (sX t)
theorem vN:∀ {its:List Value} {ys:List Str},StrsAre its ys->Vals (ys.map V.str) its
 |_,_,.nil=>.nil
 |_,_,.cons y t h=>.cons ⟨t,rfl⟩ (vN h)
theorem Jb:jk X (.builtin "sorted") (fun xs H Q=>∃ p ys,xs=[.ref p]/\um X.K H p (ys.map V.str)/\ys.length < 64/\∀ l zs,H l=none->zs.Perm ys->sortedS zs=true->Q (.ref l) (upd H l (.lst (zs.map V.str)))):=by
 intro pins s σ H xs us Q I r h
 obtain⟨p,ys,rfl,hq,h64,q⟩:=h
 obtain⟨u,rfl,rx⟩:=vals1 r
 cases rx
 obtain⟨its,r',pl,hz⟩:=I.list hq
 have hlen:=r'.length
 rw[zi] at hlen hz
 refine sorted_strs pl.isList (sX r') (by omega) fun out zs hs hp adO=>?_
 obtain⟨n,en⟩:=sortedAll_at s.heap its out
 refine⟨.ref (s.heap.objs.size+1),_,I.laid (t':=s.toks) (a:=s.heap.objs.size+1) (o:=.lst (zs.map V.str)) (fun b o e=>sortedAll_old e) (Kk _) ?_,rfl,q _ zs (I.hok.fresh (Kk _)) hp adO⟩
 refine⟨by rw[zi,hp.length_eq];exact hz,out.toList,n,vN hs,?_⟩
 rw[en]
def rP (a b:Str):Prop:=ltCps b.cps.toList a.cps.toList=false
theorem yx:∀ (p:Str) (l:List Str),risingS p l=true->(p::l).Pairwise rP
 |p,[],_=>by simp
 |p,x::r,h=>by
  have h':(!ltCps x.cps.toList p.cps.toList&&risingS x r)=true:=h
  rw[ZN] at h'
  have ih:=yx x r h'.2
  have hx:rP p x:=by simpa [rP] using h'.1
  refine List.pairwise_cons.mpr ⟨fun y hy=>?_,ih⟩
  rcases List.mem_cons.mp hy with rfl|hy
  ·exact hx
  ·have hxy:rP x y:=jv ih hy
   unfold rP at hx hxy ⊢
   rw[ltCps_eq] at hx hxy ⊢
   simp only[Qb] at hx hxy ⊢
   exact List.le_trans (α:=Nat) hx hxy
theorem Jc {l:List Str} (h:sortedS l=true):l.Pairwise rP:=by
 cases l with
 |nil=>exact .nil
 |cons p l=>exact yx p l h
theorem yC {a b:Str} (h:rP a b) (h':rP b a):a=b:=by
 unfold rP at h h'
 rw[ltCps_eq] at h h'
 simp only[Qb] at h h'
 have:=List.le_antisymm (as:=a.cps.toList) (bs:=b.cps.toList) h h'
 cases a;cases b
 simp only[Str.mk.injEq]
 exact Array.toList_inj.mp this
theorem Jd:∀ {l l':List Str},l.Perm l'->l.Pairwise rP->l'.Pairwise rP->l=l'
 |[],l',h,_,_=>by rw[List.nil_perm.mp h]
 |a::l,[],h,_,_=>by cases List.perm_nil.mp h
 |a::l,b::l',h,p,p'=>by
  have e:a=b:=by
   have ha:a∈b::l':=h.mem_iff.mp (zh ..)
   have hb:b∈a::l:=h.mem_iff.mpr (zh ..)
   rcases List.mem_cons.mp ha with h1|h1
   ·exact h1
   ·rcases List.mem_cons.mp hb with h2|h2
    ·exact h2.symm
    ·exact yC (jv p h2) (jv p' h1)
  subst e
  rw[Jd ((List.perm_cons a).mp h) (List.pairwise_cons.mp p).2 (List.pairwise_cons.mp p').2]
def Sw (a b:Str):Bool:=!ltCps b.cps.toList a.cps.toList
def iB (ys:List Str):List Str:=ys.mergeSort Sw
theorem dG (ys:List Str):(iB ys).Perm ys:=Kt ys Sw
theorem sY (ys:List Str):(iB ys).Pairwise rP:=by
 have h:=kC (le:=Sw) (fun a b c h1 h2=>by
  unfold Sw at *
  rw[ltCps_eq] at *
  simp only[qV,Qb] at *
  exact List.le_trans (α:=Nat) h1 h2) (fun a b=>by
  unfold Sw
  rw[ltCps_eq,ltCps_eq]
  simp only[Bool.or_eq_true,qV,Qb]
  exact List.le_total a.cps.toList b.cps.toList) ys
 exact h.imp fun {a b} hh=>by simpa [Sw,rP] using hh
theorem KY {ys zs:List Str} (hp:zs.Perm ys) (hs:sortedS zs=true):zs=iB ys:=Jd (hp.trans (dG ys).symm) (Jc hs) (sY ys)
def Ba:List Bx->Option Bx
 |[b]=>(rC b).bind fun ds=>(Az ds).bind fun ys=>if ys.length < 64 then some (.o ((iB ys).map Dt.str)) else none
 |_=>none
theorem zU:pq X (.builtin "sorted") Ba:=jk.imp Jb fun xs H Q q=>by
 obtain⟨bs,c,rb,e,q⟩:=q
 unfold Ba at e
 split at e
 ·rename_i b
  obtain⟨ds,ed,e⟩:=bind_some e
  obtain⟨ys,ey,e⟩:=bind_some e
  split at e
  ·rename_i h64
   cases e
   obtain⟨v,rfl,r1⟩:=rep1 rb
   obtain⟨p,vs,rfl,sq,rs⟩:=r1.FQ ed
   obtain⟨rfl,hy⟩:=vM rs ey
   refine⟨p,ys,rfl,sq,h64,fun l zs hl hp hs=>?_⟩
   rw[KY hp hs]
   refine q _ _ (bU hl) (fun a ea=>by cases ea;exact hl) ⟨l,_,rfl,aX,yw fun y h=>hy y ((dG ys).mem_iff.mp h)⟩
  ·cases e
 ·cases e
def KZ (x:Str) (b:Bx):Option Bx:=(rC b).bind fun ds=>(Az ds).bind fun ys=>if (ys.map (·.length)).sum+ys.length * x.length<=100000 then some (.z (.str (Txt.join x ys))) else none
theorem Yu:MtR X "str.join" (fun x xs H Q=>∃ y p ys,x=.str y/\xs=[.ref p]/\um X.K H p (ys.map V.str)/\(ys.map (·.length)).sum+ys.length * y.length<=100000/\Q (.str (Txt.join y ys)) H):=by
 intro pins s σ H x xs v us Q I rx rs h
 obtain⟨y,p,ys,rfl,rfl,sq,hb,q⟩:=h
 obtain⟨t,rfl⟩:=rx
 obtain⟨u,rfl,ru⟩:=vals1 rs
 cases ru
 obtain⟨its,r',pl,hz⟩:=I.list sq
 exact join_list pl.isList (sX r') (by omega) fun t' k=>⟨.str _,H,I.tok _,⟨_,rfl⟩,q⟩
theorem Yv {x:Str} {j:Nat} {p1 apos cpos:Pos} (h:QV X e f) (hx:x.length<=sizeLine:=by decide) (hbase:attributeBase (.Constant (.str x) j p1) "join" X.env (eval (.Constant (.str x) j p1) X.env)=eval (.Constant (.str x) j p1) X.env:=by rfl) (hfew:((backTo cpos (starEach [e] X.env)).all (fun x=>!x.1)&&(backToKw cpos (keywordEach [] X.env)).all (fun x=>x.1.isSome)&&decide ([e].length+([]:List Keyword).length+(if ([]:List Keyword).isEmpty then 0 else 1) < 30))=true:=by rfl) (hline:(apos.endLine==cpos.line)=true:=by rfl) (hs:starEach [e] X.env=(false,eval e X.env)::starEach [] X.env:=by rfl):QV X (.Call (.Attribute (.Constant (.str x) j p1) "join" apos) [e] [] cpos) (b1 (KZ x) f):=⟨have h:=h.run;Ij (Qn (T := "str") F.plainAttrs_str F.slot_str_join F.type_str_join Yu (UL (hx:=hx)) (Ky h Qp hs) hbase hfew hline hs rfl) fun σ H Q q=>by
  obtain⟨H0,ρ,c,E,e,q⟩:=q
  obtain⟨a,ea,e⟩:=bind_some e
  refine⟨H0,ρ,_,E,rfl,fun v H1 s1 n1 r1=>?_⟩
  obtain⟨rfl,hx'⟩:v=.str x/\x.length<=sizeLine:=by simpa only[bf,Rep] using r1
  refine⟨rfl,H0,ρ,[a],E.grow s1,by simp only[ao,ea,Option.bind_some],fun vs H2 s2 r2=>?_⟩
  obtain⟨w,rfl,rw1⟩:=rep1 r2
  unfold KZ at e
  obtain⟨ds,ed,e⟩:=bind_some e
  obtain⟨ys,ey,e⟩:=bind_some e
  split at e
  ·rename_i hb
   cases e
   obtain⟨p,ws,rfl,sq,rs⟩:=rw1.FQ ed
   obtain⟨rfl,hy⟩:=vM rs ey
   refine⟨x,p,ys,rfl,rfl,sq,hb,q _ _ (s1.trans s2) trivial ?_⟩
   unfold bf Rep
   exact⟨rfl,joinOk_length (joinOk_of (by omega))⟩
  ·cases e⟩
end
section
variable {X:Cx}
def Ds:List Bx->Option Bx
 |[.z (.int a),.z (.int b)]=>some (.z (.int (if b > a then b else a)))
 |_=>none
def Od:List Bx->Option Bx
 |[.z (.int a),.z (.int b)]=>some (.z (.int (if b < a then b else a)))
 |_=>none
theorem Qz {K:PySem.W.Frag} {H:Hp} {a b:Bx} {vs:List V} (h:o9 K H [a,b] vs):∃ v w,vs=[v,w]/\bf K H a v/\bf K H b w:=by
 cases h with
 |cons p t=>
  cases t with
  |cons p' t'=>cases t';exact⟨_,_,rfl,p,p'⟩
theorem wW (hc:X.calm=true):pq X (.builtin "max") Ds:=by
 intro pins s σ H xs us Q I r h
 obtain⟨bs,c,rb,e,q⟩:=h
 unfold Ds at e
 split at e
 ·rename_i a b
  cases e
  obtain⟨v,w,rfl,r1,r2⟩:=Qz rb
  have hv:=Ka r1
  have hw:=Ka r2
  subst hv hw
  obtain⟨u,u',rfl,ru,ru'⟩:=Vals.two r
  obtain⟨t,rfl⟩:=ru
  obtain⟨t',rfl⟩:=ru'
  refine max_two_ints (I.ok.hd hc) fun h' tk kp=>?_
  by_cases hb:b > a
  ·rw[zk hb] at q ⊢
   exact⟨.int b,H,I.kept kp,⟨_,rfl⟩,q _ H (Same.refl H) trivial Dm⟩
  ·rw[zw hb] at q ⊢
   exact⟨.int a,H,I.kept kp,⟨_,rfl⟩,q _ H (Same.refl H) trivial Dm⟩
 ·cases e
theorem Oe (hc:X.calm=true):pq X (.builtin "min") Od:=by
 intro pins s σ H xs us Q I r h
 obtain⟨bs,c,rb,e,q⟩:=h
 unfold Od at e
 split at e
 ·rename_i a b
  cases e
  obtain⟨v,w,rfl,r1,r2⟩:=Qz rb
  have hv:=Ka r1
  have hw:=Ka r2
  subst hv hw
  obtain⟨u,u',rfl,ru,ru'⟩:=Vals.two r
  obtain⟨t,rfl⟩:=ru
  obtain⟨t',rfl⟩:=ru'
  refine min_two_ints (I.ok.hd hc) fun h' tk kp=>?_
  by_cases hb:b < a
  ·rw[zk hb] at q ⊢
   exact⟨.int b,H,I.kept kp,⟨_,rfl⟩,q _ H (Same.refl H) trivial Dm⟩
  ·rw[zw hb] at q ⊢
   exact⟨.int a,H,I.kept kp,⟨_,rfl⟩,q _ H (Same.refl H) trivial Dm⟩
 ·cases e
end
def Du (kvs:List (Str×Dt)) (x:Str):Option Dt:=(kvs.find? fun kv=>decide (kv.1=x)).map (·.2)
def Je (kvs:List (Str×Dt)) (x:Str) (d:Dt):List (Str×Dt):=
 if (kvs.any fun kv=>decide (kv.1=x))=true then kvs.map (fun kv=>if kv.1=x then (kv.1,d) else kv) else kvs++[(x,d)]
section
variable {K:PySem.W.Frag} {H:Hp}
theorem gR.nil:gR K H [] []:=⟨rfl,aK.nil,fun p hp=>by cases hp⟩
theorem gR.inv {p:Str×Dt} {kvs:List (Str×Dt)} {ks:List (Key×V)} (h:gR K H (p::kvs) ks):∃ v r,ks=(Sum.inr p.1,v)::r/\Rep K H p.2 v/\p.1.length<=sizeLine/\gR K H kvs r:=by
 obtain⟨h1,h2,h3⟩:=h
 cases ks with
 |nil=>simp at h1
 |cons q r=>
  simp only[zr,JA] at h1
  obtain⟨e,h1⟩:=h1
  simp only[zr,aK] at h2
  obtain⟨v,r',e2,hv,hr⟩:=h2
  simp only[JA] at e2
  obtain⟨rfl,rfl⟩:=e2
  exact⟨q.2,r,by rw[<-e],hv,h3 p (zh ..),h1,hr,fun x hx=>h3 x (zo _ hx)⟩
theorem gR.cons {p:Str×Dt} {kvs:List (Str×Dt)} {v:V} {r:List (Key×V)} (hv:Rep K H p.2 v) (hp:p.1.length<=sizeLine) (h:gR K H kvs r):gR K H (p::kvs) ((Sum.inr p.1,v)::r):=
 ⟨by simp[h.1],aK.cons hv h.2.1,fun x hx=>by
  rcases List.mem_cons.mp hx with rfl|hx
  ·exact hp
  ·exact h.2.2 x hx⟩
theorem gR.append {kvs:List (Str×Dt)} {ks:List (Key×V)} {x:Str} {d:Dt} {v:V} (h:gR K H kvs ks) (hv:Rep K H d v) (hx:x.length<=sizeLine):gR K H (kvs++[(x,d)]) (ks++[(Sum.inr x,v)]):=
 ⟨by simp[h.1],by rw[QO,QO];exact aK.append h.2.1 (aK.cons hv aK.nil),fun p hp=>by
  rcases List.mem_append.mp hp with hp|hp
  ·exact h.2.2 p hp
  ·cases List.mem_singleton.mp hp;exact hx⟩
theorem gR.len {kvs:List (Str×Dt)} {ks:List (Key×V)} (h:gR K H kvs ks):ks.length=kvs.length:=by
 have:=congrArg List.length h.1
 simpa using this
theorem gR.look:∀ {kvs:List (Str×Dt)} {ks:List (Key×V)} {x:Str} {d:Dt},gR K H kvs ks->Du kvs x=some d->∃ v,zL ks (Sum.inr x)=some v/\Rep K H d v
 |[],_,_,_,_,e=>by cases e
 |p::kvs,_,x,d,h,e=>by
  obtain⟨v,r,rfl,hv,hpl,hr⟩:=h.inv
  unfold Du at e
  by_cases hp:p.1=x
  ·rw[List.find?_cons_of_pos (by simpa using hp)] at e
   cases e
   exact⟨v,xV (by rw[hp]),hv⟩
  ·rw[List.find?_cons_of_neg (by simpa using hp)] at e
   obtain⟨w,e1,e2⟩:=gR.look hr e
   exact⟨w,(xW (by simpa using hp)).trans e1,e2⟩
theorem gR.any:∀ {kvs:List (Str×Dt)} {ks:List (Key×V)} {x:Str},gR K H kvs ks->(ks.any fun kv=>decide (kv.1=(Sum.inr x:Key)))=kvs.any fun kv=>decide (kv.1=x)
 |[],ks,_,h=>by
  have:=h.len
  cases ks with
  |nil=>rfl
  |cons _ _=>simp at this
 |p::kvs,_,x,h=>by
  obtain⟨v,r,rfl,hv,hpl,hr⟩:=h.inv
  rw[JY,JY,gR.any hr]
  simp
theorem gR.Vi:∀ {kvs:List (Str×Dt)} {ks:List (Key×V)} {x:Str} {d:Dt} {v:V},gR K H kvs ks->Rep K H d v->gR K H (kvs.map fun kv=>if kv.1=x then (kv.1,d) else kv) (ks.map fun kv=>if kv.1=(Sum.inr x:Key) then (kv.1,v) else kv)
 |[],ks,_,_,_,h,_=>by
  have:=h.len
  cases ks with
  |nil=>exact gR.nil
  |cons _ _=>simp at this
 |p::kvs,_,x,d,v,h,hd=>by
  obtain⟨w,r,rfl,hw,hpl,hr⟩:=h.inv
  rw[zr,zr]
  have ih:=gR.Vi (x:=x) hr hd
  by_cases hp:p.1=x
  ·rw[zk hp,zk (by simp[hp])]
   exact gR.cons (p:=(p.1,d)) hd hpl ih
  ·rw[zw hp,zw (by simpa using hp)]
   exact gR.cons hw hpl ih
theorem gR.put {kvs:List (Str×Dt)} {ks:List (Key×V)} {x:Str} {d:Dt} {v:V} (h:gR K H kvs ks) (hv:Rep K H d v) (hx:x.length<=sizeLine):gR K H (Je kvs x d) (putK ks (Sum.inr x) v):=by
 unfold Je putK
 rw[h.any]
 split
 ·exact h.Vi hv
 ·exact h.append hv hx
end
section
variable {X:Cx} {e ek o:Expr} {f fk fo:Ev->Option Bx} {pos pos':Pos}
def qj:Bx->Bx->Option Bx
 |.n kvs,.z (.str x)=>(Du kvs x).bind fun d=>some (.z d)
 |_,_=>none
theorem Og {a b c:Bx} (h:qj a b=some c):∃ kvs x d,a=.n kvs/\b=.z (.str x)/\Du kvs x=some d/\c=.z d:=by
 unfold qj at h
 split at h
 ·obtain⟨d,ed,h⟩:=bind_some h
  cases h
  exact⟨_,_,d,rfl,rfl,ed,rfl⟩
 ·cases h
theorem mC (hu:X.A.units+100 < cLine) (ho:QV X o fo) (hk:QV X ek fk) (hs:abf ek:=by intro _ _;rfl):QV X (.Subscript o ek pos) (b2 qj fo fk):=⟨have ho:=ho.run;have hk:=hk.run;Ij (XS (by omega) ho hk hs) fun σ H Q h=>by
 obtain⟨H0,ρ,c,E,e,q⟩:=h
 obtain⟨a,ea,e⟩:=bind_some e
 obtain⟨b,eb,e⟩:=bind_some e
 refine⟨H0,ρ,a,E,ea,fun v H1 s1 n1 r1=>⟨H0,ρ,b,E.grow s1,eb,fun w H2 s2 n2 r2=>?_⟩⟩
 obtain⟨kvs,x,d,rfl,rfl,ed,rfl⟩:=Og e
 obtain⟨p,ks,rfl,rd,rm⟩:=r1.same s2
 obtain⟨v',ev,rv⟩:=rm.look ed
 obtain⟨rfl,_⟩:w=.str x/\x.length<=sizeLine:=by simpa only[bf,Rep] using r2
 exact⟨p,v',rfl,.inl ⟨ks,Sum.inr x,rd,rfl,ev.symm⟩,q _ _ (s1.trans s2) trivial rv⟩⟩
def K1 (ρ:Ev) (i:Nat):Bx->Bx->Option Out
 |.z d,.z (.str x)=>match ρ[i]? with
  |some (some (.m kvs w))=>if kvs.length < 1000 then some (.nx (ρ.set i (some (.m (Je kvs x d) w)))) else none
  |_=>none
 |_,_=>none
def Vj (i:Nat) (f fk:Ev->Option Bx):Ev->Option Out:=fun ρ=>(f ρ).bind fun b=>(fk ρ).bind fun k=>K1 ρ i b k
theorem Oh {ρ:Ev} {i:Nat} {b k:Bx} {r:Out} (h:K1 ρ i b k=some r):∃ d y kvs w,b=.z d/\k=.z (.str y)/\ρ[i]?=some (some (.m kvs w))/\kvs.length < 1000/\r=.nx (ρ.set i (some (.m (Je kvs y d) w))):=by
 unfold K1 at h
 split at h
 ·split at h
  ·rename_i hρ
   split at h
   ·rename_i hl
    cases h
    exact⟨_,_,_,_,rfl,rfl,hρ,hl,rfl⟩
   ·cases h
  ·cases h
 ·cases h
theorem Yw (i:Nat) {x:Str} {p:Pos} (hu:X.A.units+100 < cLine) (he:QV X e f) (hk:QV X ek fk) (hN:X.N[i]?=some x:=by rfl) (hv:T5 X.env.scope x:=by first|exact JP rfl|exact QR (JP rfl)|exact QR (QR rfl)) (hd:(x==("__debug__" : Str))=false:=by decide) (hcd:(x==("__classdict__" : Str))=false:=by decide) (hs:swapsWith e (some (.Subscript (.Name x p) ek pos')) pos.line X.env=pure false:=by rfl):Qq X (.Assign [.Subscript (.Name x p) ek pos'] e pos) (fun ρ=>(f ρ).bind fun b=>(fk ρ).bind fun k=>K1 ρ i b k):=⟨have he:=he.run;have hk:=hk.run;UG (X3 (by omega) (oF (i:=i) hN hv hd hcd) hk he hs) fun D σ H h=>by
  obtain⟨H0,ρ,r,E,e,q⟩:=h
  obtain⟨b,eb,e⟩:=bind_some e
  obtain⟨k,ek,e⟩:=bind_some e
  refine⟨H0,ρ,b,E,eb,fun v H1 s1 n1 r1=>?_⟩
  obtain⟨d,y,kvs,w0,rfl,rfl,hρ,hl,rfl⟩:=Oh e
  have E1:=E.grow s1
  obtain⟨w,e1,a,ks,rfl,ha,rm,tie⟩:=E1.val i _ hρ
  refine⟨_,e1,H0,ρ,_,E1,ek,fun u H2 s2 n2 r2=>?_⟩
  obtain⟨rfl,hyl⟩:u=.str y/\y.length<=sizeLine:=by simpa only[bf,Rep] using r2
  have E2:=E1.grow s2
  have ha2:=s2 _ _ ha
  have kp:Kp H2 (upd H2 a (.dK (putK ks (Sum.inr y) v))):=.dk ha2
  refine⟨a,_,rfl,Ny.k (k:=Sum.inr y) ha2 (by rw[rm.len];exact Nat.lt_trans hl (by decide)),q _ _ ?_⟩
  exact E2.U6 hρ rfl e1 kp ⟨a,_,rfl,aX,((rm.kp (.of s2)).put (x:=y) (bf.same s2 r1) hyl).kp kp,tie⟩⟩
end
section
variable {X:Cx} {a b c e:Expr} {es:List Expr} {fa fb fc f:Ev->Option Bx} {fs:Ev->Option (List Bx)} {pos:Pos}
theorem Oi {x:Str} {j} (hx:x.length<=sizeLine:=by decide):QV X (.Constant (.str x) j pos) (cB (.str x)):=⟨P1.UL (hx:=hx)⟩
end
section
variable {X:Cx} {a b c e:Expr} {es:List Expr} {fa fb fc f:Ev->Option Bx} {fs:Ev->Option (List Bx)} {pos:Pos}
variable {p q:Ev->Option Bool} {rest:List Expr}
theorem aj (h1:QV X e f) (h2:T6 X es fs) (hs:starEach (e::es) X.env=(false,eval e X.env)::starEach es X.env:=by rfl):T6 X (e::es) (ao f fs):=⟨P1.Ky (h1:=h1.run) (h2:=h2.run) (hs:=hs)⟩
end
section
variable {X:Cx} {a b c e:Expr} {es:List Expr} {fa fb fc f:Ev->Option Bx} {fs:Ev->Option (List Bx)} {pos:Pos}
variable {p q:Ev->Option Bool} {rest:List Expr}
theorem au  : T6 X [] (fun _=>some []):=⟨P1.Qp ⟩
end
theorem vR {P:Program} {w:World} {K:PySem.W.Frag} {mg:Str->Option Value} {base:Heap} {x qual:Str} {st:Stmt} {f:Addr} {fd:FuncData} {N ps:List Str} {k n m:Nat} {g:Ev->Option Out} (F:zM K x qual st f fd) (S:cQ N ps (aJ st)) (hn:N.length=n) (hm:ps.length=m)
  (hbody:∀ (cdv:Value) (A:Around) (outer:List Env) (s:Shared) (H:Hp) (E:XK),mQ k (A.deeper (envOfC qual (aJ st) s.heap.objs.size f cdv))->Qs (CN mR P w K mg base N qual (aJ st) f cdv A outer s H E).RM (cF st) g) :
  cU P w K mg base mR (k+1) f fd ps (qK K m (lH n g)):=afV F S hn hm fun cdv A outer s H E hr=>(hbody cdv A outer s H E hr).run
section
variable {prog:Program} {w:World} {A:Around} {E:Value->Shared->Prop} {s:Shared}
theorem Bb:∀ (vs:List Value) (ys:List Str),vs.length=ys.length->(∀ (j:Nat) v,vs[j]?=some v->∃ y t,ys[j]?=some y/\v=.str y t)->StrsAre vs ys
 |[],[],_,_=>.nil
 |v::vs,y::ys,hl,h=>by
  obtain⟨y',t,e,rfl⟩:=h 0 v rfl
  cases e
  exact .cons y t (Bb vs ys (by simpa using hl) fun j v hv=>h (j+1) v (by simpa using hv))
theorem Oj {kvs:List (Key×Value)} {ys:List Str} (hk:kvs.map (·.1)=ys.map Sum.inr) {acc:Array Value} (h:ItemsOf (fun i v=>∃ k x,kvs[i]?=some (k,x)/\(bw prog w).is k v=true) acc kvs.length):StrsAre acc.toList ys:=by
 have hl:kvs.length=ys.length:=by have:=congrArg List.length hk;simpa using this
 refine Bb _ _ (by rw[ZU,h.1,hl]) fun j v hv=>?_
 obtain⟨k,x,e,hi⟩:=h.2 j v (by simpa using hv)
 have e1:(kvs.map (·.1))[j]?=some k:=by rw[zS,e];rfl
 rw[hk,zS] at e1
 cases hy:ys[j]? with
 |none=>rw[hy] at e1;cases e1
 |some y=>
  rw[hy] at e1
  cases e1
  have hi':mV (Sum.inr y) v=true:=hi
  rcases bM hi' with⟨i,t,e2,e3⟩|⟨z,t,e2,e3⟩
  ·cases e2
  ·cases e2
   exact⟨_,t,rfl,e3⟩
end
section
variable {X:Cx}
theorem QC:∀ {ks:List (Key×V)} {vs:List (Key×Value)},KV ks vs->vs.map (·.1)=ks.map (·.1)
 |_,_,.nil=>rfl
 |_,_,.cons h t=>by rw[zr,zr,QC t,h.1]
end
theorem bJ.adP {K:PySem.W.Frag} {H0 H:Hp} {σ:L2.St} {ρ:Ev} (E:bJ K H0 H σ ρ) (i:Nat):bJ K H0 H σ (ρ.set i none):=by
 have back:∀ (j:Nat) (b:Bx),(ρ.set i none)[j]?=some (some b)->ρ[j]?=some (some b):=fun j b e=>by
  rw[KG] at e
  split at e
  ·split at e<;>cases e
  ·exact e
 refine⟨by rw[j3];exact E.len,fun j b e=>E.val j b (back j b e),fun j k c a b e1 ec e2 e3 e4 e5=>E.own j k c a b (back _ _ e1) ec e2 (back _ _ e3) e4 e5,E.base,fun j c a e1 ec e2=>E.new j c a (back _ _ e1) ec e2⟩
def kill (is:List Nat) (ρ:Ev):Ev:=is.foldl (fun ρ i=>ρ.set i none) ρ
theorem bJ.kill {K:PySem.W.Frag} {H0 H:Hp} {σ:L2.St}:∀ (is:List Nat) {ρ:Ev},bJ K H0 H σ ρ->bJ K H0 H σ (P1.kill is ρ)
 |[],_,E=>E
 |i::is,_,E=>bJ.kill is (E.adP i)
def dD (is:List Nat):Ev->Option Out:=fun ρ=>some (.nx (kill is ρ))
theorem Vk {X:Cx} {ss:List Stmt} {g:Ev->Option Out} (is:List Nat) (h:RN X ss g):RN X ss (aD g (dD is)):=Nz h fun D σ H q=>by
 obtain⟨H0,ρ,r,E,e,q⟩:=q
 obtain⟨r1,e1,e⟩:=bind_some e
 refine⟨H0,ρ,r1,E,e1,?_⟩
 cases r1 with
 |nx ρ1=>cases e;exact fun σ' H' E'=>q σ' H' (E'.kill is)
 |rt b=>cases e;exact q
 |bk b=>cases e;exact q
 |ct b=>cases e;exact q
theorem aW {X:Cx} {ss:List Stmt} {g:Ev->Option Out} (is:List Nat) (h:Qs X ss g):Qs X ss (aD g (dD is)):=⟨Vk is h.run⟩
end P1
end
section
namespace S1
open PySem PySem.Spec PyProof.Rows
section
variable (rk:Value->Nat)
def at_ (xs:Array Keyed) (i:Nat):Nat:=match xs[i]? with
 |some p=>rk p.1
 |none=>0
def Up (xs:Array Keyed) (k:Nat):Prop:=∀ i j,i<=j->j < k->at_ rk xs i<=at_ rk xs j
def Down (xs:Array Keyed) (k:Nat):Prop:=∀ i j,i<=j->j < k->at_ rk xs j<=at_ rk xs i
structure Bs (kd:SortKind) (b:Array Keyed) (st:SortSt):Prop where
 pm:(arrOf st).Perm b
 kd:kindOf st=kd
 fl:failedOf st=none
 pd:pendingOf st=#[]
variable {rk} {kd:SortKind} {b:Array Keyed}
theorem Bs.sz {st:SortSt} (h:Bs kd b st):(arrOf st).size=b.size:=h.pm.size_eq
theorem Bs.arr {st:SortSt} {xs:Array Keyed} (h:Bs kd b st) (hp:xs.Perm (arrOf st)):Bs kd b (PyProof.Rows.setArr st xs):=⟨hp.trans h.pm,h.kd,h.fl,h.pd⟩
theorem uN {xs ys:Array Keyed} {i j:Nat} (h:xs[i]?=ys[j]?):at_ rk xs i=at_ rk ys j:=by unfold at_;rw[h]
theorem Vl {xs:Array Keyed} {p d:Nat} (hs:p < xs.size) (hd:d<=p) (k:Nat):at_ rk (bubble xs p d) k=if k=p - d then at_ rk xs p else if p - d < k/\k<=p then at_ rk xs (k - 1) else at_ rk xs k:=by
 have e:=getElem?_bubble hs d hd k
 by_cases q:k=p - d
 ·simp only[zk q] at e ⊢;exact uN e
 ·simp only[zw q] at e ⊢
  by_cases q2:p - d < k/\k<=p
  ·simp only[zk q2] at e ⊢;exact uN e
  ·simp only[zw q2] at e ⊢;exact uN e
theorem Ol {xs:Array Keyed} {i j:Nat} (hj:j<=xs.size) (k:Nat):at_ rk (mirror xs i j ((j - i) / 2)) k=if i<=k/\k < j then at_ rk xs (i+j - 1 - k) else at_ rk xs k:=by
 have e:=getElem?_mirror_all (i:=i) hj k
 by_cases q:i<=k/\k < j
 ·simp only[zk q] at e ⊢;exact uN e
 ·simp only[zw q] at e ⊢;exact uN e
theorem yD {xs:Array Keyed} {i j:Nat} (hj:j<=xs.size) (he:∀ k,i<=k->k < j->at_ rk xs k=at_ rk xs (j - 1)) (k:Nat):at_ rk (mirror xs i j ((j - i) / 2)) k=at_ rk xs k:=by
 rw[Ol hj]
 by_cases q:i<=k/\k < j
 ·rw[zk q,he (i+j - 1 - k) (by omega) (by omega),he k q.1 q.2]
 ·rw[zw q]
end
section
variable {prog:Program} {w:World} {A:Around} {E:Value->Shared->Prop} {s:Shared} {b:Array Keyed} {kd:SortKind} {rk:Value->Nat}
def T7 (prog:Program) (w:World) (A:Around) (s:Shared) (kd:SortKind) (rk:Value->Nat) (b:Array Keyed):Prop:=
 ∀ (E:Value->Shared->Prop) (p q:Keyed) (Q:Bool->Shared->Prop),p∈b.toList->q∈b.toList->Q (decide (rk p.1 < rk q.1)) s->wpAny (model prog w) A (keyLt' kd p.1 q.1) Q E s
theorem K3 {st:SortSt} {i j:Nat} {Q:Option Bool->SortSt->Prop} (hC:T7 prog w A s kd rk b) (B:Bs kd b st) (hi:i < b.size) (hj:j < b.size)
  (h:Q (some (decide (at_ rk (arrOf st) i < at_ rk (arrOf st) j))) st):wpS (model prog w) A E s (ltAt' i j) Q st:=by
 have get:∀ k,k < b.size->∃ p,(arrOf st)[k]?=some p/\p∈b.toList:=fun k hk=>by
  have hk':k < (arrOf st).size:=by rw[B.sz];exact hk
  exact⟨(arrOf st)[k],getElem?_pos _ k hk',(Array.perm_iff_toList_perm.mp B.pm).mem_iff.mp (by simp)⟩
 obtain⟨p,e1,m1⟩:=get i hi
 obtain⟨q,e2,m2⟩:=get j hj
 have h:Q (some (decide (rk p.1 < rk q.1))) st:=by unfold at_ at h;rw[e1,e2] at h;exact h
 rw[ltAt'_eq]
 refine wpS_bind (wpS_get ?_)
 show wpS _ _ _ _ (elem' (arrOf st) i >>= fun x=>elem' (arrOf st) j >>= fun y=>lt' x y) Q st
 rw[elem'_eq,elem'_eq,e1,e2]
 refine wpS_bind (wpS_pure ?_)
 refine wpS_bind (wpS_pure ?_)
 rw[lt'_eq]
 refine wpS_bind (wpS_get ?_)
 rw[B.kd]
 exact wpS_bind (wpS_lift (wpAny_attempt (hC _ p q _ m1 m2 ⟨rfl,wpS_pure h⟩)))
theorem asc {st:SortSt} {a n:Nat} {Q:AscSt->SortSt->Prop} (hC:T7 prog w A s kd rk b) (hn:n<=b.size) (ha:1<=a) (han:a<=n) (B:Bs kd b st) (hs:Up rk (arrOf st) a)
  (h:∀ m,a<=m->m<=n->Up rk (arrOf st) m->(m=n\/at_ rk (arrOf st) m < at_ rk (arrOf st) (m - 1))->Q (none,m) st):wpS (model prog w) A E s (ascLoop a n) Q st:=by
 unfold ascLoop
 refine wpS_forRange (I:=fun x c t=>t=st/\c=(none,x)/\Up rk (arrOf st) x) ?_ ?_ ⟨rfl,rfl,hs⟩
 ·rintro x c t hax hxn ⟨rfl,rfl,up⟩
  refine wpS_bind (K3 hC B (by omega) (by omega) ?_)
  by_cases q:at_ rk (arrOf t) x < at_ rk (arrOf t) (x - 1)
  ·simp only[q,Kj,qE]
   exact wpS_pure (h x hax (by omega) up (.inr q))
  ·simp only[q,kD,zl,ZE]
   refine wpS_pure ⟨rfl,rfl,fun i j hij hj=>?_⟩
   by_cases hx:j < x
   ·exact up i j hij hx
   ·have e:j=x:=by omega
    subst e
    by_cases hi:i=j
    ·rw[hi];exact zg _
    ·have:=up i (j - 1) (by omega) (by omega);omega
 ·rintro c t ⟨rfl,rfl,up⟩
  rw[show max a n=n by omega] at up ⊢
  exact h n han (zg _) up (.inl rfl)
theorem t3 {st:SortSt} {m n:Nat} {Q:Option Nat->SortSt->Prop} (hC:T7 prog w A s kd rk b) (hn:n<=b.size) (h1:1<=m) (hmn:m<=n) (B:Bs kd b st) (hs:Down rk (arrOf st) m)
  (h:∀ k t,Bs kd b t->1<=k->k<=n->Up rk (arrOf t) k->Q (some k) t):wpS (model prog w) A E s (tail3 m n) Q st:=by
 unfold tail3
 have hz:m<=(arrOf st).size:=by rw[B.sz];omega
 refine wpS_bind (wpS_reverse ?_)
 have B':Bs kd b (PyProof.Rows.setArr st (mirror (arrOf st) 0 m ((m - 0) / 2))):=B.arr (mirror_perm _ _ _ _)
 refine wpS_bind (asc hC hn h1 hmn B' (fun i j hij hj=>?_) fun k k1 k2 up _=>wpS_pure (h k _ B' (by omega) k2 up))
 show at_ rk (mirror (arrOf st) 0 m ((m - 0) / 2)) i<=at_ rk (mirror (arrOf st) 0 m ((m - 0) / 2)) j
 rw[Ol hz,Ol hz,zk ⟨by omega,by omega⟩,zk ⟨by omega,by omega⟩]
 exact hs _ _ (by omega) (by omega)
theorem dsc {st:SortSt} {m n:Nat} {Q:DescSt->SortSt->Prop} (hC:T7 prog w A s kd rk b) (hn:n<=b.size) (h1:1<=m) (hmn:m<=n) (B:Bs kd b st) (hs:Down rk (arrOf st) m)
  (h:∀ k e t,Bs kd b t->m<=k->k<=n->Down rk (arrOf t) k->e+1<=k->(∀ i,k - (e+1)<=i->i < k->at_ rk (arrOf t) i=at_ rk (arrOf t) (k - 1))->Q (none,k,e) t):wpS (model prog w) A E s (descLoop m n) Q st:=by
 unfold descLoop
 refine wpS_forRange (I:=fun x c t=>∃ e,c=(none,x,e)/\Bs kd b t/\Down rk (arrOf t) x/\e+1<=x/\∀ i,x - (e+1)<=i->i < x->at_ rk (arrOf t) i=at_ rk (arrOf t) (x - 1)) ?_ ?_ ⟨0,rfl,B,hs,by omega,fun i q1 q2=>by rw[show i=m - 1 by omega]⟩
 ·rintro x c t hax hxn ⟨e,rfl,B',dn,he,eq⟩
  have hz:x<=(arrOf t).size:=by rw[B'.sz];omega
  have grow:∀ xs:Array Keyed,(∀ k,at_ rk xs k=at_ rk (arrOf t) k)->at_ rk (arrOf t) x<=at_ rk (arrOf t) (x - 1)->Down rk xs (x+1):=fun xs hk hl i j hij hj=>by
   rw[hk,hk]
   by_cases hx:j < x
   ·exact dn i j hij hx
   ·have ej:j=x:=by omega
    subst ej
    by_cases hi:i=j
    ·rw[hi];exact zg _
    ·have:=dn i (j - 1) (by omega) (by omega);omega
  dsimp only
  refine wpS_bind (K3 hC B' (by omega) (by omega) ?_)
  by_cases q:at_ rk (arrOf t) x < at_ rk (arrOf t) (x - 1)
  ·simp only[q,Kj,qE]
   by_cases h0:e > 0
   ·rw[zk h0]
    exact wpS_bind (wpS_reverse (wpS_pure ⟨0,rfl,B'.arr (mirror_perm _ _ _ _),grow _ (yD hz eq) (by omega),by omega,fun i q1 q2=>by rw[show i=x by omega];rfl⟩))
   ·rw[zw h0]
    exact wpS_pure ⟨0,rfl,B',grow _ (fun _=>rfl) (by omega),by omega,fun i q1 q2=>by rw[show i=x by omega];rfl⟩
  ·simp only[q,kD,zl,ZE]
   refine wpS_bind (K3 hC B' (by omega) (by omega) ?_)
   by_cases q2:at_ rk (arrOf t) (x - 1) < at_ rk (arrOf t) x
   ·simp only[q2,Kj,qE]
    exact wpS_pure (h x e t B' hax (by omega) dn he eq)
   ·simp only[q2,kD,zl,ZE]
    refine wpS_pure ⟨e+1,rfl,B',grow _ (fun _=>rfl) (by omega),by omega,fun i q3 q4=>?_⟩
    rw[show x+1 - 1=x by omega]
    by_cases hi:i=x
    ·rw[hi]
    ·rw[eq i (by omega) (by omega)];omega
 ·rintro c t ⟨e,rfl,B',dn,he,eq⟩
  rw[show max m n=n by omega] at dn he eq ⊢
  exact h n e t B' hmn (zg _) dn he eq
theorem Z9 {st:SortSt} {m n:Nat} {Q:Option Nat->SortSt->Prop} (hC:T7 prog w A s kd rk b) (hn:n<=b.size) (hmn:m+1<=n) (B:Bs kd b st) (hs:Down rk (arrOf st) (m+1))
  (h:∀ k t,Bs kd b t->1<=k->k<=n->Up rk (arrOf t) k->Q (some k) t):wpS (model prog w) A E s (descPart m n) Q st:=by
 unfold descPart
 refine wpS_bind (wpS_lift (wpAny_rule ⟨rfl,?_⟩))
 refine wpS_bind (dsc hC hn (by omega) hmn B hs fun k e t B' k1 k2 dn he eq=>?_)
 have hz:k<=(arrOf t).size:=by rw[B'.sz];omega
 by_cases h0:e > 0
 ·simp only[zk h0]
  refine wpS_bind (wpS_reverse (t3 hC hn (by omega) k2 (B'.arr (mirror_perm _ _ _ _)) (fun i j hij hj=>?_) h))
  show at_ rk (mirror (arrOf t) _ _ _) j<=at_ rk (mirror (arrOf t) _ _ _) i
  rw[yD hz eq,yD hz eq]
  exact dn i j hij hj
 ·simp only[zw h0]
  exact t3 hC hn (by omega) k2 B' dn h
theorem afW {st:SortSt} {n:Nat} {Q:Option Nat->SortSt->Prop} (hC:T7 prog w A s kd rk b) (hn:n<=b.size) (h1:1<=n) (B:Bs kd b st)
  (h:∀ k t,Bs kd b t->1<=k->k<=n->Up rk (arrOf t) k->Q (some k) t):wpS (model prog w) A E s (countRun' 0 n) Q st:=by
 rw[countRun0_eq]
 refine wpS_bind (asc hC hn (zg 1) h1 B (fun i j hij hj=>by rw[show i=j by omega];exact zg _) fun m m1 m2 up or=>?_)
 by_cases hm:m=n
 ·simp only[zk (show (m==n)=true by simpa using hm)]
  exact wpS_pure (h m st B m1 m2 up)
 ·simp only[zw (show ¬ (m==n)=true by simpa using hm)]
  have lt:=or.resolve_left hm
  have hz:m<=(arrOf st).size:=by rw[B.sz];omega
  by_cases g1:m > 1
  ·rw[zk g1]
   refine wpS_bind (K3 hC B (by omega) (by omega) ?_)
   by_cases q:at_ rk (arrOf st) 0 < at_ rk (arrOf st) (m - 1)
   ·simp only[q,Kj,qE]
    exact wpS_pure (h m st B m1 m2 up)
   ·simp only[q,kD,zl,ZE]
    have all:∀ k,0<=k->k < m->at_ rk (arrOf st) k=at_ rk (arrOf st) (m - 1):=fun k _ hk=>by
     have a1:=up 0 k (by omega) hk
     have a2:=up k (m - 1) (by omega) (by omega)
     omega
    refine wpS_bind (wpS_reverse (Z9 hC hn (by omega) (B.arr (mirror_perm _ _ _ _)) (fun i j hij hj=>?_) h))
    show at_ rk (mirror (arrOf st) _ _ _) j<=at_ rk (mirror (arrOf st) _ _ _) i
    rw[yD hz all,yD hz all]
    by_cases hj':j < m
    ·rw[all i (by omega) (by omega),all j (by omega) hj'];exact zg _
    ·have ej:j=m:=by omega
     subst ej
     by_cases hi:i=j
     ·rw[hi];exact zg _
     ·rw[all i (by omega) (by omega)];omega
  ·rw[zw g1]
   have e1:m=1:=by omega
   subst e1
   refine Z9 hC hn (by omega) B (fun i j hij hj=>?_) h
   by_cases hi:i=j
   ·rw[hi];exact zg _
   ·rw[show i=0 by omega,show j=1 by omega];exact Q2 lt
theorem bins {st:SortSt} {n k0:Nat} {Q:Bool->SortSt->Prop} (hC:T7 prog w A s kd rk b) (hn:n<=b.size) (hk0:k0<=n) (B:Bs kd b st) (hs:Up rk (arrOf st) k0)
  (h:∀ t,Bs kd b t->Up rk (arrOf t) n->Q true t):wpS (model prog w) A E s (binarySort' 0 n k0) Q st:=by
 rw[binarySort'_eq]
 simp only[JE]
 refine wpS_bind (wpS_mono (wpS_forRange (I:=fun k c t=>c=(none,())/\Bs kd b t/\Up rk (arrOf t) (min k n)) (Q:=fun c t=>c=(none,())/\Bs kd b t/\Up rk (arrOf t) n) ?_ ?_ ?_) ?_)
 ·rintro k c t hak hkn ⟨rfl,B',up⟩
  rw[show min k n=k by omega] at up
  have hk:k < b.size:=by omega
  refine wpS_bind (wpS_mono (wpS_forRange (I:=fun x c t'=>t'=t/\∃ l r,c=(none,l,r)/\l<=r/\r<=k/\r - l<=k - x/\(∀ i,i < l->at_ rk (arrOf t) i<=at_ rk (arrOf t) k)/\(∀ i,r<=i->i < k->at_ rk (arrOf t) k < at_ rk (arrOf t) i))
   (Q:=fun c t'=>t'=t/\∃ l r,c=(none,l,r)/\l<=k/\(∀ i,i < l->at_ rk (arrOf t) i<=at_ rk (arrOf t) k)/\(∀ i,l<=i->i < k->at_ rk (arrOf t) k < at_ rk (arrOf t) i)) ?_ ?_ ?_) ?_)
  ·rintro x c t' _ hx ⟨rfl,l,r,rfl,lr,rk',mm,lo,hi⟩
   dsimp only
   by_cases ge:l>=r
   ·rw[zk ge]
    have e:l=r:=by omega
    subst e
    exact wpS_pure ⟨rfl,l,l,rfl,rk',lo,hi⟩
   ·rw[zw ge]
    refine wpS_bind (K3 hC B' hk (by omega) ?_)
    by_cases q:at_ rk (arrOf t') k < at_ rk (arrOf t') ((l+r) / 2)
    ·simp only[q,Kj,qE]
     refine wpS_pure ⟨rfl,l,(l+r) / 2,rfl,by omega,by omega,by omega,lo,fun i q1 q2=>?_⟩
     have:=up ((l+r) / 2) i q1 q2
     omega
    ·simp only[q,kD,zl,ZE]
     refine wpS_pure ⟨rfl,(l+r) / 2+1,r,rfl,by omega,by omega,by omega,fun i q1=>?_,hi⟩
     have:=up i ((l+r) / 2) (by omega) (by omega)
     omega
  ·rintro c t' ⟨rfl,l,r,rfl,lr,rk',mm,lo,hi⟩
   have e:l=r:=by omega
   subst e
   exact⟨rfl,l,l,rfl,rk',lo,hi⟩
  ·exact⟨rfl,0,k,rfl,by omega,by omega,by omega,fun i hi=>by omega,fun i q1 q2=>by omega⟩
  ·rintro c t' ⟨rfl,l,r,rfl,lk,lo,hi⟩
   show wpS _ _ _ _ (moveDown' k l >>= fun _=>pure (ForInStep.yield (none,()))) _ _
   rw[moveDown'_eq]
   refine wpS_bind (wpS_modify (wpS_pure ⟨rfl,B'.arr (bubble_perm _ _ _),?_⟩))
   rw[show min (k+1) n=k+1 by omega]
   have hz:k < (arrOf t').size:=by rw[B'.sz];exact hk
   intro i j hij hj
   show at_ rk (bubble (arrOf t') k (k - l)) i<=at_ rk (bubble (arrOf t') k (k - l)) j
   rw[Vl hz (by omega),Vl hz (by omega),show k - (k - l)=l by omega]
   repeat' split
   all_goals first
    |(exfalso;omega)
    |exact zg _
    |exact lo _ (by omega)
    |exact Q2 (hi _ (by omega) (by omega))
    |exact up _ _ (by omega) (by omega)
 ·rintro c t ⟨hc,B',up⟩
  refine⟨hc,B',?_⟩
  rwa [show min (max (max k0 1) n) n=n by omega] at up
 ·refine⟨rfl,B,fun i j hij hj=>?_⟩
  by_cases z:k0=0
  ·rw[show i=j by omega];exact zg _
  ·exact hs i j hij (by omega)
 ·rintro c t ⟨rfl,B',up⟩
  exact wpS_pure (h t B' up)
end
section
variable {prog:Program} {w:World} {A:Around} {E:Value->Shared->Prop} {s:Shared} {b:Array Keyed} {kd:SortKind} {rk:Value->Nat}
def Dn (kd:SortKind) (rk:Value->Nat) (b:Array Keyed) (st:SortSt):Prop:=(arrOf st).Perm b/\failedOf st=none/\pendingOf st=#[(0,b.size,0)]/\Up rk (arrOf st) b.size
theorem Bs.dn {st:SortSt} (B:Bs kd b st) (up:Up rk (arrOf st) b.size):Dn kd rk b (setPending st ((pendingOf st).push (0,b.size,0))):=⟨B.pm,B.fl,(by show (pendingOf st).push _=_;rw[B.pd];rfl),up⟩
theorem runs {st:SortSt} {Q:Unit->SortSt->Prop} (hC:T7 prog w A s kd rk b) (B:Bs kd b st) (h2:2<=b.size) (h64:b.size < 64)
  (h:∀ t,(arrOf t).Perm b->failedOf t=none->Up rk (arrOf t) b.size->Q () t):wpS (model prog w) A E s sortRuns' Q st:=by
 rw[sortRuns'_eq]
 refine wpS_bind (wpS_get ?_)
 have mr:minRun' b.size b.size 0=b.size:=by
  obtain⟨f,hf⟩:∃ f,b.size=f+1:=⟨b.size - 1,by omega⟩
  have q:minRun' (f+1) b.size 0=b.size:=(minRun'_succ f b.size 0).trans (zk h64)
  rwa [<-hf] at q
 simp only[B.sz,mr]
 have back:∀ {t:SortSt},Bs kd b t->(pendingOf t).back?=none:=fun B=>by rw[B.pd];rfl
 refine wpS_bind (wpS_mono (wpS_forRange (I:=fun x c t=>(x=0/\c=(none,0)/\Bs kd b t)\/(1<=x/\c=(none,b.size)/\Dn kd rk b t)) (Q:=fun c t=>c=(none,b.size)/\Dn kd rk b t) ?_ ?_ (.inl ⟨rfl,rfl,B⟩)) ?_)
 ·rintro x c t _ hx (⟨rfl,rfl,B'⟩|⟨hx1,rfl,D⟩)
  ·dsimp only
   rw[zw (by omega)]
   simp only[Nat.sub_zero,Nat.min_self,JE]
   refine wpS_bind (afW hC (zg _) (by omega) B' fun m t2 B2 m1 m2 up2=>?_)
   dsimp only
   by_cases lt:m < b.size
   ·rw[zk lt]
    refine wpS_bind (wpS_lift (wpAny_rule ⟨rfl,wpS_bind (bins hC (zg _) m2 B2 up2 fun t3 B3 up3=>?_)⟩))
    simp only[kr,zl,ZE]
    refine wpS_bind (wpS_get ?_)
    rw[back B3]
    exact wpS_bind (wpS_modify (wpS_pure (.inr ⟨by omega,rfl,B3.dn up3⟩)))
   ·rw[zw lt]
    have e:m=b.size:=by omega
    subst e
    refine wpS_bind (wpS_get ?_)
    rw[back B2]
    exact wpS_bind (wpS_modify (wpS_pure (.inr ⟨by omega,rfl,B2.dn up2⟩)))
  ·dsimp only
   rw[zk (zg _)]
   exact wpS_pure ⟨rfl,D⟩
 ·rintro c t (⟨hx,_,_⟩|⟨_,hc,D⟩)
  ·omega
  ·exact⟨hc,D⟩
 ·rintro c t ⟨rfl,D⟩
  dsimp only
  refine wpS_bind (wpS_mono (wpS_forRange (I:=fun _ c u=>u=t/\c=(none,())) (Q:=fun c u=>u=t/\c=(none,())) ?_ (fun _ _ q=>q) ⟨rfl,rfl⟩) ?_)
  ·rintro x c u _ _ ⟨rfl,rfl⟩
   refine wpS_bind (wpS_get ?_)
   rw[zk (by rw[D.2.2.1];exact zg 1)]
   exact wpS_pure ⟨rfl,rfl⟩
  ·rintro c u ⟨rfl,rfl⟩
   exact wpS_pure (h _ D.1 D.2.1 D.2.2.2)
def Old (a:Addr) (s s':Shared):Prop:=∀ c o,c≠a->s.heap.get? c=some o->s'.heap.get? c=some o
theorem aac {a:Addr} {vs:List Value} {n:Nat} {P:Fin->Shared->Prop} (ho:s.heap.get? a=some (seqObj "list" vs.toArray n))
  (hK:2<=vs.length->∀ s',Old a s s'->∀ Q:SortKind->Shared->Prop,Q kd s'->wpAny (model prog w) A (keyKind' vs.toArray) Q E s') (hC:∀ s',Old a s s'->T7 prog w A s' kd rk (pairsOf vs)) (h64:vs.length < 64)
  (h:∀ st:SortSt,(arrOf st).Perm (pairsOf vs)->Up rk (arrOf st) (pairsOf vs).size->P (.done (.ret .none)) { s with heap:=sortedHeap s.heap a vs ((arrOf st).map (·.2)) }) :
  wpAny (model prog w) A (Builtin.«list.sort» ⟨[.ref a],[]⟩) P E s:=by
 rw[list_sort_plain]
 have ha:=zv ho
 refine zb (listItems_at ho rfl (zb (listUpdate_at ho rfl ?_)))
 obtain⟨e1,g1⟩:∃ e1,(s.heap.update a (Obj.mapSeq fun _=>#[])).get? a=some (seqObj "list" #[] e1):=⟨_,get?_update_seq ho fun _=>#[]⟩
 refine zb (seqEpoch_at g1 rfl (zb (wpAny_newTuple (zb (KM (Qr ?_))))))
 have z1:(s.heap.update a (Obj.mapSeq fun _=>#[])).objs.size=s.heap.objs.size:=Heap.size_update ..
 have keep:∀ c,c < s.heap.objs.size->(((s.heap.update a (Obj.mapSeq fun _=>#[])).push (seqObj "tuple" vs.toArray 0)).push (seqObj "list" #[] 0)).get? c=(s.heap.update a (Obj.mapSeq fun _=>#[])).get? c:=fun c hc=>by
  rw[Heap.get?_push_ne _ _ _ (by rw[size_push',z1];exact zD (qk hc)),Heap.get?_push_ne _ _ _ (by rw[z1];exact zD hc)]
 have g6:=(keep a ha).trans g1
 have old:Old a s { s with heap:=((s.heap.update a (Obj.mapSeq fun _=>#[])).push (seqObj "tuple" vs.toArray 0)).push (seqObj "list" #[] 0) }:=fun c o hc e=>by
  show (((s.heap.update a (Obj.mapSeq fun _=>#[])).push (seqObj "tuple" vs.toArray 0)).push (seqObj "list" #[] 0)).get? c=some o
  rw[keep c (zv e),ja _ _ _ _ hc]
  exact e
 show wpAny _ _ _ _ _ { s with heap:=((s.heap.update a (Obj.mapSeq fun _=>#[])).push (seqObj "tuple" vs.toArray 0)).push (seqObj "list" #[] 0) }
 have hz:vs.toArray.size=vs.length:=by simp
 have lz:∀ st:SortSt,(arrOf st).Perm (pairsOf vs)->((arrOf st).map (·.2)).size<=sizeLine+1:=fun st hp=>by
  have q:((arrOf st).map (·.2)).size=vs.length:=(Array.size_map ..).trans (hp.size_eq.trans (pairsOf_size _))
  rw[q,sizeLine_eq];omega
 by_cases h2:vs.toArray.size < 2
 ·simp only[zk h2]
  refine zb (ze ?_)
  rw[StateT.run_pure]
  refine zb (ze (zb (seqEpoch_at g6 rfl (zb (listUpdate_at g6 rfl ?_ (hsz2:=lz (SortSt.mk' general' (pairsOf vs) #[] 7 none) (Array.Perm.refl _)))))))
  simp only[bne_self_eq_false,zl,ZE]
  refine ze (h (SortSt.mk' general' (pairsOf vs) #[] 7 none) (Array.Perm.refl _) fun i j hij hj=>?_)
  rw[pairsOf_size] at hj
  rw[show i=j by omega]
  exact zg _
 ·simp only[zw h2]
  refine zb (hK (by omega) _ old _ ?_)
  refine zb (qr (runs (hC _ old) (st:=SortSt.mk' kd (pairsOf vs) #[] 7 none) (Q:=fun _ t=>(arrOf t).Perm (pairsOf vs)/\failedOf t=none/\Up rk (arrOf t) (pairsOf vs).size) ⟨Array.Perm.refl _,rfl,rfl,rfl⟩ (by rw[pairsOf_size];omega) (by rw[pairsOf_size];exact h64) fun t q1 q2 q3=>⟨q1,q2,q3⟩) ?_ fun _ _ q=>q)
  rintro⟨⟨⟩,t⟩ s' ⟨rfl,hp,hf,up⟩
  dsimp only
  refine zb (seqEpoch_at g6 rfl (zb (listUpdate_at g6 rfl ?_ (hsz2:=lz t hp))))
  rw[hf]
  simp only[bne_self_eq_false,zl,ZE]
  exact ze (h t hp up)
theorem Sx {x:Value} {vs:List Value} {Q:Value->Shared->Prop} (abH:∀ (E':Value->Shared->Prop) (Q':List Value->Shared->Prop),(∀ h' tk,s.heap.objs.size<=h'.objs.size->(∀ c o,s.heap.get? c=some o->h'.get? c=some o)->Q' vs { s with heap:=h',toks:=tk })->wpAny (model prog w) A.in1 (collect x) Q' E' s)
  (hK:2<=vs.length->∀ (E':Value->Shared->Prop) (A':Around) (s':Shared),(∀ c o,s.heap.get? c=some o->s'.heap.get? c=some o)->∀ Q:SortKind->Shared->Prop,Q kd s'->wpAny (model prog w) A' (keyKind' vs.toArray) Q E' s') (hC:∀ (A':Around) (s':Shared),(∀ c o,s.heap.get? c=some o->s'.heap.get? c=some o)->T7 prog w A' s' kd rk (pairsOf vs)) (h64:vs.length < 64)
  (h:∀ (l:Addr) (h':Heap) (tk n:Nat) (st:SortSt),(arrOf st).Perm (pairsOf vs)->Up rk (arrOf st) (pairsOf vs).size->s.heap.objs.size<=l->(∀ c o,s.heap.get? c=some o->h'.get? c=some o)->h'.get? l=some (seqObj "list" ((arrOf st).map (·.2)) n)->Q (.ref l) { s with heap:=h',toks:=tk }) :
  wpAny (model prog w) A (call (.builtin "sorted") [x]) Q E s:=by
 refine KB kind_sorted plain_sorted entry_sorted (args_sorted1 _) ?_;unfold Builtin.«sorted»
 refine zb (m:=checkCount "sorted" 1 1 _) (ze (zb (abH _ _ fun h1 tk hle ext=>zb (KM ?_))))
 have hoL:(h1.push (seqObj "list" vs.toArray 0)).get? h1.objs.size=some (seqObj "list" vs.toArray 0):=zt _ rfl
 have old:∀ s':Shared,Old h1.objs.size { s with heap:=h1.push (seqObj "list" vs.toArray 0),toks:=tk } s'->∀ c o,s.heap.get? c=some o->s'.heap.get? c=some o:=fun s' q c o e=>
  q c o (zD (zv (ext c o e))) (zd _ (ext c o e))
 refine zb (Qr (js slot_list_sort ⟨_,hoL,rfl⟩ entry_list_sort (aac hoL (fun q s' o=>hK q _ _ s' (old s' o)) (fun s' o=>hC _ s' (old s' o)) h64 fun st q1 q2=>⟨_,rfl,ze ⟨_,rfl,?_⟩⟩) (args_list_sort _)))
 obtain⟨n,en⟩:=sortedHeap_at (out:=(arrOf st).map (·.2)) hoL
 refine h h1.objs.size _ tk n st q1 q2 hle (fun c o e=>?_) en
 have hb:=zv (ext c o e)
 rw[sortedHeap_old (zD hb) (by rw[ZZ];exact qk hb)]
 exact zd _ (ext c o e)
end
end S1
end
section
namespace S1
open PySem PySem.Spec PyProof.Rows L2
theorem Sy (fb:Bool) (x y:Value):keyLt' (tuples' fb) x y=(do
  let xs <-Builtin.List.listItems x
  let ys <-Builtin.List.listItems y
  for ((p,q),i) in (xs.toList.zip ys.toList).zipIdx do
   if !(<-eqBool p q) then return <-oneLt' (fb&&i==0) p q
  return decide (xs.size < ys.size)):=rfl
def QD:Key->Key->Bool
 |.inl a,.inl b=>decide (a < b)
 |.inr x,.inr y=>decide (x.cps.toList < y.cps.toList)
 |.inl _,.inr _=>true
 |.inr _,.inl _=>false
def QF:Key->Key->Bool
 |.inl _,.inl _=>true
 |.inr _,.inr _=>true
 |_,_=>false
def oH:List Key->List Key->Bool
 |[],[]=>false
 |[],_::_=>true
 |_::_,[]=>false
 |x::xs,y::ys=>if x=y then oH xs ys else QD x y
def Yx:List Key->List Key->Prop
 |x::xs,y::ys=>QF x y=true/\Yx xs ys
 |_,_=>True
section
variable {prog:Program} {w:World} {A:Around} {E:Value->Shared->Prop} {s:Shared}
theorem key_eq {x y:Key} {p q:Value} {Q:Bool->Shared->Prop} (hp:mV x p=true) (hq:mV y q=true) (h:Q (decide (x=y)) s):wpAny (model prog w) A (eqBool p q) Q E s:=
 (bw prog w).eqBool (a:=x) (b:=y) hp hq h
theorem abI {fb:Bool} {x y:Key} {p q:Value} {Q:Bool->Shared->Prop} (hs:QF x y=true) (hp:mV x p=true) (hq:mV y q=true) (h:Q (QD x y) s):wpAny (model prog w) A (oneLt' fb p q) Q E s:=by
 rcases bM hp with⟨i,t,rfl,rfl⟩|⟨z,t,rfl,rfl⟩
 ·rcases bM hq with⟨j,u,rfl,rfl⟩|⟨z,u,rfl,rfl⟩
  ·cases fb with
   |true=>exact oneLt_int h
   |false=>
    rw[oneLt'_eq]
    simp only[zl,ZE]
    refine zb (show wpAny _ _ (compareOp .Lt (.int i t) (.int j u)) _ _ _ from lt_int ?_)
    exact JJ h
  ·cases hs
 ·rcases bM hq with⟨j,u,rfl,rfl⟩|⟨z',u,rfl,rfl⟩
  ·cases hs
  ·cases fb with
   |true=>exact oneLt_str h
   |false=>
    rw[oneLt'_eq]
    simp only[zl,ZE]
    refine zb (show wpAny _ _ (compareOp .Lt (.str z t) (.str z' u)) _ _ _ from PySem.P.lt_str ?_)
    exact JJ h
def Ks (ks:List Key) (its:List Value):Prop:=Paired (fun k v=>mV k v=true) ks its
def dif:List Key->List Key->Option Bool
 |x::xs,y::ys=>if x=y then dif xs ys else some (QD x y)
 |_,_=>none
theorem Vm:∀ ks ls:List Key,oH ks ls=match dif ks ls with|some r=>r|none=>decide (ks.length < ls.length)
 |[],[]=>rfl
 |[],_::_=>by simp[oH,dif]
 |_::_,[]=>rfl
 |x::xs,y::ys=>by
  simp only[oH,dif]
  by_cases e:x=y
  ·rw[zk e,zk e,Vm xs ys]
   simp only[qv,Nat.add_lt_add_iff_right]
  ·rw[zw e,zw e]
def turn (fb:Bool):(Value×Value)×Nat->Option Bool×Unit->Sem (ForInStep (Option Bool×Unit)):=fun x _=>match x with
 |((p,q),i)=>do
  let e <-eqBool p q
  if (!e)=true then do
    let r <-oneLt' (fb&&i==0) p q
    pure (ForInStep.done (some r,()))
   else pure (ForInStep.yield (none,()))
theorem walk (fb:Bool):∀ (ks ls:List Key) (its jts:List Value) (i:Nat) (R:Option Bool×Unit->Shared->Prop),Ks ks its->Ks ls jts->Yx ks ls->R (dif ks ls,()) s->wpAny (model prog w) A (forIn ((its.zip jts).zipIdx i) ((none,()):Option Bool×Unit) (turn fb)) R E s
 |[],_,_,_,_,R,.nil,_,_,h=>ze h
 |_::_,[],_::_,_,_,R,_,.nil,_,h=>ze h
 |x::xs,y::ys,p::its,q::jts,i,R,.cons hp hk,.cons hq hl,hs,h=>by
  rw[List.zip_cons_cons,List.zipIdx_cons,List.forIn_cons]
  refine zb ?_
  show wpAny _ _ (eqBool p q >>= _) _ _ _
  refine zb (key_eq hp hq ?_)
  by_cases e:x=y
  ·simp only[e,Kj,kr,zl,ZE]
   refine ze (walk fb xs ys its jts (i+1) R hk hl hs.2 ?_)
   simp only[dif,zk e] at h
   exact h
  ·simp only[e,kD,Bool.not_false,qE]
   refine zb (abI hs.1 hp hq (ze (ze ?_)))
   simp only[dif,zw e] at h
   exact h
theorem abJ {fb:Bool} {a c:Addr} {oa oc:Obj} {its jts:List Value} {n m:Nat} {ks ls:List Key} {Q:Bool->Shared->Prop} (ha:s.heap.get? a=some oa) (da:oa.data=.seq its.toArray n) (hc:s.heap.get? c=some oc) (dc:oc.data=.seq jts.toArray m)
  (hk:Ks ks its) (hl:Ks ls jts) (hs:Yx ks ls) (h:Q (oH ks ls) s):wpAny (model prog w) A (keyLt' (tuples' fb) (.ref a) (.ref c)) Q E s:=by
 rw[Sy]
 refine zb (listItems_at ha da (zb (listItems_at hc dc ?_)))
 have hl1:its.length=ks.length:=(Paired.length hk).symm
 have hl2:jts.length=ls.length:=(Paired.length hl).symm
 refine zb (walk fb ks ls its jts 0 _ hk hl hs ?_)
 rw[Vm] at h
 cases e:dif ks ls with
 |some r=>rw[e] at h;exact ze h
 |none=>
  rw[e] at h
  refine ze ?_
  simpa [hl1,hl2] using h
end
theorem Yy (x:Key):QD x x=false:=by
 cases x with
 |inl a=>simp[QD]
 |inr a=>simp[QD]
theorem SJ {x y z:Key} (h:QD x y=true) (h':QD y z=true):QD x z=true:=by
 cases x<;>cases y<;>cases z<;>simp only[QD,Zl,zl,reduceCtorEq] at h h' ⊢
 ·omega
 ·exact List.lt_trans h h'
theorem Yz {x y:Key} (h:QD x y=false) (h':QD y x=false):x=y:=by
 cases x<;>cases y<;>simp only[QD,Qb,Bool.true_eq_false,reduceCtorEq] at h h'
 ·congr 1;omega
 ·rename_i a b
  have:=List.le_antisymm (as:=a.cps.toList) (bs:=b.cps.toList) h' h
  cases a;cases b
  simp only at this
  rw[Array.toList_inj.mp this]
theorem Dv:∀ xs:List Key,oH xs xs=false
 |[]=>rfl
 |x::xs=>by simp only[oH,qE];exact Dv xs
theorem qm:∀ {xs ys zs:List Key},oH xs ys=true->oH ys zs=true->oH xs zs=true
 |[],[],_,h,_=>by cases h
 |[],_::_,[],_,h'=>by cases h'
 |[],_::_,_::_,_,_=>rfl
 |_::_,[],_,h,_=>by cases h
 |_::_,_::_,[],_,h'=>by cases h'
 |x::xs,y::ys,z::zs,h,h'=>by
  simp only[oH] at h h' ⊢
  by_cases e1:x=y
  ·subst e1
   rw[zk rfl] at h
   by_cases e2:x=z
   ·subst e2
    rw[zk rfl] at h' ⊢
    exact qm h h'
   ·rw[zw e2] at h' ⊢;exact h'
  ·rw[zw e1] at h
   by_cases e2:y=z
   ·subst e2
    rw[zw e1];exact h
   ·rw[zw e2] at h'
    have:=SJ h h'
    rw[zw (fun e=>by subst e;rw[Yy] at this;cases this)]
    exact this
theorem yE:∀ {xs ys:List Key},oH xs ys=false->oH ys xs=false->xs=ys
 |[],[],_,_=>rfl
 |[],_::_,h,_=>by cases h
 |_::_,[],_,h'=>by cases h'
 |x::xs,y::ys,h,h'=>by
  simp only[oH] at h h'
  by_cases e:x=y
  ·subst e
   rw[zk rfl] at h h'
   rw[yE h h']
  ·rw[zw e] at h
   rw[zw (Kb e)] at h'
   exact absurd (Yz h h') e
def uO (xs ys:List Key):Bool:=!oH ys xs
theorem wX (a b c:List Key) (h:uO a b=true) (h':uO b c=true):uO a c=true:=by
 unfold uO at *
 simp only[qV] at *
 cases hc:oH c a with
 |false=>rfl
 |true=>
  cases hab:oH a b with
  |true=>rw[qm hc hab] at h';cases h'
  |false=>
   have e:=yE hab h
   subst e
   rw[hc] at h';cases h'
theorem wY (a b:List Key):(uO a b||uO b a)=true:=by
 unfold uO
 cases h:oH b a with
 |false=>rfl
 |true=>
  cases h':oH a b with
  |false=>rfl
  |true=>have:=qm h h';rw[Dv] at this;cases this
theorem G9 {a b:List Key} (h:uO a b=true) (h':uO b a=true):a=b:=by
 unfold uO at *
 simp only[qV] at *
 exact yE h' h
theorem uP {α:Type} {le:α->α->Prop} (anti:∀ a b,le a b->le b a->a=b):∀ {l l':List α},l.Perm l'->l.Pairwise le->l'.Pairwise le->l=l'
 |[],l',h,_,_=>by rw[List.nil_perm.mp h]
 |a::l,[],h,_,_=>by cases List.perm_nil.mp h
 |a::l,b::l',h,p,p'=>by
  have e:a=b:=by
   have ha:a∈b::l':=h.mem_iff.mp (zh ..)
   have hb:b∈a::l:=h.mem_iff.mpr (zh ..)
   rcases List.mem_cons.mp ha with h1|h1
   ·exact h1
   ·rcases List.mem_cons.mp hb with h2|h2
    ·exact h2.symm
    ·exact anti a b (jv p h2) (jv p' h1)
  subst e
  rw[uP anti ((List.perm_cons a).mp h) (List.pairwise_cons.mp p).2 (List.pairwise_cons.mp p').2]
def m7 (cP:List (List Key)):List (List Key):=cP.mergeSort uO
theorem n6 (cP:List (List Key)):(m7 cP).Perm cP:=Kt ..
theorem uQ (cP:List (List Key)):(m7 cP).Pairwise (fun a b=>uO a b=true):=kC wX wY cP
theorem rU {cP out:List (List Key)} (hp:out.Perm cP) (hs:out.Pairwise (fun a b=>uO a b=true)):out=m7 cP:=uP (fun _ _=>G9) (hp.trans (n6 cP).symm) hs (uQ cP)
def rank (cP:List (List Key)) (k:List Key):Nat:=cP.countP fun u=>oH u k
theorem Hf {α:Type} {p q:α->Bool}:∀ {l:List α},(∀ x∈l,p x=true->q x=true)->(∃ x∈l,p x=false/\q x=true)->l.countP p < l.countP q
 |[],_,⟨x,hx,_⟩=>by cases hx
 |a::l,h,⟨x,hx,h1,h2⟩=>by
  have le:l.countP p<=l.countP q:=List.countP_mono_left fun y hy=>h y (zo _ hy)
  rw[List.countP_cons,List.countP_cons]
  rcases List.mem_cons.mp hx with rfl|hx
  ·rw[h1,h2];simp;omega
  ·have:=Hf (fun y hy=>h y (zo _ hy)) ⟨x,hx,h1,h2⟩
   have ha:=h a (zh ..)
   cases hp:p a with
   |true=>rw[ha hp];simp;omega
   |false=>simp;omega
theorem QG {cP:List (List Key)} {a b:List Key} (ha:a∈cP):decide (rank cP a < rank cP b)=oH a b:=by
 cases h:oH a b with
 |true=>
  refine QU (Hf (fun u _ hu=>qm hu h) ⟨a,ha,Dv a,h⟩)
 |false=>
  refine qh (Nat.not_lt.mpr (List.countP_mono_left fun u _ hu=>?_))
  cases hb:oH b a with
  |true=>exact qm hu hb
  |false=>rw[yE h hb];exact hu
def lU (h:Heap) (ks:List Key) (v:Value):Prop:=∃ (a:Addr) (o:Obj) (its:List Value) (n:Nat),v=.ref a/\h.get? a=some o/\o.cls=.type "tuple" ∧ o.data=.seq its.toArray n/\Ks ks its
theorem lU.keep {h h':Heap} {ks:List Key} {v:Value} (q:lU h ks v) (k:∀ c o,h.get? c=some o->h'.get? c=some o):lU h' ks v:=by
 obtain⟨a,o,its,n,e,g,c,d,p⟩:=q
 exact⟨a,o,its,n,e,k _ _ g,c,d,p⟩
theorem YB {k l:Key} {v:Value} (h:mV k v=true) (h':mV l v=true):k=l:=by
 rcases bM h with⟨i,t,rfl,rfl⟩|⟨x,t,rfl,rfl⟩
 ·rcases bM h' with⟨j,u,rfl,e⟩|⟨y,u,rfl,e⟩
  ·cases e;rfl
  ·cases e
 ·rcases bM h' with⟨j,u,rfl,e⟩|⟨y,u,rfl,e⟩
  ·cases e
  ·cases e;rfl
theorem Ks.inj:∀ {ks ls:List Key} {its:List Value},Ks ks its->Ks ls its->ks=ls
 |_,_,[],h,h'=>by cases h;cases h';rfl
 |_,_,v::its,h,h'=>by
  cases h with
  |cons p t=>cases h' with
   |cons p' t'=>rw[YB p p',Ks.inj t t']
theorem lU.inj {h:Heap} {ks ls:List Key} {v:Value} (q:lU h ks v) (q':lU h ls v):ks=ls:=by
 obtain⟨a,o,its,n,rfl,g,c,d,p⟩:=q
 obtain⟨a',o',its',n',e,g',c',d',p'⟩:=q'
 cases e
 rw[g] at g'
 cases g'
 rw[d] at d'
 injection d' with e1 e2
 have e3:its=its':=by simpa using congrArg Array.toList e1
 subst e3
 exact p.inj p'
section
variable {prog:Program} {w:World} {A:Around} {E:Value->Shared->Prop} {s:Shared}
theorem Jf {α β:Type} {f:α->Sem β}:∀ (xs:List α) (ys:List β) (Q:List β->Shared->Prop),Paired (fun x y=>∀ (E':Value->Shared->Prop) (Q':β->Shared->Prop),Q' y s->wpAny (model prog w) A (f x) Q' E' s) xs ys->Q ys s->wpAny (model prog w) A (xs.mapM f) Q E s
 |[],_,Q,.nil,h=>by rw[List.mapM_nil];exact ze h
 |x::xs,y::ys,Q,.cons h t,q=>by
  rw[List.mapM_cons]
  exact zb (h _ _ (zb (Jf xs ys _ t (ze q))))
theorem Vn (v:Value):firstOfTuple' v=(do
  if (<-typeOf v) != .type "tuple" then return none
  return (<-Builtin.List.listItems v)[0]?):=rfl
theorem SM {k:Key} {ks:List Key} {v:Value} (q:lU s.heap (k::ks) v):∃ u,mV k u=true/\∀ (E':Value->Shared->Prop) (Q':Option Value->Shared->Prop),Q' (some u) s->wpAny (model prog w) A (firstOfTuple' v) Q' E' s:=by
 obtain⟨a,o,its,n,rfl,g,c,d,p⟩:=q
 cases p with
 |@cons _ u _ its hp t=>
  refine⟨u,hp,fun E' Q' h=>?_⟩
  rw[Vn]
  refine zb (QE (T := "tuple") ⟨o,g,c⟩ ?_)
  rw[zw (by decide)]
  exact zb (listItems_at g d (ze h))
theorem Vo {k:Key} {u:Value} (h:mV k u=true) (E':Value->Shared->Prop) (Q':Value->Shared->Prop) (q:Q' (.type (if k.isLeft then "int" else "str")) s):wpAny (model prog w) A (typeOf u) Q' E' s:=by
 rcases bM h with⟨i,t,rfl,rfl⟩|⟨x,t,rfl,rfl⟩
 ·exact QE (typeIs_int s i t) q
 ·exact QE (typeIs_str s x t) q
theorem Hg {vs:List Value} {cP:List (List Key)} {Q:SortKind->Shared->Prop} (hv:Paired (lU s.heap) cP vs) (hne:∀ k∈cP,k≠[]) (hsh:∀ k∈cP,∀ l∈cP,Yx k l) (h2:1<=vs.length) (h:Q (tuples' true) s):wpAny (model prog w) A (keyKind' vs.toArray) Q E s:=by
 have step:∀ (cP:List (List Key)) (vs:List Value),Paired (lU s.heap) cP vs->(∀ k∈cP,k≠[])->∃ us:List Value,Paired (fun v u=>∀ (E':Value->Shared->Prop) (Q':Option Value->Shared->Prop),Q' (some u) s->wpAny (model prog w) A (firstOfTuple' v) Q' E' s) vs us/\Paired (fun (k:List Key) u=>∃ x r,k=x::r/\mV x u=true) cP us:=by
  intro cP vs hv
  induction hv with
  |nil=>intro _;exact⟨[],.nil,.nil⟩
  |@cons k v cP vs q t ih=>
   intro hne
   obtain⟨us,p1,p2⟩:=ih fun k hk=>hne k (zo _ hk)
   cases k with
   |nil=>exact absurd rfl (hne _ (zh ..))
   |cons x r=>
    obtain⟨u,hu,hw⟩:=SM (prog:=prog) (w:=w) (A:=A) q
    exact⟨u::us,.cons hw p1,.cons ⟨x,r,rfl,hu⟩ p2⟩
 obtain⟨us,p1,p2⟩:=step cP vs hv hne
 have hlen:us.length=vs.length:=(Paired.length p1).symm
 have lift:∀ {l:List Value} {ws:List Value},Paired (fun v u=>∀ (E':Value->Shared->Prop) (Q':Option Value->Shared->Prop),Q' (some u) s->wpAny (model prog w) A (firstOfTuple' v) Q' E' s) l ws->Paired (fun v u=>∀ (E':Value->Shared->Prop) (Q':Option Value->Shared->Prop),Q' u s->wpAny (model prog w) A (firstOfTuple' v) Q' E' s) l (ws.map some):=fun h=>by
  induction h with
  |nil=>exact .nil
  |cons q t ih=>exact .cons q ih
 rw[keyKind'_eq,List.mapM_toArray,map_eq_pure_bind]
 refine zb (zb (Jf vs (us.map some) _ (lift p1) (ze ?_)))
 have hall:(us.map some).toArray.all (·.isSome)=true:=by simp
 rw[zk hall]
 refine zb (wpAny_rule ?_)
 have hf:(us.map some).toArray.filterMap id=us.toArray:=by simp
 rw[hf,oneTypeOnly'_eq,List.mapM_toArray,map_eq_pure_bind]
 have ty:∀ (cP:List (List Key)) (us:List Value),Paired (fun (k:List Key) u=>∃ x r,k=x::r/\mV x u=true) cP us->∃ ts:List Value,Paired (fun u t=>∀ (E':Value->Shared->Prop) (Q':Value->Shared->Prop),Q' t s->wpAny (model prog w) A (typeOf u) Q' E' s) us ts/\Paired (fun (k:List Key) t=>∃ x r,k=x::r/\t=.type (if x.isLeft then "int" else "str")) cP ts:=by
  intro cP us hp
  induction hp with
  |nil=>exact⟨[],.nil,.nil⟩
  |@cons k u cP us q t ih=>
   obtain⟨ts,q1,q2⟩:=ih
   obtain⟨x,r,rfl,hx⟩:=q
   exact⟨_::ts,.cons (fun E' Q' h=>Vo hx E' Q' h) q1,.cons ⟨x,r,rfl,rfl⟩ q2⟩
 obtain⟨ts,q1,q2⟩:=ty cP us p2
 refine zb (zb (zb (Jf us ts _ q1 (ze ?_))))
 have lt:ts.length=vs.length:=by rw[<-Paired.length q1,hlen]
 cases q2 with
 |nil=>simp at lt;omega
 |@cons k0 t0 ai8 ts' h0 r0=>
  obtain⟨x0,r,rfl,rfl⟩:=h0
  have same:∀ t∈ts',t=Value.type (if x0.isLeft then "int" else "str"):=by
   have aux:∀ (cP:List (List Key)) (ts:List Value),Paired (fun (k:List Key) t=>∃ x r,k=x::r/\t=Value.type (if x.isLeft then "int" else "str")) cP ts->(∀ k∈cP,Yx (x0::r) k)->∀ t∈ts,t=Value.type (if x0.isLeft then "int" else "str"):=by
    intro cP ts hp
    induction hp with
    |nil=>intro _ t ht;cases ht
    |@cons k t cP ts q _ ih=>
     intro hs u hu
     rcases List.mem_cons.mp hu with rfl|hu
     ·obtain⟨x,r',rfl,rfl⟩:=q
      have:=(hs _ (zh ..)).1
      cases x0<;>cases x<;>first|rfl|cases this
     ·exact ih (fun k hk=>hs k (zo _ hk)) u hu
   exact aux _ _ r0 fun k hk=>hsh _ (zh ..) k (zo _ hk)
  have e0:(Value.type (if x0.isLeft then "int" else "str")::ts').toArray[0]?=some (Value.type (if x0.isLeft then "int" else "str")):=by simp
  have e1:((Value.type (if x0.isLeft then "int" else "str")::ts').toArray.all fun x=>x==Value.type (if x0.isLeft then "int" else "str"))=true:=by
   simp only[List.all_toArray,qA]
   intro t ht
   rcases List.mem_cons.mp ht with rfl|ht
   ·simp
   ·rw[same t ht];simp
  rw[e0]
  simp only[e1,qE]
  refine ze (ze ?_)
  have e2:((some (Value.type (if x0.isLeft then "int" else "str"))).any fun x=>x != Value.type "tuple")=true:=by
   cases x0 with
   |inl _=>exact (by decide:((some (Value.type "int")).any fun x=>x != Value.type "tuple")=true)
   |inr _=>exact (by decide:((some (Value.type "str")).any fun x=>x != Value.type "tuple")=true)
  rw[e2]
  exact h
def keyOf (cP:List (List Key)) (vs:List Value) (v:Value):List Key:=match (vs.zip cP).find? (fun p=>p.1==v) with
 |some p=>p.2
 |none=>[]
theorem nD {h:Heap}:∀ {cP:List (List Key)} {vs:List Value},Paired (lU h) cP vs->∀ v∈vs,keyOf cP vs v∈cP/\lU h (keyOf cP vs v) v
 |_,_,.nil,v,hv=>by cases hv
 |k::cP,u::vs,.cons q t,v,hv=>by
  unfold keyOf
  rw[List.zip_cons_cons,Jn]
  by_cases e:u=v
  ·subst e
   simp only[beq_self_eq_true]
   exact⟨zh ..,q⟩
  ·have e':(u==v)=false:=by simpa using e
   simp only[e']
   have hv':v∈vs:=by
    rcases List.mem_cons.mp hv with h|h
    ·exact absurd h.symm e
    ·exact h
   have ih:=nD t v hv'
   exact⟨zo _ ih.1,ih.2⟩
theorem Bc {h:Heap}:∀ {cP:List (List Key)} {vs:List Value},Paired (lU h) cP vs->∀ (K:Value->List Key),(∀ v∈vs,lU h (K v) v)->vs.map K=cP
 |_,_,.nil,_,_=>rfl
 |k::cP,v::vs,.cons q t,K,hK=>by
  rw[zr,(hK v (zh ..)).inj q,Bc t K fun u hu=>hK u (zo _ hu)]
theorem wZ {h:Heap}:∀ {vs:List Value} {K:Value->List Key},(∀ v∈vs,lU h (K v) v)->Paired (lU h) (vs.map K) vs
 |[],_,_=>.nil
 |v::vs,K,hK=>.cons (hK v (zh ..)) (wZ fun u hu=>hK u (zo _ hu))
theorem K4 {vs:List Value} {cP:List (List Key)} (hv:Paired (lU s.heap) cP vs) (hsh:∀ k∈cP,∀ l∈cP,Yx k l):T7 prog w A s (tuples' true) (fun v=>rank cP (keyOf cP vs v)) (pairsOf vs):=by
 intro E p q Q hp hq h
 rw[pairsOf_toList] at hp hq
 obtain⟨m1,t1⟩:=nD hv p.1 (mem_zip_self hp).2
 obtain⟨m2,t2⟩:=nD hv q.1 (mem_zip_self hq).2
 rw[QG m1] at h
 have sh:=hsh _ m1 _ m2
 obtain⟨a,o,its,n,e,g,c,d,k⟩:=t1
 obtain⟨a',o',its',n',e',g',c',d',k'⟩:=t2
 rw[e,e']
 exact abJ g d g' d' k k' sh h
theorem K5 {h:Heap} {vs:List Value} {cP:List (List Key)} (hv:Paired (lU h) cP vs) {xs:Array Keyed} (hp:xs.Perm (pairsOf vs)) (up:Up (fun v=>rank cP (keyOf cP vs v)) xs (pairsOf vs).size):Paired (lU h) (m7 cP) (xs.map (·.2)).toList:=by
 have hl:xs.toList.Perm (vs.zip vs):=by rw[<-pairsOf_toList];exact Array.perm_iff_toList_perm.mp hp
 have hm:∀ p∈xs.toList,p.1=p.2/\p.1∈vs:=fun p q=>mem_zip_self (hl.mem_iff.mp q)
 have e:(xs.map (·.2)).toList=xs.toList.map (·.1):=by
  rw[Array.toList_map];exact Q4 fun p q=>(hm p q).1.symm
 have pv:(xs.toList.map (·.1)).Perm vs:=by
  have:=hl.map Prod.fst
  rwa [List.map_fst_zip (zg _)] at this
 have key:m7 cP=(xs.toList.map (·.1)).map (keyOf cP vs):=by
  refine (rU ?_ ?_).symm
  ·have:=pv.map (keyOf cP vs)
   rwa [Bc hv _ fun v q=>(nD hv v q).2] at this
  ·rw[List.pairwise_iff_getElem]
   intro i j hi hj hij
   have hi':i < xs.size:=by simpa using hi
   have hj':j < xs.size:=by simpa using hj
   have u:=up i j (Q2 hij) (by rw[<-hp.size_eq];exact hj')
   unfold at_ at u
   rw[getElem?_pos xs i hi',getElem?_pos xs j hj'] at u
   have m2:=(nD hv xs[j].1 (hm xs[j] (by simp)).2).1
   simp only[List.getElem_map,Array.getElem_toList]
   unfold uO
   rw[<-QG m2,qh (Nat.not_lt.mpr u)]
   rfl
 rw[key,e]
 refine wZ fun v q=>(nD hv v ?_).2
 exact pv.mem_iff.mp q
end
end S1
end
section
namespace P1
open PySem PySem.Spec PyProof.Rows L2 S1
section
variable {prog:Program} {w:World} {A:Around} {E:Value->Shared->Prop} {s:Shared}
theorem Dw {l:Addr} {o:Obj} {T:String} {vs:List Value} {n:Nat} {Q:List Value->Shared->Prop} (ho:s.heap.get? l=some o) (hc:o.cls=.type T) (hT:T = "list" ∨ T = "tuple") (hd:o.data=.seq vs.toArray n) (hz:vs.length<=sizeLine)
  (h:∀ h' tk,s.heap.objs.size<=h'.objs.size->(∀ c o,s.heap.get? c=some o->h'.get? c=some o)->Q vs { s with heap:=h',toks:=tk }):wpAny (model prog w) A (collect (.ref l)) Q E s:=by
 unfold collect
 refine zb (wpAny_runValue (jI entry_proto_collect' ?_))
 show wpAny _ _ (newList [] >>= fun q=>again (.builtin "list.__iadd__" ⟨[q,.ref l],[]⟩)) _ _ s
 refine zb (KM (ze ⟨Code.quiet_builtin _ (by decide +kernel),jI entry_list_iadd' ?_⟩))
 show wpAny _ _ (Builtin.List.listExtendWith (.ref s.heap.objs.size) (.ref l) (.ref s.heap.objs.size)) _ _ _
 unfold Builtin.List.listExtendWith
 have g1:(s.heap.push (seqObj "list" #[] 0)).get? l=some o:=zd _ ho
 refine zb (QE (T:=T) ⟨o,g1,hc⟩ ?_)
 have ht:(Value.type T==Value.type "list" || Value.type T==Value.type "tuple")=true:=by rcases hT with rfl|rfl<;>decide
 rw[zk (by rw[Bool.or_assoc,ht];simp)]
 refine zb (listItems_at g1 hd (zb (listItems_at (xs:=#[]) (n:=0) (zt _ rfl) rfl ?_)))
 rw[zw (by simp)]
 have g2:(s.heap.push (seqObj "list" #[] 0)).get? s.heap.objs.size=some (seqObj "list" #[] 0):=zt _ rfl
 refine zb (listUpdate_at (xs:=#[]) (n:=0) g2 rfl (ze ?_) (qS _) (by show (#[]++vs.toArray).size<=sizeLine+1;simp only[kP,zz,List.length_nil];omega))
 show wpAny (model prog w) A (load s.heap.objs.size >>= _) Q E _
 refine zb (wpAny_load (get?_update_seq g2 _) ?_)
 show wpAny _ _ (pure ((#[]:Array Value)++vs.toArray).toList) Q E _
 rw[show ((#[]:Array Value)++vs.toArray).toList=vs by simp]
 refine ze (h _ s.toks ?_ fun c oc e=>?_)
 ·rw[Heap.size_update,size_push'];exact Kk _
 ·rw[ja _ _ _ _ (zD (zv e))]
  exact zd _ e
end
def YC:Dt->Option Key
 |.int i=>some (.inl i)
 |.str x=>some (.inr x)
 |_=>none
def Bd:List Dt->Option (List Key)
 |[]=>some []
 |d::ds=>(YC d).bind fun k=>(Bd ds).bind fun ks=>some (k::ks)
def Dy:Dt->Option (List Key)
 |.tup ds=>Bd ds
 |_=>none
def sZ:List Dt->Option (List (List Key))
 |[]=>some []
 |d::ds=>(Dy d).bind fun k=>(sZ ds).bind fun ks=>some (k::ks)
def dK:Key->Dt
 |.inl i=>.int i
 |.inr x=>.str x
def tupK (ks:List Key):Dt:=.tup (ks.map dK)
theorem YD {d:Dt} {k:Key} (h:YC d=some k):d=dK k:=by
 cases d<;>cases h<;>rfl
theorem K6:∀ {ds:List Dt} {ks:List Key},Bd ds=some ks->ds=ks.map dK
 |[],_,h=>by cases h;rfl
 |d::ds,_,h=>by
  obtain⟨k,e1,h⟩:=bind_some h
  obtain⟨ks,e2,h⟩:=bind_some h
  cases h
  rw[zr,YD e1,K6 e2]
theorem K7 {d:Dt} {ks:List Key} (h:Dy d=some ks):d=tupK ks:=by
 cases d with
 |tup ds=>exact congrArg Dt.tup (K6 h)
 |_=>cases h
theorem zV:∀ {ds:List Dt} {cP:List (List Key)},sZ ds=some cP->ds=cP.map tupK
 |[],_,h=>by cases h;rfl
 |d::ds,_,h=>by
  obtain⟨k,e1,h⟩:=bind_some h
  obtain⟨ks,e2,h⟩:=bind_some h
  cases h
  rw[zr,K7 e1,zV e2]
section
variable {X:Cx}
theorem YF {K:PySem.W.Frag} {H:Hp} {k:Key} {v:V} (h:Rep K H (dK k) v):v=kV k:=by
 cases k with
 |inl i=>exact (show v=.int i by simpa only[dK,Rep] using h)
 |inr x=>exact (show v=.str x/\x.length<=sizeLine by simpa only[dK,Rep] using h).1
theorem Hh {K:PySem.W.Frag} {H:Hp}:∀ {ks:List Key} {vs:List V},aK K H (ks.map dK) vs->vs=ks.map kV
 |[],_,h=>by simp only[kc,aK] at h;exact h
 |k::ks,_,h=>by
  simp only[zr,aK] at h
  obtain⟨v,r,rfl,h1,h2⟩:=h
  rw[YF h1,Hh h2,zr]
theorem adQ (X:Cx) {ks:List Key}:∀ {us:List Value},Vals (ks.map kV) us->Ks ks us:=by
 induction ks with
 |nil=>intro us h;cases h;exact .nil
 |cons k ks ih=>
  intro us h
  cases h with
  |cons r t=>exact .cons (Kq (P:=X.prog) (w:=X.w) r) (ih t)
theorem qP {pins:List (Addr×Obj)} {σ:L2.St} {H:Hp} {s:Shared} (I:Inv X pins σ H s):∀ {cP:List (List Key)} {vs:List V} {its:List Value},aK X.K H (cP.map tupK) vs->Vals vs its->Paired (lU s.heap) cP its
 |[],_,_,h,r=>by
  simp only[kc,aK] at h
  subst h;cases r;exact .nil
 |k::cP,_,_,h,r=>by
  simp only[zr,aK] at h
  obtain⟨v,vs,rfl,h1,h2⟩:=h
  cases r with
  |cons r1 r2=>
   refine .cons ?_ (qP I h2 r2)
   simp only[tupK,Rep] at h1
   obtain⟨a,ws,rfl,sq,rs⟩:=h1
   obtain⟨its,rv,⟨o,g,c,n,d⟩,_⟩:=I.tuple sq
   cases r1
   rw[Hh rs] at rv
   exact⟨a,o,its,n,rfl,g,c,d,adQ X rv⟩
theorem zW {pins:List (Addr×Obj)} {σ:L2.St} {H:Hp} {s:Shared} (I:Inv X pins σ H s) {cP:List (List Key)} {vs:List V} {its:List Value} (h:aK X.K H (cP.map tupK) vs) (r:Vals vs its):∀ {T8:List (List Key)} {out:List Value},Paired (lU s.heap) T8 out->(∀ u∈out,u∈its)->∃ zs,Vals zs out/\aK X.K H (T8.map tupK) zs
 |_,_,.nil,_=>⟨[],.nil,aK.nil⟩
 |l::T8,u::out,.cons q t,hm=>by
  obtain⟨zs,z1,z2⟩:=zW I h r t fun x hx=>hm x (zo _ hx)
  have aux:∀ (cP:List (List Key)) (vs:List V) (its:List Value),aK X.K H (cP.map tupK) vs->Vals vs its->u∈its->∃ v,RelV v u/\Rep X.K H (tupK l) v:=by
   intro cP
   induction cP with
   |nil=>
    intro vs its h r hu
    simp only[kc,aK] at h
    subst h;cases r;cases hu
   |cons k cP ih=>
    intro vs its h r hu
    simp only[zr,aK] at h
    obtain⟨v,vs,rfl,h1,h2⟩:=h
    cases r with
    |@cons _ u' _ _ r1 r2=>
     rcases List.mem_cons.mp hu with rfl|hu
     ·have e:k=l:=by
       have:=qP I (cP:=[k]) (vs:=[v]) (its:=[u]) (by simp only[zr,kc];exact aK.cons h1 aK.nil) (.cons r1 .nil)
       cases this with
       |cons q' _=>exact q'.inj q
      subst e
      exact⟨v,r1,h1⟩
     ·exact ih vs _ h2 r2 hu
  obtain⟨v,r1,h1⟩:=aux cP vs its h r (hm u (zh ..))
  exact⟨v::zs,.cons r1 z1,by rw[zr];exact aK.cons h1 z2⟩
def Jg (k l:List Key):Bool:=((k.zip l).all fun p=>QF p.1 p.2)
theorem Dz:∀ {k l:List Key},Jg k l=true->Yx k l
 |[],_,_=>by simp[Yx]
 |_::_,[],_=>by simp[Yx]
 |x::k,y::l,h=>by
  unfold Jg at h
  rw[List.zip_cons_cons,kq,ZN] at h
  exact⟨h.1,Dz h.2⟩
def Bu (cP:List (List Key)):Bool:=decide (cP.length < 64)&&(cP.all (fun k=>!k.isEmpty)&&cP.all fun k=>cP.all fun l=>Jg k l)
def oJ:List Bx->Option Bx
 |[b]=>(yq b).bind fun ds=>(sZ ds).bind fun cP=>if Bu cP=true then some (.o ((m7 cP).map tupK)) else none
 |_=>none
theorem Ck {K:PySem.W.Frag} {H:Hp} {b:Bx} {v:V} {ds:List Dt} (h:bf K H b v) (e:yq b=some ds):∃ a vs,v=.ref a/\(um K H a vs\/xM K H a vs)/\aK K H ds vs:=by
 cases b with
 |z d=>
  cases d<;>first|(cases e;done)|skip
  ·cases e
   simp only[bf,Rep] at h
   obtain⟨a,vs,e,q,r⟩:=h
   exact⟨a,vs,e,.inr q,r⟩
  ·cases e
   simp only[bf,Rep] at h
   obtain⟨a,vs,e,q,r⟩:=h
   exact⟨a,vs,e,.inl q.sq,r⟩
 |l ds'=>cases e;obtain⟨a,vs,e,q,r⟩:=h;exact⟨a,vs,e,.inl (.inl q),r⟩
 |o ds'=>cases e;obtain⟨a,vs,e,q,r⟩:=h;exact⟨a,vs,e,.inl (.inl (.inl q)),r⟩
 |n _=>cases e
 |m _ _=>cases e
theorem rW:pq X (.builtin "sorted") oJ:=by
 intro pins s σ H xs us Q I rx h
 obtain⟨bs,c,rb,e,q⟩:=h
 unfold oJ at e
 split at e
 ·rename_i b
  obtain⟨ds,ed,e⟩:=bind_some e
  obtain⟨cP,ek,e⟩:=bind_some e
  split at e
  ·rename_i hs
   cases e
   simp only[Bu,ZN,Zl,qA,qV] at hs
   obtain⟨h64,hne,hsh⟩:=hs
   obtain⟨v,rfl,r1⟩:=rep1 rb
   obtain⟨p,vs,rfl,sq,rs⟩:=Ck r1 ed
   obtain⟨u,rfl,ru⟩:=vals1 rx
   cases ru
   have eds:=zV ek
   subst eds
   have got:∃ (its:List Value) (o:Obj) (T:String) (n:Nat),Vals vs its/\s.heap.get? p=some o/\o.cls=.type T/\(T = "list" ∨ T = "tuple")/\o.data=.seq its.toArray n/\vs.length<=sizeLine:=by
    rcases sq with sq|sq
    ·obtain⟨its,r',pl,hz⟩:=I.list sq
     obtain⟨o,g,c,n,d⟩:=pl.isList
     exact⟨its,o,_,n,r',g,c,.inl rfl,d,hz⟩
    ·obtain⟨its,r',⟨o,g,c,n,d⟩,hz⟩:=I.tuple sq
     exact⟨its,o,_,n,r',g,c,.inr rfl,d,hz⟩
   obtain⟨its,o,T,n,r',g,hc,hT,hd,hz⟩:=got
   have hlen:its.length=cP.length:=by rw[<-r'.length,rs.length,zi]
   have tv:=qP I rs r'
   refine Sx (kd:=tuples' true) (rk:=fun v=>rank cP (keyOf cP its v)) (vs:=its) (fun E' Q' hq=>Dw g hc hT hd (by rw[<-r'.length];exact hz) hq)
    (fun h2 E' A' s' k Q' hq=>Hg (Paired.imp' (fun _ _ z=>lU.keep z k) tv) (fun k hk=>by have:=hne k hk;cases k with|nil=>cases this|cons _ _=>exact List.cons_ne_nil _ _) (fun k hk l hl=>Dz (hsh k hk l hl)) (by omega) hq)
    (fun A' s' k=>K4 (Paired.imp' (fun _ _ z=>lU.keep z k) tv) fun k hk l hl=>Dz (hsh k hk l hl)) (by omega) fun l h' tk m st hp up hl ext hL=>?_
   have out:=K5 tv hp up
   have mem:∀ u∈((arrOf st).map (·.2)).toList,u∈its:=fun u hu=>by
    rw[Array.toList_map] at hu
    obtain⟨pr,hpr,rfl⟩:=List.mem_map.mp hu
    have abK:pr∈its.zip its:=by rw[<-pairsOf_toList];exact (Array.perm_iff_toList_perm.mp hp).mem_iff.mp hpr
    have:=mem_zip_self abK
    rw[<-this.1];exact this.2
   obtain⟨zs,z1,z2⟩:=zW I rs r' out mem
   have hzl:zs.length=cP.length:=by rw[z2.length,zi,(n6 cP).length_eq]
   have hH:H l=none:=I.hok.fresh hl
   refine⟨.ref l,_,I.laid (t':=tk) (a:=l) (o:=.lst zs) ext hl ⟨by rw[hzl];exact Q2 (ZA h64 (by decide)),_,m,z1,?_⟩,rfl,q _ _ (bU hH) (fun a ea=>by cases ea;exact hH) ⟨l,zs,rfl,aX,z2.kp (.of (bU hH))⟩⟩
   rw[hL]
  ·cases e
 ·cases e
end
end P1
end
section
namespace S6
open PySem PySem.Spec PyProof.Rows
theorem SN {M:Model} {A:Around} {E:Value->Shared->Prop} {s:Shared} {src:Source} {n:Nat} {Q:Nat->Shared->Prop} (hn:n≠0) (h:∀ i d,i < n->Q i { s with drawn:=d }):wpAny M A (choose src n) Q E s:=
 fun Γ p hΓ=>⟨hn,h _ _ (Nat.mod_lt _ (Nat.pos_of_ne_zero hn))⟩
theorem Jh {α:Type}:∀ {xs:List α} {i:Nat} (hi:i < xs.length),(xs[i]::xs.eraseIdx i).Perm xs
 |x::xs,0,_=>List.Perm.refl _
 |x::xs,i+1,h=>by
  rw[List.eraseIdx_cons_succ,List.getElem_cons_succ]
  exact (List.Perm.swap _ _ _).trans ((Jh (xs:=xs) (i:=i) (by simpa using h)).cons x)
theorem YG {M:Model} {A:Around} {E:Value->Shared->Prop} {α:Type}:∀ (n:Nat) (xs:List α) (s:Shared) (Q:List α->Shared->Prop),xs.length=n->(∀ ys d,ys.Perm xs->Q ys { s with drawn:=d })->wpAny M A (drawOrder n xs) Q E s:=by
 intro n
 induction n with
 |zero=>
  intro xs s Q hl h
  cases xs with
  |nil=>
   unfold drawOrder
   exact ze (h [] s.drawn (List.Perm.refl _))
  |cons x xs=>simp at hl
 |succ n ih=>
  intro xs s Q hl h
  cases xs with
  |nil=>simp at hl
  |cons x xs=>
   unfold drawOrder
   refine zb (SN (by simp) fun i d hi=>?_)
   have e:(x::xs)[i]?=some (x::xs)[i]:=by simp[hi]
   rw[e]
   dsimp only
   refine zb (ih ((x::xs).eraseIdx i) _ _ (by rw[List.length_eraseIdx,zk hi];simp at hl ⊢;omega) fun ys d' hp=>ze ?_)
   exact h _ d' ((List.Perm.cons _ hp).trans (Jh hi))
theorem QH {α:Type} (next:Nat->Nat):∀ (n k:Nat) (xs:List α) (out:Array α),xs.length=n->(pickOrder.go next n k xs out).toList.Perm (out.toList++xs)
 |0,k,[],out,_=>by unfold pickOrder.go;simp
 |n+1,k,x::xs,out,hl=>by
  unfold pickOrder.go
  have hi:next k % (x::xs).length < (x::xs).length:=Nat.mod_lt _ (by simp)
  have e:(x::xs)[next k % (x::xs).length]?=some (x::xs)[next k % (x::xs).length]:=by rw[zI hi]
  rw[e]
  dsimp only
  refine (QH next n (k+1) _ _ (by rw[List.length_eraseIdx,zk hi];simp at hl ⊢;omega)).trans ?_
  rw[Array.toList_push,List.append_assoc]
  exact (List.Perm.refl _).append (Jh hi)
theorem SQ {α:Type} (next:Nat->Nat) (xs:Array α):(pickOrder next xs).toList.Perm xs.toList:=by
 have:=QH next xs.size 0 xs.toList #[] (by simp)
 simpa [pickOrder] using this
structure Wk (w:World) (h:Heap) (a:Addr) (es:Array (Int×Value)) (ep:Nat) (t:SetTable):Prop where
 at_:∃ o,h.get? a=some o/\o.cls=.type "set" ∧ o.data=.set es ep t
 fit:t.fits es.size=true
 led:w.params.followText "set-order" = false->t.led=true
 non:1 < es.size->t.plain=false
theorem Wk.keep {w:World} {h h':Heap} {a:Addr} {es:Array (Int×Value)} {ep:Nat} {t:SetTable} (x:Wk w h a es ep t) (k:∀ o,h.get? a=some o->h'.get? a=some o):Wk w h' a es ep t:=
 ⟨let ⟨o,e,r⟩:=x.at_;⟨o,k o e,r⟩,x.fit,x.led,x.non⟩
def It (h:Heap) (it a:Addr) (first:Value) (i n ep:Nat):Prop:=∃ o,h.get? it=some o/\o.cls=.type "set_iterator" ∧ o.data=.fields #[first,.int (i:Int) 0,.ref a,.int (n:Int) 0,.int (ep:Int) 0]
theorem It.keep {h h':Heap} {it a:Addr} {f:Value} {i n ep:Nat} (x:It h it a f i n ep) (k:∀ o,h.get? it=some o->h'.get? it=some o):It h' it a f i n ep:=
 let ⟨o,e,r⟩:=x;⟨o,k o e,r⟩
theorem It.ty {s:Shared} {it a:Addr} {f:Value} {i n ep:Nat} (x:It s.heap it a f i n ep):s.TypeIs (.ref it) "set_iterator" := let ⟨o,e,c,_⟩:=x;⟨o,e,c⟩
theorem jY:Slot "set_iterator" "__next__" "set_iterator.__next__" :=
 .of (owner := "set_iterator") (n := "__next__") (by rw[typeLookup_type,builtinLookup_eq_fast];kernel_rfl) (by decide +kernel) (by decide +kernel) (by decide +kernel)
  (by first|exact .inl (by decide +kernel)|exact .inr (by decide +kernel)) (by rw[isSubtype_type];kernel_rfl)
theorem yF:Slot "set_iterator" "__iter__" "set_iterator.__iter__" :=
 .of (owner := "set_iterator") (n := "__iter__") (by rw[typeLookup_type,builtinLookup_eq_fast];kernel_rfl) (by decide +kernel) (by decide +kernel) (by decide +kernel)
  (by first|exact .inl (by decide +kernel)|exact .inr (by decide +kernel)) (by rw[isSubtype_type];kernel_rfl)
theorem FZ:entryFor table "set_iterator.__next__" = some Builtin.«set_iterator.__next__»:=entryFor_of_tree (by kernel_rfl)
theorem Bv:entryFor table "set.__iter__" = some Builtin.«frozenset.__iter__»:=entryFor_alias (id' := "frozenset.__iter__") (by kernel_rfl) rfl (by decide +kernel) (by kernel_rfl)
theorem Ga:entryFor table "set_iterator.__iter__" = some Builtin.«dict_keyiterator.__iter__»:=entryFor_alias (id' := "dict_keyiterator.__iter__") (by kernel_rfl) rfl (by decide +kernel) (by kernel_rfl)
theorem Vp:Manifest.owners.lookup (String.ofList "rotareti_tes".toList.reverse)=some Manifest.sig_set_iterator:=by kernel_rfl
theorem Ji (a:Value):argsOk "set_iterator.__next__" ⟨[a],[]⟩:=by
 unfold argsOk;rw[signature?_of (id := "set_iterator.__next__") (n := "__txen__".toList) (o := "rotareti_tes".toList) (by kernel_rfl) Vp];kernel_rfl
theorem Jj (a:Value):argsOk "set_iterator.__iter__" ⟨[a],[]⟩:=by
 unfold argsOk;rw[signature?_of (id := "set_iterator.__iter__") (n := "__reti__".toList) (o := "rotareti_tes".toList) (by kernel_rfl) Vp];kernel_rfl
section
variable {prog:Program} {w:World} {A:Around} {E:Value->Shared->Prop} {s:Shared} {it a:Addr} {i ep:Nat} {es:Array (Int×Value)} {t:SetTable}
theorem Cm {first:Value} {Q:Option Value->Shared->Prop} (hit:It s.heap it a first i es.size ep) (hw:Wk w s.heap a es ep t)
  (h:wpAny (model prog w) A.in1 (if let .int slot _:=first then (do
    match <-setNext a slot.toNat (i:Int).toNat (ep:Int).toNat with
    |some (x,next)=>
     setField (.ref it) 0 (rawInt next)
     setField (.ref it) 1 (rawInt ((i:Int)+1))
     ret x
    |none=>setField (.ref it) 2 .none;raiseNew (<-newExc (.type "StopIteration") []))
   else (do
    let some places <-seqItems? first|unsupported "internal:set_iterator"
    match places[(i:Int).toNat]? with
    |some (.int place _)=>
     let x <-setNextDrawn a place.toNat (ep:Int).toNat
     setField (.ref it) 1 (rawInt ((i:Int)+1))
     ret x
    |some _=>unsupported "internal:set_iterator"
    |none=>setField (.ref it) 0 (rawInt 0);setField (.ref it) 2 .none;raiseNew (<-newExc (.type "StopIteration") []))) (fun fin s'=>∃ v,fin=.done (.ret v)/\Q (some v) s') (fun e s'=>s'.TypeIs e "StopIteration" ∧ Q none s') s):wpAny (model prog w) A (pyNext (.ref it)) Q E s:=by
 obtain⟨o,ho,hc,hd⟩:=id hit
 obtain⟨oa,hoa,hca,hda⟩:=hw.at_
 unfold pyNext
 refine zb (wpAny_attempt (K2 (name:=Str.ofString "__next__") hit.ty jY (js jY hit.ty FZ ?_ (Ji _))))
 unfold Builtin.«set_iterator.__next__»
 refine zb (ze ?_)
 refine zb (wpAny_fieldsOf ho hd ?_)
 show wpAny _ _ (setEntries a >>= _) _ _ s
 refine zb (wpAny_setEntries_of hoa hda hw.fit ?_)
 rw[zw (by simp)]
 refine qr h (fun fin s' hq=>?_) fun e s' hq=>?_
 ·obtain⟨v,rfl,hv⟩:=hq
  exact⟨v,rfl,ze hv⟩
 ·refine zb (kS (T := "StopIteration") (b:=true) hq.1 isSubtype_stop ?_)
  exact ze hq.2
theorem QJ {hp:Heap} {Q:Option Value->Shared->Prop} (hh:A.handled=none) (h:∀ h',(∀ b o,hp.get? b=some o->h'.get? b=some o)->Q none { s with heap:=h' }) :
  wpAny (model prog w) A.in1 (do raiseNew (<-newExc (.type "StopIteration") [])) (fun (fin:Fin) s'=>∃ v,fin=.done (.ret v)/\Q (some v) s') (fun e s'=>s'.TypeIs e "StopIteration" ∧ Q none s') { s with heap:=hp }:=by
 refine zb ?_
 simp only[newExc,newTuple]
 refine zb (qi ?_ (by size_fits))
 refine zb (m:=firstArgMember _ _) (wpAny_of_eq (a:=Value.none) (by first|rfl|(simp only[firstArgMember];rfl)) ?_)
 refine qi ?_ (by size_fits)
 simp only[raiseNew]
 refine zb (wpAny_handled ?_)
 rw[show A.in1.handled=none from hh]
 refine zb (ze (wpAny_throw ⟨⟨_,zt _ rfl,rfl⟩,?_⟩))
 exact h _ fun b o e=>zd _ (zd _ e)
theorem It.put {h:Heap} {f:Value} {n:Nat} (hit:It h it a f i n ep) (x:Value):It (h.update it (Obj.mapFields (·.setIfInBounds 0 x))) it a x i n ep:=by
 obtain⟨o,ho,hc,hd⟩:=hit
 exact⟨_,kR _ ho (Obj.isFreed_of_fields (KA hd _)),(Obj.cls_mapFields ..).trans hc,by rw[KA hd];simp⟩
theorem It.step {h:Heap} {f:Value} {n:Nat} (hit:It h it a f i n ep):It (h.update it (Obj.mapFields (·.setIfInBounds 1 (rawInt ((i:Int)+1))))) it a f (i+1) n ep:=by
 obtain⟨o,ho,hc,hd⟩:=hit
 exact⟨_,kR _ ho (Obj.isFreed_of_fields (KA hd _)),(Obj.cls_mapFields ..).trans hc,by rw[KA hd];simp[rawInt]⟩
theorem It.field {f:Value} {n k:Nat} {x:Value} {A:Around} {Q:Unit->Shared->Prop} {E:Value->Shared->Prop} (hit:It s.heap it a f i n ep) (hk:k < 5) (h:Q () { s with heap:=s.heap.update it (Obj.mapFields (·.setIfInBounds k x)) }):wpAny (model prog w) A (setField (.ref it) k x) Q E s:=by
 obtain⟨o,ho,hc,hd⟩:=hit
 exact wpAny_setField ho hd (by simpa using hk) h
theorem rY {h:Heap} {f:Obj->Obj} {b:Addr} {o:Obj} (hb:b≠it) (e:h.get? b=some o):(h.update it f).get? b=some o:=by rw[ja _ _ _ _ hb];exact e
theorem Vq {slot next:Nat} {x:Value} {Q:Option Value->Shared->Prop} (hit:It s.heap it a (.int (slot:Int) 0) i es.size ep) (hw:Wk w s.heap a es ep t)
  (hS:∀ {A':Around} {E':Value->Shared->Prop} {Q':Option (Value×Nat)->Shared->Prop},Q' (some (x,next)) s->wpAny (model prog w) A' (setNext a slot i ep) Q' E' s)
  (h:∀ h',It h' it a (.int (next:Int) 0) (i+1) es.size ep->(∀ b o,b≠it->s.heap.get? b=some o->h'.get? b=some o)->Q (some x) { s with heap:=h' }):wpAny (model prog w) A (pyNext (.ref it)) Q E s:=by
 refine Cm hit hw ?_
 show wpAny _ _ (setNext a slot i ep >>= _) _ _ s
 refine zb (hS ?_)
 refine zb (hit.field (by decide) ?_)
 refine zb ((hit.put _).field (s:={ s with heap:=_ }) (by decide) ?_)
 exact ze ⟨x,rfl,h _ ((hit.put _).step) fun b o hb e=>rY hb (rY hb e)⟩
theorem DG {slot:Nat} {Q:Option Value->Shared->Prop} (hh:A.handled=none) (hit:It s.heap it a (.int (slot:Int) 0) i es.size ep) (hw:Wk w s.heap a es ep t)
  (hS:∀ {A':Around} {E':Value->Shared->Prop} {Q':Option (Value×Nat)->Shared->Prop},Q' none s->wpAny (model prog w) A' (setNext a slot i ep) Q' E' s)
  (h:∀ h',(∀ b o,b≠it->s.heap.get? b=some o->h'.get? b=some o)->Q none { s with heap:=h' }):wpAny (model prog w) A (pyNext (.ref it)) Q E s:=by
 refine Cm hit hw ?_
 show wpAny _ _ (setNext a slot i ep >>= _) _ _ s
 refine zb (hS ?_)
 refine zb (hit.field (by decide) (QJ hh fun h' k=>h h' fun b o hb e=>k b o (rY hb e)))
theorem YH {tp:Addr} {pl:List Nat} {ot:Obj} {c:Nat} {j:Nat} {x:Int×Value} {Q:Option Value->Shared->Prop} (hit:It s.heap it a (.ref tp) i es.size ep) (hw:Wk w s.heap a es ep t)
  (ht:s.heap.get? tp=some ot) (hd:ot.data=.seq (pl.map fun (k:Nat)=>rawInt (k:Int)).toArray c) (hj:pl[i]?=some j) (hx:es[j]?=some x)
  (h:∀ h',It h' it a (.ref tp) (i+1) es.size ep->(∀ b o,b≠it->s.heap.get? b=some o->h'.get? b=some o)->Q (some x.2) { s with heap:=h' }):wpAny (model prog w) A (pyNext (.ref it)) Q E s:=by
 refine Cm hit hw ?_
 show wpAny _ _ (seqItems? (.ref tp) >>= _) _ _ s
 refine zb (m:=seqItems? (.ref tp)) ?_
 unfold seqItems?
 refine zb (wpAny_load ht ?_)
 rw[hd]
 refine ze ?_
 dsimp only
 rw[KI,show ((pl.map fun (k:Nat)=>rawInt (k:Int)).toArray)[i]?=some (rawInt (j:Int)) by simp[hj]]
 show wpAny _ _ (setNextDrawn a j ep >>= _) _ _ s
 obtain⟨oa,hoa,hca,hda⟩:=hw.at_
 refine zb (m:=setNextDrawn a j ep) ?_
 unfold setNextDrawn
 refine zb (QI hoa hda hw.fit ?_)
 dsimp only
 rw[zw (by simp),hx]
 refine ze ?_
 refine zb (hit.field (by decide) ?_)
 exact ze ⟨x.2,rfl,h _ hit.step fun b o hb e=>rY hb e⟩
theorem K8 {tp:Addr} {pl:List Nat} {ot:Obj} {c:Nat} {Q:Option Value->Shared->Prop} (hh:A.handled=none) (hit:It s.heap it a (.ref tp) i es.size ep) (hw:Wk w s.heap a es ep t)
  (ht:s.heap.get? tp=some ot) (hd:ot.data=.seq (pl.map fun (k:Nat)=>rawInt (k:Int)).toArray c) (hj:pl[i]?=none)
  (h:∀ h',(∀ b o,b≠it->s.heap.get? b=some o->h'.get? b=some o)->Q none { s with heap:=h' }):wpAny (model prog w) A (pyNext (.ref it)) Q E s:=by
 refine Cm hit hw ?_
 show wpAny _ _ (seqItems? (.ref tp) >>= _) _ _ s
 refine zb (m:=seqItems? (.ref tp)) ?_
 unfold seqItems?
 refine zb (wpAny_load ht ?_)
 rw[hd]
 refine ze ?_
 dsimp only
 rw[KI,show ((pl.map fun (k:Nat)=>rawInt (k:Int)).toArray)[i]?=none by simpa using hj]
 refine zb (hit.field (by decide) ?_)
 refine zb ((hit.put _).field (s:={ s with heap:=_ }) (by decide) (QJ hh fun h' k=>h h' fun b o hb e=>k b o (rY hb (rY hb e))))
end
section
variable {prog:Program} {w:World} {A:Around} {E:Value->Shared->Prop} {s:Shared} {it a:Addr} {i ep:Nat} {es:Array (Int×Value)} {t:SetTable}
theorem vO {Q:Bool->Shared->Prop} (h:Q (w.params.followText "set-order") s):wpAny (model prog w) A setsByText Q E s:=by
 unfold setsByText
 exact zb (wpAny_askSetting (ze h))
theorem Jk {f:Value} {n:Nat} {Q:Value->Shared->Prop} (hit:It s.heap it a f i n ep) (h:Q (.ref it) s):wpAny (model prog w) A (pyIter (.ref it)) Q E s:=by
 refine wpAny_pyIter_slot hit.ty yF (js yF hit.ty Ga ?_ (Jj _))
 show wpAny _ _ (ret (.ref it)) _ _ s
 exact ze ⟨_,rfl, "set_iterator", _,hit.ty,jY.lookup,h⟩
def Jl (w:World) (a:Addr) (ep:Nat) (es:Array (Int×Value)):List Value:=(pickOrder (w.params.setOrder a ep) es).toList.map (·.2)
theorem zX:(Jl w a ep es).Perm (es.toList.map (·.2)):=(SQ _ _).map _
theorem Hi {slot:Nat} {Q:Option (Value×Nat)->Shared->Prop} (hf:w.params.followText "set-order" = true) (hw:Wk w s.heap a es ep t) (h:Q (((Jl w a ep es)[i]?).map fun v=>(v,slot)) s):wpAny (model prog w) A (setNext a slot i ep) Q E s:=by
 obtain⟨oa,hoa,hca,hda⟩:=hw.at_
 unfold setNext
 refine zb (QI hoa hda hw.fit (zb (vO ?_)))
 rw[hf]
 simp only[↓reduceIte,bne_self_eq_false,zl]
 refine zb (m:=setWalk a) ?_
 unfold setWalk
 refine zb (QI hoa hda hw.fit (zb (vO ?_)))
 rw[hf]
 simp only[↓reduceIte]
 refine zb (wpAny_askSetting (ze (ze ?_)))
 have e:(pickOrder (w.params.setOrder a ep) es)[i]?.map (fun e=>(e.2,slot))=((Jl w a ep es)[i]?).map fun v=>(v,slot):=by
  unfold Jl
  rw[zS,Option.map_map,qq]
  rfl
 rw[<-e] at h
 exact h
theorem Om (hh:A.handled=none) (hf:w.params.followText "set-order" = true) (hne:a≠it) (c:es.size<=sizeLine):Walks prog w A it [it,a] [it] es.size (fun i v=>(Jl w a ep es)[i]?=some v) (fun i h=>It h it a (.int 0 0) i es.size ep/\Wk w h a es ep t) where
 sub:=fun b hb=>by simp at hb;simp[hb]
 frame:=fun _ _ _ st hk=>⟨st.1.keep fun o e=>hk it (by simp) o e,st.2.keep fun o e=>hk a (by simp) o e⟩
 item:=fun i s Q E hi st hQ=>by
  have hl:(Jl w a ep es).length=es.size:=by rw[zX.length_eq];simp
  obtain⟨v,hv⟩:∃ v,(Jl w a ep es)[i]?=some v:=⟨(Jl w a ep es)[i]'(by omega),by rw[zI]⟩
  refine Vq (slot:=0) (next:=0) (x:=v) st.1 st.2 (fun {A' E' Q'} hq=>Hi hf st.2 (by rw[hv];exact hq)) fun h' hi' k=>?_
  exact hQ v h' s.toks hv ⟨hi',st.2.keep fun o e=>k a o hne e⟩ fun b o hb e=>k b o (fun x=>hb (by simp[x])) e
 done:=fun s Q E st hQ=>by
  have hl:(Jl w a ep es).length=es.size:=by rw[zX.length_eq];simp
  refine DG (slot:=0) hh st.1 st.2 (fun {A' E' Q'} hq=>Hi hf st.2 (by rw[qo (by omega)];exact hq)) fun h' k=>?_
  exact hQ h' s.toks fun b o hb e=>k b o (fun x=>hb (by simp[x])) e
 self:=fun _ _ _ _ st hQ=>Jk st.1 hQ
def SX (pl:List Nat) (es:Array (Int×Value)):List Value:=pl.filterMap fun j=>es[j]?.map (·.2)
theorem S5 {pl:List Nat} (h:pl.Perm (List.range es.size)):(SX pl es).Perm (es.toList.map (·.2)):=by
 refine (h.filterMap _).trans ?_
 rw[show (List.range es.size).filterMap (fun j=>es[j]?.map (·.2))=((List.range es.size).filterMap fun j=>es[j]?).map (·.2) by rw[List.map_filterMap],filterMap_getElem?_range]
theorem K9:∀ {pl:List Nat},(∀ j∈pl,j < es.size)->∀ (i:Nat) (j:Nat),pl[i]?=some j->(SX pl es)[i]?=es[j]?.map (·.2)
 |[],_,_,_,h=>by simp at h
 |k::pl,hb,i,j,h=>by
  have hk:=hb k (zh ..)
  have e:SX (k::pl) es=es[k].2::SX pl es:=by simp[SX,hk]
  rw[e]
  cases i with
  |zero=>cases (show k=j by simpa using h);simp[hk]
  |succ i=>rw[ZH];exact K9 (fun j hj=>hb j (zo _ hj)) i j (by simpa using h)
theorem Oo {tp:Addr} {pl:List Nat} (hh:A.handled=none) (hne:a≠it) (htp:tp≠it) (hp:pl.Perm (List.range es.size)):Walks prog w A it [it,a,tp] [it] es.size (fun i v=>(SX pl es)[i]?=some v)
  (fun i h=>It h it a (.ref tp) i es.size ep/\Wk w h a es ep t/\∃ ot c,h.get? tp=some ot/\ot.data=.seq (pl.map fun (k:Nat)=>rawInt (k:Int)).toArray c) where
 sub:=fun b hb=>by simp at hb;simp[hb]
 frame:=fun _ _ _ st hk=>⟨st.1.keep fun o e=>hk it (by simp) o e,st.2.1.keep fun o e=>hk a (by simp) o e,let ⟨ot,c,e,r⟩:=st.2.2;⟨ot,c,hk tp (by simp) ot e,r⟩⟩
 item:=fun i s Q E hi st hQ=>by
  obtain⟨ot,c,e1,e2⟩:=st.2.2
  have hl:pl.length=es.size:=by rw[hp.length_eq];simp
  have hb:∀ j∈pl,j < es.size:=fun j hj=>List.mem_range.mp (hp.mem_iff.mp hj)
  have hj:pl[i]?=some (pl[i]'(by omega)):=by rw[zI]
  have hx:es[pl[i]'(by omega)]?=some (es[pl[i]'(by omega)]'(hb _ (kX _))):=by rw[ZI]
  refine YH st.1 st.2.1 e1 e2 hj hx fun h' hi' k=>?_
  exact hQ _ h' s.toks (by rw[K9 hb i _ hj,hx];rfl) ⟨hi',st.2.1.keep fun o e=>k a o hne e,ot,c,k tp ot htp e1,e2⟩ fun b o hb e=>k b o (fun x=>hb (by simp[x])) e
 done:=fun s Q E st hQ=>by
  obtain⟨ot,c,e1,e2⟩:=st.2.2
  have hl:pl.length=es.size:=by rw[hp.length_eq];simp
  refine K8 hh st.1 st.2.1 e1 e2 (by rw[qo (by omega)]) fun h' k=>?_
  exact hQ h' s.toks fun b o hb e=>k b o (fun x=>hb (by simp[x])) e
 self:=fun _ _ _ _ st hQ=>Jk st.1 hQ
end
section
variable {prog:Program} {w:World} {A:Around} {E:Value->Shared->Prop} {s:Shared} {it a:Addr} {i ep:Nat} {es:Array (Int×Value)} {t:SetTable}
def uR (t:SetTable) (i:Nat):Nat:=if i=0 then 0 else t.place.getD 0 0+1
theorem YJ (j:Nat):SetTable.below #[j] 0=0:=by
 show SetTable.below.go #[j] 0 1 0 1=0
 unfold SetTable.below.go
 rw[zk (by decide)]
 show (if #[j].getD 0 0 < 0 then _ else SetTable.below.go #[j] 0 0 0 0)=0
 rw[zw (ki _)]
 rfl
theorem YK (j:Nat):SetTable.below #[j] (j+1)=1:=by
 show SetTable.below.go #[j] (j+1) 1 0 1=1
 unfold SetTable.below.go
 rw[zk (by decide)]
 show (if j < j+1 then SetTable.below.go #[j] (j+1) 0 1 1 else _)=1
 rw[zk (ZY _)]
 rfl
theorem S7 {P:Option (Value×Nat)->Prop} {r:Option (Value×Nat)} (hp:t.place.size=es.size) (hn:es.size<=1) (hi:i<=es.size)
  (hr:r=match es[SetTable.below t.place (uR t i)]?,t.place[SetTable.below t.place (uR t i)]? with
   |some (_,x),some j=>some (x,j+1)
   |_,_=>none) (h:P (((es.toList.map (·.2))[i]?).map fun v=>(v,uR t (i+1)))):P r:=by
 subst hr
 by_cases h0:es.size=0
 ·have e:es=#[]:=Array.eq_empty_of_size_eq_zero h0
  subst e
  simpa using h
 ·have h1:es.size=1:=by omega
  obtain⟨x,rfl⟩:=Array.size_eq_one_iff.mp h1
  obtain⟨j,hj⟩:=Array.size_eq_one_iff.mp (hp.trans h1)
  have hi:i=0\/i=1:=by omega
  rcases hi with rfl|rfl
  ·have e1:uR t 0=0:=rfl
   have e2:uR t (0+1)=j+1:=by unfold uR;rw[hj];rfl
   rw[e2] at h
   rw[e1,hj,YJ]
   exact h
  ·have e2:uR t 1=j+1:=by unfold uR;rw[hj];rfl
   rw[e2,hj,YK]
   exact h
theorem DK {Q:Option (Value×Nat)->Shared->Prop} (hf:w.params.followText "set-order" = false) (hw:Wk w s.heap a es ep t) (hn:es.size<=1) (hi:i<=es.size) (h:Q (((es.toList.map (·.2))[i]?).map fun v=>(v,uR t (i+1))) s):wpAny (model prog w) A (setNext a (uR t i) i ep) Q E s:=by
 obtain⟨oa,hoa,hca,hda⟩:=hw.at_
 have hp:t.place.size=es.size:=by
  have:=hw.fit
  simp only[SetTable.fits,ZN,beq_iff_eq] at this
  exact this.1
 unfold setNext
 refine zb (QI hoa hda hw.fit (zb (vO ?_)))
 rw[hf]
 simp only[zl,↓reduceIte]
 split
 ·rename_i hc
  have hc:(!t.plain&&decide (es.size > 1))=true:=hc
  simp at hc
  omega
 ·have hl:wpAny (model prog w) A (if (!t.led&&!es.isEmpty)=true then unsupported "set:maker-not-led" else pure PUnit.unit) (fun _ s'=>s'=s) E s:=by
   rw[hw.led hf]
   exact ze rfl
  refine zb (qr hl (fun _ s' e=>?_) fun _ _ x=>x)
  subst e
  refine ze ?_
  exact S7 (P:=fun r=>Q r s') hp hn hi rfl h
theorem La (hh:A.handled=none) (hf:w.params.followText "set-order" = false) (hn:es.size<=1) (hne:a≠it):Walks prog w A it [it,a] [it] es.size (fun i v=>(es.toList.map (·.2))[i]?=some v) (fun i h=>It h it a (.int (uR t i:Nat) 0) i es.size ep/\Wk w h a es ep t) where
 sub:=fun b hb=>by simp at hb;simp[hb]
 frame:=fun _ _ _ st hk=>⟨st.1.keep fun o e=>hk it (by simp) o e,st.2.keep fun o e=>hk a (by simp) o e⟩
 item:=fun i s Q E hi st hQ=>by
  obtain⟨v,hv⟩:∃ v,(es.toList.map (·.2))[i]?=some v:=⟨(es.toList.map (·.2))[i]'(by simpa using hi),by rw[zI]⟩
  refine Vq (x:=v) st.1 st.2 (fun {A' E' Q'} hq=>DK hf st.2 hn (Q2 hi) (by rw[hv];exact hq)) fun h' hi' k=>?_
  exact hQ v h' s.toks hv ⟨hi',st.2.keep fun o e=>k a o hne e⟩ fun b o hb e=>k b o (fun x=>hb (by simp[x])) e
 done:=fun s Q E st hQ=>by
  refine DG hh st.1 st.2 (fun {A' E' Q'} hq=>DK hf st.2 hn (zg _) (by rw[qo (by simp)];exact hq)) fun h' k=>?_
  exact hQ h' s.toks fun b o hb e=>k b o (fun x=>hb (by simp[x])) e
 self:=fun _ _ _ _ st hQ=>Jk st.1 hQ
end
section
variable {prog:Program} {w:World} {A:Around} {E:Value->Shared->Prop} {s:Shared} {it a:Addr} {i ep:Nat} {es:Array (Int×Value)} {t:SetTable}
theorem Vr (hw:Wk w s.heap a es ep t) (hc:es.size<=sizeLine) {Q:Value->Shared->Prop}
  (h:∀ (it:Addr) (h':Heap) (d:Drawn) (fp:List Addr) (St:Nat->Heap->Prop) (ord:List Value),ord.Perm (es.toList.map (·.2))->(∀ A':Around,A'.handled=none->Walks prog w A' it fp [it] es.size (fun i v=>ord[i]?=some v) St)->St 0 h'->s.heap.objs.size<=it->it < h'.objs.size →
   (∀ b∈fp,b=a\/s.heap.objs.size<=b)->(∀ b∈fp,b < h'.objs.size)->(∀ b o,s.heap.get? b=some o->h'.get? b=some o)->Q (.ref it) { s with heap:=h',drawn:=d }):wpAny (model prog w) A (pyIter (.ref a)) Q E s:=by
 obtain⟨oa,hoa,hca,hda⟩:=id hw.at_
 have hT:s.TypeIs (.ref a) "set" := ⟨oa,hoa,hca⟩
 have hlt:a < s.heap.objs.size:=zv hoa
 refine wpAny_pyIter_slot hT F.slot_set_iter (js F.slot_set_iter hT Bv ?_ (F.args_set_iter_1 _))
 show wpAny _ _ (Builtin.Frozenset.sizeOf a >>= _) _ _ s
 refine zb (m:=Builtin.Frozenset.sizeOf a) (zb (wpAny_setEntries_of hoa hda hw.fit (ze ?_)))
 have hd:wpAny (model prog w) A.in1 (setDrawn a) (fun b s'=>s'=s/\b=(!(w.params.followText "set-order")&&(!t.plain&&decide (es.size > 1)))) E s:=by
  unfold setDrawn
  exact zb (QI hoa hda hw.fit (zb (vO (ze ⟨rfl,rfl⟩))))
 refine zb (qr hd (fun b s' e=>?_) fun _ _ x=>x)
 obtain⟨rfl,rfl⟩:=e
 dsimp only
 by_cases hf:w.params.followText "set-order" = true
 ·rw[hf]
  simp only[kr,Bool.false_and,zl,ZE]
  refine zb (ze ?_)
  refine zb (m:=setEpoch a) (wpAny_setEpoch_of hoa hda hw.fit ?_)
  refine zb (qi (ze ⟨_,rfl, "set_iterator", _,⟨_,zt _ rfl,rfl⟩,jY.lookup,?_⟩))
  have:=h s'.heap.objs.size (s'.heap.push { cls:=.type "set_iterator", data:=.fields #[.int 0 0,.int 0 0,.ref a,.int es.size 0,.int ep 0] }) s'.drawn [s'.heap.objs.size,a] _ _ zX (fun A' hh=>Om hh hf (t:=t) (ep:=ep) (zD hlt) hc)
   ⟨⟨_,zt _ rfl,rfl,rfl⟩,hw.keep fun o e=>zd _ e⟩ (zg _) (by rw[ZZ];exact ZY _) (fun b hb=>by simp at hb;rcases hb with rfl|rfl;exact .inr (zg _);exact .inl rfl)
   (fun b hb=>by simp at hb;rw[ZZ];rcases hb with rfl|rfl;exact ZY _;exact qk hlt) fun b o e=>zd _ e
  exact this
 ·have hf:w.params.followText "set-order" = false:=by simpa using hf
  rw[hf]
  simp only[Bool.not_false,Bool.true_and]
  by_cases hn:es.size<=1
  ·rw[zw (by simp;omega)]
   refine zb (ze ?_)
   refine zb (m:=setEpoch a) (wpAny_setEpoch_of hoa hda hw.fit ?_)
   refine zb (qi (ze ⟨_,rfl, "set_iterator", _,⟨_,zt _ rfl,rfl⟩,jY.lookup,?_⟩))
   have:=h s'.heap.objs.size (s'.heap.push { cls:=.type "set_iterator", data:=.fields #[.int 0 0,.int 0 0,.ref a,.int es.size 0,.int ep 0] }) s'.drawn [s'.heap.objs.size,a] _ _ (List.Perm.refl _) (fun A' hh=>La hh hf hn (t:=t) (ep:=ep) (zD hlt))
    ⟨⟨_,zt _ rfl,rfl,rfl⟩,hw.keep fun o e=>zd _ e⟩ (zg _) (by rw[ZZ];exact ZY _) (fun b hb=>by simp at hb;rcases hb with rfl|rfl;exact .inr (zg _);exact .inl rfl)
    (fun b hb=>by simp at hb;rw[ZZ];rcases hb with rfl|rfl;exact ZY _;exact qk hlt) fun b o e=>zd _ e
   exact this
  ·rw[zk (by rw[hw.non (by omega)];simp;omega)]
   refine zb (YG _ _ _ _ (by simp) fun pl d hp=>?_)
   refine zb (wpAny_newTuple ?_ (by rw[zi,hp.length_eq,kM];exact hc))
   refine zb (m:=setEpoch a) (wpAny_setEpoch_of (zd _ hoa) hda hw.fit ?_)
   refine zb (qi (ze ⟨_,rfl, "set_iterator", _,⟨_,zt _ rfl,rfl⟩,jY.lookup,?_⟩))
   generalize hG:s'.heap.push { cls:=.type "tuple", data:=.seq (pl.map fun (k:Nat)=>rawInt (k:Int)).toArray }=G
   have sG:G.objs.size=s'.heap.objs.size+1:=by rw[<-hG,ZZ]
   have gG:G.get? s'.heap.objs.size=some { cls:=.type "tuple", data:=.seq (pl.map fun (k:Nat)=>rawInt (k:Int)).toArray }:=by rw[<-hG];exact zt _ rfl
   have kG:∀ b o,s'.heap.get? b=some o->G.get? b=some o:=fun b o e=>by rw[<-hG];exact zd _ e
   have ltG:a < G.objs.size:=by rw[sG];exact qk hlt
   have:=h G.objs.size (G.push { cls:=.type "set_iterator", data:=.fields #[.ref s'.heap.objs.size,.int 0 0,.ref a,.int es.size 0,.int ep 0] }) d [G.objs.size,a,s'.heap.objs.size] _ _ (S5 hp) (fun A' hh=>Oo hh (t:=t) (ep:=ep) (tp:=s'.heap.objs.size) (zD ltG) (by rw[sG];exact zD (ZY _)) hp)
    ⟨⟨_,zt _ rfl,rfl,rfl⟩,hw.keep fun o e=>zd _ (kG _ _ e),_,0,zd _ gG,rfl⟩ (by rw[sG];exact Kk _) (by rw[ZZ];exact ZY _)
    (fun b hb=>by simp at hb;rcases hb with rfl|rfl|rfl;exact .inr (by rw[sG];exact Kk _);exact .inl rfl;exact .inr (zg _))
    (fun b hb=>by
     simp at hb
     rw[ZZ]
     rcases hb with rfl|rfl|rfl
     ·exact ZY _
     ·exact qk ltG
     ·exact qk (by rw[sG];exact ZY _)) fun b o e=>zd _ (kG _ _ e)
   exact this
end
end S6
end
section
namespace S6
open PySem PySem.Spec PyProof.Rows P1
section
variable {prog:Program} {w:World} {A:Around} {E:Value->Shared->Prop} {s:Shared} {it a:Addr} {i ep:Nat} {es:Array (Int×Value)} {t:SetTable}
theorem S8 {ord:List Value} {acc:Array Value} {n:Nat} (hn:ord.length=n) (h:ItemsOf (fun i v=>ord[i]?=some v) acc n):acc.toList=ord:=by
 apply List.ext_getElem?
 intro j
 by_cases hj:j < n
 ·have hl:j < acc.size:=by rw[h.1];exact hj
  have e:acc.toList[j]?=some acc[j]:=by simp[hl]
  rw[e,h.2 j acc[j] (by simp[hl])]
 ·rw[qo (by rw[ZU,h.1];omega),qo (by omega)]
theorem Lb {Q:List Value->Shared->Prop} (hh:A.handled=none) (hw:Wk w s.heap a es ep t) (hc:es.size<=sizeLine)
  (hQ:∀ ord h' d tk,ord.Perm (es.toList.map (·.2))->s.heap.objs.size<=h'.objs.size->(∀ b o,s.heap.get? b=some o->h'.get? b=some o)->Q ord { s with heap:=h',drawn:=d,toks:=tk }) :
  wpAny (model prog w) A (collect (.ref a)) Q E s:=by
 obtain⟨oa,hoa,hca,hda⟩:=id hw.at_
 have hT:s.TypeIs (.ref a) "set" := ⟨oa,hoa,hca⟩
 have hlt:a < s.heap.objs.size:=zv hoa
 unfold collect
 refine zb (wpAny_runValue (jI F.entry_proto_collect ?_))
 rw[Around.under_plainId F.plain_proto_collect _]
 show wpAny _ A.in1 (newList [] >>= fun q=>again (.builtin "list.__iadd__" ⟨[q,.ref a],[]⟩)) _ _ s
 refine zb (qi (ze ⟨plainId_quiet F.plain_list_iadd _,jI F.entry_list_iadd ?_⟩))
 rw[Around.under_plainId F.plain_list_iadd _]
 show wpAny _ A.in1 (Builtin.List.listExtendWith (.ref s.heap.objs.size) (.ref a) (.ref s.heap.objs.size)) _ _ _
 unfold Builtin.List.listExtendWith
 generalize hH:(s.heap.push { cls:=.type "list", data:=.seq ([]:List Value).toArray })=H
 have kH:∀ b o,s.heap.get? b=some o->H.get? b=some o:=fun b o e=>by rw[<-hH];exact zd _ e
 have sH:H.objs.size=s.heap.objs.size+1:=by rw[<-hH,ZZ]
 have gH:H.get? s.heap.objs.size=some (seqObj "list" #[] 0):=by rw[<-hH];exact zt _ rfl
 have hw1:Wk w H a es ep t:=hw.keep fun o e=>kH a o e
 refine zb (QE (T := "set") ⟨oa,kH _ _ hoa,hca⟩ ?_)
 have h1:Builtin.List.listSameRef (.ref s.heap.objs.size) (.ref a)=false:=by simp[Builtin.List.listSameRef];exact Nat.ne_of_gt hlt
 simp only[h1,show (Value.type "set" == Value.type "list")=false by decide,show (Value.type "set" == Value.type "tuple")=false by decide,Bool.or_false,zl,ZE]
 refine zb (Vr (s:={ s with heap:=H }) hw1 hc fun it G d fp St ord hp W st0 hit hit2 hfp ai9 kG=>?_)
 refine zb (Qr ?_)
 unfold Builtin.List.listLengthHint
 have hT2:Shared.TypeIs { s with heap:=G,drawn:=d } (.ref a) "set" := ⟨oa,kG _ _ (kH _ _ hoa),hca⟩
 refine zb (wpAny_specialOf (T := "set") hT2 F.slot_set_len.lookup ?_)
 wp_delta
 refine zb (kS (T := "set") (b:=true) hT2 (by rw[isSubtype_type];kernel_rfl) ?_)
 show wpAny _ A.in1 (typeOf (Value.ref a) >>= _) _ _ _
 refine zb (QE (T := "set") hT2 (ze ?_))
 rw[zk (by decide)]
 show wpAny _ A.in1 (Builtin.List.listTouch (Value.ref s.heap.objs.size) >>= fun _=>again (Code.builtin "list.extend.loop" ⟨[Value.ref s.heap.objs.size,Value.ref it,Value.ref s.heap.objs.size],[]⟩)) _ _ _
 have hS:G.get? s.heap.objs.size=some (seqObj "list" #[] 0):=kG _ _ gH
 unfold Builtin.List.listTouch
 refine zb (zb (listUpdate_at hS rfl (listUpdate_at (get?_update_seq hS _) rfl ?_ (by show _<=_;decide) (by show _<=_;decide)) (by show _<=_;decide) (by show _<=_;decide)))
 have hSf:s.heap.objs.size∉fp:=fun hm=>by
  rcases hfp _ hm with e|e
  ·exact Nat.ne_of_gt hlt e
  ·have e:H.objs.size<=s.heap.objs.size:=e
   rw[sH] at e
   exact absurd e (Nat.not_succ_le_self _)
 have hS3:=get?_update_seq (get?_update_seq hS (fun x=>x.push Value.none)) (fun x=>x.pop)
 generalize hU:(G.update s.heap.objs.size (Obj.mapSeq fun x=>x.push Value.none)).update s.heap.objs.size (Obj.mapSeq fun x=>x.pop)=U at hS3
 have keep:∀ b,b≠s.heap.objs.size->U.get? b=G.get? b:=fun b hb=>by rw[<-hU,ja _ _ _ _ hb,ja _ _ _ _ hb]
 have st1:St 0 U:=(W A hh).frame 0 G U st0 fun b hb o e=>by rw[keep b fun x=>hSf (x▸hb)];exact e
 show wpAny _ A.in1 (again _) _ _ { s with heap:=U,drawn:=d }
 have ho:ord.length=es.size:=by rw[hp.length_eq];simp
 refine ze ⟨plainId_quiet F.plain_extend_loop _,codeAny_extend_loopS (W A.in1 hh).toS hc s.heap.objs.size hSf _ es.size 0 { s with heap:=U,drawn:=d } #[] _ rfl (qS _) st1 hS3 (ItemsOf.nil _) fun s' acc' c' mv hS' hacc=>?_⟩
 show wpAny _ A (load s.heap.objs.size >>= _) _ _ s'
 refine zb (wpAny_load hS' (ze ?_))
 show Q acc'.toList s'
 rw[S8 ho hacc]
 have key:=hQ ord s'.heap s'.drawn s'.toks hp (Q2 (zv hS')) fun b ob e=>by
  have hb:=zv e
  refine mv.heap b ob (fun hm=>?_) ((keep b (zD hb)).trans (kG _ _ (kH _ _ e)))
  simp only[QN,Q1,or_false] at hm
  rcases hm with hm|hm
  ·exact zD hb hm
  ·have:H.objs.size<=it:=hit
   rw[sH,<-hm] at this
   exact absurd hb (Nat.not_lt.mpr (Nat.le_of_succ_le this))
 have e1:s'.gens=s.gens:=mv.gens
 have e2:s'.os=s.os:=mv.os
 rw[<-e1,<-e2] at key
 exact key
end
theorem Cp {α:Type} [DecidableEq α]:∀ {xs ys:List α},xs.Nodup->ys.Nodup->(∀ z,z∈xs↔z∈ys)->xs.Perm ys
 |[],ys,_,_,h=>by
  have:ys=[]:=List.eq_nil_iff_forall_not_mem.mpr fun z hz=>by simpa using (h z).mpr hz
  subst this;exact .refl _
 |x::xs,ys,hx,hy,h=>by
  have hm:x∈ys:=(h x).mp (zh ..)
  have hc:=List.nodup_cons.mp hx
  refine ((Cp hc.2 (hy.erase x) fun z=>?_).cons x).trans (List.perm_cons_erase hm).symm
  rw[hy.mem_erase_iff]
  constructor
  ·intro hz
   exact⟨fun e=>hc.1 (e▸hz),(h z).mp (zo _ hz)⟩
  ·intro ⟨hn,hz⟩
   rcases List.mem_cons.mp ((h z).mpr hz) with e|e
   ·exact absurd e hn
   ·exact e
theorem Bf {α β:Type} {R:α->β->Prop}:∀ {l l':List β},l'.Perm l->∀ {ys:List α},Paired R ys l->∃ ys',ys'.Perm ys/\Paired R ys' l':=by
 intro l l' hp
 replace hp:=hp.symm
 induction hp with
 |nil=>intro ys h;exact⟨ys,.refl _,h⟩
 |cons x _ ih=>intro ys h;cases h with|cons r t=>obtain⟨zs,z1,z2⟩:=ih t;exact⟨_::zs,z1.cons _,.cons r z2⟩
 |swap x y l=>intro ys h;cases h with|cons r t=>cases t with|cons r' t'=>exact⟨_,List.Perm.swap _ _ _,.cons r' (.cons r t')⟩
 |trans _ _ ih1 ih2=>intro ys h;obtain⟨zs,z1,z2⟩:=ih1 h;obtain⟨us,u1,u2⟩:=ih2 z2;exact⟨us,u1.trans z1,u2⟩
theorem Oq {α β:Type} {R:α->β->Prop} {xs:List α} {us:List β} {ys:List α} {vs:List β} (h:Paired R xs us) (k:Paired R ys vs):Paired R (xs++ys) (us++vs):=by
 induction h with
 |nil=>exact k
 |cons r _ ih=>exact .cons r ih
section
variable {prog:Program} {w:World} {A:Around} {E:Value->Shared->Prop} {s:Shared} {a:Addr}
def afZ (prog:Program) (w:World) (y:Str) (e:Int×Value):Prop:=∃ tk,e=((strKind prog w).hash y,.str y tk)
structure abL (prog:Program) (w:World) (ys:List Str) (es:Array (Int×Value)) (t:SetTable):Prop where
 rel:Paired (afZ prog w) ys es.toList
 nd:ys.Nodup
 fit:t.fits es.size=true
 led:w.params.followText "set-order" = false->t.led=true
 non:0 < es.size->t.plain=false
def Tx (prog:Program) (w:World) (h:Heap) (a:Addr) (ys:List Str):Prop:=∃ o es ep t,h.get? a=some o/\o.ExactSet/\o.data=.set es ep t/\abL prog w ys es t
theorem Tx.keep {h h':Heap} {ys:List Str} (x:Tx prog w h a ys) (k:∀ o,h.get? a=some o->h'.get? a=some o):Tx prog w h' a ys:=
 let ⟨o,es,ep,t,e,r⟩:=x;⟨o,es,ep,t,k o e,r⟩
theorem abL.size {ys:List Str} {es:Array (Int×Value)} {t:SetTable} (x:abL prog w ys es t):es.size=ys.length:=by rw[x.rel.length];simp
end
def blank (w:World):Obj:={ cls:=.type "set", dict:=none,data:=.set #[] 0 (.fresh 0 0 (!w.params.followText "set-order")) }
structure Adds (prog:Program) (w:World) (S:Addr) (wr:List Addr) {κ:Type} (C:Heap->List κ->Prop) (P:Nat->Value->Prop) (val:Nat->κ) (n:Nat):Prop where
 keep:∀ h h' ys,C h ys->(∀ b o,b∉wr->h.get? b=some o->h'.get? b=some o)->C h' ys
 add:∀ (A:Around) (E:Value->Shared->Prop) (s:Shared) (i:Nat) (v:Value) (ys:List κ) (Q:Bool->Shared->Prop),A.units < cLine->i < n->P i v->C s.heap ys->ys.length<=i →
  (∀ b h' tk ys',Heap.SameBut S s.heap h'->C h' ys'->(∀ z,z∈ys'↔z∈ys\/z=val i)->ys'.length<=i+1->s.toks<=tk->Q b { s with heap:=h',toks:=tk })->wpAny (model prog w) A (setAdd S v) Q E s
section
variable {prog:Program} {w:World} {A:Around} {R:Result->Shared->Prop} {I:Addr} {fp wr:List Addr} {n:Nat} {P:Nat->Value->Prop} {St:Nat->Shared->Prop} {κ:Type} {C:Heap->List κ->Prop} {val:Nat->κ}
theorem Vs (W:WalksS prog w A.in1 I fp wr (fun a b=>b=a) n P St) (S:Addr) (hSf:S∉fp) (ad:Adds prog w S wr C P val n) (hU:A.units+1 < cLine) :
  ∀ (k i:Nat) (s:Shared) (ys:List κ),n - i=k->i<=n->St i s->C s.heap ys->(∀ z,z∈ys↔∃ j,j < i/\z=val j)->ys.length<=i →
   (∀ s' ys',Moved (S::wr) (fun a b=>b=a) s s'->C s'.heap ys'->(∀ z,z∈ys'↔∃ j,j < n/\z=val j)->R (.ok (.ret .none)) s') →
   codeAny (model prog w) A (.builtin "set.update.loop" ⟨[.ref S,.ref I],[]⟩) R s:=by
 have sub:∀ b,b∈wr->b∈S::wr:=fun b q=>zo _ q
 intro k
 induction k with
 |zero=>
  intro i s ys hk hi st hc hm hl hR
  have:i=n:=by omega
  subst this
  refine jI F.entry_set_update_loop ?_
  rw[Around.under_plainId ye _]
  show wpAny _ A.in1 (pyNext (.ref I) >>= _) _ _ s
  refine zb (W.done s _ _ st fun s' mv=>?_)
  show wpAny _ A.in1 (ret Value.none) _ _ s'
  exact ze (hR s' ys (mv.mono sub) (ad.keep _ _ _ hc mv.heap) hm)
 |succ k ih=>
  intro i s ys hk hi st hc hm hl hR
  have hlt:i < n:=by omega
  refine jI F.entry_set_update_loop ?_
  rw[Around.under_plainId ye _]
  show wpAny _ A.in1 (pyNext (.ref I) >>= _) _ _ s
  refine zb (W.item i s _ _ hlt st fun v s' hP st' mv=>?_)
  show wpAny _ A.in1 (holding [v] (setAdd S v) >>= _) _ _ s'
  refine zb (Qr (ad.add _ _ s' i v ys _ hU hlt hP (ad.keep _ _ _ hc mv.heap) hl fun b h' tk ys' sb hc' hm' hl' htk=>?_))
  refine ze ⟨plainId_quiet ye _,ih (i+1) _ ys' (by omega) hlt (W.frame _ s' _ _ st' htk fun b hb o e=>?_) hc' (fun z=>?_) hl' fun s'' ys'' af0 hc'' hm''=>?_⟩
  ·rw[sb.2 b fun q=>hSf (q▸hb)];exact e
  ·rw[hm' z,hm z]
   constructor
   ·rintro (⟨j,hj,e⟩|e)
    ·exact⟨j,by omega,e⟩
    ·exact⟨i,by omega,e⟩
   ·rintro⟨j,hj,e⟩
    by_cases q:j=i
    ·exact .inr (q▸e)
    ·exact .inl ⟨j,by omega,e⟩
  ·refine hR s'' ys'' (Moved.trans W.gtrans ((mv.mono sub).then_heap htk fun b o hb e=>?_) af0) hc'' hm''
   rw[sb.2 b fun q=>hb (by rw[q];exact zh)];exact e
end
section
variable {prog:Program} {w:World} {A:Around} {E:Value->Shared->Prop} {s:Shared}
theorem Ot (x:Value) {Q₁:Value->Shared->Prop} (h:Q₁ (.ref s.heap.objs.size) { s with heap:=s.heap.push (blank w) }) :
  codeAny (model prog w) A (.call (.builtin "set.__new__") ⟨[.type "set", x],[]⟩) (wants Q₁ E) s:=by
 refine codeAny_of_tree ?_
 show wpAny _ A.in1 (do checkBuiltinCall "set.__new__" ⟨[.type "set", x],[]⟩;again (.builtin "set.__new__" ⟨[.type "set", x],[]⟩)) _ _ s
 refine zb (wpAny_of_eq (F.newCall_set_1 x) (ze ⟨plainId_quiet F.plain_set_new _,jI F.entry_set_new ?_⟩))
 rw[Around.under_plainId F.plain_set_new _]
 unfold Builtin.«set.__new__» Builtin.Frozenset.newClass
 have hsub:=sub_set_self
 obtain⟨hp,g,d,tk,os⟩:=s
 dsimp only
 wp_walk
 refine wpAny_askSetting (ze ?_)
 dsimp only
 simp only[newObj]
 refine zb (wpAny_alloc (ze ?_))
 exact ze h
theorem sub_tuple_set:isSubtype (.type "tuple") (.type "set")=pure false:=by rw[isSubtype_type];kernel_rfl
theorem sub_tuple_frozenset:isSubtype (.type "tuple") (.type "frozenset")=pure false:=by rw[isSubtype_type];kernel_rfl
theorem Vt (hU:A.units+60 < cLine) {T:String} {l:Addr} {o:Obj} {κ:Type} {C:Heap->List κ->Prop} {P:Nat->Value->Prop} {val:Nat->κ} {n:Nat} {Q:Value->Shared->Prop} (hh:A.handled=none) (ho:s.heap.get? l=some o) (hcl:o.cls=.type T) (hT:T = "list" ∨ T = "tuple")
  (hit:∀ (A':Around) (E':Value->Shared->Prop) (Q':Value->Shared->Prop) (h0:Heap),A'.handled=none->(∀ b ob,s.heap.get? b=some ob->h0.get? b=some ob) →
   (∀ (h':Heap) (St:Nat->Heap->Prop),(∀ A',A'.handled=none->Walks prog w A' h0.objs.size [h0.objs.size,l] [h0.objs.size] n P St)->St 0 h'->(∀ b ob,h0.get? b=some ob->h'.get? b=some ob)->Q' (.ref h0.objs.size) { s with heap:=h' })->wpAny (model prog w) A' (pyIter (.ref l)) Q' E' { s with heap:=h0 })
  (ad:Adds prog w s.heap.objs.size [s.heap.objs.size+1] C P val n) (hc0:∀ h',h'.get? s.heap.objs.size=some (blank w)->(∀ b ob,s.heap.get? b=some ob->h'.get? b=some ob)->C h' [])
  (h:∀ (h':Heap) (tk:Nat) (ys:List κ),C h' ys->(∀ z,z∈ys↔∃ j,j < n/\z=val j)->(∀ b ob,s.heap.get? b=some ob->h'.get? b=some ob)->Q (.ref s.heap.objs.size) { s with heap:=h',toks:=tk }) :
  wpAny (model prog w) A (call (.type "set") [.ref l]) Q E s:=by
 obtain⟨c,tl,hmro⟩:=F.called_set.mro
 have hmade:=F.called_set.made
 have hsub:=F.called_set.sub
 have hlS:l < s.heap.objs.size:=zv ho
 refine wpAny_call (codeAny_of_tree ?_)
 show wpAny _ _ (callAny (.type "set") _) _ _ _
 refine ze ⟨Code.quiet_builtin _ (by decide +kernel),jI F.entry_type_call ?_⟩
 rw[Around.under_plain (weight_type_call_type "set" [.ref l] []) rfl]
 have h1:=F.called_set.notType
 have h2:=F.called_set.canCreate
 have hct:=F.typeCall_set_1 (.ref l)
 repeat (any_goals (first|assumption|wp_step))
 refine codeAny_mono (Ot (.ref l) (E:=E) (Q₁:=fun obj s₁=>obj=.ref s.heap.objs.size/\s₁={ s with heap:=s.heap.push (blank w) }) ⟨rfl,rfl⟩) fun r s₁ hr=>?_
 cases r with
 |error e=>exact hr
 |ok fl=>
  cases fl with
  |ret obj=>
   obtain⟨rfl,rfl⟩:=hr
   generalize hH:s.heap.push (blank w)=H
   have sH:H.objs.size=s.heap.objs.size+1:=by rw[<-hH,ZZ]
   have hS:H.get? s.heap.objs.size=some (blank w):=by rw[<-hH];exact zt _ rfl
   have kH:∀ b ob,s.heap.get? b=some ob->H.get? b=some ob:=fun b ob e=>by rw[<-hH];exact zd _ e
   have hTS:Shared.TypeIs { s with heap:=H } (.ref s.heap.objs.size) "set" := ⟨_,hS,rfl⟩
   have hli:=F.called_set.init.lookup
   have hbi:=F.called_set.init.bind (.ref s.heap.objs.size)
   repeat (any_goals (first|assumption|wp_step))
   refine codeAny_mono (codeAny_call_builtin (R:=wants (fun r s₂=>r=.none/\∃ h' tk ys,s₂={ s with heap:=h',toks:=tk }/\C h' ys/\(∀ z,z∈ys↔∃ j,j < n/\z=val j)/\(∀ b ob,s.heap.get? b=some ob->h'.get? b=some ob)) E) F.called_set.init.plain F.entry_set_init (check_set_init_1 hTS ?_)) fun r₂ s₂ hr₂=>?_
   ·have hT2:Shared.TypeIs { s with heap:=H } (.ref l) T:=⟨o,kH _ _ ho,hcl⟩
    have i1:isSubtype (.type T) (.type "set")=pure false:=by rcases hT with rfl|rfl;exact F.sub_list_set;exact sub_tuple_set
    have i2:isSubtype (.type T) (.type "frozenset")=pure false:=by rcases hT with rfl|rfl;exact F.sub_list_frozenset;exact sub_tuple_frozenset
    have i3:(Value.type T==Value.type "dict")=false:=by rcases hT with rfl|rfl<;>decide
    show wpAny _ _ (Builtin.«set.__init__» ⟨[.ref s.heap.objs.size,.ref l],[]⟩) _ _ _
    have hup:∀ A':Around,A'.handled=none->A'.units+4 < cLine->wpAny (model prog w) A' (Builtin.Frozenset.updateFrom "set.__init__" s.heap.objs.size (.ref l)) (fun _ s₂=>∃ h' tk ys,s₂={ s with heap:=h',toks:=tk }/\C h' ys/\(∀ z,z∈ys↔∃ j,j < n/\z=val j)/\(∀ b ob,s.heap.get? b=some ob->h'.get? b=some ob)) E { s with heap:=H }:=by
     intro A' hA hA4
     unfold Builtin.Frozenset.updateFrom Builtin.Frozenset.isAnySet
     refine zb (zb (kS hT2 i1 ?_))
     refine kS hT2 i2 ?_
     simp only[zl,ZE]
     refine zb (QE hT2 ?_)
     simp only[i3,zl,ZE]
     refine zb (hit A' _ _ H hA kH fun G St W st0 kG=>?_)
     rw[sH] at W
     rw[sH]
     have hSf:s.heap.objs.size∉[s.heap.objs.size+1,l]:=fun q=>by
      simp only[QN,Q1,or_false] at q
      rcases q with q|q
      ·exact zD (ZY _) q
      ·exact Nat.ne_of_gt hlS q
     refine zb (wpAny_runValue (Vs (W A'.in1 hA).toS s.heap.objs.size hSf ad (by omega) (n - 0) 0 _ [] rfl (qS _) st0 (hc0 G (kG _ _ hS) fun b ob e=>kG _ _ (kH _ _ e)) (fun z=>⟨fun q=>(by cases q),fun ⟨j,q,_⟩=>absurd q (ki _)⟩) (zg _) fun s' ys mv c1 c2=>?_))
     refine ze ⟨s'.heap,s'.toks,ys,?_,c1,c2,fun b ob e=>?_⟩
     ·have e1:s'.gens=s.gens:=mv.gens
      have e2:s'.os=s.os:=mv.os
      have e3:s'.drawn=s.drawn:=mv.drawn
      rw[<-e1,<-e2,<-e3]
     ·have hb:=zv e
      refine mv.heap b ob (fun q=>?_) (kG _ _ (kH _ _ e))
      simp only[QN,Q1,or_false] at q
      rcases q with q|q
      ·exact zD hb q
      ·exact zD (qk hb) q
    have hb:(blank w).data=.set #[] 0 (.fresh 0 0 (!w.params.followText "set-order")):=rfl
    unfold Builtin.«set.__init__» noKeywords
    generalize hUF:Builtin.Frozenset.updateFrom=UF at hup ⊢
    unfold blank at hS
    wp_walk
    refine qr (hup _ (by simp[hh]) (by simp;omega)) (fun u s₂ q=>?_) fun _ _ q=>q
    obtain⟨h',tk,ys,rfl,q⟩:=q
    show wpAny _ _ (ret Value.none) _ _ _
    exact ze ⟨rfl,h',tk,ys,rfl,q⟩
   ·cases r₂ with
    |error e=>exact hr₂
    |ok fl₂=>
     cases fl₂ with
     |ret r=>
      obtain⟨rfl,h',tk,ys,rfl,c1,c2,c3⟩:=hr₂
      repeat (any_goals (first|assumption|wp_step))
      exact h _ _ _ c1 c2 c3
     |_=>exact False.elim hr₂
  |_=>exact False.elim hr
end
end S6
end
section
namespace S6
open PySem
def Ou (xs:Array Nat):Prop:=∀ i j,i < j->j < xs.size->xs.getD i 0 < xs.getD j 0
theorem getD_in {xs:Array Nat} {k a b:Nat} (h:k < xs.size):xs.getD k a=xs.getD k b:=by simp[Array.getD,h]
theorem YL {xs:Array Nat} {k a j:Nat} (h:xs[k]?=some j):k < xs.size/\xs.getD k a=j:=by
 have hk:k < xs.size:=by
  by_cases q:k < xs.size
  ·exact q
  ·rw[kQ (by omega)] at h;cases h
 refine⟨hk,?_⟩
 rw[ZI hk] at h
 cases h
 simp[Array.getD,hk]
theorem YM {xs:Array Nat} {k a j:Nat} (hk:k < xs.size) (h:xs.getD k a=j):xs[k]?=some j:=by
 rw[ZI hk]
 simp[Array.getD,hk] at h
 rw[h]
theorem DN (xs:Array Nat) (j:Nat) (hr:Ou xs):∀ (fuel lo hi:Nat),lo<=hi->hi<=xs.size->hi - lo<=fuel->(∀ k,k < lo->xs.getD k 0 < j)->(∀ k,hi<=k->k < xs.size->j<=xs.getD k 0) →
  SetTable.below.go xs j fuel lo hi<=xs.size/\(∀ k,k < SetTable.below.go xs j fuel lo hi->xs.getD k 0 < j)/\∀ k,SetTable.below.go xs j fuel lo hi<=k->k < xs.size->j<=xs.getD k 0
 |0,lo,hi,h1,h2,h3,h4,h5=>by
  have e:lo=hi:=by omega
  subst e
  unfold SetTable.below.go
  exact⟨h2,h4,h5⟩
 |fuel+1,lo,hi,h1,h2,h3,h4,h5=>by
  unfold SetTable.below.go
  by_cases hl:lo < hi
  ·rw[zk hl]
   dsimp only
   have hm:(lo+hi) / 2 < xs.size:=by omega
   rw[getD_in (b:=0) hm]
   by_cases q:xs.getD ((lo+hi) / 2) 0 < j
   ·rw[zk q]
    refine DN xs j hr fuel _ hi (by omega) h2 (by omega) (fun k hk=>?_) h5
    by_cases e:k=(lo+hi) / 2
    ·rw[e];exact q
    ·exact Nat.lt_trans (hr k _ (by omega) hm) q
   ·rw[zw q]
    refine DN xs j hr fuel lo _ (by omega) (by omega) (by omega) h4 fun k hk hs=>?_
    by_cases e:k=(lo+hi) / 2
    ·rw[e];omega
    ·have:=hr _ k (by omega:(lo+hi) / 2 < k) hs;omega
  ·rw[zw hl]
   have e:lo=hi:=by omega
   subst e
   exact⟨h2,h4,h5⟩
theorem below_at {xs:Array Nat} (hr:Ou xs) (j:Nat):SetTable.below xs j<=xs.size/\(∀ k,k < SetTable.below xs j->xs.getD k 0 < j)/\∀ k,SetTable.below xs j<=k->k < xs.size->j<=xs.getD k 0:=
 DN xs j hr xs.size 0 xs.size (qS _) (zg _) (by omega) (fun k h=>absurd h (ki _)) fun k h h'=>absurd h' (by omega)
theorem DP {xs:Array Nat} (hr:Ou xs) {i j:Nat} (h:xs[i]?=some j):SetTable.below xs j=i:=by
 obtain⟨h1,h2,h3⟩:=below_at hr j
 obtain⟨hi,e⟩:=YL (a:=0) h
 rcases Nat.lt_trichotomy (SetTable.below xs j) i with q|q|q
 ·have:=h3 _ (zg _) (by omega)
  have:=hr _ _ q hi
  omega
 ·exact q
 ·have:=h2 _ q;omega
theorem QK (j:Nat):SetTable.has #[] j=false:=by
 unfold SetTable.has
 simp
structure Tb (t:SetTable):Prop where
 mask:t.mask=7\/t.mask=31\/t.mask=127
 YQ:t.dummies=#[]
 rise:Ou t.place
 bd:∀ j:Nat,j∈t.place->j<=t.mask
 full:t.place.size<=t.mask
theorem zY {t:SetTable} (h:Tb t) {i j:Nat} (e:t.place[i]?=some j):t.slot j=.live i:=by
 unfold SetTable.slot
 simp only[DP h.rise e,e,beq_self_eq_true,qE]
theorem S9 {t:SetTable} (h:Tb t) {j:Nat} (e:j∉t.place):t.slot j=.empty:=by
 unfold SetTable.slot
 have:(t.place[SetTable.below t.place j]?==some j)=false:=by
  cases q:t.place[SetTable.below t.place j]? with
  |none=>rfl
  |some x=>
   by_cases hx:x=j
   ·subst hx;exact absurd (Array.mem_of_getElem? q) e
   ·simp[hx]
 simp only[this,zl,ZE,h.YQ,QK]
def Gb (mask:Nat) (p:SetTable.Probe):SetTable.Probe:=
 if p.more > 0 then { p with j:=p.j+1,more:=p.more - 1 } else
 { p with j:=(SetTable.leap mask p.i p.perturb).1,more:=SetTable.runEnd mask (SetTable.leap mask p.i p.perturb).1 - (SetTable.leap mask p.i p.perturb).1,i:=(SetTable.leap mask p.i p.perturb).1,perturb:=(SetTable.leap mask p.i p.perturb).2 }
theorem Vu (t:SetTable) (p:SetTable.Probe):t.advance p=Gb t.mask p:=rfl
def at0 (mask i perturb:Nat):SetTable.Probe:={ j:=i,more:=SetTable.runEnd mask i - i,i,perturb,dummy:=none }
def iJ (mask:Nat) (h:Int):Nat->SetTable.Probe
 |0=>at0 mask (SetTable.bits h % (mask+1)) (SetTable.bits h)
 |n+1=>Gb mask (iJ mask h n)
theorem QL (mask:Nat) (h:Int):∀ n,(iJ mask h n).dummy=none
 |0=>rfl
 |n+1=>by
  have:=QL mask h n
  unfold iJ Gb
  split<;>exact this
theorem Ld {t:SetTable} (ht:Tb t) (hashAt:Nat->Int) (h:Int):∀ (d fuel n:Nat),d < fuel->(∀ m,n<=m->m < n+d->∃ i,t.place[i]?=some (iJ t.mask h m).j/\hashAt i≠h) →
  ((iJ t.mask h (n+d)).j∉t.place->SetTable.probe.go t hashAt h fuel (iJ t.mask h n)=some (.empty (iJ t.mask h (n+d)).j none)) ∧
  ∀ i,t.place[i]?=some (iJ t.mask h (n+d)).j->hashAt i=h->SetTable.probe.go t hashAt h fuel (iJ t.mask h n)=some (.candidate (iJ t.mask h (n+d)).j i (iJ t.mask h (n+d+1)))
 |0,fuel+1,n,_,_=>by
  refine⟨fun e=>?_,fun i e1 e2=>?_⟩
  ·unfold SetTable.probe.go
   rw[Nat.add_zero] at e ⊢
   rw[S9 ht e]
   simp only[QL]
  ·unfold SetTable.probe.go
   rw[Nat.add_zero] at e1 ⊢
   rw[zY ht e1]
   simp only[e2,beq_self_eq_true,qE,Vu]
   rfl
 |d+1,fuel+1,n,hd,hp=>by
  obtain⟨i,e1,e2⟩:=hp n (zg _) (by omega)
  have ih:=Ld ht hashAt h d fuel (n+1) (by omega) fun m h1 h2=>hp m (by omega) (by omega)
  have e:SetTable.probe.go t hashAt h (fuel+1) (iJ t.mask h n)=SetTable.probe.go t hashAt h fuel (iJ t.mask h (n+1)):=by
   conv=>lhs;unfold SetTable.probe.go
   rw[zY ht e1]
   simp only[beq_iff_eq,e2,ZE,Vu]
   rfl
  rw[e,show n+(d+1)=n+1+d by omega]
  exact ih
theorem Ov:∀ (xs ys:List Nat),xs.Nodup->(∀ x,x∈xs->x∈ys)->xs.length<=ys.length
 |[],_,_,_=>qS _
 |x::xs,ys,hn,hs=>by
  have hc:=List.nodup_cons.mp hn
  have hm:=hs x (zh ..)
  have:=Ov xs (ys.erase x) hc.2 fun z hz=>(List.mem_erase_of_ne (fun e:z=x=>hc.1 (by rw[<-e];exact hz))).mpr (hs z (zo _ hz))
  have:=List.length_erase_of_mem hm
  have:0 < ys.length:=List.length_pos_of_mem hm
  simp only[qv]
  omega
def nx (M i:Nat):Nat:=(i * 5+1) % M
def Le (M:Nat):Nat->Nat->Nat
 |0,i=>i
 |k+1,i=>Le M k (nx M i)
theorem Cq (M:Nat):∀ (a b i:Nat),Le M (a+b) i=Le M b (Le M a i)
 |0,b,i=>by rw[JE];rfl
 |a+1,b,i=>by rw[Nat.succ_add];exact Cq M a b _
theorem af2:(∀ r,r < 8->∃ k,k < 8/\Le 8 k 0=r)/\Le 8 8 0=0:=by decide +kernel
theorem adS:(∀ r,r < 32->∃ k,k < 32/\Le 32 k 0=r)/\Le 32 32 0=0:=by decide +kernel
theorem abM:(∀ r,r < 128->∃ k,k < 128/\Le 128 k 0=r)/\Le 128 128 0=0:=by decide +kernel
theorem cyc {M:Nat} (h:(∀ r,r < M->∃ k,k < M/\Le M k 0=r)/\Le M M 0=0) {i r:Nat} (hi:i < M) (hr:r < M):∃ k,k < M/\Le M k i=r:=by
 obtain⟨a,ha,rfl⟩:=h.1 i hi
 obtain⟨b,hb,rfl⟩:=h.1 r hr
 by_cases q:a<=b
 ·exact⟨b - a,by omega,by rw[<-Cq,show a+(b - a)=b by omega]⟩
 ·exact⟨M - a+b,by omega,by rw[<-Cq,show a+(M - a+b)=M+b by omega,Cq,h.2]⟩
theorem af4 {mask:Nat} (h:mask=7\/mask=31\/mask=127) {i r:Nat} (hi:i < mask+1) (hr:r < mask+1):∃ k,k < mask+1/\Le (mask+1) k i=r:=by
 rcases h with rfl|rfl|rfl
 ·exact cyc af2 hi hr
 ·exact cyc adS hi hr
 ·exact cyc abM hi hr
def lp (mask:Nat) (h:Int):Nat->Nat×Nat
 |0=>(SetTable.bits h % (mask+1),SetTable.bits h)
 |l+1=>SetTable.leap mask (lp mask h l).1 (lp mask h l).2
theorem DQ (mask i:Nat):i<=SetTable.runEnd mask i/\SetTable.runEnd mask i<=i+9:=by unfold SetTable.runEnd;split<;>omega
theorem Vv {mask i:Nat} (h:i<=mask):SetTable.runEnd mask i<=mask:=by unfold SetTable.runEnd;split<;>omega
theorem yG {mask:Nat} {h:Int} {s i p:Nat} (e:iJ mask h s=at0 mask i p):∀ k,k<=SetTable.runEnd mask i - i->iJ mask h (s+k)={ at0 mask i p with j:=i+k,more:=SetTable.runEnd mask i - i - k }
 |0,_=>by rw[Nat.add_zero,e];rfl
 |k+1,hk=>by
  have ih:=yG e k (by omega)
  show Gb mask (iJ mask h (s+k))=_
  rw[ih]
  unfold Gb
  rw[zk (by dsimp only;omega)]
  rfl
theorem Lf {mask:Nat} {h:Int} {s i p:Nat} (e:iJ mask h s=at0 mask i p):iJ mask h (s+(SetTable.runEnd mask i - i)+1)=at0 mask (SetTable.leap mask i p).1 (SetTable.leap mask i p).2:=by
 show Gb mask (iJ mask h (s+(SetTable.runEnd mask i - i)))=_
 rw[yG e _ (zg _)]
 unfold Gb
 rw[zw (by dsimp only;omega)]
 rfl
theorem Vw (mask:Nat) (h:Int):∀ l,∃ s,s<=10 * l/\iJ mask h s=at0 mask (lp mask h l).1 (lp mask h l).2
 |0=>⟨0,by omega,rfl⟩
 |l+1=>by
  obtain⟨s,hs,e⟩:=Vw mask h l
  have:=DQ mask (lp mask h l).1
  exact⟨_,by omega,Lf e⟩
theorem adT (mask:Nat) (h:Int):∀ l,(lp mask h l).1 < mask+1
 |0=>Nat.mod_lt _ (Nat.succ_pos _)
 |l+1=>Nat.mod_lt _ (Nat.succ_pos _)
theorem Lg (mask:Nat) (h:Int):∀ l,(lp mask h l).2 * 32 ^ l<=SetTable.bits h
 |0=>by simp[lp]
 |l+1=>by
  have ih:=Lg mask h l
  show (lp mask h l).2 / 32 * 32 ^ (l+1)<=_
  have h1:(lp mask h l).2 / 32 * 32<=(lp mask h l).2:=Nat.div_mul_le_self _ _
  have h2:=Nat.mul_le_mul_right (32 ^ l) h1
  rw[Nat.pow_succ,Nat.mul_comm (32 ^ l) 32,<-Nat.mul_assoc]
  exact z4 h2 ih
theorem YS (h:Int):SetTable.bits h < 18446744073709551616:=by
 unfold SetTable.bits
 have h1:h % 18446744073709551616 < 18446744073709551616:=Int.emod_lt_of_pos _ (by decide)
 have h2:0<=h % 18446744073709551616:=Int.emod_nonneg _ (by decide)
 show (h % 18446744073709551616).toNat < _
 omega
theorem QM (mask:Nat) (h:Int):∀ k,(lp mask h (12+k)).2 < 32
 |0=>by
  have h1:=Lg mask h 12
  have h2:=YS h
  rw[show (32:Nat) ^ 12=1152921504606846976 from rfl] at h1
  show (lp mask h 12).2 < 32
  omega
 |k+1=>by
  have:=QM mask h k
  show (lp mask h (12+k)).2 / 32 < 32
  omega
theorem adU (mask:Nat) (h:Int):∀ k,(lp mask h (12+k)).1=Le (mask+1) k (lp mask h 12).1:=by
 have step:∀ k,(lp mask h (12+k+1)).1=nx (mask+1) (lp mask h (12+k)).1:=fun k=>by
  have:=QM mask h k
  show ((lp mask h (12+k)).1 * 5+1+(lp mask h (12+k)).2 / 32) % (mask+1)=_
  rw[show (lp mask h (12+k)).2 / 32=0 by omega]
  rfl
 have comm:∀ k i,Le (mask+1) k (nx (mask+1) i)=nx (mask+1) (Le (mask+1) k i):=fun k=>by
  induction k with
  |zero=>intro i;rfl
  |succ k ih=>intro i;exact ih _
 intro k
 induction k with
 |zero=>rfl
 |succ k ih=>
  rw[show 12+(k+1)=12+k+1 by omega,step,ih]
  exact (comm k _).symm
theorem Vx {mask:Nat} (hm:mask=7\/mask=31\/mask=127) (h:Int) {r:Nat} (hr:r < mask+1):∃ l,l < mask+13/\(lp mask h l).1=r:=by
 obtain⟨k,hk,e⟩:=af4 hm (adT mask h 12) hr
 exact⟨12+k,by omega,by rw[adU,e]⟩
theorem gap {t:SetTable} (h:Tb t):∃ r,r < t.mask+1/\r∉t.place:=by
 by_cases q:∃ r,r < t.mask+1/\r∉t.place
 ·exact q
 ·exfalso
  have:=Ov (List.range (t.mask+1)) t.place.toList KU fun x hx=>by
   rw[Kx] at hx
   by_cases q':x∈t.place
   ·exact Array.mem_toList_iff.mpr q'
   ·exact absurd ⟨x,hx,q'⟩ q
  rw[kM,ZU] at this
  have:=h.full
  omega
theorem Vy {t:SetTable} (ht:Tb t) (h:Int):∃ n,n < 10 * SetTable.turns t.mask/\(iJ t.mask h n).j∉t.place:=by
 obtain⟨r,hr,hn⟩:=gap ht
 obtain⟨l,hl,e⟩:=Vx ht.mask h hr
 obtain⟨s,hs,e'⟩:=Vw t.mask h l
 refine⟨s,by unfold SetTable.turns;omega,?_⟩
 rw[e']
 show (lp t.mask h l).1∉_
 rw[e];exact hn
theorem Ox {t:SetTable} (ht:Tb t) (h:Int):∃ n,n < 10 * SetTable.turns t.mask/\(iJ t.mask h n).j∉t.place/\∀ m,m < n->(iJ t.mask h m).j∈t.place:=by
 obtain⟨n,hn,hf⟩:=Vy ht h
 have:∀ k,(∃ n,n<=k/\(iJ t.mask h n).j∉t.place/\∀ m,m < n->(iJ t.mask h m).j∈t.place)\/∀ m,m<=k->(iJ t.mask h m).j∈t.place:=fun k=>by
  induction k with
  |zero=>
   by_cases q:(iJ t.mask h 0).j∈t.place
   ·exact .inr fun m hm=>by rw[show m=0 by omega];exact q
   ·exact .inl ⟨0,zg _,q,fun m hm=>absurd hm (ki _)⟩
  |succ k ih=>
   rcases ih with⟨n,h1,h2⟩|ih
   ·exact .inl ⟨n,by omega,h2⟩
   ·by_cases q:(iJ t.mask h (k+1)).j∈t.place
    ·exact .inr fun m hm=>by
      by_cases e:m=k+1
      ·rw[e];exact q
      ·exact ih m (by omega)
    ·exact .inl ⟨k+1,zg _,q,fun m hm=>ih m (by omega)⟩
 rcases this n with⟨m,h1,h2,h3⟩|q
 ·exact⟨m,by omega,h2,h3⟩
 ·exact absurd (q n (zg _)) hf
theorem gD {α:Type} (xs:Array α) (k:Nat) (a:α):xs.getD k a=xs[k]?.getD a:=by
 by_cases h:k < xs.size
 ·rw[ZI h];simp[Array.getD,h]
 ·rw[kQ (by omega)];simp[Array.getD,h]
structure Tok (t:SetTable) (es:Array (Int×Value)):Prop extends Tb t where
 size:t.place.size=es.size
 reach:∀ (i j:Nat) e,t.place[i]?=some j->es[i]?=some e->∃ n,n < 10 * SetTable.turns t.mask/\(iJ t.mask e.1 n).j=j/\∀ m,m < n->(iJ t.mask e.1 m).j∈t.place
theorem yH {α:Type} (xs:Array α) (p:Nat) (x:α):(SetTable.insertAt xs p x).toList=xs.toList.take p++x::xs.toList.drop p:=by
 unfold SetTable.insertAt
 simp[Array.toList_extract,List.take_of_length_le]
theorem Cd {α:Type} {xs:Array α} {p:Nat} (hp:p<=xs.size) (x:α) (i:Nat):(SetTable.insertAt xs p x)[i]?=if i < p then xs[i]? else if i=p then some x else xs[i - 1]?:=by
 rw[<-qq,yH,List.getElem?_append]
 have hl:(xs.toList.take p).length=p:=by rw[ku,ZU];omega
 rw[hl]
 by_cases h1:i < p
 ·rw[zk h1,zk h1,List.getElem?_take,zk h1,qq]
 ·rw[zw h1,zw h1]
  by_cases h2:i=p
  ·rw[zk h2,h2,Nat.sub_self];rfl
  ·rw[zw h2,show i - p=(i - p - 1)+1 by omega,ZH,List.getElem?_drop,qq,show p+(i - p - 1)=i - 1 by omega]
theorem uT {α:Type} (xs:Array α) (p:Nat) (x:α):(SetTable.insertAt xs p x).size=xs.size+1:=by
 rw[<-ZU,yH,z5,qv,ku,kU,ZU]
 omega
theorem QS {α:Type} {xs:Array α} {p:Nat} {x y:α}:y∈SetTable.insertAt xs p x↔y∈xs\/y=x:=by
 rw[<-Array.mem_toList_iff,yH,List.mem_append,QN,<-Array.mem_toList_iff]
 constructor
 ·rintro (h|h|h)
  ·exact .inl (List.mem_of_mem_take h)
  ·exact .inr h
  ·exact .inl (List.mem_of_mem_drop h)
 ·rintro (h|h)
  ·rw[<-List.take_append_drop p xs.toList,List.mem_append] at h
   rcases h with h|h
   ·exact .inl h
   ·exact .inr (.inr h)
  ·exact .inr (.inl h)
theorem Vz {xs:Array Nat} (hr:Ou xs) {j:Nat} (hj:j∉xs):Ou (SetTable.insertAt xs (SetTable.below xs j) j):=by
 obtain⟨h1,h2,h3⟩:=below_at hr j
 intro a b hab hb
 rw[uT] at hb
 have ga:∀ i,i < xs.size+1->(SetTable.insertAt xs (SetTable.below xs j) j).getD i 0=if i < SetTable.below xs j then xs.getD i 0 else if i=SetTable.below xs j then j else xs.getD (i - 1) 0:=fun i hi=>by
  rw[gD,Cd h1]
  by_cases q1:i < SetTable.below xs j
  ·rw[zk q1,zk q1,<-gD]
  ·rw[zw q1,zw q1]
   by_cases q2:i=SetTable.below xs j
   ·rw[zk q2,zk q2];rfl
   ·rw[zw q2,zw q2,<-gD]
 have gt:∀ k,SetTable.below xs j<=k->k < xs.size->j < xs.getD k 0:=fun k hk hs=>by
  have q:=h3 k hk hs
  rcases Nat.lt_or_eq_of_le q with q|q
  ·exact q
  ·exact absurd (Array.mem_of_getElem? (YM hs q.symm)) hj
 rw[ga a (by omega),ga b hb]
 by_cases a1:a < SetTable.below xs j
 ·rw[zk a1]
  by_cases b1:b < SetTable.below xs j
  ·rw[zk b1];exact hr a b hab (by omega)
  ·rw[zw b1]
   have:=h2 a a1
   by_cases b2:b=SetTable.below xs j
   ·rw[zk b2];exact this
   ·rw[zw b2];exact Nat.lt_trans this (gt _ (by omega) (by omega))
 ·rw[zw a1]
  by_cases a2:a=SetTable.below xs j
  ·rw[zk a2,zw (by omega),zw (by omega)]
   exact gt _ (by omega) (by omega)
  ·rw[zw a2,zw (by omega),zw (by omega)]
   exact hr _ _ (by omega) (by omega)
theorem YT {t:SetTable} {es:Array (Int×Value)} (h:Tok t es) {hh:Int} {x:Value} {n:Nat} (hn:n < 10 * SetTable.turns t.mask) (hf:(iJ t.mask hh n).j∉t.place) (hp:∀ m,m < n->(iJ t.mask hh m).j∈t.place) (hj:(iJ t.mask hh n).j<=t.mask) (hs:es.size+1<=t.mask) :
  Tok (t.put (iJ t.mask hh n).j).1 (SetTable.insertAt es (t.put (iJ t.mask hh n).j).2 (hh,x))/\(t.put (iJ t.mask hh n).j).1.led=t.led/\(t.put (iJ t.mask hh n).j).1.plain=t.plain/\(t.put (iJ t.mask hh n).j).1.mask=t.mask:=by
 have hd:=h.YQ
 have he:t.put (iJ t.mask hh n).j=({ t with place:=SetTable.insertAt t.place (SetTable.below t.place (iJ t.mask hh n).j) (iJ t.mask hh n).j,dummies:=#[] },SetTable.below t.place (iJ t.mask hh n).j):=by
  unfold SetTable.put
  rw[hd]
  simp only[QK,zl,ZE]
 rw[he]
 have hz:=h.size
 have hb:=(below_at h.rise (iJ t.mask hh n).j).1
 refine⟨{ mask:=h.mask,YQ:=rfl,rise:=Vz h.rise hf,bd:=fun j hj'=>?_,full:=?_,size:=?_,reach:=fun i j e h1 h2=>?_ },rfl,rfl,rfl⟩
 ·rcases QS.mp hj' with q|q
  ·exact h.bd j q
  ·rw[q];exact hj
 ·show (SetTable.insertAt _ _ _).size<=t.mask
  rw[uT];omega
 ·show (SetTable.insertAt _ _ _).size=_
  rw[uT,uT,hz]
 ·have h1:(SetTable.insertAt t.place (SetTable.below t.place (iJ t.mask hh n).j) (iJ t.mask hh n).j)[i]?=some j:=h1
  rw[Cd hb] at h1
  rw[Cd (by rw[<-hz];exact hb)] at h2
  have up:∀ e':Int×Value,(∃ n,n < 10 * SetTable.turns t.mask/\(iJ t.mask e'.1 n).j=j/\∀ m,m < n->(iJ t.mask e'.1 m).j∈t.place)->∃ n',n' < 10 * SetTable.turns t.mask/\(iJ t.mask e'.1 n').j=j/\∀ m,m < n'->(iJ t.mask e'.1 m).j∈SetTable.insertAt t.place (SetTable.below t.place (iJ t.mask hh n).j) (iJ t.mask hh n).j:=
   fun e' ⟨n,a,b,c⟩=>⟨n,a,b,fun m hm=>QS.mpr (.inl (c m hm))⟩
  by_cases q1:i < SetTable.below t.place (iJ t.mask hh n).j
  ·rw[zk q1] at h1 h2
   exact up e (h.reach i j e h1 h2)
  ·rw[zw q1] at h1 h2
   by_cases q2:i=SetTable.below t.place (iJ t.mask hh n).j
   ·rw[zk q2] at h1 h2
    cases h1;cases h2
    exact up (hh,x) ⟨n,hn,rfl,hp⟩
   ·rw[zw q2] at h1 h2
    exact up e (h.reach (i - 1) j e h1 h2)
theorem VB {mask:Nat} (h:Int):∀ n,(iJ mask h n).j+(iJ mask h n).more<=mask
 |0=>by
  have h1:SetTable.bits h % (mask+1) < mask+1:=Nat.mod_lt _ (Nat.succ_pos _)
  have:=Vv (mask:=mask) (i:=SetTable.bits h % (mask+1)) (by omega)
  have:=DQ mask (SetTable.bits h % (mask+1))
  show SetTable.bits h % (mask+1)+(SetTable.runEnd mask (SetTable.bits h % (mask+1)) - SetTable.bits h % (mask+1))<=mask
  omega
 |n+1=>by
  have ih:=VB (mask:=mask) h n
  show (Gb mask (iJ mask h n)).j+(Gb mask (iJ mask h n)).more<=mask
  unfold Gb
  split
  ·dsimp only;omega
  ·dsimp only
   generalize hl:(SetTable.leap mask (iJ mask h n).i (iJ mask h n).perturb).1=i
   have h1:i < mask+1:=by rw[<-hl];exact Nat.mod_lt _ (Nat.succ_pos _)
   have:=Vv (mask:=mask) (i:=i) (by omega)
   have:=DQ mask i
   omega
theorem Oz {mask:Nat} (h:Int) (n:Nat):(iJ mask h n).j<=mask:=by have:=VB (mask:=mask) h n;omega
def OD (owner:Array (Option Nat)) (j:Nat):Prop:=(owner.getD j (some 0)).isNone=false
theorem Hj {mask:Nat} {h:Int} {owner:Array (Option Nat)}:∀ (fuel l s j:Nat),iJ mask h s=at0 mask (lp mask h l).1 (lp mask h l).2->s<=10 * l->(∀ m,m < s->OD owner (iJ mask h m).j) →
  SetTable.layClean.free mask owner fuel (lp mask h l).1 (lp mask h l).2=some j->∃ n,n < 10 * (l+fuel)/\(iJ mask h n).j=j/\(owner.getD j (some 0)).isNone=true/\∀ m,m < n->OD owner (iJ mask h m).j
 |0,l,s,j,_,_,_,e=>by unfold SetTable.layClean.free at e;cases e
 |fuel+1,l,s,j,hs,hl,ho,e=>by
  have hr:=DQ mask (lp mask h l).1
  unfold SetTable.layClean.free at e
  cases hf:(List.range (SetTable.runEnd mask (lp mask h l).1+1 - (lp mask h l).1)).find? fun k=>(owner.getD ((lp mask h l).1+k) (some 0)).isNone with
  |some k=>
   rw[hf] at e
   cases e
   obtain⟨h1,h2,h3⟩:=List.find?_range_eq_some.mp hf
   rw[Kx] at h2
   refine⟨s+k,by omega,?_,h1,fun m hm=>?_⟩
   ·rw[yG hs k (by omega)]
   ·by_cases q:m < s
    ·exact ho m q
    ·have h4:=h3 (m - s) (by omega)
     rw[show m=s+(m - s) by omega,yG hs (m - s) (by omega)]
     simpa [OD] using h4
  |none=>
   rw[hf] at e
   have h3:=List.find?_range_eq_none.mp hf
   obtain⟨n,a,b⟩:=Hj fuel (l+1) _ j (Lf hs) (by omega) (fun m hm=>by
    by_cases q:m < s
    ·exact ho m q
    ·have h4:=h3 (m - s) (by omega)
     rw[show m=s+(m - s) by omega,yG hs (m - s) (by omega)]
     simpa [OD] using h4) e
   exact⟨n,by omega,b⟩
theorem Hl {mask:Nat} {h:Int} {owner:Array (Option Nat)}:∀ (fuel l:Nat),SetTable.layClean.free mask owner fuel (lp mask h l).1 (lp mask h l).2=none->∀ l',l<=l'->l' < l+fuel->OD owner (lp mask h l').1
 |0,l,_,l',h1,h2=>by omega
 |fuel+1,l,e,l',h1,h2=>by
  have hr:=DQ mask (lp mask h l).1
  unfold SetTable.layClean.free at e
  cases hf:(List.range (SetTable.runEnd mask (lp mask h l).1+1 - (lp mask h l).1)).find? fun k=>(owner.getD ((lp mask h l).1+k) (some 0)).isNone with
  |some k=>rw[hf] at e;cases e
  |none=>
   rw[hf] at e
   have h3:=List.find?_range_eq_none.mp hf
   by_cases q:l'=l
   ·subst q
    have h4:=h3 0 (by omega)
    simpa [OD] using h4
   ·exact Hl fuel (l+1) e l' (by omega) (by omega)
structure Ow (mask:Nat) (hs:List Int) (owner:Array (Option Nat)):Prop where
 size:owner.size=mask+1
 lt:∀ (j idx:Nat),owner[j]?=some (some idx)->idx < hs.length
 all:∀ (idx:Nat) h,hs[idx]?=some h->∃ j,owner[j]?=some (some idx)/\∃ n,n < 10 * SetTable.turns mask/\(iJ mask h n).j=j/\∀ m,m < n->OD owner (iJ mask h m).j
 inj:∀ (j j' idx:Nat),owner[j]?=some (some idx)->owner[j']?=some (some idx)->j=j'
theorem VD {mask:Nat} {hs:List Int} {owner:Array (Option Nat)} (o:Ow mask hs owner) {j:Nat} (hj:j<=mask):OD owner j↔∃ idx,owner[j]?=some (some idx):=by
 unfold OD
 have hlt:j < owner.size:=by rw[o.size];omega
 rw[gD,ZI hlt]
 cases owner[j] with
 |none=>simp
 |some i=>simp
theorem Tc {f:Nat->Nat}:∀ {xs:List Nat},xs.Nodup->(∀ x∈xs,∀ y∈xs,f x=f y->x=y)->(xs.map f).Nodup:=fun {xs} hn hi=>
 List.pairwise_map.mpr (ka (fun ha hb hne e=>hne (hi _ ha _ hb e)) hn)
theorem YW {mask:Nat} {hs:List Int} {owner:Array (Option Nat)} (o:Ow mask hs owner) (hl:hs.length<=mask):∃ r,r < mask+1/\¬ OD owner r:=by
 by_cases q:∃ r,r < mask+1/\¬ OD owner r
 ·exact q
 ·exfalso
  have all:∀ r,r < mask+1->∃ idx,owner[r]?=some (some idx):=fun r hr=>by
   by_cases q':OD owner r
   ·exact (VD o (by omega)).mp q'
   ·exact absurd ⟨r,hr,q'⟩ q
  have f:∀ r,r < mask+1->owner[r]?=some (some ((owner[r]?.getD none).getD 0)):=fun r hr=>by
   obtain⟨idx,e⟩:=all r hr
   rw[e];rfl
  have:=Ov ((List.range (mask+1)).map fun r=>(owner[r]?.getD none).getD 0) (List.range hs.length) (Tc KU fun x hx y hy e=>by
   rw[Kx] at hx hy
   have e1:=f x hx
   have e2:=f y hy
   rw[e] at e1
   exact o.inj x y _ e1 e2) fun x hx=>by
    obtain⟨r,hr,rfl⟩:=List.mem_map.mp hx
    rw[Kx] at hr
    exact List.mem_range.mpr (o.lt r _ (f r hr))
  rw[zi,kM,kM] at this
  omega
theorem YX {mask:Nat} (hm:mask=7\/mask=31\/mask=127) {hs:List Int} {owner:Array (Option Nat)} (o:Ow mask hs owner) (hl:hs.length<=mask) (h:Int) :
  ∃ j,SetTable.layClean.free mask owner (SetTable.turns mask) (SetTable.bits h % (mask+1)) (SetTable.bits h)=some j/\Ow mask (hs++[h]) (owner.setIfInBounds j (some hs.length)):=by
 obtain⟨r,hr,hn⟩:=YW o hl
 cases hf:SetTable.layClean.free mask owner (SetTable.turns mask) (SetTable.bits h % (mask+1)) (SetTable.bits h) with
 |none=>
  obtain⟨l,hl',e⟩:=Vx hm h hr
  have:=Hl (h:=h) (owner:=owner) (SetTable.turns mask) 0 hf l (qS _) (by unfold SetTable.turns;omega)
  rw[e] at this
  exact absurd this hn
 |some j=>
  obtain⟨n,h1,h2,h3,h4⟩:=Hj (h:=h) (owner:=owner) (SetTable.turns mask) 0 0 j rfl (zg _) (fun m hm=>absurd hm (ki _)) hf
  rw[JE] at h1
  have hj:j<=mask:=by rw[<-h2];exact Oz h n
  have hjs:j < owner.size:=by rw[o.size];omega
  have get:∀ k:Nat,(owner.setIfInBounds j (some hs.length))[k]?=if k=j then some (some hs.length) else owner[k]?:=fun k=>by
   rw[Array.getElem?_setIfInBounds]
   by_cases q:k=j
   ·rw[zk q,zk q.symm,zk hjs]
   ·rw[zw q,zw (fun e=>q e.symm)]
  have old:∀ k idx:Nat,owner[k]?=some (some idx)->k≠j:=fun k idx e q=>by
   subst q
   rw[gD,e] at h3
   cases h3
  have up:∀ k,OD owner k->OD (owner.setIfInBounds j (some hs.length)) k:=fun k q=>by
   unfold OD at q ⊢
   rw[gD] at q ⊢
   rw[get]
   by_cases e:k=j
   ·rw[zk e];rfl
   ·rw[zw e];exact q
  refine⟨j,rfl,⟨by rw[Array.size_setIfInBounds];exact o.size,fun k idx e=>?_,fun idx g e=>?_,fun a b idx e1 e2=>?_⟩⟩
  ·rw[get] at e
   rw[z5]
   by_cases q:k=j
   ·rw[zk q] at e;cases e;simp
   ·rw[zw q] at e;have:=o.lt k idx e;simp;omega
  ·by_cases q:idx < hs.length
   ·rw[Zs q] at e
    obtain⟨k,e1,n',a,b,c⟩:=o.all idx g e
    exact⟨k,by rw[get,zw (old k idx e1)];exact e1,n',a,b,fun m hm=>up _ (c m hm)⟩
   ·rw[ZT (by omega)] at e
    have:idx - hs.length=0:=by
     by_cases q':idx - hs.length=0
     ·exact q'
     ·rw[qo (by simp;omega)] at e;cases e
    rw[this] at e
    cases e
    have:idx=hs.length:=by omega
    subst this
    exact⟨j,by rw[get,zk rfl],n,h1,h2,fun m hm=>up _ (h4 m hm)⟩
  ·rw[get] at e1 e2
   by_cases q1:a=j
   ·by_cases q2:b=j
    ·rw[q1,q2]
    ·rw[zk q1] at e1;rw[zw q2] at e2
     cases e1
     have:=o.lt b _ e2;omega
   ·by_cases q2:b=j
    ·rw[zw q1] at e1;rw[zk q2] at e2
     cases e2
     have:=o.lt a _ e1;omega
    ·rw[zw q1] at e1;rw[zw q2] at e2
     exact o.inj a b idx e1 e2
theorem abN (mask:Nat):Ow mask [] (Array.replicate (mask+1) none):=by
 have no:∀ (j idx:Nat),(Array.replicate (mask+1) (none:Option Nat))[j]?≠some (some idx):=fun j idx e=>by
  rw[Array.getElem?_replicate] at e
  split at e<;>cases e
 exact⟨Array.size_replicate,fun j idx e=>absurd e (no j idx),fun idx h e=>by simp at e,fun j j' idx e=>absurd e (no j idx)⟩
theorem abO {mask:Nat} (hm:mask=7\/mask=31\/mask=127) (hs:List Int) (hl:hs.length<=mask):∃ owner,SetTable.layClean mask hs.toArray=some owner/\Ow mask hs owner:=by
 have key:∀ (ys xs:List Int) (owner:Array (Option Nat)),Ow mask xs owner->xs.length+ys.length<=mask->∃ VF,ys.foldl (fun (acc:Option (Array (Option Nat)×Nat)) h=>do
   let (owner,k) <-acc
   let j <-SetTable.layClean.free mask owner (SetTable.turns mask) (SetTable.bits h % (mask+1)) (SetTable.bits h)
   pure (owner.setIfInBounds j (some k),k+1)) (some (owner,xs.length))=some (VF,xs.length+ys.length)/\Ow mask (xs++ys) VF:=by
  intro ys
  induction ys with
  |nil=>intro xs owner o _;exact⟨owner,rfl,by rw[km];exact o⟩
  |cons y ys ih=>
   intro xs owner o hl
   rw[qv] at hl
   obtain⟨j,e,o'⟩:=YX hm o (by omega) y
   obtain⟨ow,e2,o2⟩:=ih (xs++[y]) _ o' (by simp;omega)
   refine⟨ow,?_,by rw[List.append_assoc] at o2;exact o2⟩
   rw[QA]
   simp only[Option.bind_eq_bind,Option.bind_some,e,pure]
   rw[show (xs++[y]).length=xs.length+1 by simp] at e2
   rw[qv,show xs.length+(ys.length+1)=xs.length+1+ys.length by omega]
   exact e2
 obtain⟨ow,e,o⟩:=key hs [] _ (abN mask) (by simpa using hl)
 refine⟨ow,?_,by simpa using o⟩
 unfold SetTable.layClean
 rw[List.foldl_toArray]
 exact congrArg (Option.map (·.1)) e
theorem Ja {α β:Type} {f:α->Option β} {g:α->β}:∀ {xs:List α},(∀ x∈xs,f x=some (g x))->xs.filterMap f=xs.map g
 |[],_=>rfl
 |x::xs,h=>by
  rw[ky,h x (zh ..),zr,Ja fun y hy=>h y (zo _ hy)]
theorem YZ {xs:List Nat} (h:xs.Pairwise (· < ·)):Ou xs.toArray:=by
 intro i j hij hj
 have hj':j < xs.length:=by simpa using hj
 rw[gD,gD,List.getElem?_toArray,List.getElem?_toArray,zI hj',zI (by omega)]
 exact List.pairwise_iff_getElem.mp h i j (by omega) hj' hij
theorem Td {t:SetTable} {es:Array (Int×Value)} {wanted:Nat} (hm:SetTable.sizeAbove wanted - 1=7\/SetTable.sizeAbove wanted - 1=31\/SetTable.sizeAbove wanted - 1=127) (hl:es.size<=SetTable.sizeAbove wanted - 1) :
  ∃ t' order,t.relaid (es.map (·.1)) wanted=some (t',order)/\(order.filterMap (es[·]?)).toList.Perm es.toList/\Tok t' (order.filterMap (es[·]?))/\t'.led=t.led/\t'.plain=t.plain/\t'.mask=SetTable.sizeAbove wanted - 1:=by
 generalize hM:SetTable.sizeAbove wanted - 1=mask at hm hl ⊢
 have hs:(es.toList.map (·.1)).length=es.size:=by simp
 obtain⟨ow,e,o⟩:=abO hm (es.toList.map (·.1)) (by omega)
 have ea:es.map (·.1)=(es.toList.map (·.1)).toArray:=by
  apply Array.ext'
  simp
 let L:List (Nat×Nat):=(List.range (mask+1)).filterMap fun j=>(ow.getD j none).map fun k=>(j,k)
 have hL:∀ j k,(j,k)∈L↔ow[j]?=some (some k):=fun j k=>by
  show (j,k)∈List.filterMap _ _↔_
  rw[List.mem_filterMap]
  constructor
  ·rintro⟨a,ha,q⟩
   rw[gD] at q
   cases h1:ow[a]? with
   |none=>rw[h1] at q;cases q
   |some x=>
    rw[h1] at q
    cases x with
    |none=>cases q
    |some y=>cases q;exact h1
  ·intro q
   refine⟨j,List.mem_range.mpr ?_,?_⟩
   ·by_cases h:j < ow.size
    ·rw[<-o.size];exact h
    ·rw[kQ (by omega)] at q;cases q
   ·rw[gD,q];rfl
 have pL:L.Pairwise fun a b=>a.1 < b.1:=by
  refine List.pairwise_filterMap.mpr (List.pairwise_lt_range.imp fun {a b} hab x hx y hy=>?_)
  cases h1:ow.getD a none with
  |none=>rw[h1] at hx;cases hx
  |some u=>
   cases h2:ow.getD b none with
   |none=>rw[h2] at hy;cases hy
   |some v=>rw[h1] at hx;rw[h2] at hy;cases hx;cases hy;exact hab
 have ndO:(L.map (·.2)).Nodup:=by
  refine List.pairwise_map.mpr (ka (fun {a b} ha hb hab e=>?_) pL)
  have h1:=(hL a.1 a.2).mp ha
  have h2:=(hL b.1 b.2).mp hb
  rw[e] at h1
  have:=o.inj _ _ _ h1 h2
  omega
 have pO:(L.map (·.2)).Perm (List.range es.size):=Cp ndO KU fun z=>by
  rw[kF,Kx]
  constructor
  ·rintro⟨a,ha,rfl⟩
   have:=o.lt _ _ ((hL a.1 a.2).mp ha)
   omega
  ·intro hz
   obtain⟨j,h1,_⟩:=o.all z ((es.toList.map (·.1))[z]'(by omega)) (zI (by omega))
   exact⟨(j,z),(hL j z).mpr h1,rfl⟩
 let g:Nat->Int×Value:=fun k=>es.getD k (0,.none)
 have hg:∀ k,k < es.size->es[k]?=some (g k):=fun k hk=>by
  show _=some (es.getD k _)
  rw[gD,ZI hk];rfl
 have fO:(L.map (·.2)).filterMap (fun k=>es[k]?)=(L.map (·.2)).map g:=Ja fun k hk=>hg k (List.mem_range.mp (pO.mem_iff.mp hk))
 have eL:((L.map (·.2)).toArray.filterMap (fun k=>es[k]?)).toList=L.map fun p=>g p.2:=by
  rw[Array.toList_filterMap,fO,qa];rfl
 refine⟨{ mask:=mask,place:=(L.map (·.1)).toArray,dummies:=#[],finger:=t.finger,led:=t.led,moves:=t.movedTo mask,plain:=t.plain },(L.map (·.2)).toArray,?_,?_,?_,rfl,rfl,rfl⟩
 ·unfold SetTable.relaid SetTable.laid
  rw[hM,ea,e]
  rfl
 ·rw[Array.toList_filterMap,fO]
  refine (pO.map g).trans ?_
  have:(List.range es.size).map g=es.toList:=by
   apply List.ext_getElem?
   intro i
   rw[zS]
   by_cases h:i < es.size
   ·rw[List.getElem?_range h,qq,hg i h];rfl
   ·rw[qo (by simp;omega),qo (by simp;omega)];rfl
  rw[this]
 ·have sz:L.length=es.size:=by
   have:=pO.length_eq
   rw[zi,kM] at this
   exact this
  refine { mask:=hm,YQ:=rfl,rise:=YZ (List.pairwise_map.mpr pL),bd:=fun j hj=>?_,full:=?_,size:=?_,reach:=fun i j x h1 h2=>?_ }
  ·have hj:j∈L.map (·.1):=by simpa using hj
   obtain⟨a,ha,rfl⟩:=List.mem_map.mp hj
   have q:=(hL a.1 a.2).mp ha
   have:a.1 < ow.size:=by
    by_cases h:a.1 < ow.size
    ·exact h
    ·rw[kQ (by omega)] at q;cases q
   have:=o.size
   show a.1<=mask
   omega
  ·show (L.map (·.1)).toArray.size<=mask
   simp only[zz,zi]
   omega
  ·rw[<-ZU (xs:=Array.filterMap _ _),eL]
   simp
  ·have h1:(L.map (·.1)).toArray[i]?=some j:=h1
   rw[List.getElem?_toArray,zS] at h1
   rw[<-qq,eL,zS] at h2
   cases hi:L[i]? with
   |none=>rw[hi] at h1;cases h1
   |some p=>
    rw[hi] at h1 h2
    cases h1;cases h2
    have hp:(p.1,p.2)∈L:=ZO hi
    have q:=(hL p.1 p.2).mp hp
    have hk:p.2 < es.size:=List.mem_range.mp (pO.mem_iff.mp (List.mem_map.mpr ⟨p,hp,rfl⟩))
    have hh:(es.toList.map (·.1))[p.2]?=some (g p.2).1:=by
     rw[zS,qq,hg _ hk];rfl
    obtain⟨j',q1,n,a,b,c⟩:=o.all _ _ hh
    have:j'=p.1:=o.inj _ _ _ q1 q
    subst this
    refine⟨n,a,b,fun m hm'=>?_⟩
    obtain⟨k,q2⟩:=(VD o (Oz _ _)).mp (c m hm')
    show _∈(L.map (·.1)).toArray
    rw[List.mem_toArray]
    exact List.mem_map.mpr ⟨(_,k),(hL _ _).mpr q2,rfl⟩
end S6
end
section
namespace S6
open PySem PySem.Spec PyProof.Rows P1 L2
section
variable {prog:Program} {w:World} {A:Around} {E:Value->Shared->Prop} {s:Shared} {a:Addr}
abbrev cg (prog:Program) (w:World) (ks:List Key):Int:=tupleKeyHash (bw prog w) ks
def TE (prog:Program) (w:World) (h:Heap) (z:List Key×Addr) (e:Int×Value):Prop:=e=(cg prog w z.1,.ref z.2)/\IsTupleKey (bw prog w) h z.1 z.2
structure Y0 (prog:Program) (w:World) (h:Heap) (zs:List (List Key×Addr)) (es:Array (Int×Value)) (t:SetTable):Prop where
 rel:Paired (TE prog w h) zs es.toList
 nd:(zs.map (·.1)).Nodup
 tok:Tok t es
 load:es.size * 5 < t.mask * 3
 led:w.params.followText "set-order" = false->t.led=true
 non:0 < es.size->t.plain=false
def Tu (prog:Program) (w:World) (h:Heap) (a:Addr) (zs:List (List Key×Addr)):Prop:=∃ o es ep t,h.get? a=some o/\o.ExactSet/\o.data=.set es ep t/\Y0 prog w h zs es t
theorem QT {h h':Heap} {ks:List Key} {b:Addr} (x:IsTupleKey (bw prog w) h ks b) (k:∀ o,h.get? b=some o->o.cls=.type "tuple" → h'.get? b=some o):IsTupleKey (bw prog w) h' ks b:=
 let ⟨o,its,n,e,c,r⟩:=x;⟨o,its,n,k o e c,c,r⟩
theorem DR {h h':Heap} {zs:List (List Key×Addr)} {l:List (Int×Value)} (k:∀ b o,h.get? b=some o->o.cls=.type "tuple" → h'.get? b=some o) (r:Paired (TE prog w h) zs l):Paired (TE prog w h') zs l:=by
 induction r with
 |nil=>exact .nil
 |cons q _ ih=>exact .cons ⟨q.1,QT q.2 fun o e c=>k _ o e c⟩ ih
theorem Tu.keep {h h':Heap} {zs:List (List Key×Addr)} (x:Tu prog w h a zs) (k:∀ b o,h.get? b=some o->h'.get? b=some o):Tu prog w h' a zs:=
 let ⟨o,es,ep,t,e,r,d,q⟩:=x;⟨o,es,ep,t,k a o e,r,d,⟨DR (fun b o e _=>k b o e) q.rel,q.nd,q.tok,q.load,q.led,q.non⟩⟩
theorem Y0.size {h:Heap} {zs:List (List Key×Addr)} {es:Array (Int×Value)} {t:SetTable} (x:Y0 prog w h zs es t):es.size=zs.length:=by rw[x.rel.length];simp
theorem Tok.fits {t:SetTable} {es:Array (Int×Value)} (h:Tok t es):t.fits es.size=true:=by
 unfold SetTable.fits SetTable.fill
 have h1:=h.full
 have h2:=h.size
 rw[h.YQ]
 simp[h2]
 omega
theorem Tok.odd {t:SetTable} {es:Array (Int×Value)} (h:Tok t es):t.gaveWay=false:=by
 unfold SetTable.gaveWay
 rcases h.mask with e|e|e<;>rw[e]<;>rfl
theorem Ho {d:Nat} {ks:List Key} {b:Addr} {Q:Bool->Shared->Prop} (hk:IsTupleKey (bw prog w) s.heap ks b) (h:Q false s):wpAny (model prog w) A (ofAClassStatement (d+1) (.ref b)) Q E s:=by
 have hT:=hk.typeIs
 obtain⟨o,items,n,ho,_,hd,hi⟩:=hk
 unfold ofAClassStatement
 refine zb (QE hT ?_)
 dsimp only
 refine zb (ze ?_)
 simp only[kr,zl,ZE]
 refine zb (wpAny_seqItems ho hd ?_)
 dsimp only
 refine zb ?_
 rw[<-Array.forIn_toList]
 refine wpAny_forIn_list _ (fun rest r s'=>r.1=none/\s'=s/\∀ v∈rest,carriedByValue v=true) _ ?_ ?_ _ _ ⟨rfl,rfl,hi.byValue⟩
 ·rintro v rest r s' ⟨hr,rfl,hall⟩
  have hv:ofAClassStatement d v=pure false:=by
   have:=hall v zh
   cases v with
   |ref a=>simp[carriedByValue] at this
   |_=>unfold ofAClassStatement;rfl
  rw[hv]
  refine zb (ze ?_)
  simp only[zl,ZE]
  exact ze ⟨rfl,rfl,fun u hu'=>hall u (zo _ hu')⟩
 ·rintro⟨r1,r2⟩ s' ⟨hr,rfl,_⟩
  simp only at hr
  subst hr
  exact ze h
theorem abP {ks:List Key} {b:Addr} {Q:Bool->Shared->Prop} (hk:IsTupleKey (bw prog w) s.heap ks b) (vs:List Value) (hv:∀ v∈vs,∃ c ls,v=.ref c/\IsTupleKey (bw prog w) s.heap ls c) (h:Q false s):wpAny (model prog w) A (searchCouldBeSeen (.ref b) vs) Q E s:=by
 unfold searchCouldBeSeen
 refine zb ?_
 refine wpAny_forIn_list _ (fun rest r s'=>r.1=none/\s'=s/\∀ v∈rest,∃ c ls,v=.ref c/\IsTupleKey (bw prog w) s.heap ls c) _ ?_ ?_ _ _ ⟨rfl,rfl,hv⟩
 ·rintro v rest r s' ⟨hr,rfl,hall⟩
  obtain⟨c,ls,rfl,hc⟩:=hall v zh
  have rest':∀ v∈rest,∃ c ls,v=.ref c/\IsTupleKey (bw prog w) s'.heap ls c:=fun u hu=>hall u (zo _ hu)
  dsimp only
  split
  ·exact ze ⟨rfl,rfl,rest'⟩
  ·refine zb (wpAny_eqIsQuiet_tuple hk ?_)
   simp only[kr,zl,ZE]
   refine zb (wpAny_eqIsQuiet_tuple hc ?_)
   simp only[kr,zl,ZE]
   refine zb (Ho hk ?_)
   simp only[zl,ZE]
   refine zb (Ho hc ?_)
   simp only[zl,ZE]
   exact ze ⟨rfl,rfl,rest'⟩
 ·rintro⟨r1,r2⟩ s' ⟨hr,rfl,_⟩
  simp only at hr
  subst hr
  exact ze h
theorem Jm {h:Heap}:∀ {zs:List (List Key×Addr)} {l:List (Int×Value)},Paired (TE prog w h) zs l->∀ {i:Nat} {e},l[i]?=some e->∃ z,zs[i]?=some z/\TE prog w h z e
 |_,_,.nil,i,e,q=>by simp at q
 |_,_,.cons r _,0,e,q=>by simp at q;subst q;exact⟨_,rfl,r⟩
 |_,_,.cons _ t,i+1,e,q=>by
  rw[ZH] at q
  obtain⟨z,z1,z2⟩:=Jm t q
  exact⟨z,by rw[ZH];exact z1,z2⟩
theorem yI {h:Heap}:∀ {zs:List (List Key×Addr)} {l:List (Int×Value)},Paired (TE prog w h) zs l->∀ {i:Nat} {z},zs[i]?=some z->∃ e,l[i]?=some e/\TE prog w h z e
 |_,_,.nil,i,e,q=>by simp at q
 |_,_,.cons r _,0,e,q=>by simp at q;subst q;exact⟨_,rfl,r⟩
 |_,_,.cons _ t,i+1,e,q=>by
  rw[ZH] at q
  obtain⟨z,z1,z2⟩:=yI t q
  exact⟨z,by rw[ZH];exact z1,z2⟩
theorem least (p:Nat->Prop):∀ (k n:Nat),p (n+k)->∃ d,d<=k/\p (n+d)/\∀ m,n<=m->m < n+d->¬ p m
 |0,n,h=>⟨0,zg _,h,fun m h1 h2=>absurd h2 (by omega)⟩
 |k+1,n,h=>by
  by_cases q:p n
  ·exact⟨0,qS _,q,fun m h1 h2=>absurd h2 (by omega)⟩
  ·obtain⟨d,h1,h2,h3⟩:=least p k (n+1) (by rw[show n+1+k=n+(k+1) by omega];exact h)
   refine⟨d+1,by omega,by rw[show n+(d+1)=n+1+d by omega];exact h2,fun m a b=>?_⟩
   by_cases e:m=n
   ·rw[e];exact q
   ·exact h3 m (by omega) (by omega)
theorem search {o:Obj} {es:Array (Int×Value)} {ep:Nat} {t:SetTable} {zs:List (List Key×Addr)} {ks:List Key} {b:Addr} (hu:A.units < cLine) (ho:s.heap.get? a=some o) (hd:o.data=.set es ep t) (x:Y0 prog w s.heap zs es t) (hk:IsTupleKey (bw prog w) s.heap ks b)
  {N:Nat} (hN:N < 10 * SetTable.turns t.mask) (hf:(iJ t.mask (cg prog w ks) N).j∉t.place) (hp:∀ m,m < N->(iJ t.mask (cg prog w ks) m).j∈t.place) {Q:SetFound->Shared->Prop}
  (h1:ks∈zs.map (·.1)->Q (.there none) s) (h2:ks∉zs.map (·.1)->Q (.free (iJ t.mask (cg prog w ks) N).j false) s) :
  ∀ (k n fuel:Nat) (stand:Option SetTable.Probe),n+k=N->k < fuel->stand.getD (t.probeStart (cg prog w ks))=iJ t.mask (cg prog w ks) n->(∀ m,m < n->∀ i:Nat,t.place[i]?=some (iJ t.mask (cg prog w ks) m).j->∀ z:List Key×Addr,zs[i]?=some z->z.1≠ks) →
   wpAny (model prog w) A (setSearchFrom a (.ref b) (cg prog w ks) true fuel stand) Q E s:=by
 have get:∀ {i:Nat} {e},es[i]?=some e->∃ z,zs[i]?=some z/\TE prog w s.heap z e:=fun {i e} q=>Jm x.rel (by rw[qq];exact q)
 have fit:=x.tok.fits
 intro k
 induction k using Nat.strongRecOn with
 |ind k ih=>
  intro n fuel stand hn hfu hst hb
  cases fuel with
  |zero=>omega
  |succ fuel=>
  unfold setSearchFrom
  refine zb (QI ho hd fit ?_)
  dsimp only
  rw[zw (by rw[x.tok.odd];decide)]
  refine zb (ze ?_)
  rw[hst]
  obtain⟨d,d1,d2,d3⟩:=least (fun m=>m=N\/∃ i:Nat,t.place[i]?=some (iJ t.mask (cg prog w ks) m).j/\∃ e:Int×Value,es[i]?=some e/\e.1=cg prog w ks) k n (.inl hn)
  have live:∀ m,m < N->∃ i:Nat,t.place[i]?=some (iJ t.mask (cg prog w ks) m).j/\∃ e,es[i]?=some e:=fun m hm=>by
   obtain⟨i,hi,e⟩:=Array.getElem_of_mem (hp m hm)
   have hi':i < es.size:=by rw[<-x.tok.size];exact hi
   exact⟨i,by rw[ZI hi,e],es[i],ZI hi'⟩
  have pr:=Ld x.tok.toTb (fun i=>(es[i]?.map (·.1)).getD 0) (cg prog w ks) d (10 * SetTable.turns t.mask) n (by omega) fun m a1 a2=>by
   have q:=d3 m a1 a2
   obtain⟨i,e1,e,e2⟩:=live m (by omega)
   refine⟨i,e1,fun q'=>q (.inr ⟨i,e1,e,e2,?_⟩)⟩
   simpa [e2] using q'
  have prb:t.probe (fun i=>(es[i]?.map (·.1)).getD 0) (cg prog w ks) (iJ t.mask (cg prog w ks) n)=SetTable.probe.go t (fun i=>(es[i]?.map (·.1)).getD 0) (cg prog w ks) (10 * SetTable.turns t.mask) (iJ t.mask (cg prog w ks) n):=rfl
  by_cases hE:n+d=N
  ·have p1:=pr.1 (by rw[hE];exact hf)
   rw[hE] at p1
   show wpAny _ _ (match t.probe (fun i=>(es[i]?.map (·.1)).getD 0) (cg prog w ks) (iJ t.mask (cg prog w ks) n) with|some met=>_|_=>_) _ _ _
   rw[prb,p1]
   dsimp only
   refine ze (h2 fun hm=>?_)
   obtain⟨z,hz,ez⟩:=List.mem_map.mp hm
   obtain⟨i,hi,e⟩:=QY hz
   obtain⟨ee,e1,e2⟩:=yI x.rel (show zs[i]?=some z by rw[zI hi,e])
   rw[qq] at e1
   have hi':i < t.place.size:=by rw[x.tok.size,x.size];exact hi
   obtain⟨n0,b1,b2,b3⟩:=x.tok.reach i _ ee (ZI hi') e1
   rw[e2.1,ez] at b2 b3
   have lt:n0 < N:=by
    rcases Nat.lt_trichotomy n0 N with q|q|q
    ·exact q
    ·exfalso;rw[<-q] at hf;rw[b2] at hf;exact hf (Array.getElem_mem hi')
    ·exact absurd (b3 N q) hf
   by_cases q:n0 < n
   ·exact hb n0 q i (by rw[b2];exact ZI hi') z (by rw[zI hi,e]) ez
   ·exact d3 n0 (by omega) (by omega) (.inr ⟨i,by rw[b2];exact ZI hi',ee,e1,by rw[e2.1,ez]⟩)
  ·rcases d2 with q|⟨i,i1,e,i2,i3⟩
   ·exact absurd q hE
   ·have p2:=pr.2 i i1 (by simpa [i2] using i3)
    show wpAny _ _ (match t.probe (fun i=>(es[i]?.map (·.1)).getD 0) (cg prog w ks) (iJ t.mask (cg prog w ks) n) with|some met=>_|_=>_) _ _ _
    rw[prb,p2]
    dsimp only
    obtain⟨z,z1,z2⟩:=get i2
    have hv:∀ v∈((es.filter (·.1==cg prog w ks)).toList.map (·.2)),∃ c ls,v=.ref c/\IsTupleKey (bw prog w) s.heap ls c:=fun v hv=>by
     obtain⟨u,hu',rfl⟩:=List.mem_map.mp hv
     rw[Array.toList_filter,j0] at hu'
     obtain⟨jj,hj,ej⟩:=QY hu'.1
     obtain⟨y,y1,y2⟩:=Jm x.rel (show es.toList[jj]?=some u by rw[zI hj,ej])
     exact⟨y.2,y.1,by rw[y2.1],y2.2⟩
    have go:wpAny (model prog w) A (do
      let some (_,y):=es[i]?|unsupported "internal:set-entry"
      let equal <-holding [y] (eqBool y (.ref b))
      let (es',_,t') <-setState a
      if (true&&equal)=true then return SetFound.there none
      let some same:=t'.sameMemory t.moves t.mask|unsupported "set.changed-during-lookup:is-the-new-block-at-the-old-address"
      let still <-match (if same then t'.slot (iJ t.mask (cg prog w ks) (n+d)).j else .empty) with
       |.live i'=>match es'[i']? with
        |some (_,y')=>do pure (if <-isSame y' y then some i' else none)
        |none=>pure none
       |_=>pure none
      match still with
      |none=>rule "set.search.anew"; setSearchFrom a (.ref b) (cg prog w ks) true fuel none
      |some i'=>if equal then return .there (some i') else setSearchFrom a (.ref b) (cg prog w ks) true fuel (some (iJ t.mask (cg prog w ks) (n+d+1)))) Q E s:=by
     rw[i2,z2.1]
     dsimp only
     refine zb (Qr (wpAny_eqBool_tuple hu z2.2 hk ?_))
     refine zb (QI ho hd fit ?_)
     dsimp only
     by_cases hq:z.1=ks
     ·rw[QU hq]
      simp only[Bool.and_self,qE]
      exact ze (h1 (List.mem_map.mpr ⟨z,ZO z1,hq⟩))
     ·rw[qh hq]
      simp only[Bool.and_false,zl,ZE]
      have sm:t.sameMemory t.moves t.mask=some true:=by unfold SetTable.sameMemory;simp
      rw[sm]
      dsimp only
      simp only[qE]
      rw[zY x.tok.toTb i1]
      dsimp only
      rw[i2,z2.1]
      dsimp only
      refine zb (wpAny_isSame_ref_self (zb (ze ?_)))
      simp only[qE]
      refine ih (N - (n+d+1)) (by omega) (n+d+1) fuel _ (by omega) (by omega) rfl fun m hm i' j1 y y1=>?_
      by_cases c1:m < n
      ·exact hb m c1 i' j1 y y1
      ·by_cases c2:m=n+d
       ·subst c2
        have:i'=i:=by
         have s1:=DP x.tok.rise j1
         have s2:=DP x.tok.rise i1
         omega
        subst this
        rw[z1] at y1
        cases y1
        exact hq
       ·have q:=d3 m (by omega) (by omega)
        intro e'
        obtain⟨ee,e1,e2⟩:=yI x.rel y1
        rw[qq] at e1
        exact q (.inr ⟨i',j1,ee,e1,by rw[e2.1,e']⟩)
    split
    ·refine zb (abP hk _ hv ?_)
     simp only[zl,ZE]
     exact go
    ·exact go
end
section
variable {prog:Program} {w:World} {A:Around} {E:Value->Shared->Prop} {s:Shared} {a:Addr}
def Txs (ks:List Key):Prop:=∃ x:Str,(Sum.inr x:Key)∈ks
theorem VG {ks:List Key} {b:Addr} {Q:Bool->Shared->Prop} (hk:IsTupleKey (bw prog w) s.heap ks b) (hx:Txs ks) (h:Q false s):wpAny (model prog w) A (hashByValue 8 (.ref b)) Q E s:=by
 have hT:=hk.typeIs
 obtain⟨o,items,n,ho,_,hd,hi⟩:=hk
 unfold hashByValue
 refine zb (wpAny_specialOf hT F.slot_tuple_hash.lookup ?_)
 dsimp only
 refine zb (wpAny_seqItems ho hd ?_)
 show wpAny _ _ (forIn items _ _ >>= _) _ _ s
 refine zb ?_
 rw[<-Array.forIn_toList]
 refine wpAny_forIn_list _ (fun rest r s'=>r.1=none/\s'=s/\∃ left,ItemsAre (bw prog w) left rest/\Txs left) _ ?_ ?_ _ _ ⟨rfl,rfl,ks,hi,hx⟩
 ·rintro v rest r s' ⟨hr,rfl,left,hl,x,hx⟩
  cases hl with
  |@cons k _ ks' _ h1 hl'=>
   rcases bM h1 with⟨i,t,rfl,rfl⟩|⟨y,t,rfl,rfl⟩
   ·have e:hashByValue 7 (.int i t)=pure true:=by unfold hashByValue;rfl
    rw[e]
    refine zb (ze ?_)
    simp only[kr,zl,ZE]
    refine ze ⟨rfl,rfl,ks',hl',x,?_⟩
    rcases List.mem_cons.mp hx with q|q
    ·cases q
    ·exact q
   ·have e:hashByValue 7 (.str y t)=pure false:=by unfold hashByValue;rfl
    rw[e]
    refine zb (ze ?_)
    simp only[Bool.not_false,qE]
    exact ze (ze h)
 ·rintro⟨r1,r2⟩ s' ⟨hr,rfl,left,hl,x,hx⟩
  cases hl
  cases hx
theorem Te {t:SetTable} {es:Array (Int×Value)} (h:Tok t es):Tok { t with plain:=false } es:={ mask:=h.mask,YQ:=h.YQ,rise:=h.rise,bd:=h.bd,full:=h.full,size:=h.size,reach:=h.reach }
theorem Y4 {zs:List (List Key×Addr)} {ks:List Key} {b:Addr} {Q:Bool->Shared->Prop} (hu:A.units < cLine) (hS:Tu prog w s.heap a zs) (hk:IsTupleKey (bw prog w) s.heap ks b) (hx:Txs ks) (hroom:zs.length+1<=70)
  (h:∀ r h' zs',Heap.SameBut a s.heap h'->Tu prog w h' a zs'->(∀ z,z∈zs'↔z∈zs\/(z=(ks,b)/\ks∉zs.map (·.1)))->zs'.length<=zs.length+1->Q r { s with heap:=h' }):wpAny (model prog w) A (setAddHashed a (.ref b) (cg prog w ks)) Q E s:=by
 obtain⟨o,es,ep,t,ho,hex,hd,x⟩:=id hS
 have hsz:=x.size
 have fit:=x.tok.fits
 have hld:=x.load
 have hcl:o.cls≠.type "tuple" := by rw[hex.1];decide
 obtain⟨N,n1,n2,n3⟩:=Ox x.tok.toTb (cg prog w ks)
 have hturn:10 * SetTable.turns t.mask < 100000:=by
  unfold SetTable.turns
  rcases x.tok.mask with e|e|e<;>rw[e]<;>decide
 unfold setAddHashed setAddHashedIn
 refine Qr (zb (QI ho hd fit ?_))
 dsimp only
 have hb:byScan (.ref b) es=false:=by unfold byScan;rfl
 rw[hb]
 simp only[zl,ZE]
 unfold setSearch
 refine zb (search hu ho hd x hk n1 n2 n3 (fun hm=>?_) (fun hm=>?_) N 0 100000 none (by omega) (by omega) rfl fun m hm=>absurd hm (ki _))
 ·dsimp only
  exact ze (h _ s.heap zs (Heap.SameBut.refl a s.heap) hS (fun z=>⟨.inl,fun q=>q.elim id fun q=>absurd hm q.2⟩) (Kk _))
 ·dsimp only
  refine zb (QI ho hd fit ?_)
  dsimp only
  have hj:=Oz (mask:=t.mask) (cg prog w ks) N
  have hm7:es.size+1<=t.mask:=by rcases x.tok.mask with e|e|e<;>rw[e] at hld ⊢<;>omega
  obtain⟨pt,pl,pp,pm⟩:=YT (x:=.ref b) x.tok n1 n2 n3 hj hm7
  generalize hP:t.put (iJ t.mask (cg prog w ks) N).j=P at pt pl pp pm ⊢
  obtain⟨t1,p⟩:=P
  dsimp only at pt pl pp pm ⊢
  have hil:(SetTable.insertAt es p (cg prog w ks,.ref b)).toList.Perm (es.toList++[(cg prog w ks,.ref b)]):=by
   rw[yH]
   refine (List.perm_middle).trans ?_
   rw[List.take_append_drop]
   exact (List.perm_append_singleton _ _).symm
  have r0:Paired (TE prog w s.heap) (zs++[(ks,b)]) (es.toList++[(cg prog w ks,.ref b)]):=Oq x.rel (.cons ⟨rfl,hk⟩ .nil)
  obtain⟨zs1,q1,r1⟩:=Bf hil r0
  have nd1:(zs1.map (·.1)).Nodup:=(q1.map (·.1)).nodup_iff.mpr (by
   rw[QO]
   exact List.nodup_append.mpr ⟨x.nd,by simp,fun u hu' v hv=>by simp at hv;subst hv;exact fun e=>hm (e▸hu')⟩)
  have m1:∀ z,z∈zs1↔z∈zs\/(z=(ks,b)/\ks∉zs.map (·.1)):=fun z=>by
   rw[q1.mem_iff,List.mem_append,List.mem_singleton]
   exact⟨fun q=>q.imp id fun e=>⟨e,hm⟩,fun q=>q.imp id fun e=>e.1⟩
  have l1:zs1.length=zs.length+1:=by rw[q1.length_eq];simp
  have s1:(SetTable.insertAt es p (cg prog w ks,Value.ref b)).size=es.size+1:=uT _ _ _
  have up:∀ (hp:Heap) (ob:Obj) (e1 e2:Array (Int×Value)) (n1:Nat) (u1 u2:SetTable),hp.get? a=some ob->ob.data=.set e1 n1 u1->(hp.update a (Obj.putSet e2 u2)).get? a=some { ob with data:=.set e2 (n1+1) u2 }:=fun hp ob e1 e2 n1 u1 u2 g q=>by
   have:=kR (Obj.putSet e2 u2) g (by rw[putSet_of e2 u2 q];rfl)
   rw[putSet_of e2 u2 q] at this;exact this
  have kp:∀ {h':Heap},Heap.SameBut a s.heap h'->∀ c oc,s.heap.get? c=some oc->oc.cls=.type "tuple" → h'.get? c=some oc:=fun sb c oc e ec=>by
   rw[sb.2 c fun q=>by subst q;rw[ho] at e;cases e;exact hcl ec];exact e
  have fin:∀ t2:SetTable,Tok t2 (SetTable.insertAt es p (cg prog w ks,.ref b))->t2.led=t1.led->t2.plain=false->t2.mask=t1.mask->wpAny (model prog w) A (do
    storeSet a (SetTable.insertAt es p (cg prog w ks,.ref b)) t2
    if (!false&&t2.tooFull)=true then setRelay a (SetTable.grown (es.size+1))
    pure true) Q E s:=by
   intro t2 k2 l2 p2 m2
   have g1:=up s.heap o es (SetTable.insertAt es p (cg prog w ks,.ref b)) ep t t2 ho hd
   refine zb (wpAny_storeSet_of ho hd ?_ (fits_of_scanBound (by rw[s1];have:scanBound=4096:=rfl;omega)))
   have sb1:Heap.SameBut a s.heap (s.heap.update a (Obj.putSet (SetTable.insertAt es p (cg prog w ks,.ref b)) t2)):=Heap.SameBut.update ..
   have hfill:t2.fill=es.size+1:=by unfold SetTable.fill;rw[k2.YQ,k2.size,s1];rfl
   have adV:w.params.followText "set-order" = false->t2.led=true:=fun q=>l2.trans (pl.trans (x.led q))
   by_cases yJ:t2.tooFull=true
   ·rw[yJ]
    simp only[Bool.not_false,Bool.and_self,qE]
    have hf:t2.fill * 5>=t2.mask * 3:=by unfold SetTable.tooFull at yJ;simpa using yJ
    rw[hfill,m2,pm] at hf
    have hg:SetTable.grown (es.size+1)=(es.size+1) * 4:=by unfold SetTable.grown;rw[zw (by omega)]
    have cas:(es.size=4/\t.mask=7)\/(es.size=18/\t.mask=31):=by
     rcases x.tok.mask with e|e|e<;>rw[e] at hf hld
     ·exact .inl ⟨by omega,e⟩
     ·exact .inr ⟨by omega,e⟩
     ·omega
    have hsa:(es.size=4->SetTable.sizeAbove (SetTable.grown (es.size+1))=32)/\(es.size=18->SetTable.sizeAbove (SetTable.grown (es.size+1))=128):=by
     rw[hg]
     exact⟨fun e=>by rw[e];decide,fun e=>by rw[e];decide⟩
    have hms:SetTable.sizeAbove (SetTable.grown (es.size+1)) - 1=31/\es.size=4\/SetTable.sizeAbove (SetTable.grown (es.size+1)) - 1=127/\es.size=18:=by
     rcases cas with⟨e,_⟩|⟨e,_⟩
     ·exact .inl ⟨by rw[hsa.1 e],e⟩
     ·exact .inr ⟨by rw[hsa.2 e],e⟩
    obtain⟨t3,order,e3,pr3,k3,l3,p3,m3⟩:=Td (t:=t2) (es:=SetTable.insertAt es p (cg prog w ks,.ref b)) (wanted:=SetTable.grown (es.size+1)) (by rcases hms with⟨e,_⟩|⟨e,_⟩<;>rw[e]<;>simp) (by rw[s1];rcases hms with⟨e,e'⟩|⟨e,e'⟩<;>rw[e,e']<;>decide)
    unfold setRelay
    refine zb (zb (QI g1 rfl k2.fits ?_))
    dsimp only
    have hsl:¬ (SetTable.sizeAbove (SetTable.grown (es.size+1)) > sizeLine):=by
     rcases cas with⟨e,_⟩|⟨e,_⟩
     ·rw[hsa.1 e];decide
     ·rw[hsa.2 e];decide
    rw[zw hsl]
    have sz3:(order.filterMap (fun i=>(SetTable.insertAt es p (cg prog w ks,Value.ref b))[i]?)).size=(SetTable.insertAt es p (cg prog w ks,Value.ref b)).size:=by
     rw[<-ZU,pr3.length_eq,ZU]
    rw[e3]
    refine zb ?_
    show wpAny _ _ (if ((order.filterMap (fun i=>(SetTable.insertAt es p (cg prog w ks,Value.ref b))[i]?)).size != (SetTable.insertAt es p (cg prog w ks,Value.ref b)).size)=true then _ else pure (order.filterMap (fun i=>(SetTable.insertAt es p (cg prog w ks,Value.ref b))[i]?),t3)) _ _ _
    rw[zw (by rw[sz3];simp)]
    refine ze ?_
    dsimp only
    refine wpAny_storeSet_of g1 rfl ?_ (fits_of_scanBound (by rw[sz3,s1];have:scanBound=4096:=rfl;omega))
    have g2:=up _ _ (SetTable.insertAt es p (cg prog w ks,.ref b)) (order.filterMap (fun i=>(SetTable.insertAt es p (cg prog w ks,Value.ref b))[i]?)) _ t2 t3 g1 rfl
    have sb2:Heap.SameBut a s.heap ((s.heap.update a (Obj.putSet (SetTable.insertAt es p (cg prog w ks,.ref b)) t2)).update a (Obj.putSet (order.filterMap (fun i=>(SetTable.insertAt es p (cg prog w ks,Value.ref b))[i]?)) t3)):=sb1.trans (Heap.SameBut.update ..)
    obtain⟨zs2,q2,r2⟩:=Bf pr3 r1
    refine ze (h _ _ zs2 sb2 ⟨_,_,_,t3,g2,hex,rfl,⟨DR (kp sb2) r2,(q2.map (·.1)).nodup_iff.mpr nd1,k3,?_,fun q=>l3.trans (adV q),fun _=>p3.trans p2⟩⟩ (fun z=>by rw[q2.mem_iff];exact m1 z) (by rw[q2.length_eq];omega))
    rw[sz3,s1,m3]
    rcases hms with⟨e,e'⟩|⟨e,e'⟩<;>rw[e,e']<;>decide
   ·have yJ:t2.tooFull=false:=by simpa using yJ
    rw[yJ]
    simp only[Bool.and_false,zl,ZE]
    refine zb (ze ?_)
    refine ze (h _ _ zs1 sb1 ⟨_,_,_,t2,g1,hex,rfl,⟨DR (kp sb1) r1,nd1,k2,?_,adV,fun _=>p2⟩⟩ m1 (by omega))
    unfold SetTable.tooFull at yJ
    rw[hfill] at yJ
    rw[s1]
    simpa using yJ
  split
  ·refine zb (VG hk hx ?_)
   simp only[zl,ZE]
   exact fin { t1 with plain:=false } (Te pt) rfl rfl rfl
  ·rename_i hp
   refine zb (ze ?_)
   simp only[qE]
   exact fin t1 pt rfl (by simpa using hp) rfl
end
end S6
end
section
namespace S1
open PySem PySem.Spec PyProof.Rows L2
section
variable {prog:Program} {w:World} {A:Around} {E:Value->Shared->Prop} {s:Shared}
theorem OJ {x:Value} (G:List Value->Prop) (kd:SortKind) (rk:List Value->Value->Nat) {Q:Value->Shared->Prop} (abH:∀ (E':Value->Shared->Prop) (Q':List Value->Shared->Prop),(∀ vs h' d tk,G vs->s.heap.objs.size<=h'.objs.size->(∀ c o,s.heap.get? c=some o->h'.get? c=some o)->Q' vs { s with heap:=h',drawn:=d,toks:=tk })->wpAny (model prog w) A.in1 (collect x) Q' E' s)
  (hK:∀ vs,G vs->2<=vs.length->∀ (E':Value->Shared->Prop) (A':Around) (s':Shared),(∀ c o,s.heap.get? c=some o->s'.heap.get? c=some o)->∀ Q:SortKind->Shared->Prop,Q kd s'->wpAny (model prog w) A' (keyKind' vs.toArray) Q E' s') (hC:∀ vs,G vs->∀ (A':Around) (s':Shared),(∀ c o,s.heap.get? c=some o->s'.heap.get? c=some o)->T7 prog w A' s' kd (rk vs) (pairsOf vs)) (h64:∀ vs,G vs->vs.length < 64)
  (h:∀ vs,G vs->∀ (l:Addr) (h':Heap) (d:Drawn) (tk n:Nat) (st:SortSt),(arrOf st).Perm (pairsOf vs)->Up (rk vs) (arrOf st) (pairsOf vs).size->s.heap.objs.size<=l->(∀ c o,s.heap.get? c=some o->h'.get? c=some o)->h'.get? l=some (seqObj "list" ((arrOf st).map (·.2)) n)->Q (.ref l) { s with heap:=h',drawn:=d,toks:=tk }) :
  wpAny (model prog w) A (call (.builtin "sorted") [x]) Q E s:=by
 refine KB kind_sorted plain_sorted entry_sorted (args_sorted1 _) ?_;unfold Builtin.«sorted»
 refine zb (m:=checkCount "sorted" 1 1 _) (ze (zb (abH _ _ fun vs h1 d tk hG hle ext=>?_)))
 have ajd:=h64 vs hG
 refine zb (KM ?_)
 have hoL:(h1.push (seqObj "list" vs.toArray 0)).get? h1.objs.size=some (seqObj "list" vs.toArray 0):=zt _ rfl
 have old:∀ s':Shared,Old h1.objs.size { s with heap:=h1.push (seqObj "list" vs.toArray 0),drawn:=d,toks:=tk } s'->∀ c o,s.heap.get? c=some o->s'.heap.get? c=some o:=fun s' q c o e=>
  q c o (zD (zv (ext c o e))) (zd _ (ext c o e))
 refine zb (Qr (js slot_list_sort ⟨_,hoL,rfl⟩ entry_list_sort (aac hoL (fun q s' o=>hK vs hG q _ _ s' (old s' o)) (fun s' o=>hC vs hG _ s' (old s' o)) (h64 vs hG) fun st q1 q2=>⟨_,rfl,ze ⟨_,rfl,?_⟩⟩) (args_list_sort _)))
 obtain⟨n,en⟩:=sortedHeap_at (out:=(arrOf st).map (·.2)) hoL
 refine h vs hG h1.objs.size _ d tk n st q1 q2 hle (fun c o e=>?_) en
 have hb:=zv (ext c o e)
 rw[sortedHeap_old (zD hb) (by rw[ZZ];exact qk hb)]
 exact zd _ (ext c o e)
end
end S1
end
section
namespace P1
open PySem PySem.Spec PyProof.Rows L2 S6
section
variable {X:Cx}
theorem Tf {pins:List (Addr×Obj)} {σ:L2.St} {H:Hp} {s:Shared} {d:Drawn} (I:Inv X pins σ H s):Inv X pins σ H { s with drawn:=d }:=⟨I.ok,I.os,I.bare,I.base,I.loc,I.cell,I.free,I.o8,I.pin,I.hok,I.len⟩
variable {x:Str} {e:Expr} {f:Ev->Option Bx} {fs:Ev->Option (List Str)} {p pos:Pos}
end
section
variable {X:Cx}
end
section
variable {X:Cx} {elt tgt iter:Expr} {ifs:List Expr} {scope:Scope} {cl:List (Str×Addr)} {pos:Pos} {xs ts:List Str} {is:List Nat} {gt:Dt->Ev->Option Ev} {p:Ev->Option Bool} {fe:Ev->Option Bx} {fi:Ev->Option (List Dt)}
end
section
variable {X:Cx} {elt tgt iter:Expr} {ifs:List Expr} {scope:Scope} {cl:List (Str×Addr)} {pos:Pos} {xs:List Str} {is:List Nat} {gt:Dt->Ev->Option Ev} {p:Ev->Option Bool} {fe:Ev->Option Bx} {fi:Ev->Option (List Dt)}
variable {e:Expr} {f:Ev->Option Bx} {fs:Ev->Option (List Str)} {p':Pos}
end
end P1
end
section
namespace P1
open PySem PySem.Spec PyProof.Rows L2 S1 S6
section
variable {X:Cx}
def Ts (prog:Program) (w:World) (h:Heap) (a:Addr) (zs:List (List Key×Addr)):Prop:=∃ o es ep t,h.get? a=some o/\o.ExactSet/\o.data=.set es ep t/\es.toList=zs.map (fun z=>(cg prog w z.1,(.ref z.2:Value)))/\t.fits es.size=true/\(w.params.followText "set-order" = false->t.led=true)/\(0 < es.size->t.plain=false)
theorem Lh {prog:Program} {w:World} {h:Heap}:∀ {zs:List (List Key×Addr)} {l:List (Int×Value)},Paired (TE prog w h) zs l->l=zs.map (fun z=>(cg prog w z.1,(.ref z.2:Value)))
 |_,_,.nil=>rfl
 |_,_,.cons r t=>by rw[zr,<-Lh t,r.1]
theorem Ts.of {prog:Program} {w:World} {h:Heap} {a:Addr} {zs:List (List Key×Addr)} (x:Tu prog w h a zs):Ts prog w h a zs:=
 let ⟨o,es,ep,t,e,r,d,q⟩:=x;⟨o,es,ep,t,e,r,d,Lh q.rel,q.tok.fits,q.led,q.non⟩
theorem Ts.keep {prog:Program} {w:World} {h h':Heap} {a:Addr} {zs:List (List Key×Addr)} (x:Ts prog w h a zs) (k:∀ o,h.get? a=some o->h'.get? a=some o):Ts prog w h' a zs:=
 let ⟨o,es,ep,t,e,r⟩:=x;⟨o,es,ep,t,k o e,r⟩
def hoU (X:Cx) (a:Addr) (zs:List (List Key×Addr)):HO:=.ext fun h=>Ts X.prog X.w h a zs
theorem VH (X:Cx) {ks:List Key} {us:List Value} (h:Ks ks us):ItemsAre (bw X.prog X.w) ks us:=by
 induction h with
 |nil=>exact .nil
 |cons r _ ih=>exact .cons r ih
theorem VJ (X:Cx) {ks:List Key} {us:List Value} (h:ItemsAre (bw X.prog X.w) ks us):Ks ks us:=by
 induction h with
 |nil=>exact .nil
 |cons r _ ih=>exact .cons r ih
theorem Li (X:Cx) {h:Heap} {ks:List Key} {v:Value} (q:lU h ks v):∃ b,v=.ref b/\IsTupleKey (bw X.prog X.w) h ks b:=by
 obtain⟨a,o,its,n,e,g,c,d,p⟩:=q
 exact⟨a,e,o,its.toArray,n,g,c,d,by simpa using VH X p⟩
theorem VL (X:Cx) {h:Heap} {ks:List Key} {b:Addr} (q:IsTupleKey (bw X.prog X.w) h ks b):lU h ks (.ref b):=by
 obtain⟨o,its,n,g,c,d,p⟩:=q
 exact⟨b,o,its.toList,n,rfl,g,c,by simpa using d,VJ X p⟩
def adX (X:Cx):List V->Hp->VK->Prop:=fun xs H Q=>∃ v b ds cP,xs=[v]/\bf X.K H b v/\yq b=some ds/\sZ ds=some cP/\cP.length<=64/\(∀ k∈cP,Txs k) ∧
 ∀ a zs H',Same H H'->H' a=some (hoU X a zs)->(∀ k,k∈zs.map (·.1)↔k∈cP)->(zs.map (·.1)).Nodup->(∀ z∈zs,Rep X.K H' (tupK z.1) (.ref z.2))->Q (.ref a) H'
def CU (X:Cx) (S:Addr) (its:List Value) (h:Heap) (ys:List (List Key)):Prop:=∃ zs,zs.map (·.1)=ys/\Tu X.prog X.w h S zs/\∀ z∈zs,(.ref z.2:Value)∈its
theorem yK {h:Heap}:∀ {cP:List (List Key)} {vs:List Value},Paired (lU h) cP vs->∀ {i:Nat} {v:Value},vs[i]?=some v->∃ k,cP[i]?=some k/\lU h k v
 |_,_,.nil,i,v,q=>by simp at q
 |_,_,.cons r _,0,v,q=>by simp at q;subst q;exact⟨_,rfl,r⟩
 |_,_,.cons _ t,i+1,v,q=>by
  rw[ZH] at q
  obtain⟨z,z1,z2⟩:=yK t q
  exact⟨z,by rw[ZH];exact z1,z2⟩
theorem Lj {h0:Heap} {S:Addr} {cP:List (List Key)} {its:List Value} (hs:Paired (lU h0) cP its) (hl:cP.length<=64) (hx:∀ k∈cP,Txs k) (hS:h0.objs.size=S):Adds X.prog X.w S [S+1] (fun h zs=>(∀ b o,h0.get? b=some o->h.get? b=some o)/\CU X S its h zs) (fun i v=>its.toArray[i]?=some v) (fun i=>cP.getD i []) its.length where
 keep:=fun h h' ys t k=>by
  obtain⟨t0,zs,e,t,m⟩:=t
  have k':∀ b o,(b=S\/b < S)->h.get? b=some o->h'.get? b=some o:=fun b o hb e=>k b o (by
   simp only[QN,Q1,or_false]
   rcases hb with rfl|hb
   ·exact zD (ZY _)
   ·exact zD (qk hb)) e
  have old:∀ b o,h0.get? b=some o->h'.get? b=some o:=fun b o e=>k' b o (.inr (by rw[<-hS];exact zv e)) (t0 b o e)
  refine⟨old,zs,e,?_,m⟩
  obtain⟨o,es,ep,tt,g,r,d,q⟩:=t
  refine⟨o,es,ep,tt,k' S o (.inl rfl) g,r,d,⟨?_,q.nd,q.tok,q.load,q.led,q.non⟩⟩
  have key:∀ {zs:List (List Key×Addr)} {l:List (Int×Value)},Paired (TE X.prog X.w h) zs l->(∀ z∈zs,(.ref z.2:Value)∈its)->Paired (TE X.prog X.w h') zs l:=by
   intro zs l r
   induction r with
   |nil=>intro _;exact .nil
   |cons q _ ih=>
    intro m
    refine .cons ⟨q.1,QT q.2 fun o e c=>?_⟩ (ih fun z hz=>m z (zo _ hz))
    obtain⟨i,hi,ei⟩:=QY (m _ (zh ..))
    obtain⟨kk,_,tv⟩:=yK hs (show its[i]?=some _ by rw[zI hi,ei])
    obtain⟨b,eb,⟨ob,_,_,gb,_⟩⟩:=Li X tv
    cases eb
    exact k' _ o (.inr (by rw[<-hS];exact zv gb)) e
  exact key q.rel m
 add:=fun A E s i v ys Q hu hi hP hC hz h=>by
  obtain⟨t0,zs,e,t,m⟩:=hC
  have hP:its[i]?=some v:=by simpa using hP
  obtain⟨ks,e1,tv⟩:=yK hs hP
  have tv':=tv.keep t0
  obtain⟨b,rfl,hk⟩:=Li X tv'
  have hv:cP.getD i []=ks:=by simp[List.getD,e1]
  have hlen:its.length=cP.length:=hs.length.symm
  have hyl:zs.length=ys.length:=by rw[<-e,zi]
  unfold setAdd
  refine Qr (zb (wpAny_pyHash_tuple hu hk ?_))
  refine Y4 (s:={ s with toks:=s.toks+(ks.length+1) }) hu t hk (hx ks (ZO e1)) (by omega) fun r h' zs' sb t' mm l=>?_
  refine h r h' _ (zs'.map (·.1)) sb ⟨fun c o g=>?_,zs',rfl,t',fun z hz=>?_⟩ (fun z=>?_) (by rw[zi];omega) (Nat.le_add_right _ _)
  ·rw[sb.2 c fun q=>by subst q;have:=zv g;rw[hS] at this;exact JU _ this];exact t0 c o g
  ·rcases (mm z).mp hz with q|⟨q,_⟩
   ·exact m z q
   ·subst q;exact ZO hP
  ·rw[hv,<-e,kF,kF]
   constructor
   ·rintro⟨y,hy,rfl⟩
    rcases (mm y).mp hy with q|⟨q,_⟩
    ·exact .inl ⟨y,q,rfl⟩
    ·exact .inr (congrArg Prod.fst q)
   ·rintro (⟨y,hy,ey⟩|ez)
    ·exact⟨y,(mm y).mpr (.inl hy),ey⟩
    ·rw[ez]
     by_cases q:ks∈zs.map (·.1)
     ·obtain⟨y,hy,ey⟩:=List.mem_map.mp q
      exact⟨y,(mm y).mpr (.inl hy),ey⟩
     ·exact⟨(ks,b),(mm _).mpr (.inr ⟨rfl,q⟩),rfl⟩
theorem Y5 (hc:X.calm=true) (hu:X.A.units+100 < cLine):jk X (.type "set") (adX X):=by
 intro pins s σ H xs us Q I r h
 obtain⟨v,b,ds,cP,rfl,rb,ed,ek,hl,hx,q⟩:=h
 obtain⟨u,rfl,ru⟩:=vals1 r
 obtain⟨p,vs,rfl,sq,rs⟩:=Ck rb ed
 have eds:=zV ek
 subst eds
 cases ru
 have hh:=I.ok.hd hc
 have fin:∀ (h':Heap) (tk:Nat) (ys:List (List Key)) (its:List Value),Vals vs its->((∀ b o,s.heap.get? b=some o->h'.get? b=some o)/\CU X s.heap.objs.size its h' ys)->(∀ z,z∈ys↔∃ j,j < its.length/\z=cP.getD j [])->(∀ b ob,s.heap.get? b=some ob->h'.get? b=some ob)->EP X pins σ Q (.ref s.heap.objs.size) { s with heap:=h',toks:=tk }:=by
  intro h' tk ys its rv cu hm k
  obtain⟨_,zs,e,t,m⟩:=cu
  have hfr:=I.hok.fresh (zg s.heap.objs.size)
  have hlen:its.length=cP.length:=by rw[<-rv.length,rs.length,zi]
  have tv:=qP I rs rv
  refine⟨.ref s.heap.objs.size,_,I.laid (t':=tk) (a:=s.heap.objs.size) (o:=hoU X s.heap.objs.size zs) k (zg _) ?_,rfl,q _ zs _ (bU hfr) aX (fun z=>?_) ?_ fun z hz=>?_⟩
  ·obtain⟨o,es,ep,t',ho,_⟩:=id t
   exact⟨Ts.of t,⟨o,ho⟩,fun h1 h2 t1 k1=>Ts.keep t1 k1⟩
  ·rw[e,hm z]
   constructor
   ·rintro⟨j,hj,rfl⟩
    rw[hlen] at hj
    simp[List.getD,hj]
   ·intro hz
    obtain⟨j,hj,e⟩:=QY hz
    exact⟨j,by rw[hlen];exact hj,by simp[List.getD,hj,e]⟩
  ·obtain⟨o,es,ep,t',ho,_,_,x⟩:=t
   exact x.nd
  ·obtain⟨o,es,ep,t',ho,_,_,x⟩:=t
   obtain⟨i,hi,ei⟩:=QY hz
   obtain⟨ee,_,te⟩:=yI x.rel (show zs[i]?=some z by rw[zI hi,ei])
   have tz:=VL X te.2
   have hz':=m z hz
   obtain⟨j,hj,ej⟩:=QY hz'
   obtain⟨kk,_,tv1⟩:=yK tv (show its[j]?=some (.ref z.2) by rw[zI hj,ej])
   have ek:kk=z.1:=(tv1.keep k).inj tz
   obtain⟨w1,r1,r2⟩:=zW I rs rv (T8:=[kk]) (out:=[.ref z.2]) (.cons tv1 .nil) (fun u hu=>by cases List.mem_singleton.mp hu;exact hz')
   cases r1 with
   |@cons w0 _ _ _ r0 r1=>
    cases r1
    simp only[zr,kc,aK] at r2
    obtain⟨v0,r',ev,q0,_⟩:=r2
    simp only[JA] at ev
    rw[<-ev.1] at q0
    have hw:w0=V.ref z.2:=by
     have q1:=q0
     simp only[tupK,Rep] at q1
     obtain⟨a0,ws,e0,_⟩:=q1
     subst e0
     cases r0;rfl
    rw[<-ek,<-hw]
    exact q0.kp (.of (bU hfr))
 have VN:∀ h':Heap,h'.get? s.heap.objs.size=some (blank X.w)->∀ its:List Value,CU X s.heap.objs.size its h' []:=fun h' e its=>
  ⟨[],rfl,⟨_,#[],0,_,e,⟨rfl,rfl,rfl⟩,rfl,⟨.nil,List.nodup_nil,{ mask:=.inl rfl,YQ:=rfl,rise:=fun i j _ hj=>absurd hj (ki _),bd:=fun j hj=>by simp[SetTable.fresh] at hj,full:=qS _,size:=rfl,reach:=fun i j e h1=>by simp[SetTable.fresh] at h1 },(show 0 * 5 < 7 * 3 by decide),fun q=>by simp[SetTable.fresh,q],fun q=>absurd q (JU _)⟩⟩,fun z hz=>by cases hz⟩
 rcases sq with sq|sq
 ·obtain⟨its,r',pl,hz⟩:=I.list sq
  obtain⟨o,g,c,n,d⟩:=pl.isList
  refine Vt (by omega) (T := "list") hh g c (.inl rfl) (P:=fun i v=>its.toArray[i]?=some v) (n:=its.length) (fun A' E' Q' h0 hA k0 hq=>?_) (Lj (qP I rs r') hl hx rfl) (fun h' e k=>⟨k,VN h' e its⟩) fun h' tk zs tx hm k=>fin h' tk zs its r' tx hm k
  refine KF (items:=its.toArray) ⟨o,k0 _ _ g,c,n,d⟩ ?_
  have hne:p≠h0.objs.size:=zD (zv (k0 _ _ g))
  refine hq _ (fun i h=>h.IsListIter h0.objs.size p i/\h.IsList p its.toArray) (fun A' hA=>by have:=Walks.list (prog:=X.prog) (w:=X.w) hA h0.objs.size p hne its.toArray;rw[zz] at this;exact this) ⟨⟨_,zt _ rfl,rfl,rfl⟩,⟨o,zd _ (k0 _ _ g),c,n,d⟩⟩ fun b ob e=>zd _ e
 ·obtain⟨its,r',pl,hz⟩:=I.tuple sq
  obtain⟨o,g,c,n,d⟩:=id pl
  refine Vt (by omega) (T := "tuple") hh g c (.inr rfl) (P:=fun i v=>its.toArray[i]?=some v) (n:=its.length) (fun A' E' Q' h0 hA k0 hq=>?_) (Lj (qP I rs r') hl hx rfl) (fun h' e k=>⟨k,VN h' e its⟩) fun h' tk zs tx hm k=>fin h' tk zs its r' tx hm k
  refine wpAny_pyIter_tuple (items:=its.toArray) ⟨o,k0 _ _ g,c,n,d⟩ ?_
  have hne:p≠h0.objs.size:=zD (zv (k0 _ _ g))
  refine hq _ (fun i h=>h.IsTupleIter h0.objs.size p i/\h.IsTuple p its.toArray) (fun A' hA=>by have:=Walks.tuple (prog:=X.prog) (w:=X.w) hA h0.objs.size p hne its.toArray;rw[zz] at this;exact this) ⟨⟨_,zt _ rfl,rfl,rfl⟩,⟨o,zd _ (k0 _ _ g),c,n,d⟩⟩ fun b ob e=>zd _ e
theorem abQ {pins:List (Addr×Obj)} {σ:L2.St} {H:Hp} {s:Shared} (I:Inv X pins σ H s) {a:Addr} {zs:List (List Key×Addr)} (h:H a=some (hoU X a zs)):Ts X.prog X.w s.heap a zs:=(I.hok _ _ h).1
def adY (X:Cx):List V->Hp->VK->Prop:=fun xs H Q=>∃ a zs,xs=[.ref a]/\H a=some (hoU X a zs)/\Bu (zs.map (·.1))=true/\(∀ z∈zs,Rep X.K H (tupK z.1) (.ref z.2))/\∀ l H' us,Same H H'->H l=none->H' l=some (.lst us)->aK X.K H' ((m7 (zs.map (·.1))).map tupK) us->Q (.ref l) H'
theorem Y6 (hc:X.calm=true):jk X (.builtin "sorted") (adY X):=by
 intro pins s σ H xs us Q I r h
 obtain⟨a,zs,rfl,ha,hs,hrep,q⟩:=h
 obtain⟨u,rfl,ru⟩:=vals1 r
 cases ru
 simp only[Bu,ZN,Zl,qA,qV] at hs
 obtain⟨h64,hne,hsh⟩:=hs
 rw[zi] at h64
 obtain⟨o,es,ep,t,ho,hex,hd,hl',ft,af7,adZ⟩:=abQ I ha
 have hz:es.size=zs.length:=by rw[<-ZU,hl',zi]
 have wk:Wk X.w s.heap a es ep t:=⟨⟨o,ho,hex.1,hd⟩,ft,af7,fun q=>adZ (by omega)⟩
 have rs0:aK X.K H ((zs.map (·.1)).map tupK) (zs.map fun z=>(V.ref z.2))/\Vals (zs.map fun z=>(V.ref z.2)) (zs.map fun z=>(.ref z.2:Value)):=by
  clear hl' ha q h64 hne hsh hz wk adZ
  induction zs with
  |nil=>exact⟨aK.nil,.nil⟩
  |cons z zs ih=>
   obtain⟨i1,i2⟩:=ih fun y hy=>hrep y (zo _ hy)
   exact⟨aK.cons (hrep z (zh ..)) i1,.cons rfl i2⟩
 have tv0:=qP I rs0.1 rs0.2
 have tz:∀ z∈zs,lU s.heap z.1 (.ref z.2):=fun z hz'=>by
  have:=qP I (cP:=[z.1]) (vs:=[V.ref z.2]) (its:=[.ref z.2]) (aK.cons (hrep z hz') aK.nil) (.cons rfl .nil)
  cases this with
  |cons q' _=>exact q'
 refine OJ (fun vs=>∃ ys:List (List Key×Addr),ys.Perm zs/\vs=ys.map fun z=>(.ref z.2:Value)) (tuples' true) (fun vs v=>rank (vs.map fun u=>keyOf (zs.map (·.1)) (zs.map fun z=>(.ref z.2:Value)) u) (keyOf (vs.map fun u=>keyOf (zs.map (·.1)) (zs.map fun z=>(.ref z.2:Value)) u) vs v))
  (fun E' Q' hq=>Lb (by exact I.ok.hd hc) wk (by rw[hz,sizeLine_eq];omega) fun ord h1 d tk hp hle ext=>hq ord h1 d tk ?_ hle ext) ?_ ?_ ?_ ?_
 ·rw[hl',qa] at hp
  have:∀ {ord vs:List Value},ord.Perm vs->∀ zs:List (List Key×Addr),vs=zs.map (fun z=>(.ref z.2:Value))->∃ ys:List (List Key×Addr),ys.Perm zs/\ord=ys.map fun z=>(.ref z.2:Value):=by
   intro ord vs hp
   induction hp with
   |nil=>intro zs e;cases zs with|nil=>exact⟨[],.refl _,rfl⟩|cons _ _=>cases e
   |cons y _ ih=>
    intro zs e
    cases zs with
    |nil=>cases e
    |cons z zs=>
     rw[zr] at e
     injection e with e1 e2
     obtain⟨ys,p1,p2⟩:=ih zs e2
     exact⟨z::ys,p1.cons _,by rw[zr,e1,p2]⟩
   |swap y1 y2 l=>
    intro zs e
    match zs,e with
    |z1::z2::zs,e=>
     simp only[zr,JA] at e
     exact⟨z2::z1::zs,List.Perm.swap _ _ _,by simp only[zr];rw[e.1,e.2.1,e.2.2]⟩
    |[_],e=>simp at e
    |[],e=>cases e
   |trans _ _ ih1 ih2=>
    intro zs e
    obtain⟨ys,p1,p2⟩:=ih2 zs e
    obtain⟨us,q1,q2⟩:=ih1 ys p2
    exact⟨us,q1.trans p1,q2⟩
  exact this hp zs rfl
 all_goals
  intro vs hG
  obtain⟨ys,py,rfl⟩:=hG
  have hm:∀ v∈(ys.map fun z=>(.ref z.2:Value)),v∈(zs.map fun z=>(.ref z.2:Value)):=fun v hv=>((py.map _).mem_iff).mp hv
  have tvK:∀ v∈(ys.map fun z=>(.ref z.2:Value)),lU s.heap (keyOf (zs.map (·.1)) (zs.map fun z=>(.ref z.2:Value)) v) v:=fun v hv=>(nD tv0 v (hm v hv)).2
  have tv:=wZ tvK
  have eks:(ys.map fun z=>(.ref z.2:Value)).map (fun u=>keyOf (zs.map (·.1)) (zs.map fun z=>(.ref z.2:Value)) u)=ys.map (·.1):=by
   rw[qa]
   refine Q4 fun z hz=>?_
   have hz':=py.mem_iff.mp hz
   exact (tvK (.ref z.2) (List.mem_map.mpr ⟨z,hz,rfl⟩)).inj (tz z hz')
  have mk:∀ k∈(ys.map fun z=>(.ref z.2:Value)).map (fun u=>keyOf (zs.map (·.1)) (zs.map fun z=>(.ref z.2:Value)) u),k∈zs.map (·.1):=fun k hk=>by
   rw[eks] at hk;exact ((py.map _).mem_iff).mp hk
 ·intro h2 E' A' s' k Q' hq
  exact Hg (Paired.imp' (fun _ _ z=>lU.keep z k) tv) (fun k hk=>by have:=hne k (mk k hk);cases k with|nil=>cases this|cons _ _=>exact List.cons_ne_nil _ _) (fun k hk l hl=>Dz (hsh k (mk k hk) l (mk l hl))) (by omega) hq
 ·intro A' s' k
  exact K4 (Paired.imp' (fun _ _ z=>lU.keep z k) tv) fun k hk l hl=>Dz (hsh k (mk k hk) l (mk l hl))
 ·rw[zi,py.length_eq];exact h64
 ·intro l h' d tk n st hp up hl ext hL
  have out:=K5 tv hp up
  have mem:∀ u∈((arrOf st).map (·.2)).toList,u∈(ys.map fun z=>(.ref z.2:Value)):=fun u hu=>by
   rw[Array.toList_map] at hu
   obtain⟨pr,hpr,rfl⟩:=List.mem_map.mp hu
   have abK:pr∈(ys.map fun z=>(.ref z.2:Value)).zip (ys.map fun z=>(.ref z.2:Value)):=by rw[<-pairsOf_toList];exact (Array.perm_iff_toList_perm.mp hp).mem_iff.mp hpr
   have:=mem_zip_self abK
   rw[<-this.1];exact this.2
  have hH:H l=none:=I.hok.fresh hl
  have back:∀ {T8:List (List Key)} {out:List Value},Paired (lU s.heap) T8 out->(∀ u∈out,u∈(ys.map fun z=>(.ref z.2:Value)))->∃ ws,Vals ws out/\aK X.K H (T8.map tupK) ws:=by
   intro T8 out pr
   induction pr with
   |nil=>intro _;exact⟨[],.nil,aK.nil⟩
   |cons q0 _ ih=>
    intro hm'
    obtain⟨ws,w1,w2⟩:=ih fun u hu=>hm' u (zo _ hu)
    obtain⟨z,hz,ez⟩:=List.mem_map.mp (hm' _ (zh ..))
    subst ez
    have hz':=py.mem_iff.mp hz
    have ek:=q0.inj (tz z hz')
    refine⟨.ref z.2::ws,.cons rfl w1,?_⟩
    rw[zr,ek]
    exact aK.cons (hrep z hz') w2
  obtain⟨ws,w1,w2⟩:=back out mem
  rw[eks] at w2
  have es:m7 (ys.map (·.1))=m7 (zs.map (·.1)):=rU ((n6 _).trans (py.map _)) (uQ _)
  rw[es] at w2
  have hzl:ws.length=zs.length:=by rw[w2.length,zi,(n6 _).length_eq,zi]
  refine⟨.ref l,_,Tf (d:=d) (I.laid (t':=tk) (a:=l) (o:=.lst ws) ext hl ⟨by rw[hzl,sizeLine_eq];omega,_,n,w1,?_⟩),rfl,q _ _ ws (bU hH) hH aX (w2.kp (.of (bU hH)))⟩
  rw[hL]
end
def Gd {α:Type} [DecidableEq α]:List α->List α
 |[]=>[]
 |y::ys=>if y∈ys then Gd ys else y::Gd ys
section
variable {α:Type} [DecidableEq α]
theorem qQ:∀ {ys:List α} {z:α},z∈Gd ys↔z∈ys
 |[],z=>by simp[Gd]
 |y::ys,z=>by
  unfold Gd
  split
  ·rename_i h
   rw[qQ,QN]
   exact⟨.inr,fun q=>q.elim (fun e=>e▸h) id⟩
  ·rw[QN,QN,qQ]
theorem DW:∀ (ys:List α),(Gd ys).Nodup
 |[]=>List.nodup_nil
 |y::ys=>by
  unfold Gd
  split
  ·exact DW ys
  ·rename_i h
   exact List.nodup_cons.mpr ⟨fun q=>h (qQ.mp q),DW ys⟩
theorem Cr:∀ (ys:List α),(Gd ys).length<=ys.length
 |[]=>zg _
 |y::ys=>by
  have:=Cr ys
  unfold Gd
  split<;>simp<;>omega
theorem Jo {β:Type} [DecidableEq β] {f:α->β} (hi:∀ a b,f a=f b->a=b):∀ (ys:List α),Gd (ys.map f)=(Gd ys).map f
 |[]=>rfl
 |y::ys=>by
  have hm:f y∈ys.map f↔y∈ys:=⟨fun q=>by obtain⟨z,hz,e⟩:=List.mem_map.mp q;rw[<-hi _ _ e];exact hz,fun q=>List.mem_map.mpr ⟨y,q,rfl⟩⟩
  rw[zr]
  unfold Gd
  by_cases q:y∈ys
  ·rw[zk q,zk (hm.mpr q),Jo hi ys]
  ·rw[zw q,zw fun h=>q (hm.mp h),zr,Jo hi ys]
end
section
variable {X:Cx}
def Lk (ks:List Key):Bool:=ks.any fun k=>k.isRight
theorem abR {ks:List Key} (h:Lk ks=true):Txs ks:=by
 unfold Lk at h
 rw[QQ] at h
 obtain⟨k,hk,e⟩:=h
 cases k with
 |inl i=>cases e
 |inr x=>exact⟨x,hk⟩
def tU (X:Cx) (f:Ev->Option (List (List Key))):L2.TE:=fun σ H Q=>∃ H0 ρ cP,bJ X.K H0 H σ ρ/\f ρ=some cP/\∀ a zs H',Same H H'->H' a=some (hoU X a zs)->(∀ k,k∈zs.map (·.1)↔k∈cP)->(zs.map (·.1)).Nodup->(∀ z∈zs,Rep X.K H' (tupK z.1) (.ref z.2))->Q (.ref a) H'
def PVU (X:Cx) (e:Expr) (f:Ev->Option (List (List Key))):Prop:=PE X e (tU X f)
structure QVU (X:Cx) (e:Expr) (f:Ev->Option (List (List Key))):Prop where
 run:PVU X e f
def aad (b:Bx):Option (List (List Key)):=(yq b).bind fun ds=>(sZ ds).bind fun cP=>if cP.length<=64/\cP.all Lk=true then some cP else none
def O1 (f:Ev->Option Bx):Ev->Option (List (List Key)):=fun ρ=>(f ρ).bind aad
def DX (fs:Ev->Option (List (List Key))):Ev->Option Bx:=fun ρ=>(fs ρ).bind fun cP=>if Bu cP=true then some (.o ((m7 (Gd cP)).map tupK)) else none
variable {e:Expr} {f:Ev->Option Bx} {fs:Ev->Option (List (List Key))} {p pos:Pos}
theorem QW (hc:X.calm=true) (hu:X.A.units+100 < cLine) (hg:Gl X "set") (hm:X.mg "set" = none) (ha:QV X e f) (he:starEach (e::[]) X.env=(false,eval e X.env)::starEach [] X.env:=by rfl):QVU X (.Call (.Name "set" p) [e] [] pos) (O1 f):=by
 refine⟨Ij (GX (T := "set") (Y5 hc hu) hg hm rfl (jC ha.run sO he) (he:=he)) fun σ H Q h=>?_⟩
 obtain⟨H0,ρ,cP,E,ef,q⟩:=h
 obtain⟨b,eb,ef⟩:=bind_some ef
 obtain⟨ds,ed,ef⟩:=bind_some ef
 obtain⟨ks',ek,ef⟩:=bind_some ef
 split at ef
 ·rename_i hl
  cases ef
  rw[qA] at hl
  exact⟨H0,ρ,b,E,eb,fun v H1 s1 n1 r1=>⟨v,b,ds,cP,rfl,r1,ed,ek,hl.1,fun k hk=>abR (hl.2 k hk),fun a zs H2 s2 e2 m nd hz=>q a zs H2 (s1.trans s2) e2 m nd hz⟩⟩
 ·cases ef
theorem VP {cP T8:List (List Key)} (h:Bu cP=true) (hl:T8.length<=cP.length) (hm:∀ k∈T8,k∈cP):Bu T8=true:=by
 simp only[Bu,ZN,Zl,qA,qV] at h ⊢
 exact⟨by omega,fun k hk=>h.2.1 k (hm k hk),fun k hk l hl'=>h.2.2 k (hm k hk) l (hm l hl')⟩
theorem QX (hc:X.calm=true) (hg:Gl X "sorted") (hm:X.mg "sorted" = none) (ha:QVU X e fs) (he:starEach (e::[]) X.env=(false,eval e X.env)::starEach [] X.env:=by rfl):QV X (.Call (.Name "sorted" p) [e] [] pos) (DX fs):=by
 refine⟨Ij (xT (id := "sorted") (Y6 hc) hg hm rfl (jC ha.run sO he) (he:=he)) fun σ H Q h=>?_⟩
 obtain⟨H0,ρ,b,E,ef,q⟩:=h
 obtain⟨cP,ey,ef⟩:=bind_some ef
 split at ef
 ·rename_i hl
  cases ef
  refine⟨H0,ρ,cP,E,ey,fun a zs H1 s1 e1 m nd hy=>⟨a,zs,rfl,e1,?_,hy,fun l H2 us s2 hfr e2 rp=>?_⟩⟩
  ·have e3:=(Cp nd (DW cP) fun z=>by rw[m z,qQ]).length_eq
   have:=Cr cP
   exact VP hl (by omega) fun k hk=>(m k).mp hk
  ·have pm:=Cp nd (DW cP) fun z=>by rw[m z,qQ]
   have es:m7 (zs.map (·.1))=m7 (Gd cP):=rU ((n6 _).trans pm) (uQ _)
   rw[es] at rp
   exact q _ H2 (s1.trans s2) (fun a ea=>by cases ea;exact s1.free hfr) ⟨l,us,rfl,e2,rp⟩
 ·cases ef
end
end P1
end
section
namespace P1
open PySem PySem.Spec PyProof.Rows L2
def Bg:Bx->Bx->Option Bx
 |.z (.str k),.z d=>some (.z (.tup [.str k,d]))
 |_,_=>none
theorem O2 {a b:Bx} {y:Dt} (h:Bg a b=some (.z y)):∃ k d,a=.z (.str k)/\b=.z d/\y=.tup [.str k,d]:=by
 unfold Bg at h
 split at h
 ·cases h;exact⟨_,_,rfl,rfl,rfl⟩
 ·cases h
def abS (kvs:List (Str×Dt)):Dt->List (Str×Dt)
 |.tup [.str k,d]=>Je kvs k d
 |_=>kvs
def dictOf (out:List Dt):List (Str×Dt):=out.foldl abS []
theorem Ln (out:List Dt) (k:Str) (d:Dt):dictOf (out++[.tup [.str k,d]])=Je (dictOf out) k d:=by
 unfold dictOf
 rw[List.foldl_append]
 rfl
section
variable {X:Cx} {pins:List (Addr×Obj)} {σ:L2.St} {H:Hp} {s:Shared} {a:Addr} {A:Around} {E:Value->Shared->Prop}
theorem Tg {kvs:List (Key×V)} {k:Key} {v:V} {u r:Value} {Q:Unit->Shared->Prop} (I:L2.Inv X pins σ H s) (e:H a=some (.dK kvs)) (l:kvs.length < sizeLine) (ry:RelV (kV k) u) (rv:RelV v r) (h:∀ s',L2.Inv X pins σ (upd H a (.dK (putK kvs k v))) s'->Q () s') :
  wpAny (model X.prog X.w) A (dictSet a u r) Q E s:=by
 obtain⟨z,hd,vs,rel,dd⟩:=Z5 I.hok e
 have hz:vs.length<=sizeLine:=by rw[<-rel.length];exact z
 have hl:(putK kvs k v).length<=sizeLine:=by have:=qO kvs k v;omega
 refine wpAny_dictSet_pairs (hsz:=hz) (Kq ry) dd fun h' dd' hs=>h _ ?_
 have he:∃ q,h'.get? a=some q:=let ⟨q,_,_,hq,_⟩:=dd';⟨q,hq⟩
 exact Ii I (by rw[e];exact True.intro) hs he (Uv hl hd (rel.put k rv) dd')
end
section
variable {X:Cx} {kx vx tgt iter:Expr} {ifs:List Expr} {scope:Scope} {cl:List (Str×Addr)} {pos:Pos} {xs ts:List Str} {is:List Nat} {gt:Dt->Ev->Option Ev} {p:Ev->Option Bool} {fk fv:Ev->Option Bx} {fi:Ev->Option (List Dt)}
def AcD (K:PySem.W.Frag) (H:Hp) (i:Nat) (o1:List Dt) (o:HO):Prop:=∃ us,o=.dK us/\gR K H (dictOf o1) us/\us.length<=i
theorem Y7 (hk:PV X kx fk) (hv:PV X vx fv):Yj X (fun D env=>do let kv <-eval kx env;let vv <-holding [kv] (eval vx env);standAt { kx.pos with endLine:=vx.pos.endLine,endCol:=vx.pos.endCol };holding [kv,vv] (dictSet D kv vv)) (b2 Bg fk fv) (AcD X.K) 999:=by
 intro pins s σ H H0 ρ D o i o1 y I En eb hD ⟨us,e,r4,hl⟩ hi
 subst e
 obtain⟨bk,ebk,eb⟩:=bind_some eb
 obtain⟨bv,ebv,eb⟩:=bind_some eb
 obtain⟨kt,dv,rfl,rfl,rfl⟩:=O2 eb
 refine zb (qr (hk pins s σ H (fun v H9=>Same H H9/\bf X.K H9 (.z (.str kt)) v) I ⟨H0,ρ,_,En,ebk,fun v H9 s9 _ r9=>⟨s9,r9⟩⟩) (fun kv s9a h9=>?_) fun _ _ z=>z)
 obtain⟨k',H9a,I9a,rk,ad1,r9a⟩:=h9
 refine zb (Qr (qr (hv pins s9a σ H9a (fun v H9=>Same H9a H9/\Rep X.K H9 dv v) I9a ⟨H0,ρ,_,En.grow ad1,ebv,fun v H9 s9 _ r9=>⟨s9,r9⟩⟩) (fun v s9 h9=>?_) fun _ _ z=>z))
 obtain⟨v',H9,I9,rv,s9b,r9⟩:=h9
 have Yl:=ad1.trans s9b
 have hD9:H9 D=some (.dK us):=Yl _ _ hD
 obtain⟨rfl,hkl⟩:k'=.str kt/\kt.length<=sizeLine:=by simpa only[bf,Rep] using r9a
 have kp:Kp H9 (upd H9 D (.dK (putK us (Sum.inr kt) v'))):=.dk hD9
 refine zb (KL (Qr ?_))
 refine Tg I9 hD9 (by have:(1000:Nat) < sizeLine:=(by decide);omega) (k:=Sum.inr kt) rk rv fun s10 I10=>?_
 have r5:=((r4.kp (.of Yl)).put (x:=kt) r9 hkl).kp kp
 exact⟨H9,_,I10,Yl,kp,putK us (Sum.inr kt) v',rfl,by rw[Ln];exact r5,by have:=qO us (Sum.inr kt) v';omega⟩
theorem Ti (hu:X.A.units+100 < cLine) {pins:List (Addr×Obj)} {σ:L2.St} {H H2:Hp} {s2:Shared} {it:Addr} {fp:List Addr} {tn:Nat->Heap->Prop} {J:It} {ds out:List Dt} {ρ:Ev} {RR:Value->Addr->Result->Shared->Prop} {E:Value->Shared->Prop}
  (hkind:scope.kind=.function) (hcell:∀ y∈scope.names,y.2≠.cell) (hcalm:X.calm=true)
  (hsub:SubL X.env.cells cl) (hhas:∀ x,((relabel scope X.env).names.lookup x=some .cell\/(relabel scope X.env).names.lookup x=some .free)->∃ c,cl.lookup x=some c) (hcap:yc X scope cl xs is)
  (J9:∀ C s₀ H₀ fp,PTg (Aw X (xs++ts) scope cl C s₀ H₀ fp) tgt gt) (hif:∀ C s₀ H₀ fp,Tests (Aw X (xs++ts) scope cl C s₀ H₀ fp) ifs p) (hkx:∀ C s₀ H₀ fp,PV (Aw X (xs++ts) scope cl C s₀ H₀ fp) kx fk) (hvx:∀ C s₀ H₀ fp,PV (Aw X (xs++ts) scope cl C s₀ H₀ fp) vx fv) (htk:Xg is.length gt)
  (I2:L2.Inv X pins σ H2 s2) (Ec:bJ X.K H2 H2 (uG is σ++List.replicate ts.length none) (jB is ρ++List.replicate ts.length none)) (T:Turn X.prog X.w X.K tgt J fp it tn) (st:tn 0 s2.heap) (hf:∀ b∈fp,uz X pins H2 b) (Y:Yields X.K J ds H2)
  (hlen:ds.length < 1000) (hout:qe gt p (b2 Bg fk fv) (jB is ρ++List.replicate ts.length none) ds=some out)
  (hRR:∀ (D C:Addr) (s':Shared) (H':Hp) (us:List (Key×V)),H2 D=none->L2.Inv X pins σ H' s'->uz X pins H' C->(∃ m,s'.heap.Ns C m)->Same H2 H'->H' D=some (.dK us)->gR X.K H' (dictOf out) us->RR (.ref D) C (.ok .next) s') :
  wpAny (model X.prog X.w) X.A newDict (fun acc s₃=>wpAny (model X.prog X.w) X.A (newFunctionEnv scope X.env.globals cl [] X.env.qual none .none (some X.env)) (fun cenv s₄=>
   codeAny (model X.prog X.w) X.A (.compStart (.DictComp kx vx [⟨tgt,iter,ifs,0⟩] scope pos) 0 (.ref it) acc { cenv with scope:=relabel scope X.env }) (RR acc cenv.locals) s₄) E s₃) E s2:=
 G4 (H:=H) (Ac:=AcD X.K) (O0:=.dK []) (N:=999) hkind hcell hcalm hsub hhas hcap J9 hif (fun C s₀ H₀ fp=>Y7 (hkx C s₀ H₀ fp) (hvx C s₀ H₀ fp)) htk I2 Ec T st hf Y (Nat.le_of_lt_succ hlen) hout (fun D C s' H' o i a b c d e f g=>by obtain⟨us,rfl,r,_⟩:=g;exact hRR D C s' H' us a b c d e f r)
  qi (fun _=>Uw s2.heap I2.big) (fun _=>⟨[],rfl,gR.nil,zg _⟩) (fun k l ⟨us,e,r,z⟩=>⟨us,e,r.kp k,z4 z l⟩) (fun _ _ _=>rfl) codeAny_compStart_dict fun h=>h
def QZ (fi:Ev->Option (List Dt)) (gt:Dt->Ev->Option Ev) (p:Ev->Option Bool) (fk fv:Ev->Option Bx) (is:List Nat) (n:Nat):Ev->Option Bx:=fun ρ=>(fi ρ).bind fun ds=>
 if ds.length < 1000 then (qe gt p (b2 Bg fk fv) (jB is ρ++List.replicate n none) ds).bind fun out=>some (.m (dictOf out) none) else none
theorem VR (hu:X.A.units+100 < cLine) (ts:List Str) (O:zO X scope cl xs is) (hcalm:X.calm=true) (hi:QIC X tgt iter fi)
  (J9:∀ C s₀ H₀ fp,Xf (Aw X (xs++ts) scope cl C s₀ H₀ fp) tgt gt) (hif:∀ C s₀ H₀ fp,zN (Aw X (xs++ts) scope cl C s₀ H₀ fp) ifs p) (hkx:∀ C s₀ H₀ fp,QV (Aw X (xs++ts) scope cl C s₀ H₀ fp) kx fk) (hvx:∀ C s₀ H₀ fp,QV (Aw X (xs++ts) scope cl C s₀ H₀ fp) vx fv) (htk:Xg is.length gt)
  (hs:∀ x,foldedSetIterable iter X.env x=pure x:=by intro _;rfl):QV X (.DictComp kx vx [⟨tgt,iter,ifs,0⟩] scope pos) (QZ fi gt p fk fv is ts.length):=⟨fun pins s σ H Q I h=>by
 obtain⟨H0,ρ,b,E,e,q⟩:=h
 obtain⟨ds,ed,e⟩:=bind_some e
 split at e
 ·rename_i hlen
  obtain⟨out,eo,e⟩:=bind_some e
  cases e
  rw[arm_eval_DictComp]
  refine kz (use:=none) rfl hs O.clos O.kind O.names ?_
  refine mH (hi.run pins s σ H (fun J H'=>Same H H'/\Yields X.K J ds H') I ⟨H0,ρ,ds,E,ed,fun J H' s' y=>⟨s',y⟩⟩) fun v s1 h1=>mH h1 fun itv s2 h2=>?_
  obtain⟨it,fp,tn,J,H2,rfl,I2,T,st,hf,s12,Y⟩:=h2
  refine Ti hu (RR:=fun acc C=>compPost (model X.prog X.w) X.A X.xe none (EP X pins σ Q) acc C) (ts:=ts) (xs:=xs) (H:=H) O.kind O.cell hcalm O.sub O.has O.cap (fun C s₀ H₀ fp=>(J9 C s₀ H₀ fp).run) (fun C s₀ H₀ fp=>(hif C s₀ H₀ fp).run) (fun C s₀ H₀ fp=>(hkx C s₀ H₀ fp).run) (fun C s₀ H₀ fp=>(hvx C s₀ H₀ fp).run) htk I2 ((E.grow s12).caps is ts.length) T st hf Y hlen eo ?_
  intro D C s' H' us hD I' fC ⟨m,hn⟩ s2' hD' rm
  refine⟨m,hn,fun h' sb=>⟨.ref D,H',?_,rfl,q (.ref D) H' (s12.trans s2') (fun a ea=>by cases ea;exact s12.free hD) ⟨D,us,rfl,hD',rm,fun b hb=>by cases hb⟩⟩⟩
  obtain⟨f0,f1,f2,f3,f4,f5⟩:=fC
  exact I'.turned (t':=s'.toks) (fun b o hb e=>(sb.2 b hb).trans e) f0 f1 f3 f4 f5
 ·cases e⟩
end
section
variable {X:Cx} {pins:List (Addr×Obj)} {σ:L2.St} {H:Hp} {s:Shared} {a:Addr} {ks:List (Key×V)} {o:Obj}
theorem Lq (hb:∀ ob u,X.H₀ a≠some (.lG ob u)) (I:L2.Inv X pins σ H s) (e:H a=some (.lG o (.dK ks))):L2.Inv X pins σ (upd H a (.dK ks)) s:=by
 have ne:∀ {b:Addr} {u:HO},H b=some u->u≠.lG o (.dK ks)->b≠a:=fun q n z=>by subst z;rw[e] at q;cases q;exact n rfl
 have nn:∀ {b:Addr},H b=none->b≠a:=fun q z=>by subst z;rw[e] at q;cases q
 refine⟨I.ok,I.os,I.bare,⟨I.base.keep,I.base.slot,fun b ob q n hx=>?_,I.base.there,fun b xs q=>?_,fun b ob u q=>?_,fun b ps q=>?_⟩,I.loc,I.cell,?_,fun x c q=>?_,fun p hp=>?_,fun b ob q=>?_,I.len⟩
 ·have:=I.base.free b ob q n hx
  rw[aF (nn this)];exact this
 ·have:=I.base.tups b xs q
  rw[aF (ne this fun z=>by cases z)];exact this
 ·have:=I.base.uh b ob u q
  rw[aF (fun z=>by subst z;exact hb _ _ q)];exact this
 ·obtain⟨m,this⟩:=I.base.wN b ps q
  exact⟨m,by rw[aF (ne this fun z=>by cases z)];exact this⟩
 ·have:=I.free
  rw[aF (nn this)];exact this
 ·have:=I.o8 x c q
  rw[aF (nn this)];exact this
 ·obtain⟨p1,p2,p3⟩:=I.pin p hp
  exact⟨p1,by rw[aF (nn p2)];exact p2,p3⟩
 ·have st:∀ {c:Addr} {w:HO},iw X.prog X.w H s.heap c w->iw X.prog X.w (upd H a (.dK ks)) s.heap c w:=fun x=>
   x.stay (fun _ _ _ r=>r) (fun d r=>by rw[aF (ne r fun z=>by cases z)];exact r) fun d xs r=>by rw[aF (ne r fun z=>by cases z)];exact r
  by_cases hba:b=a
  ·subst hba
   rw[aX] at q
   cases q
   exact st (I.hok _ _ e).2
  ·rw[aF hba] at q
   exact st (I.hok _ _ q)
theorem ad2 (I:L2.Inv X pins σ H s) (e:H a=some (.dK ks)) (ho:s.heap.get? a=some o):L2.Inv X pins σ (upd H a (.lG o (.dK ks))) s:=by
 have:=I.write (t':=s.toks) (h':=s.heap) (x:=a) (e:=a) (o:=.lG o (.dK ks)) (by rw[e];exact True.intro) (.inl rfl) (fun _ _ _ z=>z) ⟨o,ho⟩ ⟨ho,(I.hok _ _ e).stay (fun _ _ _ r=>r) (fun d r=>by rw[aF (o7 r e (by intro z;cases z))];exact r) fun d xs r=>by rw[aF (o7 r e (by intro z;cases z))];exact r⟩
 exact this
theorem Y8 (I:L2.Inv X pins σ H s) (e:H a=some (.dK ks)):∀ ob u,X.H₀ a≠some (.lG ob u):=fun ob u q=>by
 have:=I.base.uh a ob u q
 rw[e] at this;cases this
mutual
theorem Rep.Lq {K:PySem.W.Frag} (e:H a=some (.lG o (.dK ks))) (hk:ks≠[]):∀ {d:Dt} {v:V},Rep K H d v->Rep K (upd H a (.dK ks)) d v
 |.non,_,h=>by simpa only[Rep] using h
 |.bl _,_,h=>by simpa only[Rep] using h
 |.int _,_,h=>by simpa only[Rep] using h
 |.str _,_,h=>by simpa only[Rep] using h
 |.tup ds,_,h=>by
  simp only[Rep] at h ⊢
  obtain⟨b,vs,e1,q,r⟩:=h
  refine⟨b,vs,e1,?_,aK.Lq e hk r⟩
  rcases q with (q|⟨ob,q⟩)|q
  ·exact .inl (.inl (by rw[aF (fun z=>by subst z;rw[e] at q;cases q)];exact q))
  ·exact .inl (.inr ⟨ob,by rw[aF (fun z=>by subst z;rw[e] at q;cases q)];exact q⟩)
  ·exact .inr q
 |.lst ds,_,h=>by
  simp only[Rep] at h ⊢
  obtain⟨b,vs,e1,q,r⟩:=h
  refine⟨b,vs,e1,?_,aK.Lq e hk r⟩
  rcases q with⟨ob,q⟩|q
  ·exact .inl ⟨ob,by rw[aF (fun z=>by subst z;rw[e] at q;cases q)];exact q⟩
  ·exact .inr q
 |.emp,_,h=>by
  simp only[Rep] at h ⊢
  obtain⟨b,ob,e1,q⟩:=h
  exact⟨b,ob,e1,by rw[aF (fun z=>by subst z;rw[e] at q;cases q;exact hk rfl)];exact q⟩
theorem aK.Lq {K:PySem.W.Frag} (e:H a=some (.lG o (.dK ks))) (hk:ks≠[]):∀ {ds:List Dt} {vs:List V},aK K H ds vs->aK K (upd H a (.dK ks)) ds vs
 |[],_,h=>by simpa only[aK] using h
 |d::ds,_,h=>by
  simp only[aK] at h ⊢
  obtain⟨v,r,e1,q,t⟩:=h
  exact⟨v,r,e1,Rep.Lq e hk q,aK.Lq e hk t⟩
end
def Itd (a:Addr) (o:Obj) (ks:List (Key×V)):It:=
 ⟨fun i H=>H a=some (.lG o (.dK ks))/\i < ks.length,fun i H x H'=>H'=H/\(ks.map fun k=>kV k.1)[i]?=some x,fun i H=>H a=some (.lG o (.dK ks))/\ks.length<=i⟩
theorem Q0 {P:Program} {w:World} {h:Heap} (x:iw P w H h a (.lG o (.dK ks))) {es:Array DictEntry} {ep:Nat} (hd:o.data=.dict es ep):∃ vs,KV ks vs/\h.DictAt (bw P w) a vs ep:=by
 obtain⟨e,_,_,vs,kv,ob,es',ep',e2,c,d,r⟩:=x
 rw[e] at e2
 cases e2
 rw[hd] at d
 cases d
 exact⟨vs,kv,o,es,e,c,hd,r⟩
theorem V0:∀ {ks:List (Key×V)} {vs:List (Key×Value)},KV ks vs->∀ {i:Nat} {p},ks[i]?=some p->∃ x,vs[i]?=some (p.1,x)
 |_,_,.nil,i,p,q=>by simp at q
 |_,_,.cons h _,0,p,q=>by simp at q;subst q;exact⟨_,by rw[List.getElem?_cons_zero,h.1]⟩
 |_,_,.cons _ t,i+1,p,q=>by
  rw[ZH] at q
  obtain⟨x,hx⟩:=V0 t q
  exact⟨x,by rw[ZH];exact hx⟩
theorem Hq {P:Program} {w:World} {K:PySem.W.Frag} {tg:Expr} (it:Addr) {es:Array DictEntry} {ep:Nat} (hd:o.data=.dict es ep) (hne:a≠it):Turn P w K tg (Itd a o ks) [it] it (fun i h=>h.IsKeyIter it a i ks.length ep) where
 mem:=by simp
 obj:=fun i h st b hb=>by
  have e:b=it:=by simpa using hb
  subst e
  obtain⟨ob,e,c,d⟩:=st
  exact⟨ob,e,fun v z=>by rw[d] at z;cases z⟩
 keep:=fun i h h' st k=>st.at fun ob e=>k it (by simp) ob e
 item:=by
  intro X hP hw hK hc i pins s σ H E I hf st hg
  subst hP hw hK
  obtain⟨ha,hi⟩:=hg
  obtain⟨vs,kv,dd⟩:=Q0 (I.hok _ _ ha) hd
  have hl:ks.length=vs.length:=kv.length
  obtain⟨x,hx⟩:=V0 kv (show ks[i]?=some ks[i] by simp[hi])
  obtain⟨f0,f1,f2,f3,f4,f5⟩:=hf it (by simp)
  rw[hl] at st
  refine wpAny_pyNext_dict_item st dd hx fun key h' hkey st' sb=>?_
  rw[<-hl] at st'
  have I1:L2.Inv X pins σ H { s with heap:=h' }:=I.turned (t':=s.toks) (fun b ob hb e=>(sb.2 b hb).trans e) f0 f1 f3 f4 f5
  obtain⟨ob,e,c,d⟩:=id st'
  refine⟨key,rfl,GJ (s:={ s with heap:=h' }) e c d (by decide) ⟨kV (ks[i]).1,H,I1,?_,⟨rfl,by rw[zS,zI hi];rfl⟩,st',fun b hb=>(hf b hb).1⟩⟩
  have hk':mV (ks[i]).1 key=true:=hkey
  rcases bM hk' with⟨j,t,e2,e3⟩|⟨z,t,e2,e3⟩
  ·rw[e2,e3];exact⟨t,rfl⟩
  ·rw[e2,e3];exact⟨t,rfl⟩
 done:=by
  intro X hP hw hK hc i pins s σ H E I hf st hg
  subst hP hw hK
  obtain⟨ha,hi⟩:=hg
  obtain⟨vs,kv,dd⟩:=Q0 (I.hok _ _ ha) hd
  have hl:ks.length=vs.length:=kv.length
  obtain⟨f0,f1,f2,f3,f4,f5⟩:=hf it (by simp)
  rw[hl] at st
  exact wpAny_pyNext_dict_end (I.ok.hd hc) st dd (qo (by omega)) fun h' eb=>⟨rfl,I.turned (t':=s.toks) (fun b ob hb e=>eb b ob hb e) f0 f1 f3 f4 f5⟩
 self:=fun _ _ _ _ _ st h=>wpAny_pyIter_keyiter st h
def keyB:Bx->Option (List Dt)
 |.n kvs=>some (kvs.map fun p=>.str p.1)
 |_=>none
theorem Tj {b:Bx} {ds:List Dt} (h:keyB b=some ds):∃ kvs,b=.n kvs/\ds=kvs.map fun p=>.str p.1:=by
 unfold keyB at h
 split at h
 ·cases h;exact⟨_,rfl,rfl⟩
 ·cases h
theorem Bh {K:PySem.W.Frag} {Hs:Hp} {kvs:List (Str×Dt)} (ha:Hs a=some (.lG o (.dK ks))) (rm:gR K Hs kvs ks):Yields K (Itd a o ks) (kvs.map fun p=>.str p.1) Hs:=.of fun i H s=>by
 have hl:=rm.len
 refine⟨fun d e=>?_,fun e=>⟨s _ _ ha,by rw[zi] at e;omega⟩⟩
 rw[zS] at e
 cases hp:kvs[i]? with
 |none=>rw[hp] at e;cases e
 |some p=>
  rw[hp] at e
  cases e
  have hi:i < kvs.length:=(List.getElem?_eq_some_iff.mp hp).1
  refine⟨⟨s _ _ ha,by omega⟩,fun x H' y=>?_⟩
  obtain⟨y1,y2⟩:=y
  refine⟨y1,?_⟩
  have h1:(ks.map (·.1))[i]?=some (Sum.inr p.1):=by rw[rm.1,zS,hp];rfl
  rw[zS] at h1 y2
  cases hk:ks[i]? with
  |none=>rw[hk] at h1;cases h1
  |some q=>
   rw[hk] at h1 y2
   cases y2
   have:q.1=Sum.inr p.1:=by simpa using h1
   show Rep K H (.str p.1) (kV q.1)
   rw[this]
   unfold Rep
   exact⟨rfl,rm.2.2 p (ZO hp)⟩
theorem O4 {K:PySem.W.Frag} {H1:Hp} {σ:L2.St} {ρ:Ev} {is:List Nat} {n:Nat} (e:H1 a=some (.dK ks)) (E:bJ K H1 H1 (uG is σ++List.replicate n none) (jB is ρ++List.replicate n none)):bJ K (upd H1 a (.lG o (.dK ks))) (upd H1 a (.lG o (.dK ks))) (uG is σ++List.replicate n none) (jB is ρ++List.replicate n none):=by
 have kp:Kp H1 (upd H1 a (.lG o (.dK ks))):=.dk e
 have NQ:∀ (j:Nat) c,(jB is ρ++List.replicate n none)[j]?=some (some c)->uo c=false:=fun j c e=>by
  by_cases hj:j < is.length
  ·rw[Zs (by simp[jB];omega)] at e
   unfold jB at e
   rw[zS] at e
   cases q:is[j]? with
   |none=>rw[q] at e;cases e
   |some i=>
    rw[q] at e
    have:vQ ρ i=some c:=by simpa using e
    exact xX this
  ·rw[ZT (by simp[jB];omega),qB] at e
   split at e<;>cases e
 refine⟨E.len,fun j b eb=>?_,fun j k c a b e ec=>absurd ec (by rw[NQ j c e];exact Zp),Same.refl _,fun j c a e ec=>absurd ec (by rw[NQ j c e];exact Zp)⟩
 obtain⟨v,ev,r⟩:=E.val j b eb
 refine⟨v,ev,?_⟩
 cases b with
 |z d=>exact Rep.kp kp r
 |o ds=>have:=NQ j _ eb;cases this
 |m ds _=>have:=NQ j _ eb;cases this
 |l ds=>
  obtain⟨b,vs,e1,q,r⟩:=r
  refine⟨b,vs,e1,?_,r.kp kp⟩
  rcases q with q|⟨ob,q⟩
  ·exact .inl (by rw[aF (o7 q e (by intro z;cases z))];exact q)
  ·exact .inr ⟨ob,by rw[aF (o7 q e (by intro z;cases z))];exact q⟩
 |n ds=>
  obtain⟨b,vs,e1,q,r⟩:=r
  refine⟨b,vs,e1,?_,r.kp kp⟩
  by_cases hb:b=a
  ·subst hb
   rcases q with q|⟨ob,q⟩
   ·rw[e] at q;cases q
    exact .inr ⟨o,aX⟩
   ·rw[e] at q;cases q
  ·rcases q with q|⟨ob,q⟩
   ·exact .inl (by rw[aF hb];exact q)
   ·exact .inr ⟨ob,by rw[aF hb];exact q⟩
end
section
variable {X:Cx} {e elt tgt iter:Expr} {ifs:List Expr} {fd:Ev->Option Bx} {scope:Scope} {cl:List (Str×Addr)} {pos:Pos} {xs ts:List Str} {is:List Nat} {gt:Dt->Ev->Option Ev} {p:Ev->Option Bool} {fe:Ev->Option Bx}
def Lr (fd:Ev->Option Bx):Ev->Option (List Dt):=fun ρ=>(fd ρ).bind keyB
theorem Tn (ρ:Ev):qe gt p fe ρ []=some []:=rfl
theorem Ls (ts:List Str) (O:zO X scope cl xs is) (hcalm:X.calm=true) (hi:QV X iter fd)
  (J9:∀ C s₀ H₀ fp,Xf (Aw X (xs++ts) scope cl C s₀ H₀ fp) tgt gt) (hif:∀ C s₀ H₀ fp,zN (Aw X (xs++ts) scope cl C s₀ H₀ fp) ifs p) (helt:∀ C s₀ H₀ fp,QV (Aw X (xs++ts) scope cl C s₀ H₀ fp) elt fe) (htk:Xg is.length gt)
  (hs:∀ x,foldedSetIterable iter X.env x=pure x:=by intro _;rfl):QV X (.ListComp elt [⟨tgt,iter,ifs,0⟩] scope pos) (eX (Lr fd) gt p fe is ts.length):=⟨fun pins s σ H Q I h=>by
 obtain⟨H0,ρ,b,E,e,q⟩:=h
 obtain⟨ds,ed,e⟩:=bind_some e
 split at e
 ·rename_i hlen
  obtain⟨out,eo,e⟩:=bind_some e
  cases e
  obtain⟨bd,ebd,ed⟩:=bind_some ed
  obtain⟨kvs,rfl,rfl⟩:=Tj ed
  rw[eval_ListComp]
  refine kz (use:=none) rfl hs O.clos O.kind O.names ?_
  refine mH (hi.run pins s σ H (fun v H1=>Same H H1/\bf X.K H1 (.n kvs) v) I ⟨H0,ρ,_,E,ebd,fun v H1 s1 _ r1=>⟨s1,r1⟩⟩) fun v s1 ⟨v',H1,I1,rv,s01,r1⟩=>?_
  obtain⟨a,ks,rfl,rd,rm⟩:=r1
  cases rv
  obtain⟨_,hsys,vs,kv,ob,es,ep,dd⟩:=Kr I1.hok rd
  have hob:=dd.1
  have hdat:=dd.2.2.1
  refine wpAny_pyIter_dict hsys (⟨ob,es,dd⟩:s1.heap.DictAt (bw X.prog X.w) a vs ep) ?_
  have hlt:a < s1.heap.objs.size:=zv hob
  have hl:ks.length=vs.length:=kv.length
  have ad3:∀ {H':Hp},L2.Inv X pins σ H' s1->∀ b∈[s1.heap.objs.size],uz X pins H' b:=fun I' b hb=>by
   have e:b=s1.heap.objs.size:=by simpa using hb
   subst e
   exact I'.RQ (zg _) (I'.hok.fresh (zg _))
  have st0:Heap.IsKeyIter (s1.heap.push { cls:=.type "dict_keyiterator", data:=.fields #[.ref a,.int 0 0,.int vs.length 0,.int ep 0] }) s1.heap.objs.size a 0 ks.length ep:=⟨_,zt _ rfl,rfl,by rw[hl];rfl⟩
  rcases rd with rd|⟨o',rd⟩
  ·
   have I2:=ad2 I1 rd hob
   have I3:L2.Inv X pins σ (upd H1 a (.lG ob (.dK ks))) { s1 with heap:=s1.heap.push { cls:=.type "dict_keyiterator", data:=.fields #[.ref a,.int 0 0,.int vs.length 0,.int ep 0] } }:=I2.kept (t':=s1.toks) fun b o e=>zd _ e
   have rm2:gR X.K (upd H1 a (.lG ob (.dK ks))) kvs ks:=rm.kp (.dk rd)
   refine yd (RR:=fun acc C=>compPost (model X.prog X.w) X.A X.xe none (EP X pins σ Q) acc C) (ts:=ts) (xs:=xs) (H:=H) O.kind O.cell hcalm O.sub O.has O.cap (fun C s₀ H₀ fp=>(J9 C s₀ H₀ fp).run) (fun C s₀ H₀ fp=>(hif C s₀ H₀ fp).run) (fun C s₀ H₀ fp=>(helt C s₀ H₀ fp).run) htk I3 (O4 rd ((E.grow s01).caps is ts.length)) (Hq s1.heap.objs.size hdat (zD hlt)) st0 (ad3 I2) (Bh aX rm2) hlen eo ?_
   intro D C s' H' us hD I' fC ⟨m,hn⟩ s2' hD' r'
   have ha':H' a=some (.lG ob (.dK ks)):=s2' _ _ aX
   have hDa:D≠a:=fun z=>by subst z;rw[aX] at hD;cases hD
   have hD1:H1 D=none:=by rw[aF hDa] at hD;exact hD
   have sm:Same H1 (upd H' a (.dK ks)):=fun b u e=>by
    by_cases hb:b=a
    ·subst hb;rw[rd] at e;cases e;exact aX
    ·rw[aF hb];exact s2' b u (by rw[aF hb];exact e)
   have rr:aK X.K (upd H' a (.dK ks)) out us:=by
    by_cases hk:ks=[]
    ·have:kvs=[]:=by have:=rm.len;rw[hk] at this;exact List.length_eq_zero_iff.mp (by simpa using this.symm)
     subst this
     simp only[kc] at eo
     rw[Tn] at eo
     cases eo
     simpa only[aK] using r'
    ·exact aK.Lq ha' hk r'
   refine⟨m,hn,fun h' sb=>⟨.ref D,upd H' a (.dK ks),?_,rfl,q _ _ (s01.trans sm) (fun a ea=>by cases ea;exact s01.free hD1) ⟨D,us,rfl,by rw[aF hDa];exact hD',rr⟩⟩⟩
   obtain⟨f0,f1,f2,f3,f4,f5⟩:=fC
   have hCa:C≠a:=fun z=>by subst z;rw[ha'] at f0;cases f0
   exact (Lq (Y8 I1 rd) I' ha').turned (t':=s'.toks) (fun b o hb e=>(sb.2 b hb).trans e) (by rw[aF hCa];exact f0) f1 f3 f4 f5
  ·have hoo:o'=ob:=by
    have:=(I1.hok _ _ rd).1
    rw[hob] at this;cases this;rfl
   subst hoo
   have I3:L2.Inv X pins σ H1 { s1 with heap:=s1.heap.push { cls:=.type "dict_keyiterator", data:=.fields #[.ref a,.int 0 0,.int vs.length 0,.int ep 0] } }:=I1.kept (t':=s1.toks) fun b o e=>zd _ e
   refine yd (RR:=fun acc C=>compPost (model X.prog X.w) X.A X.xe none (EP X pins σ Q) acc C) (ts:=ts) (xs:=xs) (H:=H) O.kind O.cell hcalm O.sub O.has O.cap (fun C s₀ H₀ fp=>(J9 C s₀ H₀ fp).run) (fun C s₀ H₀ fp=>(hif C s₀ H₀ fp).run) (fun C s₀ H₀ fp=>(helt C s₀ H₀ fp).run) htk I3 ((E.grow s01).caps is ts.length) (Hq s1.heap.objs.size hdat (zD hlt)) st0 (ad3 I1) (Bh rd rm) hlen eo ?_
   intro D C s' H' us hD I' fC ⟨m,hn⟩ s2' hD' r'
   refine⟨m,hn,fun h' sb=>⟨.ref D,H',?_,rfl,q _ _ (s01.trans s2') (fun a ea=>by cases ea;exact s01.free hD) ⟨D,us,rfl,hD',r'⟩⟩⟩
   obtain⟨f0,f1,f2,f3,f4,f5⟩:=fC
   exact I'.turned (t':=s'.toks) (fun b o hb e=>(sb.2 b hb).trans e) f0 f1 f3 f4 f5
 ·cases e⟩
end
section
variable {prog:Program} {w:World} {A:Around} {E:Value->Shared->Prop} {s:Shared}
theorem Lw {R:Result->Shared->Prop} {d:Addr} {kvs:List (Key×Value)} {ep:Nat} (hh:A.handled=none) (hd:(d==sysModules)=false) (hm:s.heap.DictAt (bw prog w) d kvs ep) (hn:kvs.length<=sizeLine) (S:Addr) (hdS:d≠S) (res:Value) (c₀:Nat) (hS0:s.heap.get? S=some { cls:=.type "list", data:=.seq #[] c₀ })
  (hR:∀ h' tk acc' c',(∀ b o,b≠S->s.heap.get? b=some o->h'.get? b=some o)->h'.get? S=some { cls:=.type "list", dict:=none,data:=.seq acc' c',slots:=#[] } →
   ItemsOf (fun i v=>∃ k x,kvs[i]?=some (k,x)/\(bw prog w).is k v=true) acc' kvs.length->R (.ok (.ret res)) { s with heap:=h',toks:=tk }) :
  wpAny (model prog w) A.in1 (Builtin.List.listExtendWith (.ref S) (.ref d) res)
   (fun fin s'=>match fin with|.done f=>R (.ok f) s'|.again c'=>c'.quiet=true/\codeAny (model prog w) A c' R s') (fun e s'=>R (.error e) s') s:=by
 have hlt:d < s.heap.objs.size:=by obtain⟨o,_,ho,_⟩:=hm;exact zv ho
 have hSlt:S < s.heap.objs.size:=zv hS0
 unfold Builtin.List.listExtendWith
 refine zb (QE (T := "dict") hm.dictOf.typeIs ?_)
 have h1:Builtin.List.listSameRef (.ref S) (.ref d)=false:=by simp[Builtin.List.listSameRef];exact fun e=>hdS e.symm
 simp only[h1,show (Value.type "dict" == Value.type "list")=false by decide,show (Value.type "dict" == Value.type "tuple")=false by decide,Bool.or_false,zl,ZE]
 refine zb (wpAny_pyIter_dict hd hm ?_)
 refine zb (Qr ?_)
 have hm2:=hm.at' (h':=s.heap.push { cls:=.type "dict_keyiterator", data:=.fields #[.ref d,.int 0 0,.int kvs.length 0,.int ep 0] }) fun o e=>zd _ e
 unfold Builtin.List.listLengthHint
 refine zb (wpAny_specialOf (T := "dict") hm2.dictOf.typeIs F.slot_dict_len.lookup ?_)
 wp_delta
 refine zb (kS (T := "dict") (b:=true) hm2.dictOf.typeIs (by rw[isSubtype_type];kernel_rfl) ?_)
 show wpAny _ A.in1 (typeOf (Value.ref d) >>= _) _ _ _
 refine zb (QE (T := "dict") hm2.dictOf.typeIs (ze ?_))
 rw[zk (by decide)]
 show wpAny _ A.in1 (Builtin.List.listTouch (Value.ref S) >>= fun _=>again (Code.builtin "list.extend.loop" ⟨[Value.ref S,Value.ref s.heap.objs.size,res],[]⟩)) _ _ _
 generalize hG:s.heap.push { cls:=.type "dict_keyiterator", data:=.fields #[.ref d,.int 0 0,.int kvs.length 0,.int ep 0] }=G at hm2 ⊢
 have hS:G.get? S=some { cls:=.type "list", data:=.seq #[] c₀ }:=by
  rw[<-hG]
  exact zd _ hS0
 have hI:G.get? s.heap.objs.size=some { cls:=.type "dict_keyiterator", data:=.fields #[.ref d,.int 0 0,.int kvs.length 0,.int ep 0] }:=by
  rw[<-hG]
  exact zt _ rfl
 unfold Builtin.List.listTouch
 refine zb (zb (listUpdate_at hS rfl (listUpdate_at (get?_update_seq hS _) rfl ?_ (by show _<=_;decide) (by show _<=_;decide)) (by show _<=_;decide) (by show _<=_;decide)))
 have hIS:s.heap.objs.size≠S:=Nat.ne_of_gt hSlt
 have hS3:=get?_update_seq (get?_update_seq hS (fun x=>x.push Value.none)) (fun x=>x.pop)
 generalize hU:(G.update S (Obj.mapSeq fun x=>x.push Value.none)).update S (Obj.mapSeq fun x=>x.pop)=U at hS3
 have keep:∀ b,b≠S->U.get? b=G.get? b:=fun b hb=>by rw[<-hU,ja _ _ _ _ hb,ja _ _ _ _ hb]
 have st0:U.IsKeyIter s.heap.objs.size d 0 kvs.length ep/\U.DictAt (bw prog w) d kvs ep:=⟨⟨_,(keep _ hIS).trans hI,rfl,rfl⟩,hm2.at' fun o e=>(keep d hdS).trans e⟩
 show wpAny _ A.in1 (again _) _ _ { s with heap:=U }
 have hSf:S∉[s.heap.objs.size,d]:=fun h=>by
  simp only[QN,Q1,or_false] at h
  rcases h with h|h
  ·exact hIS h.symm
  ·exact hdS h.symm
 refine ze ⟨plainId_quiet F.plain_extend_loop _,codeAny_extend_loopS (Walks.dictKeys (A:=A.in1) hh s.heap.objs.size d (zD hlt) kvs ep).toS hn S hSf _ kvs.length 0 { s with heap:=U } #[] _ rfl (qS _) st0 hS3 (ItemsOf.nil _) fun s' acc' c' mv hS' hacc=>?_⟩
 rw[Moved.eq_with mv]
 refine hR s'.heap s'.toks acc' c' (fun b ob hb e=>?_) hS' hacc
 have hb':=zv e
 refine mv.heap b ob (fun h=>?_) ((keep b hb).trans ?_)
 ·simp only[QN,Q1,or_false] at h
  rcases h with h|h
  ·exact hb h
  ·exact zD hb' h
 ·rw[<-hG]
  exact zd _ e
theorem DY {Q:Value->Shared->Prop} {d:Addr} {kvs:List (Key×Value)} {ep:Nat} (hh:A.handled=none) (hd:(d==sysModules)=false) (hm:s.heap.DictAt (bw prog w) d kvs ep) (hn:kvs.length<=sizeLine)
  (hQ:∀ h' tk acc' c',(∀ b o,s.heap.get? b=some o->h'.get? b=some o) →
   h'.get? s.heap.objs.size=some { cls:=.type "list", dict:=none,data:=.seq acc' c',slots:=#[] }->ItemsOf (fun i v=>∃ k x,kvs[i]?=some (k,x)/\(bw prog w).is k v=true) acc' kvs.length->Q (.ref s.heap.objs.size) { s with heap:=h',toks:=tk }) :
  wpAny (model prog w) A (call (.type "list") [.ref d]) Q E s:=by
 have hlt:d < s.heap.objs.size:=by obtain⟨o,_,ho,_⟩:=hm;exact zv ho
 refine callType_codes (Q₁:=fun obj s₁=>obj=.ref s.heap.objs.size/\s₁={ s with heap:=s.heap.push { cls:=.type "list", data:=.seq #[] } }) F.called_list (F.typeCall_list_1 _) F.entry_list_init
  (code_list_new _ ⟨rfl,rfl⟩) fun obj s₁ h₁=>?_
 obtain⟨rfl,rfl⟩:=h₁
 have hS:(s.heap.push { cls:=.type "list", data:=.seq #[] }).get? s.heap.objs.size=some { cls:=.type "list", data:=.seq #[] }:=zt _ rfl
 have hm1:=hm.at' (h':=s.heap.push { cls:=.type "list", data:=.seq #[] }) fun o e=>zd _ e
 refine⟨⟨_,hS,rfl⟩,F.args_list_init_2 _ _,?_⟩
 generalize hH:s.heap.push { cls:=.type "list", data:=.seq #[] }=H at hS hm1 ⊢
 show wpAny _ _ (do let old <-Builtin.List.listItems (.ref s.heap.objs.size);Builtin.List.listUpdate (.ref s.heap.objs.size) (fun _=>#[]);letGo old.toList.reverse;Builtin.List.listExtendWith (.ref s.heap.objs.size) (.ref d) .none) _ _ { s with heap:=H }
 refine zb ?_
 unfold Builtin.List.listItems
 refine zb (wpAny_seqItems hS rfl (ze ?_))
 show wpAny _ _ (updateSeq s.heap.objs.size (fun _=>#[]) >>= fun _=>letGo (#[]:Array Value).toList.reverse >>= fun _=>Builtin.List.listExtendWith (.ref s.heap.objs.size) (.ref d) .none) _ _ _
 refine zb (wpAny_updateSeq hS rfl ?_)
 have hS₂:=kR (Obj.mapSeq (fun _=>(#[]:Array Value))) hS rfl
 have oth:∀ b o,b≠s.heap.objs.size->H.get? b=some o->(H.update s.heap.objs.size (Obj.mapSeq (fun _=>(#[]:Array Value)))).get? b=some o:=
  fun b o hb e=>(Heap.get?_update_other _ _ (Kb hb)).trans e
 refine zb (wpAny_letGo ?_)
 refine Lw (A:=A.in1) hh hd (hm1.at' fun o e=>oth d o (zD hlt) e) hn s.heap.objs.size (zD hlt) .none _ hS₂ fun h' tk acc' c' hk hS' hacc=>?_
 exact⟨rfl,hQ h' tk acc' c' (fun b o e=>hk b o (zD (zv e)) (oth b o (zD (zv e)) (by rw[<-hH];exact zd _ e))) hS' hacc⟩
theorem abT {P:Nat->Value->Prop} (val:Nat->Str) (hval:∀ i v,P i v->∃ t,v=.str (val i) t):CmpOf prog w A .Lt P (fun i j=>decide ((val i).cps.toList < (val j).cps.toList)):=fun i j vi vj s Q E hi hj h=>by
 obtain⟨t,rfl⟩:=hval i vi hi
 obtain⟨u,rfl⟩:=hval j vj hj
 exact richCompare_gives (op:=.Lt) (typeIs_str s _ t) (typeIs_str s _ u) F.slot_str_lt F.entry_str_lt (F.args_str_lt_2 _ _) (gives_str_lt _ _ t u) (fun x=>nomatch x) h
theorem cmp_gt {P:Nat->Value->Prop} (val:Nat->Str) (hval:∀ i v,P i v->∃ t,v=.str (val i) t):CmpOf prog w A .Gt P (fun i j=>decide ((val j).cps.toList < (val i).cps.toList)):=fun i j vi vj s Q E hi hj h=>by
 obtain⟨t,rfl⟩:=hval i vi hi
 obtain⟨u,rfl⟩:=hval j vj hj
 exact richCompare_gives (op:=.Gt) (typeIs_str s _ t) (typeIs_str s _ u) F.slot_str_gt F.entry_str_gt (F.args_str_gt_2 _ _) (gives_str_gt _ _ t u) (fun x=>nomatch x) h
def two (a b:Str) (i:Nat):Str:=if i=0 then a else b
theorem V1 {a b:Str} {t u:Tok} (i:Nat) (v:Value) (h:(#[Value.str a t,Value.str b u])[i]?=some v):∃ t',v=.str (two a b i) t':=by
 match i,h with
 |0,h=>cases h;exact⟨t,rfl⟩
 |1,h=>cases h;exact⟨u,rfl⟩
 |_+2,h=>simp at h
theorem Lx {a b:Str} {t u:Tok} {op:CmpOp} {Q:Value->Shared->Prop} {bt:Nat->Nat->Bool} (hh:A.handled=none) (hc:CmpOf prog w A.in1 op (fun i v=>(#[Value.str a t,Value.str b u])[i]?=some v) bt)
  (h:∀ h' tk,(∀ c o,s.heap.get? c=some o->h'.get? c=some o)->Q (if bt 1 0=true then .str b u else .str a t) { s with heap:=h',toks:=tk }) :
  wpAny (model prog w) A.in1 (pyIter (.ref s.heap.objs.size)) (fun it s₂=>∃ I fp wr n P St bt,it=.ref I/\Walks prog w A.in1 I fp wr n P St/\St 0 s₂.heap/\(∀ b∈fp,b < s₂.heap.objs.size)/\0 < n/\CmpOf prog w A.in1 op P bt ∧
   ∀ v h' tk,P (argBest bt (n - 1)) v->(∀ b o,b∉wr->s₂.heap.get? b=some o->h'.get? b=some o)->Q v { s₂ with heap:=h',toks:=tk }) E
   { s with heap:=s.heap.push { cls:=.type "tuple", data:=.seq #[.str a t,.str b u] } }:=by
 have hT:(s.heap.push { cls:=.type "tuple", data:=.seq #[.str a t,.str b u] }).IsTuple s.heap.objs.size #[.str a t,.str b u]:=⟨_,zt _ rfl,rfl,0,rfl⟩
 refine wpAny_pyIter_tuple hT ?_
 have hsz:(s.heap.push { cls:=.type "tuple", data:=.seq #[.str a t,.str b u] }).objs.size=s.heap.objs.size+1:=ZZ ..
 refine⟨_,[_,s.heap.objs.size],[_],_,_,_,bt,rfl,Walks.tuple (A:=A.in1) hh _ s.heap.objs.size (by rw[hsz];exact zD (ZY _)) #[.str a t,.str b u],
  ⟨⟨_,zt _ rfl,rfl,rfl⟩,hT.push _⟩,fun c hc=>?_,by simp,hc,fun v h' tk hP hk=>?_⟩
 ·show c < ((s.heap.push _).push _).objs.size
  rw[ZZ,hsz]
  rcases List.mem_cons.mp hc with rfl|hc
  ·rw[hsz];exact ZY _
  ·rcases List.mem_cons.mp hc with rfl|hc
   ·exact qk (ZY _)
   ·cases hc
 ·have hold:∀ c o,s.heap.get? c=some o->h'.get? c=some o:=fun c o e=>by
   refine hk c o (fun hm=>?_) (zd _ (zd _ e))
   rcases List.mem_cons.mp hm with e1|hm
   ·have:=zv e;rw[e1,hsz] at this;exact JU _ (Nat.lt_of_succ_lt this)
   ·cases hm
  have:=h h' tk hold
  have hv:v=if bt 1 0=true then Value.str b u else Value.str a t:=by
   have hP':(#[Value.str a t,Value.str b u])[argBest bt 1]?=some v:=hP
   unfold argBest argBest at hP'
   by_cases hba:bt 1 0=true
   ·rw[zk hba] at hP' ⊢
    exact (by simpa using hP'.symm)
   ·rw[zw hba] at hP' ⊢
    exact (by simpa using hP'.symm)
  rw[hv];exact this
end
section
variable {X:Cx}
def tZ:List Bx->Option Bx
 |[.z (.str a),.z (.str b)]=>some (.z (.str (if Tp b a=true then b else a)))
 |_=>none
where Tp (x y:Str):Bool:=decide (x.cps.toList < y.cps.toList)
def Hr:List Bx->Option Bx
 |[.z (.str a),.z (.str b)]=>some (.z (.str (if tZ.Tp a b=true then b else a)))
 |_=>none
theorem Jp (hc:X.calm=true):pq X (.builtin "min") tZ:=by
 intro pins s σ H xs us Q I r h
 obtain⟨bs,c,rb,e,q⟩:=h
 unfold tZ at e
 split at e
 ·rename_i a b
  cases e
  obtain⟨v,w,rfl,r1,r2⟩:=Qz rb
  obtain⟨rfl,h1⟩:=N7 r1
  obtain⟨rfl,h2⟩:=N7 r2
  obtain⟨u,u',rfl,ru,ru'⟩:=Vals.two r
  obtain⟨t,rfl⟩:=ru
  obtain⟨t',rfl⟩:=ru'
  refine call_min_two (Lx (I.ok.hd hc) (abT (two a b) V1) fun h' tk kp=>?_)
  show EP X pins σ Q (if tZ.Tp b a=true then _ else _) _
  by_cases hb:tZ.Tp b a=true
  ·rw[zk hb] at q ⊢
   exact⟨.str b,H,I.kept kp,⟨_,rfl⟩,q _ H (Same.refl H) trivial r2⟩
  ·rw[zw hb] at q ⊢
   exact⟨.str a,H,I.kept kp,⟨_,rfl⟩,q _ H (Same.refl H) trivial r1⟩
 ·cases e
theorem Q5 (hc:X.calm=true):pq X (.builtin "max") Hr:=by
 intro pins s σ H xs us Q I r h
 obtain⟨bs,c,rb,e,q⟩:=h
 unfold Hr at e
 split at e
 ·rename_i a b
  cases e
  obtain⟨v,w,rfl,r1,r2⟩:=Qz rb
  obtain⟨rfl,h1⟩:=N7 r1
  obtain⟨rfl,h2⟩:=N7 r2
  obtain⟨u,u',rfl,ru,ru'⟩:=Vals.two r
  obtain⟨t,rfl⟩:=ru
  obtain⟨t',rfl⟩:=ru'
  refine call_max_two (Lx (I.ok.hd hc) (cmp_gt (two a b) V1) fun h' tk kp=>?_)
  show EP X pins σ Q (if tZ.Tp a b=true then _ else _) _
  by_cases hb:tZ.Tp a b=true
  ·rw[zk hb] at q ⊢
   exact⟨.str b,H,I.kept kp,⟨_,rfl⟩,q _ H (Same.refl H) trivial r2⟩
  ·rw[zw hb] at q ⊢
   exact⟨.str a,H,I.kept kp,⟨_,rfl⟩,q _ H (Same.refl H) trivial r1⟩
 ·cases e
def Ea:List Bx->Option Bx
 |[.n kvs]=>some (.o (kvs.map fun p=>Dt.str p.1))
 |_=>none
theorem V2 (hc:X.calm=true):pq X (.type "list") Ea:=by
 intro pins s σ H xs us Q I r h
 obtain⟨bs,c,rb,e,q⟩:=h
 unfold Ea at e
 split at e
 ·rename_i kvs
  cases e
  obtain⟨v,rfl,r1⟩:=rep1 rb
  obtain⟨a,ks,rfl,rd,rm⟩:=r1
  obtain⟨u,rfl,ru⟩:=vals1 r
  cases ru
  obtain⟨hz,hsys,vs,kv,o,es,ep,dd⟩:=Kr I.hok rd
  have hk:vs.map (·.1)=(kvs.map (·.1)).map Sum.inr:=by rw[QC kv,rm.1,qa];rfl
  have hl:ks.length=vs.length:=kv.length
  refine DY (I.ok.hd hc) hsys ⟨o,es,dd⟩ (by omega) fun h' tk acc c' ext en hit=>?_
  have z1:=Oj hk hit
  have hy:∀ y∈kvs.map (·.1),y.length<=sizeLine:=fun y hy=>by
   obtain⟨p,hp,rfl⟩:=List.mem_map.mp hy
   exact rm.2.2 p hp
  have hfr:=I.hok.fresh (zg s.heap.objs.size)
  have e2:(kvs.map fun p=>Dt.str p.1)=(kvs.map (·.1)).map Dt.str:=by rw[qa];rfl
  refine⟨.ref s.heap.objs.size,_,I.laid (t':=tk) (a:=s.heap.objs.size) (o:=.lst ((kvs.map (·.1)).map V.str)) ext (zg _) ?_,rfl,q _ _ (bU hfr) (fun a ea=>by cases ea;exact hfr) ⟨_,_,rfl,aX,by rw[e2];exact yw hy⟩⟩
  refine⟨by rw[zi,zi,<-rm.len];exact hz,acc.toList,c',vN z1,?_⟩
  rw[en]
 ·cases e
end
def hole (H:Hp) (a:Addr):Hp:=fun b=>if b=a then none else H b
theorem Q6 {H:Hp} {a b:Addr} (h:b≠a):hole H a b=H b:=zw h
theorem Q7 {H:Hp} {a:Addr}:hole H a a=none:=zk rfl
def isZ:Bx->Bool
 |.z _=>true
 |_=>false
def spM (K:PySem.W.Frag) (n:Nat) (G:Addr->List (Str×Dt)->List Bx->Option (List (Str×Dt))):Sp:=fun vs H Q _=>vs.length=n+1/\∃ a ks kvs rest bs kvs',vs=.ref a::rest/\H a=some (.dK ks)/\gR K H kvs ks/\o9 K H bs rest/\bs.all isZ=true/\G a kvs bs=some kvs'/\∀ H' ks',Same (hole H a) H'->H' a=some (.dK ks')->gR K H' kvs' ks'->Q .non H'
def Ly (n:Nat) (g:Ev->Option Out):Addr->List (Str×Dt)->List Bx->Option (List (Str×Dt)):=fun a kvs bs=>(g ((Bx.m kvs (some a)::bs).map some++List.replicate (n - (bs.length+1)) none)).bind fun r=>match r with
 |.nx ρ=>match ρ[0]? with
  |some (some (Bx.m kvs' (some b)))=>if b=a then some kvs' else none
  |_=>none
 |_=>none
theorem O5 {n:Nat} {g:Ev->Option Out} {a:Addr} {kvs kvs':List (Str×Dt)} {bs:List Bx} (h:Ly n g a kvs bs=some kvs'):∃ ρ,g ((Bx.m kvs (some a)::bs).map some++List.replicate (n - (bs.length+1)) none)=some (.nx ρ)/\ρ[0]?=some (some (.m kvs' (some a))):=by
 obtain⟨r,er,h⟩:=bind_some h
 cases r with
 |nx ρ=>
  dsimp only at h
  split at h
  ·rename_i k b e
   split at h
   ·rename_i hb
    cases h
    subst hb
    exact⟨ρ,er,e⟩
   ·cases h
  ·cases h
 |rt _=>cases h
 |bk _=>cases h
 |ct _=>cases h
theorem Eb {α β:Type} {R:α->β->Prop}:∀ {xs:List α} {ys:List β},Paired R xs ys->∀ {i:Nat} {x:α},xs[i]?=some x->∃ y,ys[i]?=some y/\R x y
 |_,_,.nil,i,x,q=>by simp at q
 |_,_,.cons r _,0,x,q=>by simp at q;subst q;exact⟨_,rfl,r⟩
 |_,_,.cons _ t,i+1,x,q=>by
  rw[ZH] at q
  obtain⟨y,y1,y2⟩:=Eb t q
  exact⟨y,by rw[ZH];exact y1,y2⟩
theorem bJ.startM {K:PySem.W.Frag} {H:Hp} {N:List Str} {bs:List Bx} {rest:List V} {a:Addr} {ks:List (Key×V)} {kvs:List (Str×Dt)} (ha:H a=some (.dK ks)) (rm:gR K H kvs ks) (r:o9 K H bs rest) (hz:bs.all isZ=true):bJ K (hole H a) H (L2.start N (.ref a::rest)) ((Bx.m kvs (some a)::bs).map some++List.replicate (N.length - (bs.length+1)) none):=by
 have hl:bs.length=rest.length:=Paired.length r
 have r2:o9 K H (.m kvs (some a)::bs) (.ref a::rest):=.cons ⟨a,ks,rfl,ha,rm,fun b h=>by cases h;rfl⟩ r
 have get:∀ (i:Nat) b,((Bx.m kvs (some a)::bs).map some++List.replicate (N.length - (bs.length+1)) none)[i]?=some (some b)->(Bx.m kvs (some a)::bs)[i]?=some b:=fun i b e=>by
  by_cases hi:i < (Bx.m kvs (some a)::bs).length
  ·rw[Zs (by simpa using hi),zS] at e
   cases q:(Bx.m kvs (some a)::bs)[i]? with
   |none=>rw[q] at e;cases e
   |some b'=>rw[q] at e;simpa using e
  ·rw[ZT (by simp at hi ⊢;omega),qB] at e
   split at e<;>cases e
 have noz:∀ (i:Nat) b,((Bx.m kvs (some a)::bs).map some++List.replicate (N.length - (bs.length+1)) none)[i]?=some (some b)->i≠0->loose b=false:=fun i b e hi=>by
  have e2:=get i b e
  cases i with
  |zero=>exact absurd rfl hi
  |succ j=>
   rw[ZH] at e2
   have:=List.all_eq_true.mp hz b (ZO e2)
   cases b<;>first|rfl|cases this
 have ol:∀ c,uo c=true->loose c=true:=fun c hc=>by cases c<;>first|rfl|cases hc
 have zero:∀ (i:Nat) c,((Bx.m kvs (some a)::bs).map some++List.replicate (N.length - (bs.length+1)) none)[i]?=some (some c)->loose c=true->i=0:=fun i c e hc=>by
  by_cases hi:i=0
  ·exact hi
  ·rw[noz i c e hi] at hc;cases hc
 have st:∀ i v,(Value.ref a=Value.ref a)->(V.ref a::rest)[i]?=some v->(L2.start N (.ref a::rest))[i]?=some (some v):=fun i v _ e=>by
  have hi:i < (V.ref a::rest).length:=(List.getElem?_eq_some_iff.mp e).1
  unfold L2.start
  rw[Zs (by simpa using hi),zS,e];rfl
 refine⟨by unfold L2.start;simp[hl],fun i b e=>?_,fun i j c x b e1 ec _ e3 hb _=>?_,fun b o e=>?_,fun i c x e ec e2=>?_⟩
 ·obtain⟨v,e1,r1⟩:=Eb r2 (get i b e)
  exact⟨v,st i v rfl e1,r1⟩
 ·rw[zero i c e1 (ol c ec),zero j b e3 hb]
 ·by_cases hb:b=a
  ·subst hb;rw[Q7] at e;cases e
  ·rw[Q6 hb] at e;exact e
 ·have hi:=zero i c e (ol c ec)
  subst hi
  rw[st 0 (.ref a) rfl rfl] at e2
  cases e2
  exact Q7
theorem af9 {P:Program} {w:World} {K:PySem.W.Frag} {mg:Str->Option Value} {base:Heap} {x qual:Str} {st:Stmt} {f:Addr} {fd:FuncData} {N ps:List Str} {k n m:Nat} {g:Ev->Option Out} (F:zM K x qual st f fd) (S:cQ N ps (aJ st)) (hn:N.length=n) (hm:ps.length=m+1)
  (hbody:∀ (cdv:Value) (A:Around) (outer:List Env) (s:Shared) (H:Hp) (E:XK),mQ k (A.deeper (envOfC qual (aJ st) s.heap.objs.size f cdv))->Qs (CN mR P w K mg base N qual (aJ st) f cdv A outer s H E).RM (cF st) g) :
  cU P w K mg base mR (k+1) f fd ps (spM K m (Ly n g)):=by
 subst hn
 refine F.ok S (fun vs H Q E h=>by rw[hm];exact h.1) fun cdv A outer s H vs Q E hr h=>?_
 obtain⟨hl,a,ks,kvs,rest,bs,kvs',rfl,ha,rm,rb,hz,e,q⟩:=h
 refine⟨_,(hbody cdv A outer s H E hr).run,?_⟩
 obtain⟨ρ,er,e0⟩:=O5 e
 refine⟨hole H a,_,_,bJ.startM ha rm rb hz,er,?_⟩
 intro σ' H' E'
 obtain⟨v,ev,b,ks',rfl,hb,rm',tie⟩:=E'.val 0 _ e0
 have:=tie a rfl
 subst this
 exact q H' ks' E'.base hb rm'
open Classical in
noncomputable def yL (i n:Nat) (G:Addr->List (Str×Dt)->List Bx->Option (List (Str×Dt))) (fs:Ev->Option (List Bx)):Ev->Option Out:=fun ρ=>match ρ[i]? with
 |some (some (.m kvs w))=>(fs ρ).bind fun bs=>if h:bs.length=n/\bs.all isZ=true/\∃ kvs',∀ a,G a kvs bs=some kvs' then some (.nx (ρ.set i (some (.m (Classical.choose h.2.2) w)))) else none
 |_=>none
theorem O6 {i n:Nat} {G:Addr->List (Str×Dt)->List Bx->Option (List (Str×Dt))} {fs:Ev->Option (List Bx)} {ρ:Ev} {r:Out} (h:yL i n G fs ρ=some r):∃ kvs w bs kvs',ρ[i]?=some (some (.m kvs w))/\fs ρ=some bs/\bs.length=n/\bs.all isZ=true/\(∀ a,G a kvs bs=some kvs')/\r=.nx (ρ.set i (some (.m kvs' w))):=by
 unfold yL at h
 split at h
 ·rename_i kvs w e
  obtain⟨bs,eb,h⟩:=bind_some h
  split at h
  ·rename_i hh
   cases h
   exact⟨kvs,w,bs,_,e,eb,hh.1,hh.2.1,Classical.choose_spec hh.2.2,rfl⟩
  ·cases h
 ·cases h
theorem V3 {i n:Nat} {G:Addr->List (Str×Dt)->List Bx->Option (List (Str×Dt))} {fs:Ev->Option (List Bx)} {ρ:Ev} {kvs kvs':List (Str×Dt)} {w:Option Addr} {bs:List Bx} (e:ρ[i]?=some (some (.m kvs w))) (eb:fs ρ=some bs) (hl:bs.length=n) (hz:bs.all isZ=true) (hG:∀ a,G a kvs bs=some kvs'):yL i n G fs ρ=some (.nx (ρ.set i (some (.m kvs' w)))):=by
 unfold yL
 rw[e]
 simp only[eb,agb]
 have hh:bs.length=n/\bs.all isZ=true/\∃ kvs',∀ a,G a kvs bs=some kvs':=⟨hl,hz,kvs',hG⟩
 rw[dif_pos hh]
 have:=Classical.choose_spec hh.2.2 0
 rw[hG 0] at this
 injection this with this
 rw[<-this]
where agb {α β:Type} (a:α) (f:α->Option β):(some a).bind f=f a:=rfl
theorem bJ.ad5 {K:PySem.W.Frag} {H0 H H':Hp} {σ:L2.St} {ρ:Ev} {i:Nat} {a:Addr} {kvs kvs':List (Str×Dt)} {w:Option Addr} {ks ks':List (Key×V)} (E:bJ K H0 H σ ρ) (h:ρ[i]?=some (some (.m kvs w))) (hs:σ[i]?=some (some (.ref a))) (ha:H a=some (.dK ks)) (sm:Same (hole H a) H') (ha':H' a=some (.dK ks')) (rm:gR K H' kvs' ks') (tie:∀ b,w=some b->b=a) :
  bJ K H0 H' σ (ρ.set i (some (.m kvs' w))):=by
 have hi:i < ρ.length:=(List.getElem?_eq_some_iff.mp h).1
 have hb:H0 a=none:=E.new i _ a h rfl hs
 have sn:∀ b u,b≠a->H b=some u->H' b=some u:=fun b u hne e=>sm b u (by rw[Q6 hne];exact e)
 have kp:Kp H H':=⟨fun b xs e=>sn b _ (o7 e ha (by intro z;cases z)) e,fun b ob u e=>sn b _ (o7 e ha (by intro z;cases z)) e⟩
 refine⟨by rw[j3];exact E.len,fun j b' e=>?_,fun j k' c a' b' e1 ec e2 e3 e4 e5=>?_,fun c o e=>?_,fun j c a' e1 ec e2=>?_⟩
 ·rcases getset e with⟨rfl,e',_⟩|⟨hne,e'⟩
  ·cases e'
   exact⟨_,hs,a,ks',rfl,ha',rm,tie⟩
  ·obtain⟨v,e1,r'⟩:=E.val j b' e'
   refine⟨v,e1,?_⟩
   have away:∀ a',v=.ref a'->loose b'=true->a'≠a:=fun a' ev hl z=>by
    subst z
    exact hne (E.own i j _ _ _ h rfl hs e' hl (by rw[e1,ev])).symm
   cases b' with
   |z d=>exact Rep.kp kp r'
   |l ds'=>
    obtain⟨a',vs',rfl,q,rr⟩:=r'
    have hn:=away a' rfl rfl
    exact⟨a',vs',rfl,q.imp (sn _ _ hn) fun ⟨o,q⟩=>⟨o,sn _ _ hn q⟩,rr.kp kp⟩
   |o ds'=>
    obtain⟨a',vs',rfl,q,rr⟩:=r'
    exact⟨a',vs',rfl,sn _ _ (away a' rfl rfl) q,rr.kp kp⟩
   |n ds'=>
    obtain⟨a',vs',rfl,q,rr⟩:=r'
    have hn:=away a' rfl rfl
    exact⟨a',vs',rfl,q.imp (sn _ _ hn) fun ⟨o,q⟩=>⟨o,sn _ _ hn q⟩,rr.kp kp⟩
   |m ds' _=>
    obtain⟨a',vs',rfl,q,rr,tt⟩:=r'
    exact⟨a',vs',rfl,sn _ _ (away a' rfl rfl) q,rr.kp kp,tt⟩
 ·have back:∀ {j:Nat} {c:Bx},(ρ.set i (some (.m kvs' w)))[j]?=some (some c)->∃ c',ρ[j]?=some (some c')/\(uo c=true->uo c'=true)/\(loose c=true->loose c'=true):=fun {j c} e=>by
   rcases getset e with⟨rfl,e',_⟩|⟨_,e'⟩
   ·exact⟨_,h,fun _=>rfl,fun _=>rfl⟩
   ·exact⟨c,e',id,id⟩
  obtain⟨c',p1,p2,_⟩:=back e1
  obtain⟨b2,q1,_,q3⟩:=back e3
  exact E.own j k' c' a' b2 p1 (p2 ec) e2 q1 (q3 e4) e5
 ·have e2:=E.base c o e
  exact sn c o (fun z=>by subst z;rw[hb] at e;cases e) e2
 ·rcases getset e1 with⟨rfl,e',_⟩|⟨_,e'⟩
  ·exact E.new _ _ a' h rfl e2
  ·exact E.new j c a' e' ec e2
section
variable {X:Cx} {e:Expr} {es:List Expr} {fs:Ev->Option (List Bx)} {p px pos spos:Pos} {x y:Str} {k n:Nat} {f:Addr} {fd:FuncData} {ps:List Str} {G:Addr->List (Str×Dt)->List Bx->Option (List (Str×Dt))}
theorem Q8 (i:Nat) (F:cU X.prog X.w X.K X.mg X.base mR k f fd ps (spM X.K n G)) (hr:mQ k X.A) (hg:Gl X x) (hm:X.mg x=some (.ref f)) (hk:PySem.W.keepIn X.K (.ref f)=true) (hb:Binds X.K fd ps [])
  (ha:T6 X es fs) (hN:X.N[i]?=some y:=by rfl) (hv:T5 X.env.scope y:=by first|exact JP rfl|exact QR (JP rfl)|exact QR (QR rfl)) (hd:(y==("__debug__" : Str))=false:=by decide)
  (hcd:(y==("__classdict__" : Str))=false:=by decide) (hdb:(x==("__debug__" : Str))=false:=by decide) (he:starEach (.Name y px::es) X.env=(false,eval (.Name y px) X.env)::starEach es X.env:=by rfl) (hpl:(backTo pos (starEach es X.env)).any (·.1)=false:=by rfl) (hs:swapsWith (.Call (.Name x p) (.Name y px::es) [] pos) none spos.line X.env=pure false:=by rfl) :
  Qq X (.Expr (.Call (.Name x p) (.Name y px::es) [] pos) spos) (yL i n G fs):=⟨UG (xR (HW F hr hg hm hk hb .nil Uz (jC (oF (i:=i) hN hv hd hcd) ha.run he) hdb he hpl) hs) fun D σ H h=>by
 obtain⟨H0,ρ,r,E,e,q⟩:=h
 obtain⟨kvs,w,bs,kvs',hρ,eb,hl,hz,hG,rfl⟩:=O6 e
 obtain⟨v,e1,a,ks,rfl,haa,rm,tie⟩:=E.val i _ hρ
 refine⟨_,e1,H0,ρ,bs,E,eb,fun vs H1 s1 r1=>?_⟩
 have ha1:=s1 _ _ haa
 refine⟨by simp only[km,qv];rw[<-Paired.length r1,hl],a,ks,kvs,vs,bs,kvs',by simp,ha1,rm.kp (.of s1),r1,hz,hG a,fun H' ks' sm hk' rm'=>?_⟩
 exact q σ H' ((E.grow s1).ad5 hρ e1 ha1 sm hk' rm' tie)⟩
end
def isT:Option Bool->Bool
 |some true=>true
 |_=>false
def V4 (x:Dt) (ys:List Dt):Option Bool:=if (ys.all fun y=>(yh y x).isSome&&decide (min (vX y) (vX x)<=60))=true then some (ys.any fun y=>isT (yh y x)) else none
def Tq (a b:Bx):Option Bx:=match a with
 |.z d=>(yq b).bind fun ys=>(V4 d ys).bind fun k=>some (.z (.bl (!k)))
 |_=>none
section
variable {X:Cx} {pins:List (Addr×Obj)} {σ:L2.St} {H:Hp} {s:Shared}
theorem V5 (I:L2.Inv X pins σ H s) (hu:X.A.units+100 < cLine) {d:Dt} {x:V} {u:Value} (rx:Rep X.K H d x) (ru:RelV x u) {ys:List Dt} {vs:List V} {its:List Value} (rs:aK X.K H ys vs) (rv:Vals vs its) {k:Bool} (hk:V4 d ys=some k) :
  ∃ e:Value->Bool,(∀ y,y∈its->SeqAt.EqAt X.A.in1 s y u (e y))/\its.any e=k:=by
 unfold V4 at hk
 split at hk
 ·rename_i hall
  injection hk with hk
  rw[qA] at hall
  have at_:∀ (i:Nat) y,its[i]?=some y->∃ c,ys[i]?=some c/\SeqAt.EqAt X.A.in1 s y u (isT (yh c d)):=fun i y hy=>by
   have hl:=rv.length
   have hl2:=rs.length
   have hi:i < its.length:=(List.getElem?_eq_some_iff.mp hy).1
   have hi':i < ys.length:=by omega
   obtain⟨v,ev,r1⟩:=rs.get (show ys[i]?=some ys[i] by simp[hi'])
   obtain⟨y',ey,r2⟩:=rv.get ev
   rw[hy] at ey
   cases ey
   refine⟨ys[i],by simp[hi'],?_⟩
   have hc:=hall ys[i] (kX hi')
   rw[ZN] at hc
   obtain⟨b,hb⟩:=Option.isSome_iff_exists.mp hc.1
   have:=Z7 I 60 (A:=X.A.in1) (JO hc.2) (by rw[units_in1];omega) r1 rx r2 ru hb
   rw[hb]
   cases b<;>exact this
  classical
  refine⟨fun y=>decide (∃ (i:Nat) (c:Dt),its[i]?=some y/\ys[i]?=some c/\isT (yh c d)=true),fun y hy=>?_,?_⟩
  ·dsimp only
   by_cases q:∃ (i:Nat) (c:Dt),its[i]?=some y/\ys[i]?=some c/\isT (yh c d)=true
   ·rw[QU q]
    obtain⟨i,c,h1,h2,h3⟩:=q
    obtain⟨c',e1,e2⟩:=at_ i y h1
    rw[h2] at e1
    cases e1
    rw[h3] at e2
    exact e2
   ·rw[qh q]
    obtain⟨i,hi,ei⟩:=QY hy
    have h1:its[i]?=some y:=by rw[zI hi,ei]
    obtain⟨c,e1,e2⟩:=at_ i y h1
    have:isT (yh c d)=false:=by
     cases hq:isT (yh c d) with
     |false=>rfl
     |true=>exact absurd ⟨i,c,h1,e1,hq⟩ q
    rw[this] at e2
    exact e2
  ·rw[<-hk,ko,QQ,QQ]
   constructor
   ·rintro⟨y,hy,h⟩
    obtain⟨i,c,h1,h2,h3⟩:=JO h
    exact⟨c,ZO h2,h3⟩
   ·rintro⟨c,hc,h3⟩
    obtain⟨i,hi,ei⟩:=QY hc
    have hl:=rv.length
    have hl2:=rs.length
    have hi':i < its.length:=by omega
    exact⟨its[i],kX hi',QU ⟨i,c,by simp[hi'],by rw[zI hi,ei],h3⟩⟩
 ·cases hk
theorem Q9 (hu:X.A.units+100 < cLine):J8 X (compareOp .NotIn) Tq:=by
 intro pins s σ H x y v u Q I rx ry h
 obtain⟨a,b,c,ra,rb,e,q⟩:=h
 unfold Tq at e
 split at e
 ·rename_i d
  obtain⟨ys,ey,e⟩:=bind_some e
  obtain⟨k,ek,e⟩:=bind_some e
  cases e
  obtain⟨p,vs,rfl,sq,rs⟩:=Ck rb ey
  cases ry
  rcases sq with sq|sq
  ·obtain⟨its,r',pl,hz⟩:=I.list sq
   obtain⟨f,f1,f2⟩:=V5 I hu ra rx rs r' ek
   refine SeqAt.notIn_listAt f pl.isList (fun w hw=>f1 w (by simpa using hw)) ⟨.bl (!k),H,I,by rw[show its.toArray.any f=its.any f by simp,f2];rfl,q _ H (Same.refl H) trivial (by simp only[bf,Rep])⟩
  ·obtain⟨its,r',pl,hz⟩:=I.tuple sq
   obtain⟨f,f1,f2⟩:=V5 I hu ra rx rs r' ek
   refine SeqAt.notIn_tupleAt f pl (fun w hw=>f1 w (by simpa using hw)) ⟨.bl (!k),H,I,by rw[show its.toArray.any f=its.any f by simp,f2];rfl,q _ H (Same.refl H) trivial (by simp only[bf,Rep])⟩
 ·cases e
end
section
variable {X:Cx} {g:Ev->Option Out} {st:List Stmt} {i:Nat}
def V6 (i:Nat) (ρ:Ev):Option Ev:=match ρ[i]? with
 |some (some (.o ds))=>some (ρ.set i (some (.z (.lst ds))))
 |_=>none
def V7 (i:Nat) (g:Ev->Option Out):Ev->Option Out:=fun ρ=>(V6 i ρ).bind g
theorem abU (h:RN X st g):RN X st (V7 i g):=by
 intro pins s σ H D I q
 obtain⟨H0,ρ,r,E,e,f⟩:=q
 obtain⟨ρ',e1,e2⟩:=bind_some e
 unfold V6 at e1
 split at e1
 ·rename_i ds hr
  cases e1
  obtain⟨v,hv,a,vs,rfl,ha,rs⟩:=E.val i _ hr
  obtain⟨o,I2⟩:=p7 I ha
  have kp:Kp H (upd H a (.lG o (.lst vs))):=.lst ha
  refine h pins s σ _ D I2 ⟨H0,_,r,E.U6 hr rfl hv kp ?_,e2,f⟩
  simp only[bf,Rep]
  exact⟨a,vs,rfl,.inl ⟨o,aX⟩,rs.kp kp⟩
 ·cases e1
theorem Jq (h:Qs X st g):Qs X st (V7 i g):=⟨abU h.run⟩
end
open AutoSeq1 (wpAny_loadPart')
open SeqAt
section
variable {X:Cx} {pins:List (Addr×Obj)} {σ:L2.St} {H:Hp} {s:Shared}
end
section
variable {X:Cx} {o e:Expr} {fo fx:Ev->Option Bx}
end
section
variable {X:Cx} {c:Expr} {body:List Stmt} {t:Ev->Option Bool} {g:Ev->Option Out} {pos:Pos}
end
section
variable {X:Cx} {pins:List (Addr×Obj)} {σ:L2.St} {H:Hp} {s:Shared} {h':Heap}
end
section
variable {X:Cx} {elts:List Expr} {x1:Nat} {tpos p pos:Pos} {e:Expr} {fs:Ev->Option (List Bx)}
end
section
variable {X:Cx} {e:Expr} {f:Ev->Option Bx} {pos:Pos}
end
section
variable {X:Cx} {e:Expr} {f:Ev->Option Bx} {pos:Pos}
end
section
variable {X:Cx}
end
section
variable {X:Cx} {e:Expr} {f:Ev->Option Bx} {pos:Pos}
end
section
variable {X:Cx} {e ek ev:Expr} {f fk fv:Ev->Option Bx} {pos:Pos} {st:Stmt}
end
section
variable {X:Cx} {e st:Expr} {f fs:Ev->Option Bx} {pos p2:Pos}
end
section
variable {prog:Program} {w:World} {A:Around} {E:Value->Shared->Prop} {s:Shared}
end
section
variable {prog:Program} {w:World} {A:Around} {E:Value->Shared->Prop} {s:Shared}
end
section
variable {prog:Program} {w:World} {A:Around} {E:Value->Shared->Prop} {s:Shared}
theorem ad {a b:Nat} (h:a≠b):@Ne Addr a b:=h
end
section
variable {prog:Program} {w:World} {A:Around} {E:Value->Shared->Prop} {s:Shared}
end
section
variable {prog:Program} {w:World} {A:Around} {E:Value->Shared->Prop} {s:Shared}
end
section
variable {prog:Program} {w:World} {A:Around} {E:Value->Shared->Prop} {s:Shared} {K:Type} [DecidableEq K] {knd:KeyKind prog w K}
end
section
variable {prog:Program} {w:World} {A:Around} {E:Value->Shared->Prop} {s:Shared} {K:Type} [DecidableEq K] {knd:KeyKind prog w K}
end
section
variable {X:Cx} {ea eb:Expr} {fa fb:Ev->Option Bx} {p1 p2 pos1 pos2:Pos}
end
section
variable {X:Cx}
end
theorem tu {X:Cx} {scope:Scope} {cl:List (Str×Addr)} (xs:List Str) (is:List Nat) (clos:closureFor scope X.env=pure cl:=by with_unfolding_all rfl) (kind:scope.kind=.function:=by rfl) (cell:scope.names.all (fun y=>decide (y.2≠.cell))=true:=by decide +kernel)
  (names:scope.names.all (fun y=>decide (y.2=.local->scope.names.lookup y.1=some .local))=true:=by decide +kernel) (sub:SubL X.env.cells cl:=by repeat (first|exact trivial|refine⟨rfl,?_⟩))
  (has:(relabel scope X.env).names.all (fun y=>!(y.2==.cell||y.2==.free)||(cl.lookup y.1).isSome)=true:=by rfl) (cap:yc X scope cl xs is:=by repeat (first|exact abD|refine Yt rfl (by first|exact .inl rfl|exact .inr rfl) (by first|exact .inl rfl|exact .inr rfl) ⟨_,rfl⟩ ?_)):zO X scope cl xs is:=abE clos kind cell names sub has cap
theorem uU {N ps:List Str} {sc:Scope} (h1:sc.kind=.function:=by rfl) (h2:sc.isCoroutine=false:=by rfl) (h3:sc.isGenerator=false:=by rfl) (h4:N.Nodup:=by decide +kernel) (h5:N.take ps.length=ps:=by rfl) (h6:∀ x∈ps,sc.names.lookup x=some .local\/sc.names.lookup x=some .cell:=by decide +kernel) (h7:∀ y∈sc.names,y.2≠.free:=by decide +kernel):cQ N ps sc:=⟨h1,h2,h3,h4,h5,h6,h7⟩
instance:Inhabited Dt:=⟨.non⟩
theorem bnd {α β:Type} (a:α) (f:α->Option β):(some a).bind f=f a:=(Option.bind_some a f).trans (Eq.refl _)
def hold:Option Prop->Prop
 |none=>True
 |some p=>p
def bD:Option Prop->Option Prop->Option Prop
 |none,q=>q
 |some p,none=>some p
 |some p,some q=>some (p/\q)
def Ed (c:Prop):Option Prop->Option Prop
 |none=>none
 |some p=>some (c->p)
theorem aB {p q:Option Prop} (h:hold (bD p q)):hold p/\hold q:=by
 cases p with
 |none=>exact⟨trivial,h⟩
 |some p=>cases q with
  |none=>exact⟨h,trivial⟩
  |some q=>exact h
theorem m9 {c:Prop} {p:Option Prop} (h:hold (Ed c p)) (hc:c):hold p:=by
 cases p with
 |none=>trivial
 |some p=>exact h hc
structure R {α β:Type} (f:Ev->Option β) (ρ:Ev) (c:α->β) where
 v:α
 D:Option Prop
 ok:hold D->f ρ=some (c v)
abbrev zE {α:Type} (e:α->Dt):α->Bx:=fun a=>.z (e a)
abbrev oE {α:Type} (e:α->Dt):List α->Bx:=fun xs=>.o (xs.map e)
abbrev lE {α:Type} (e:α->Dt):List α->Bx:=fun xs=>.l (xs.map e)
abbrev tE:Bool->Bool:=fun b=>b
abbrev iE {α:Type} (e:α->Dt):List α->List Dt:=fun xs=>xs.map e
abbrev eI:Int->Dt:=Dt.int
abbrev eB:Bool->Dt:=Dt.bl
abbrev eS:Str->Dt:=Dt.str
abbrev eD:Dt->Dt:=fun d=>d
abbrev eL {α:Type} (e:α->Dt):List α->Dt:=fun xs=>.lst (xs.map e)
abbrev eT {α:Type} (e:α->Dt):List α->Dt:=fun xs=>.tup (xs.map e)
abbrev eO {α:Type} (e:α->Dt):Option α->Dt:=fun o=>match o with|none=>.non|some a=>e a
abbrev eP1 {α:Type} (a:α->Dt):α->Dt:=fun x=>.tup [a x]
abbrev T9 {α β:Type} (a:α->Dt) (b:β->Dt):α×β->Dt:=fun x=>.tup [a x.1,b x.2]
abbrev eP3 {α β γ:Type} (a:α->Dt) (b:β->Dt) (c:γ->Dt):α×β×γ->Dt:=fun x=>.tup [a x.1,b x.2.1,c x.2.2]
abbrev eP4 {α β γ δ:Type} (a:α->Dt) (b:β->Dt) (c:γ->Dt) (d:δ->Dt):α×β×γ×δ->Dt:=fun x=>.tup [a x.1,b x.2.1,c x.2.2.1,d x.2.2.2]
structure RL {α:Type} (f:Ev->Option Bx) (ρ:Ev) (e:α->Dt) where
 v:List α
 D:Option Prop
 b:Bx
 lk:rC b=some (v.map e)
 ok:hold D->f ρ=some b
section
variable {α β γ δ:Type} {ρ:Ev} {f fa fb fc:Ev->Option Bx} {fs:Ev->Option (List Bx)} {e:α->Dt} {e':β->Dt}
def jZ (a:R f ρ (oE e)):RL f ρ e:=⟨a.v,a.D,_,rfl,a.ok⟩
def fJ (a:R f ρ (lE e)):RL f ρ e:=⟨a.v,a.D,_,rfl,a.ok⟩
def Bw (a:R f ρ (zE (eL e))):RL f ρ e:=⟨a.v,a.D,_,rfl,a.ok⟩
def Lp (b:Bx) (ds:List Dt):Prop:=b=.z (.lst ds)\/b=.l ds
theorem Lp.FQ {b:Bx} {ds:List Dt} (h:Lp b ds):rC b=some ds:=by rcases h with rfl|rfl<;>rfl
theorem Lp.get {b:Bx} {ds:List Dt} {i:Nat} (h:Lp b ds) (hi:ρ[i]?=some (some b)):vQ ρ i=some b:=by
 rcases h with rfl|rfl<;>(unfold vQ;rw[hi])
theorem Lp.lend {b:Bx} {ds:List Dt} (h:Lp b ds):P1.lend b=b:=by rcases h with rfl|rfl<;>rfl
theorem Lz {b:Bx} {ds:List Dt} (h:rC b=some ds):Lp (P1.lend b) ds:=by
 cases b with
 |z d=>cases d<;>cases h;exact .inl rfl
 |l d=>cases h;exact .inr rfl
 |o d=>cases h;exact .inr rfl
 |n d=>cases h
 |m d _=>cases h
def aq (i:Nat) (c:α->Bx) (a:α) (h:vQ ρ i=some (c a)):R (gv i) ρ c:=⟨a,none,fun _=>h⟩
def pA (i:Nat) (e:α->Dt) (a:List α) {b:Bx} (h:Lp b (a.map e)) (hi:ρ[i]?=some (some b)):RL (gv i) ρ e:=⟨a,none,b,h.FQ,fun _=>h.get hi⟩
def aR (d:Dt) (e:α->Dt) (a:α) (h:d=e a):R (cB d) ρ (zE e):=⟨a,none,fun _=>by rw[h];rfl⟩
def V8 (a:R f ρ (zE e)):R f ρ (zE (eO e)):=⟨some a.v,a.D,a.ok⟩
def abV {e:α->Dt}:R (cB .non) ρ (zE (eO e)):=⟨none,none,fun _=>rfl⟩
def aai [Inhabited α] (a:R f ρ (zE (eO e))):R f ρ (zE e):=⟨a.v.getD default,bD a.D (some (a.v.isSome=true)),fun h=>by
 obtain⟨h1,h2⟩:=aB h
 rw[a.ok h1]
 have h2:a.v.isSome=true:=h2
 cases hv:a.v with
 |none=>rw[hv] at h2;cases h2
 |some x=>rfl⟩
def Tr (a:R f ρ (oE e)):R (b1 ou f) ρ (zE (eL e)):=⟨a.v,a.D,fun h=>by simp only[b1,a.ok h,bnd,ou]⟩
def eY (a:R f ρ (zE e)):R (b1 ou f) ρ (zE e):=⟨a.v,a.D,fun h=>by simp only[b1,a.ok h,bnd,ou]⟩
def jE (a:R fa ρ (zE eI)) (b:R fb ρ (zE eI)):R (b2 iz fa fb) ρ (zE eI):=⟨a.v+b.v,bD a.D b.D,fun h=>by
 obtain⟨h1,h2⟩:=aB h
 simp only[b2,a.ok h1,b.ok h2,bnd,iz]⟩
def LC (a:R fa ρ (zE eI)) (b:R fb ρ (zE eI)):R (b2 subB fa fb) ρ (zE eI):=⟨a.v - b.v,bD a.D b.D,fun h=>by
 obtain⟨h1,h2⟩:=aB h
 simp only[b2,a.ok h1,b.ok h2,bnd,i2]⟩
def Mul (a b:Int):Prop:=(-18446744073709551616 < a/\a < 18446744073709551616)\/(-18446744073709551616 < b/\b < 18446744073709551616)
def V9 (a:R fa ρ (zE eI)) (b:R fb ρ (zE eI)):R (b2 uK fa fb) ρ (zE eI):=⟨a.v * b.v,bD (bD a.D b.D) (some (Mul a.v b.v)),fun h=>by
 obtain⟨h,h3⟩:=aB h
 obtain⟨h1,h2⟩:=aB h
 simp only[b2,a.ok h1,b.ok h2,bnd]
 exact zk h3⟩
def Jr (n:Int) (hn : -18446744073709551616 < n/\n < 18446744073709551616) (b:R fb ρ (zE eI)):R (b2 uK (cB (.int n)) fb) ρ (zE eI):=⟨n * b.v,b.D,fun h=>by
 simp only[b2,b.ok h,bnd,cB]
 exact zk (.inl hn)⟩
def Ra (a:R fa ρ (zE eI)) (n:Int) (hn : -18446744073709551616 < n/\n < 18446744073709551616):R (b2 uK fa (cB (.int n))) ρ (zE eI):=⟨a.v * n,a.D,fun h=>by
 simp only[b2,a.ok h,bnd,cB]
 exact zk (.inr hn)⟩
def yM (a:R fa ρ (zE eI)) (n:Int) (hn:0 < n/\n < 1073741824):R (b2 Dp fa (cB (.int n))) ρ (zE eI):=⟨a.v / n,a.D,fun h=>by
 simp only[b2,a.ok h,bnd,i2,cB,zk hn]⟩
def LK (a:R fa ρ (zE eI)) (b:R fb ρ (zE eI)):R (b2 iT fa fb) ρ (zE eI):=⟨a.v % b.v,bD (bD a.D b.D) (some (0 < b.v)),fun h=>by
 obtain⟨h,h3⟩:=aB h
 obtain⟨h1,h2⟩:=aB h
 have h3:0 < b.v:=h3
 simp only[b2,a.ok h1,b.ok h2,bnd,i2,zk h3]⟩
def dw (a:R fa ρ (zE eI)) (n:Int) (hn:0 < n):R (b2 iT fa (cB (.int n))) ρ (zE eI):=⟨a.v % n,a.D,fun h=>by
 simp only[b2,a.ok h,bnd,i2,cB,zk hn]⟩
def abW (a b:Int) (n:Nat) (h:0<=b/\b<=1000/\a.natAbs < 18446744073709551616) (hb:b.toNat=n):R (b2 abo (cB (.int a)) (cB (.int b))) ρ (zE eI):=⟨a ^ n,none,fun _=>by
 simp only[b2,bnd,cB]
 show ((if 0<=b/\b<=1000/\a.natAbs < 2 ^ 64 then some (Dt.int (a ^ b.toNat)) else none).bind fun d=>some (Bx.z d))=_
 rw[zk h,hb]
 rfl⟩
def agc (a:R fa ρ (zE eI)) (b:R fb ρ (zE eI)):R (b2 gtB fa fb) ρ (zE eB):=⟨decide (b.v < a.v),bD a.D b.D,fun h=>by
 obtain⟨h1,h2⟩:=aB h
 simp only[b2,a.ok h1,b.ok h2,bnd,i2]⟩
def x_ge (a:R fa ρ (zE eI)) (b:R fb ρ (zE eI)):R (b2 geB fa fb) ρ (zE eB):=⟨decide (b.v<=a.v),bD a.D b.D,fun h=>by
 obtain⟨h1,h2⟩:=aB h
 simp only[b2,a.ok h1,b.ok h2,bnd,i2]⟩
def aaj (a:R fa ρ (zE eI)) (b:R fb ρ (zE eI)):R (b2 ltA fa fb) ρ (zE eB):=⟨decide (a.v < b.v),bD a.D b.D,fun h=>by
 obtain⟨h1,h2⟩:=aB h
 simp only[b2,a.ok h1,b.ok h2,bnd,ltA]⟩
def Ge (x y:Str):Bool:=decide (x.cps.toList < y.cps.toList)
end
class Eqs {α:Type} [DecidableEq α] (e:α->Dt) (n:outParam Nat):Prop where
 eq:∀ a b,yh (e a) (e b)=some (decide (a=b))
 dp:∀ a,vX (e a)<=n
class Non {α:Type} (e:α->Dt):Prop where
 l:∀ a,yh .non (e a)=some false
 r:∀ a,yh (e a) .non=some false
instance:Eqs eI 1:=⟨fun a b=>rfl,fun a=>by simp[vX]⟩
instance:Eqs eB 1:=⟨fun a b=>rfl,fun a=>by simp[vX]⟩
instance:Eqs eS 1:=⟨fun a b=>rfl,fun a=>by simp[vX]⟩
instance:Non eI:=⟨fun a=>rfl,fun a=>rfl⟩
instance:Non eB:=⟨fun a=>rfl,fun a=>rfl⟩
instance:Non eS:=⟨fun a=>rfl,fun a=>rfl⟩
section
variable {α β γ δ:Type} [DecidableEq α] [DecidableEq β] [DecidableEq γ] [DecidableEq δ] {e:α->Dt} {e':β->Dt} {e'':γ->Dt} {e3:δ->Dt} {n m k l:Nat}
theorem Ef [Eqs e n]:∀ xs ys:List α,nC (xs.map e) (ys.map e)=some (decide (xs=ys))
 |[],[]=>by simp[nC]
 |[],y::ys=>by simp[nC]
 |x::xs,[]=>by simp[nC]
 |x::xs,y::ys=>by
  simp only[zr,nC,Eqs.eq,Ef xs ys]
  congr 1
  by_cases h:x=y<;>by_cases h':xs=ys<;>simp[h,h']
theorem Eh [Eqs e n]:∀ xs:List α,uH (xs.map e)<=n
 |[]=>by simp[uH]
 |x::xs=>by
  have:=Eqs.dp (e:=e) x
  have:=Eh xs
  simp only[zr,uH]
  omega
instance [Eqs e n]:Eqs (eL e) (n+1):=⟨fun a b=>Ef a b,fun a=>by simp only[vX];have:=Eh (e:=e) a;omega⟩
instance [Eqs e n]:Eqs (eT e) (n+1):=⟨fun a b=>Ef a b,fun a=>by simp only[vX];have:=Eh (e:=e) a;omega⟩
instance:Non (eL e):=⟨fun a=>rfl,fun a=>rfl⟩
instance:Non (eT e):=⟨fun a=>rfl,fun a=>rfl⟩
instance:Non (eP1 e):=⟨fun a=>rfl,fun a=>rfl⟩
instance:Non (T9 e e'):=⟨fun a=>rfl,fun a=>rfl⟩
instance:Non (eP3 e e' e''):=⟨fun a=>rfl,fun a=>rfl⟩
instance:Non (eP4 e e' e'' e3):=⟨fun a=>rfl,fun a=>rfl⟩
instance [Eqs e n]:Eqs (eP1 e) (n+1):=⟨fun a b=>by
 simp only[Cg,nC,Eqs.eq,Ki],fun a=>by
 have:=Eqs.dp (e:=e) a
 simp only[vX,uH];omega⟩
instance [Eqs e n] [Eqs e' m]:Eqs (T9 e e') (max n m+1):=⟨fun a b=>by
 obtain⟨a,a'⟩:=a;obtain⟨b,b'⟩:=b
 simp only[Cg,nC,Eqs.eq,Prod.mk.injEq,Bool.decide_and,Ki],fun a=>by
 have:=Eqs.dp (e:=e) a.1;have:=Eqs.dp (e:=e') a.2
 simp only[vX,uH];omega⟩
instance [Eqs e n] [Eqs e' m] [Eqs e'' k]:Eqs (eP3 e e' e'') (max n (max m k)+1):=⟨fun a b=>by
 obtain⟨a,a',a2⟩:=a;obtain⟨b,b',b2⟩:=b
 simp only[Cg,nC,Eqs.eq,Prod.mk.injEq,Bool.decide_and,Ki],fun a=>by
 have:=Eqs.dp (e:=e) a.1;have:=Eqs.dp (e:=e') a.2.1;have:=Eqs.dp (e:=e'') a.2.2
 simp only[vX,uH];omega⟩
instance [Eqs e n] [Eqs e' m] [Eqs e'' k] [Eqs e3 l]:Eqs (eP4 e e' e'' e3) (max n (max m (max k l))+1):=⟨fun a b=>by
 obtain⟨a,a',a2,a3⟩:=a;obtain⟨b,b',b2,b3⟩:=b
 simp only[Cg,nC,Eqs.eq,Prod.mk.injEq,Bool.decide_and,Ki],fun a=>by
 have:=Eqs.dp (e:=e) a.1;have:=Eqs.dp (e:=e') a.2.1;have:=Eqs.dp (e:=e'') a.2.2.1;have:=Eqs.dp (e:=e3) a.2.2.2
 simp only[vX,uH];omega⟩
instance [Eqs e n] [Non e]:Eqs (eO e) (n+1):=⟨fun a b=>by
 cases a with
 |none=>cases b with
  |none=>exact rfl
  |some b=>exact (Non.l (e:=e) b).trans (by simp)
 |some a=>cases b with
  |none=>exact (Non.r (e:=e) a).trans (by simp)
  |some b=>exact (Eqs.eq (e:=e) a b).trans (by simp),fun a=>by
 cases a with
 |none=>show vX .non<=n+1;simp[vX]
 |some a=>exact Nat.le_succ_of_le (Eqs.dp (e:=e) a)⟩
end
section
variable {α β γ δ:Type} {ρ:Ev} {f fa fb fc:Ev->Option Bx} {p q:Ev->Option Bool} {fs:Ev->Option (List Bx)} {e:α->Dt} {e':β->Dt}
def x_eq [DecidableEq α] {n:Nat} [Eqs e n] (hn:n<=100) (a:R fa ρ (zE e)) (b:R fb ρ (zE e)):R (b2 eqB fa fb) ρ (zE eB):=⟨decide (a.v=b.v),bD a.D b.D,fun h=>by
 obtain⟨h1,h2⟩:=aB h
 have:=Eqs.dp (e:=e) a.v
 simp only[b2,a.ok h1,b.ok h2,bnd,eqB,qL,toD,zl,or_self,ZE,Eqs.eq]
 rw[zk (by omega)]⟩
def LQ [DecidableEq α] {n:Nat} [Eqs e n] (hn:n<=100) (a:R fa ρ (zE e)) (b:R fb ρ (zE e)):R (b2 Iz fa fb) ρ (zE eB):=⟨!decide (a.v=b.v),bD a.D b.D,fun h=>by
 obtain⟨h1,h2⟩:=aB h
 have:=Eqs.dp (e:=e) a.v
 simp only[b2,a.ok h1,b.ok h2,bnd,Iz,qL,toD,zl,or_self,ZE,Eqs.eq]
 rw[zk (by omega)]⟩
theorem Cu {b:Bx} {ds:List Dt} (h:rC b=some ds):toD b=.lst ds/\qL b=false:=by
 cases b with
 |z d=>cases d<;>cases h;exact⟨rfl,rfl⟩
 |l d=>cases h;exact⟨rfl,rfl⟩
 |o d=>cases h;exact⟨rfl,rfl⟩
 |n d=>cases h
 |m d _=>cases h
def Wa [DecidableEq α] {n:Nat} [Eqs e n] (hn:n+1<=100) (a:RL fa ρ e) (b:RL fb ρ e):R (b2 Iz fa fb) ρ (zE eB):=⟨!decide (a.v=b.v),bD a.D b.D,fun h=>by
 obtain⟨h1,h2⟩:=aB h
 simp only[b2,a.ok h1,b.ok h2,bnd,Iz,(Cu a.lk).1,(Cu a.lk).2,(Cu b.lk).1,(Cu b.lk).2,zl,or_self,ZE]
 have e1:=Eqs.eq (e:=eL e) a.v b.v
 rw[zk (z4 (Nat.min_le_left _ _) (z4 (Eqs.dp (e:=eL e) a.v) hn)),e1,bnd]⟩
def ad6 (a:R fa ρ (zE (eO e))) (hn:∀ x,Oa (.z (e x))=false):R (b2 isB fa (cB .non)) ρ (zE eB):=⟨a.v.isNone,a.D,fun h=>by
 simp only[b2,a.ok h,bnd,cB,isB]
 cases hv:a.v with
 |none=>rfl
 |some x=>simp only[Option.isNone_some,hn]⟩
def ad7 (a:R fa ρ (zE eB)) (b:R fb ρ (zE eB)):R (Yc fa fb) ρ (zE eB):=⟨a.v&&b.v,bD a.D (Ed (a.v=true) b.D),fun h=>by
 obtain⟨h1,h2⟩:=aB h
 simp only[Yc,a.ok h1,bnd,Ik]
 cases hv:a.v with
 |true=>simp only[qE,Bool.true_and];exact b.ok (m9 h2 hv)
 |false=>simp only[zl,ZE,Bool.false_and]⟩
def agd (a:R fa ρ (zE eB)) (b:R fb ρ (zE eB)):R (orV fa fb) ρ (zE eB):=⟨a.v||b.v,bD a.D (Ed (a.v=false) b.D),fun h=>by
 obtain⟨h1,h2⟩:=aB h
 simp only[orV,a.ok h1,bnd,Ik]
 cases hv:a.v with
 |true=>simp only[qE,Bool.true_or]
 |false=>simp only[zl,ZE,Bool.false_or];exact b.ok (m9 h2 hv)⟩
def Wb (a:R fa ρ (zE eB)):R (tV fa) ρ tE:=⟨a.v,a.D,fun h=>by simp only[tV,a.ok h,bnd,X7]⟩
def fD {g:Bx->Bx->Option Bx} (a:R (b2 g fa fb) ρ (zE eB)):R (uq g fa fb) ρ tE:=⟨a.v,a.D,fun h=>by simp only[uq,a.ok h,bnd,Ik]⟩
def LR (a:R p ρ tE) (b:R q ρ tE):R (Im p q) ρ tE:=⟨a.v&&b.v,bD a.D (Ed (a.v=true) b.D),fun h=>by
 obtain⟨h1,h2⟩:=aB h
 simp only[Im,a.ok h1,bnd]
 cases hv:a.v with
 |true=>simp only[qE,Bool.true_and];exact b.ok (m9 h2 hv)
 |false=>simp only[zl,ZE,Bool.false_and]⟩
def O7 (a:R p ρ tE) (b:R q ρ tE):R (Sg p q) ρ tE:=⟨a.v||b.v,bD a.D (Ed (a.v=false) b.D),fun h=>by
 obtain⟨h1,h2⟩:=aB h
 simp only[Sg,a.ok h1,bnd]
 cases hv:a.v with
 |true=>simp only[qE,Bool.true_or]
 |false=>simp only[zl,ZE,Bool.false_or];exact b.ok (m9 h2 hv)⟩
def Rb (a:R p ρ tE):R (FT p) ρ tE:=⟨!a.v,a.D,fun h=>by simp only[FT,a.ok h,bnd]⟩
end
section
variable {α β γ δ ε:Type} {ρ:Ev} {f fa fb fc fd:Ev->Option Bx} {p q:Ev->Option Bool} {fs:Ev->Option (List Bx)} {e:α->Dt} {e':β->Dt} {e'':γ->Dt} {e3:δ->Dt}
def Wc (e:α->Dt):R (bY jG aG) ρ (zE (eT e)):=⟨[],none,fun _=>rfl⟩
def zZ (a:R fa ρ (zE e)) (b:R fb ρ (zE e')):R (bY jG (ao fa (ao fb aG))) ρ (zE (T9 e e')):=⟨(a.v,b.v),bD a.D b.D,fun h=>by
 obtain⟨h1,h2⟩:=aB h
 simp only[bY,ao,aG,a.ok h1,b.ok h2,bnd];rfl⟩
def uV (a:R fa ρ (zE e)) (b:R fb ρ (zE e')) (c:R fc ρ (zE e'')):R (bY jG (ao fa (ao fb (ao fc aG)))) ρ (zE (eP3 e e' e'')):=⟨(a.v,b.v,c.v),bD a.D (bD b.D c.D),fun h=>by
 obtain⟨h1,h⟩:=aB h
 obtain⟨h2,h3⟩:=aB h
 simp only[bY,ao,aG,a.ok h1,b.ok h2,c.ok h3,bnd];rfl⟩
def Js (a:R fa ρ (zE e)) (b:R fb ρ (zE e')) (c:R fc ρ (zE e'')) (d:R fd ρ (zE e3)):R (bY jG (ao fa (ao fb (ao fc (ao fd aG))))) ρ (zE (eP4 e e' e'' e3)):=⟨(a.v,b.v,c.v,d.v),bD a.D (bD b.D (bD c.D d.D)),fun h=>by
 obtain⟨h1,h⟩:=aB h
 obtain⟨h2,h⟩:=aB h
 obtain⟨h3,h4⟩:=aB h
 simp only[bY,ao,aG,a.ok h1,b.ok h2,c.ok h3,d.ok h4,bnd];rfl⟩
def eN (e:α->Dt):R aG ρ (fun xs:List α=>xs.map (zE e)):=⟨[],none,fun _=>rfl⟩
def cj (a:R fa ρ (zE e)) (t:R fs ρ (fun xs:List α=>xs.map (zE e))):R (ao fa fs) ρ (fun xs:List α=>xs.map (zE e)):=⟨a.v::t.v,bD a.D t.D,fun h=>by
 obtain⟨h1,h2⟩:=aB h
 simp only[ao,a.ok h1,t.ok h2,bnd,zr]⟩
theorem Ei:∀ xs:List α,Ip (xs.map (zE e))=some (xs.map e)
 |[]=>rfl
 |x::xs=>by simp only[zr,Ip,Ei xs,bnd]
def jl (t:R fs ρ (fun xs:List α=>xs.map (zE e))) (hl:t.v.length<=1000):R (bY lK fs) ρ (oE e):=⟨t.v,t.D,fun h=>by
 simp only[bY,t.ok h,bnd,lK,zi,zk hl,Ei]⟩
def abX (t:R fs ρ (fun xs:List α=>xs.map (zE e))) (hl:t.v.length<=1000):R (bY jG fs) ρ (zE (eT e)):=⟨t.v,t.D,fun h=>by
 simp only[bY,t.ok h,bnd,jG,zi,zk hl,Ei]⟩
def at' [Inhabited α] (xs:List α) (i:Int):α:=(FJ xs i).getD default
def In (n:Nat) (i:Int):Prop:=-(n:Int)<=i/\i < n
theorem Jt {xs:List α} {i:Int} (h:In xs.length i):∃ x,FJ xs i=some x:=by
 obtain⟨h1,h2⟩:=h
 unfold FJ ixN
 by_cases h0:0<=i
 ·rw[zk h0,zk h2]
  exact⟨xs[i.toNat]'(by omega),zI (by omega)⟩
 ·rw[zw h0,zk h1]
  exact⟨xs[(i+xs.length).toNat]'(by omega),zI (by omega)⟩
theorem abY {xs:List α} {i:Int} {x:α} (h:FJ xs i=some x):FJ (xs.map e) i=some (e x):=by
 unfold FJ at h ⊢
 rw[zi]
 obtain⟨j,ej,h⟩:=bind_some h
 rw[ej,bnd,zS,h]
 rfl
theorem abZ [Inhabited α] {xs:List α} {i:Int} (h:In xs.length i):FJ (xs.map e) i=some (e (at' xs i)):=by
 obtain⟨x,hx⟩:=Jt h
 rw[abY hx]
 unfold at'
 rw[hx]
 rfl
theorem Y9 {b:Bx} {ds:List Dt} {i:Int} (h:rC b=some ds):jr b (.z (.int i))=(FJ ds i).bind fun d=>some (.z d):=by
 cases b with
 |z d=>cases d<;>cases h;rfl
 |l d=>cases h;rfl
 |o d=>cases h;rfl
 |n d=>cases h
 |m d _=>cases h
def gF [Inhabited α] (a:RL fa ρ e) (b:R fb ρ (zE eI)):R (b2 jr fa fb) ρ (zE e):=⟨at' a.v b.v,bD (bD a.D b.D) (some (In a.v.length b.v)),fun h=>by
 obtain⟨h,h3⟩:=aB h
 obtain⟨h1,h2⟩:=aB h
 simp only[b2,a.ok h1,b.ok h2,bnd,Y9 a.lk,abZ (show In a.v.length b.v from h3)]⟩
def ch (x:Str) (i:Int):Str:=⟨#[(FJ x.cps.toList i).getD 0]⟩
def Rc (a:R fa ρ (zE eS)) (b:R fb ρ (zE eI)):R (b2 jr fa fb) ρ (zE eS):=⟨ch a.v b.v,bD (bD a.D b.D) (some (In a.v.length b.v)),fun h=>by
 obtain⟨h,h3⟩:=aB h
 obtain⟨h1,h2⟩:=aB h
 obtain⟨x,hx⟩:=Jt (xs:=a.v.cps.toList) (i:=b.v) (show In a.v.length b.v from h3)
 simp only[b2,a.ok h1,b.ok h2,bnd,jr,hx,ch,Option.getD_some]⟩
def n8 (a:R fa ρ (zE e)) (g:α->β) (e':β->Dt) (i:Int) (h:∀ x,jr (.z (e x)) (.z (.int i))=some (.z (e' (g x)))):R (b2 jr fa (cB (.int i))) ρ (zE e'):=⟨g a.v,a.D,fun hd=>by
 simp only[b2,a.ok hd,bnd,cB,h]⟩
def cut (xs:List α) (lo hi:Option Int):List α:=(xs.drop (HT.jK xs.length 0 lo)).take (HT.jK xs.length xs.length hi - HT.jK xs.length 0 lo)
theorem Za (xs:List α) (lo hi:Option Int):cutD (xs.map e) lo hi=(cut xs lo hi).map e:=by
 unfold cutD cut
 rw[zi,List.map_take,List.map_drop]
abbrev pE:Option Int->Option Int:=fun o=>o
def Wd:R wU ρ pE:=⟨none,none,fun _=>rfl⟩
def Wf (a:R fa ρ (zE eI)):R (Ax fa) ρ pE:=⟨some a.v,a.D,fun h=>by simp only[Ax,a.ok h,bnd,abx]⟩
variable {fl fh:Ev->Option (Option Int)}
theorem Zb {b:Bx} {ds:List Dt} {lo hi:Option Int} (h:rC b=some ds):slB b lo hi=some (.o (cutD ds lo hi)):=by
 cases b with
 |z d=>cases d<;>cases h;rfl
 |l d=>cases h;rfl
 |o d=>cases h;rfl
 |n d=>cases h
 |m d _=>cases h
def ab0 (a:RL fa ρ e) (l:R fl ρ pE) (u:R fh ρ pE):R (Xh fa fl fh) ρ (oE e):=⟨cut a.v l.v u.v,bD a.D (bD l.D u.D),fun h=>by
 obtain⟨h1,h⟩:=aB h
 obtain⟨h2,h3⟩:=aB h
 simp only[Xh,a.ok h1,l.ok h2,u.ok h3,bnd,Zb a.lk,Za]⟩
def aak (a:R fa ρ (zE eS)) (l:R fl ρ pE) (u:R fh ρ pE):R (Xh fa fl fh) ρ (zE eS):=⟨Txt.slice a.v l.v u.v,bD a.D (bD l.D u.D),fun h=>by
 obtain⟨h1,h⟩:=aB h
 obtain⟨h2,h3⟩:=aB h
 simp only[Xh,a.ok h1,l.ok h2,u.ok h3,bnd,slB]⟩
def Ej (n:Nat):Prop:=n<=1000000
def Wg (a:R fa ρ (zE eS)) (b:R fb ρ (zE eS)):R (b2 iz fa fb) ρ (zE eS):=⟨a.v++b.v,bD (bD a.D b.D) (some (Ej (a.v.length+b.v.length))),fun h=>by
 obtain⟨h,h3⟩:=aB h
 obtain⟨h1,h2⟩:=aB h
 simp only[b2,a.ok h1,b.ok h2,bnd,iz,zk (show a.v.length+b.v.length<=N8 from h3)]⟩
def ab1 (a:R fa ρ (zE (eT e))) (b:R fb ρ (zE (eT e))):R (b2 iz fa fb) ρ (zE (eT e)):=⟨a.v++b.v,bD (bD a.D b.D) (some (Ej (a.v.length+b.v.length))),fun h=>by
 obtain⟨h,h3⟩:=aB h
 obtain⟨h1,h2⟩:=aB h
 simp only[b2,a.ok h1,b.ok h2,bnd,iz,zi,zk (show a.v.length+b.v.length<=N8 from h3),zE,eT,QO]⟩
theorem Wh {b b':Bx} {ds ds':List Dt} (h:rC b=some ds) (h':rC b'=some ds') (hl:ds.length+ds'.length<=N8):iz b b'=some (.o (ds++ds')):=by
 cases b with
 |z d=>
  cases d<;>cases h
  cases b' with
  |z d'=>cases d'<;>cases h';exact zk hl
  |l d'=>cases h';exact zk hl
  |o d'=>cases h';exact zk hl
  |n d'=>cases h'
  |m d'=>cases h'
 |l d=>
  cases h
  cases b' with
  |z d'=>cases d'<;>cases h';exact zk hl
  |l d'=>cases h';exact zk hl
  |o d'=>cases h';exact zk hl
  |n d'=>cases h'
  |m d'=>cases h'
 |o d=>
  cases h
  cases b' with
  |z d'=>cases d'<;>cases h';exact zk hl
  |l d'=>cases h';exact zk hl
  |o d'=>cases h';exact zk hl
  |n d'=>cases h'
  |m d'=>cases h'
 |n d=>cases h
 |m d _=>cases h
def O8 (a:RL fa ρ e) (b:RL fb ρ e):R (b2 iz fa fb) ρ (oE e):=⟨a.v++b.v,bD (bD a.D b.D) (some (Ej (a.v.length+b.v.length))),fun h=>by
 obtain⟨h,h3⟩:=aB h
 obtain⟨h1,h2⟩:=aB h
 simp only[b2,a.ok h1,b.ok h2,bnd]
 rw[Wh a.lk b.lk (by rw[zi,zi];exact h3)]
 simp only[oE,QO]⟩
def Wi (a:R fa ρ (zE eS)) (b:R fb ρ (zE eI)):R (b2 uK fa fb) ρ (zE eS):=⟨Txt.mul a.v b.v,bD (bD a.D b.D) (some (b.v<=1000 ∧ -1000<=b.v/\a.v.length<=1000)),fun h=>by
 obtain⟨h,h3⟩:=aB h
 obtain⟨h1,h2⟩:=aB h
 simp only[b2,a.ok h1,b.ok h2,bnd]
 exact zk h3⟩
theorem Wj {b:Bx} {ds:List Dt} (h:rC b=some ds):FW [b]=some (.z (.int ds.length)):=by
 cases b with
 |z d=>cases d<;>cases h;rfl
 |l d=>cases h;rfl
 |o d=>cases h;rfl
 |n d=>cases h
 |m d _=>cases h
theorem Wm {b:Bx} {ds:List Dt} (h:rC b=some ds):yq b=some ds:=by
 cases b with
 |z d=>cases d<;>cases h;rfl
 |l d=>cases h;rfl
 |o d=>cases h;rfl
 |n d=>cases h
 |m d _=>cases h
def x_len (a:RL fa ρ e):R (bY FW (ao fa aG)) ρ (zE eI):=⟨(a.v.length:Int),a.D,fun h=>by
 simp only[bY,ao,aG,a.ok h,bnd,Wj a.lk,zi]⟩
def ab2 (a:R fa ρ (zE eS)):R (bY FW (ao fa aG)) ρ (zE eI):=⟨(a.v.length:Int),a.D,fun h=>by
 simp only[bY,ao,aG,a.ok h,bnd,FW]⟩
def pG (a:RL fa ρ e):R (bY lM (ao fa aG)) ρ (zE (eT e)):=⟨a.v,a.D,fun h=>by
 simp only[bY,ao,aG,a.ok h,bnd,lM,Wm a.lk]⟩
def ad8 (a:R fa ρ (zE eI)):R (bY Ve (ao fa aG)) ρ (zE eI):=⟨if a.v < 0 then -a.v else a.v,a.D,fun h=>by
 simp only[bY,ao,aG,a.ok h,bnd,Ve]⟩
def ab3 (a:R fa ρ (zE eB)):R (bY Vf (ao fa aG)) ρ (zE eI):=⟨if a.v=true then 1 else 0,a.D,fun h=>by
 simp only[bY,ao,aG,a.ok h,bnd,Vf]⟩
theorem z6:∀ l:List Bool,Dr (l.map eB)=some l
 |[]=>rfl
 |a::l=>by simp only[zr,Dr,z6 l,bnd]
def ad9 (a:RL fa ρ eB):R (bY allB (ao fa aG)) ρ (zE eB):=⟨a.v.all id,a.D,fun h=>by
 simp only[bY,ao,aG,a.ok h,bnd,allB,a.lk,z6]⟩
def aea (a:RL fa ρ eB):R (bY anyB (ao fa aG)) ρ (zE eB):=⟨a.v.any id,a.D,fun h=>by
 simp only[bY,ao,aG,a.ok h,bnd,anyB,a.lk,z6]⟩
def Ek (a:R fa ρ (zE eI)) (b:R fb ρ (zE eI)):R (bY Ds (ao fa (ao fb aG))) ρ (zE eI):=⟨if b.v > a.v then b.v else a.v,bD a.D b.D,fun h=>by
 obtain⟨h1,h2⟩:=aB h
 simp only[bY,ao,aG,a.ok h1,b.ok h2,bnd,Ds]⟩
def Wn (a:R fa ρ (zE eI)) (b:R fb ρ (zE eI)):R (bY Od (ao fa (ao fb aG))) ρ (zE eI):=⟨if b.v < a.v then b.v else a.v,bD a.D b.D,fun h=>by
 obtain⟨h1,h2⟩:=aB h
 simp only[bY,ao,aG,a.ok h1,b.ok h2,bnd,Od]⟩
def aal (P:Dt->Bool) (a:R fa ρ (zE e)):R (G7 P fa) ρ (zE eB):=⟨P (e a.v),a.D,fun h=>by
 simp only[G7,b1,a.ok h,bnd,qL,toD,zl,ZE]⟩
theorem strs_map:∀ l:List Str,Az (l.map eS)=some l
 |[]=>rfl
 |a::l=>by simp only[zr,Az,strs_map l,bnd]
def ab4 (s:Str) (a:RL fa ρ eS):R (b1 (KZ s) fa) ρ (zE eS):=⟨Txt.join s a.v,bD a.D (some ((a.v.map (·.length)).sum+a.v.length * s.length<=100000)),fun h=>by
 obtain⟨h,h4⟩:=aB h
 simp only[b1,a.ok h,bnd,KZ,a.lk,strs_map]
 exact zk h4⟩
def Ju (a:RL fa ρ eS):R (bY Ba (ao fa aG)) ρ (oE eS):=⟨iB a.v,bD a.D (some (a.v.length < 64)),fun h=>by
 obtain⟨h,h4⟩:=aB h
 simp only[bY,ao,aG,a.ok h,bnd,Ba,a.lk,strs_map]
 exact zk h4⟩
def agf (a:R f ρ (zE e)) (g:α->β) (e':β->Dt) (h:∀ x,e x=e' (g x)):R f ρ (zE e'):=⟨g a.v,a.D,fun hd=>by rw[a.ok hd];exact congrArg (fun d=>some (Bx.z d)) (h a.v)⟩
class Flat {α:Type} (e:α->Dt):Prop where
 f:∀ a,yp (e a)=true
instance:Flat eI:=⟨fun _=>rfl⟩
instance:Flat eB:=⟨fun _=>rfl⟩
instance:Flat eS:=⟨fun _=>rfl⟩
theorem Ma [DecidableEq α] {n:Nat} [Eqs e n] [Flat e] (x:α) (ys:List α):memD (e x) (ys.map e)=some (decide (x∈ys)):=by
 unfold memD
 rw[zk ⟨Flat.f x,by rw[List.all_map];exact List.all_eq_true.mpr fun y _=>Flat.f y⟩,List.any_map]
 congr 1
 rw[ko,QQ,decide_eq_true_iff]
 constructor
 ·rintro⟨y,hy,h⟩
  simp only[Function.comp,Eqs.eq] at h
  by_cases e1:y=x
  ·rw[<-e1];exact hy
  ·simp only[e1,kD] at h
   cases h
 ·intro h
  exact⟨x,h,by simp only[Function.comp,Eqs.eq,Kj]⟩
theorem Zc {b:Bx} {d:Dt} {ds:List Dt} (h:rC b=some ds):inB (.z d) b=memD d ds:=by
 cases b with
 |z d'=>cases d'<;>cases h;cases d<;>rfl
 |l d'=>cases h;cases d<;>rfl
 |o d'=>cases h;cases d<;>rfl
 |n d'=>cases h
 |m d'=>cases h
theorem Zd {d:Dt} {ds:List Dt}:inB (.z d) (.z (.tup ds))=memD d ds:=by cases d<;>rfl
def aeb [DecidableEq α] {n:Nat} [Eqs e n] [Flat e] (a:R fa ρ (zE e)) (b:RL fb ρ e):R (b2 inF fa fb) ρ (zE eB):=⟨decide (a.v∈b.v),bD a.D b.D,fun h=>by
 obtain⟨h1,h2⟩:=aB h
 simp only[b2,a.ok h1,b.ok h2,bnd,inF,Zc b.lk,Ma]⟩
def El [DecidableEq α] {n:Nat} [Eqs e n] [Flat e] (a:R fa ρ (zE e)) (b:R fb ρ (zE (eT e))):R (b2 inF fa fb) ρ (zE eB):=⟨decide (a.v∈b.v),bD a.D b.D,fun h=>by
 obtain⟨h1,h2⟩:=aB h
 simp only[b2,a.ok h1,b.ok h2,bnd,inF,Zd,Ma]⟩
end
structure AR {γ:Type} (cA:γ->List Bx->Prop) (fs:Ev->Option (List Bx)) (ρ:Ev) where
 v:γ
 D:Option Prop
 bs:List Bx
 h:cA v bs
 ok:hold D->fs ρ=some bs
section
variable {α β γ δ ε σ:Type} {ρ:Ev} {f fa fb fc fd:Ev->Option Bx} {p q:Ev->Option Bool} {fs:Ev->Option (List Bx)} {e:α->Dt} {e':β->Dt} {e'':γ->Dt} {e3:δ->Dt}
def aN:Unit->List Bx->Prop:=fun _ bs=>bs=[]
def aZ (e:α->Dt) (t:γ->List Bx->Prop):α×γ->List Bx->Prop:=fun x bs=>∃ r,bs=.z (e x.1)::r/\t x.2 r
def aL (e:α->Dt) (t:γ->List Bx->Prop):List α×γ->List Bx->Prop:=fun x bs=>∃ b r,bs=b::r/\rC b=some (x.1.map e)/\t x.2 r
def cL:AR aN aG ρ:=⟨(),none,[],rfl,fun _=>rfl⟩
def eV {t:γ->List Bx->Prop} (a:R fa ρ (zE e)) (r:AR t fs ρ):AR (aZ e t) (ao fa fs) ρ:=⟨(a.v,r.v),bD a.D r.D,_,⟨_,rfl,r.h⟩,fun h=>by
 obtain⟨h1,h2⟩:=aB h
 simp only[ao,a.ok h1,r.ok h2,bnd]⟩
def z7 {t:γ->List Bx->Prop} (a:RL fa ρ e) (r:AR t fs ρ):AR (aL e t) (ao fa fs) ρ:=⟨(a.v,r.v),bD a.D r.D,_,⟨_,_,rfl,a.lk,r.h⟩,fun h=>by
 obtain⟨h1,h2⟩:=aB h
 simp only[ao,a.ok h1,r.ok h2,bnd]⟩
def x_call {cA:γ->List Bx->Prop} {F:List Bx->Option Bx} {n:Nat} {c:α->Bx} {T:γ->α} {Df:γ->Option Prop} (S:∀ v bs,cA v bs->bs.length=n/\(hold (Df v)->F (bs.map lend)=some (c (T v)))) (a:AR cA fs ρ):R (cV n F fs) ρ c:=⟨T a.v,bD a.D (Df a.v),fun h=>by
 obtain⟨h1,h2⟩:=aB h
 obtain⟨h3,h4⟩:=S a.v a.bs a.h
 simp only[cV,a.ok h1,bnd,zk h3,h4 h2]⟩
theorem lO {g:Ev->Option Out} {n:Nat} {bs:List Bx} {c:α->Bx} (x:R g (bs.map some++List.replicate (n - bs.length) none) (fun r=>Out.rt (c r))) (h:hold x.D):lH n g bs=some (c x.v):=by
 unfold lH
 rw[x.ok h]
 rfl
variable {fi:Ev->Option (List Dt)} {gt:Dt->Ev->Option Ev} {fe:Ev->Option Bx} {is:List Nat} {n:Nat}
def aec (xs:List α) (P:α->Option Prop):Option Prop:=some (∀ x∈xs,hold (P x))
theorem comp_map {ρ1:Ev} {g:α->β}:∀ xs:List α,(∀ x∈xs,∃ ρ2,gt (e x) ρ1=some ρ2/\fe ρ2=some (.z (e' (g x))))->qe gt ur fe ρ1 (xs.map e)=some ((xs.map g).map e')
 |[],_=>rfl
 |x::xs,h=>by
  obtain⟨ρ2,h1,h2⟩:=h x (zh ..)
  simp only[zr,qe,h1,bnd,ur,qE,h2,comp_map xs fun y hy=>h y (zo _ hy)]
theorem Em {ρ1:Ev} {g:α->β} {π:α->Bool}:∀ xs:List α,(∀ x∈xs,∃ ρ2,gt (e x) ρ1=some ρ2/\p ρ2=some (π x)/\(π x=true->fe ρ2=some (.z (e' (g x)))))->qe gt p fe ρ1 (xs.map e)=some (((xs.filter π).map g).map e')
 |[],_=>rfl
 |x::xs,h=>by
  obtain⟨ρ2,h1,h2,h3⟩:=h x (zh ..)
  have ih:=Em (g:=g) (π:=π) xs fun y hy=>h y (zo _ hy)
  cases hp:π x with
  |true=>simp only[zr,qe,h1,bnd,h2,hp,qE,h3 hp,ih,KW]
  |false=>simp only[zr,qe,h1,bnd,h2,hp,ih,KW,zl,ZE]
def O9 (it:R fi ρ (iE e)) (ρ2:α->Ev) (hg:∀ x,gt (e x) (jB is ρ++List.replicate n none)=some (ρ2 x)) (b:∀ x,R fe (ρ2 x) (zE e')):R (eX fi gt ur fe is n) ρ (oE e'):=⟨it.v.map fun x=>(b x).v,bD (bD it.D (some (it.v.length<=100000))) (aec it.v fun x=>(b x).D),fun h=>by
 obtain⟨h,h3⟩:=aB h
 obtain⟨h1,h2⟩:=aB h
 have h3:∀ x∈it.v,hold (b x).D:=h3
 simp only[eX,it.ok h1,bnd,zi,zk (show it.v.length<=100000 from h2),comp_map it.v fun x hx=>⟨ρ2 x,hg x,(b x).ok (h3 x hx)⟩]⟩
def qR (it:R fi ρ (iE e)) (ρ2:α->Ev) (hg:∀ x,gt (e x) (jB is ρ++List.replicate n none)=some (ρ2 x)) (b:∀ x,R fe (ρ2 x) (zE e')) (hb:∀ x,(b x).D=none):R (eX fi gt ur fe is n) ρ (oE e'):=⟨it.v.map fun x=>(b x).v,bD it.D (some (it.v.length<=100000)),fun h=>by
 obtain⟨h1,h2⟩:=aB h
 simp only[eX,it.ok h1,bnd,zi,zk (show it.v.length<=100000 from h2),comp_map it.v fun x hx=>⟨ρ2 x,hg x,(b x).ok (by rw[hb x];trivial)⟩]⟩
def Rf (it:R fi ρ (iE e)) (ρ2:α->Ev) (hg:∀ x,gt (e x) (jB is ρ++List.replicate n none)=some (ρ2 x)) (t:∀ x,R p (ρ2 x) tE) (b:∀ x,R fe (ρ2 x) (zE e')):R (eX fi gt p fe is n) ρ (oE e'):=⟨(it.v.filter fun x=>(t x).v).map fun x=>(b x).v,bD (bD it.D (some (it.v.length<=100000))) (aec it.v fun x=>bD (t x).D (Ed ((t x).v=true) (b x).D)),fun h=>by
 obtain⟨h,h3⟩:=aB h
 obtain⟨h1,h2⟩:=aB h
 have h3:∀ x∈it.v,hold (bD (t x).D (Ed ((t x).v=true) (b x).D)):=h3
 simp only[eX,it.ok h1,bnd,zi,zk (show it.v.length<=100000 from h2),Em it.v fun x hx=>⟨ρ2 x,hg x,(t x).ok (aB (h3 x hx)).1,fun ht=>(b x).ok (m9 (aB (h3 x hx)).2 ht)⟩]⟩
def rZ (it:R fi ρ (iE e)) (ρ2:α->Ev) (hg:∀ x,gt (e x) (jB is ρ++List.replicate n none)=some (ρ2 x)) (t:∀ x,R p (ρ2 x) tE) (b:∀ x,R fe (ρ2 x) (zE e')) (ht:∀ x,(t x).D=none) (hb:∀ x,(b x).D=none):R (eX fi gt p fe is n) ρ (oE e'):=⟨(it.v.filter fun x=>(t x).v).map fun x=>(b x).v,bD it.D (some (it.v.length<=100000)),fun h=>by
 obtain⟨h1,h2⟩:=aB h
 simp only[eX,it.ok h1,bnd,zi,zk (show it.v.length<=100000 from h2),Em it.v fun x hx=>⟨ρ2 x,hg x,(t x).ok (by rw[ht x];trivial),fun _=>(b x).ok (by rw[hb x];trivial)⟩]⟩
def Jv (a:RL fa ρ e):R (G8 fa) ρ (iE e):=⟨a.v,a.D,fun h=>by
 have:Yn a.b=some (a.v.map e):=by
  have:=a.lk
  revert this
  generalize a.b=b
  generalize a.v.map e=ds
  intro this
  cases b with
  |z d=>cases d<;>cases this;rfl
  |l d=>cases this;rfl
  |o d=>cases this;rfl
  |n d=>cases this
  |m d _=>cases this
 simp only[G8,a.ok h,bnd,this]⟩
def Tt (a:R fa ρ (zE (eT e))):R (G8 fa) ρ (iE e):=⟨a.v,a.D,fun h=>by simp only[G8,a.ok h,bnd,Yn]⟩
def ab5 (a:R fa ρ (oE e)):R (itF fa) ρ (iE e):=⟨a.v,a.D,fun h=>by simp only[itF,a.ok h,bnd,Yh]⟩
def rng (i:Int) (n:Nat):List Int:=(List.range n).map fun k:Nat=>i+(k:Int)
theorem Rh (i:Int) (n:Nat):Iu i n=(rng i n).map eI:=by
 unfold Iu rng
 rw[qa]
 rfl
def Rg (j:Int):Prop:=-4611686018427387904<=j/\j < 4611686018427387904
def Eo (a:R fa ρ (zE eI)):R (Kc (ao fa aG)) ρ (iE eI):=⟨rng 0 a.v.toNat,bD a.D (some (Rg a.v)),fun h=>by
 obtain⟨h,h4⟩:=aB h
 simp only[Kc,ao,aG,a.ok h,bnd]
 show (if -(2 ^ 62)<=a.v/\a.v < 2 ^ 62 then some (Iu 0 a.v.toNat) else none)=_
 exact (zk h4).trans (by rw[Rh])⟩
def ab6 (n:Int) (m:Nat) (hm:n.toNat=m) (hn:Rg n):R (Kc (ao (cB (.int n)) aG)) ρ (iE eI):=⟨rng 0 m,none,fun _=>by
 simp only[Kc,ao,aG,bnd,cB]
 show (if -(2 ^ 62)<=n/\n < 2 ^ 62 then some (Iu 0 n.toNat) else none)=_
 exact (zk hn).trans (by rw[Rh,hm])⟩
end
section
variable {α β γ δ ε σ τ:Type} {ρ:Ev} {f fa fb fc fd:Ev->Option Bx} {p q:Ev->Option Bool} {fs:Ev->Option (List Bx)} {e:α->Dt} {e':β->Dt} {g g1 g2 k:Ev->Option Out} {cO:γ->Out} {gt:Dt->Ev->Option Ev}
theorem oK {ρ':Ev} (h:g1 ρ=some (.nx ρ')):aD g1 k ρ=k ρ':=by
 unfold aD
 rw[h]
 rfl
def bL (x:R (aD g (aD g1 k)) ρ cO):R (aD (aD g g1) k) ρ cO:=⟨x.v,x.D,fun h=>by
 rw[<-x.ok h]
 unfold aD
 cases g ρ with
 |none=>rfl
 |some o=>cases o<;>rfl⟩
def cR (x:R k ρ cO):R (aD gC k) ρ cO:=⟨x.v,x.D,fun h=>x.ok h⟩
def bI {is:List Nat} (x:γ) (h:cO x=.nx (kill is ρ)):R (dD is) ρ cO:=⟨x,none,fun _=>by rw[h];rfl⟩
def lJ {c:α->Bx} (inj:α->γ) (a:R f ρ c) (h:∀ x,cO (inj x)=.rt (c x)) (hc:∀ x,U3 (c x)=some (.rt (c x))):R (aD (jH f) k) ρ cO:=⟨inj a.v,a.D,fun hd=>by
 have:jH f ρ=some (.rt (c a.v)):=by unfold jH;rw[a.ok hd,bnd,hc]
 unfold aD
 rw[this,h]
 rfl⟩
def Wo {c:α->Bx} (i:Nat) (inj:α->γ) (a:α) (hi:ρ[i]?=some (some (c a))) (h:∀ x,cO (inj x)=.rt (c x)) (hc:∀ x,U3 (c x)=some (.rt (c x))):R (aD (Ir i) k) ρ cO:=⟨inj a,none,fun hd=>by
 have:Ir i ρ=some (.rt (c a)):=by unfold Ir;rw[hi];exact hc a
 unfold aD
 rw[this,h]
 rfl⟩
def bW {c:α->Bx} (i:Nat) (a:R f ρ c) (hc:∀ x,U4 ρ i (c x)=some (ρ.set i (some (c x)))) (K:∀ x,R k (ρ.set i (some (c x))) cO):R (aD (setG i f) k) ρ cO:=⟨(K a.v).v,bD a.D (K a.v).D,fun hd=>by
 obtain⟨h1,h2⟩:=aB hd
 rw[oK (ρ':=ρ.set i (some (c a.v))) (by unfold setG;rw[a.ok h1,bnd,hc,bnd])]
 exact (K a.v).ok h2⟩
def Ri (a:R f ρ (zE e)) (ρ2:α->Ev) (hg:∀ x,gt (e x) ρ=some (ρ2 x)) (K:∀ x,R k (ρ2 x) cO):R (aD (KR gt f) k) ρ cO:=⟨(K a.v).v,bD a.D (K a.v).D,fun hd=>by
 obtain⟨h1,h2⟩:=aB hd
 rw[oK (ρ':=ρ2 a.v) (by unfold KR;rw[a.ok h1,bnd];simp only[hg,bnd])]
 exact (K a.v).ok h2⟩
def Wq (i j:Nat) (a:R fa ρ (zE e)) (b:R fb ρ (zE e')) (K:∀ x y,R k ((ρ.set i (some (.z (e x)))).set j (some (.z (e' y)))) cO):R (aD (Vg i j (ao fa (ao fb aG))) k) ρ cO:=⟨(K a.v b.v).v,bD (bD a.D b.D) (K a.v b.v).D,fun hd=>by
 obtain⟨h1,h3⟩:=aB hd
 obtain⟨h1,h2⟩:=aB h1
 rw[oK (ρ':=(ρ.set i (some (.z (e a.v)))).set j (some (.z (e' b.v)))) (by unfold Vg;simp only[ao,aG,a.ok h1,b.ok h2,bnd,Yg])]
 exact (K a.v b.v).ok h3⟩
def wg (i:Nat) (xs:List α) (hi:ρ[i]?=some (some (.o (xs.map e)))) (a:R f ρ (zE e)) (K:∀ ys:List α,R k (ρ.set i (some (.o (ys.map e)))) cO):R (aD (zT i f) k) ρ cO:=⟨(K (xs++[a.v])).v,bD (bD a.D (some (Ej xs.length))) (K (xs++[a.v])).D,fun hd=>by
 obtain⟨h1,h3⟩:=aB hd
 obtain⟨h1,h2⟩:=aB h1
 have h2:xs.length<=1000000:=h2
 rw[oK (ρ':=ρ.set i (some (.o ((xs++[a.v]).map e)))) (by
  unfold zT
  rw[a.ok h1,bnd]
  simp only[U5,hi,zi,QO,zr,kc]
  rw[zk (QP h2 (by decide))])]
 exact (K _).ok h3⟩
def Bj (t:R p ρ tE) (a:R (aD g1 k) ρ cO) (b:R (aD g2 k) ρ cO):R (aD (wR p g1 g2) k) ρ cO:=⟨if t.v=true then a.v else b.v,bD t.D (bD (Ed (t.v=true) a.D) (Ed (t.v=false) b.D)),fun hd=>by
 obtain⟨h1,h2⟩:=aB hd
 obtain⟨h2,h3⟩:=aB h2
 have e1:∀ c,t.v=c->aD (wR p g1 g2) k ρ=aD (if c=true then g1 else g2) k ρ:=fun c hc=>by
  unfold aD wR
  rw[t.ok h1,bnd,hc]
  cases c<;>rfl
 cases hv:t.v with
 |true=>rw[e1 true hv];simp only[qE];exact a.ok (m9 h2 hv)
 |false=>rw[e1 false hv];simp only[zl,ZE];exact b.ok (m9 h3 hv)⟩
def wj (E:σ->Ev) (t:R p ρ tE) (a:R g1 ρ (fun s=>Out.nx (E s))) (b:R g2 ρ (fun s=>Out.nx (E s))) (K:∀ s,R k (E s) cO):R (aD (wR p g1 g2) k) ρ cO:=⟨(K (if t.v=true then a.v else b.v)).v,bD (bD t.D (bD (Ed (t.v=true) a.D) (Ed (t.v=false) b.D))) (K (if t.v=true then a.v else b.v)).D,fun hd=>by
 obtain⟨h,h4⟩:=aB hd
 obtain⟨h1,h2⟩:=aB h
 obtain⟨h2,h3⟩:=aB h2
 rw[oK (ρ':=E (if t.v=true then a.v else b.v)) (by
  unfold wR
  rw[t.ok h1,bnd]
  cases hv:t.v with
  |true=>simp only[qE];exact a.ok (m9 h2 hv)
  |false=>simp only[zl,ZE];exact b.ok (m9 h3 hv))]
 exact (K _).ok h4⟩
def qM (step:σ->α->σ) (P:σ->α->Option Prop):List α->σ->Prop
 |[],_=>True
 |x::xs,s=>hold (P s x)/\qM step P xs (step s x)
theorem yN {gb:Ev->Option Out} (E:σ->Ev) (ρ2:σ->α->Ev) (hg:∀ s x,gt (e x) (E s)=some (ρ2 s x)) (body:∀ s x,R gb (ρ2 s x) (fun s=>Out.nx (E s))):∀ (xs:List α) (s:σ),qM (fun s x=>(body s x).v) (fun s x=>(body s x).D) xs s->qd gt gb (xs.map e) (E s)=some (.nx (E (xs.foldl (fun s x=>(body s x).v) s)))
 |[],s,_=>rfl
 |x::xs,s,h=>by
  simp only[zr,qd,hg,bnd,(body s x).ok h.1,QA]
  exact yN E ρ2 hg body xs _ h.2
variable {fi:Ev->Option (List Dt)} {gb:Ev->Option Out}
def Ep (E:σ->Ev) (s0:σ) (hE:ρ=E s0) (it:R fi ρ (iE e)) (ρ2:σ->α->Ev) (hg:∀ s x,gt (e x) (E s)=some (ρ2 s x)) (body:∀ s x,R gb (ρ2 s x) (fun s=>Out.nx (E s))) (K:∀ s,R k (E s) cO):R (aD (rD fi gt gb) k) ρ cO:=⟨(K (it.v.foldl (fun s x=>(body s x).v) s0)).v,bD (bD it.D (some (qM (fun s x=>(body s x).v) (fun s x=>(body s x).D) it.v s0))) (K (it.v.foldl (fun s x=>(body s x).v) s0)).D,fun hd=>by
 obtain⟨h,h4⟩:=aB hd
 obtain⟨h1,h2⟩:=aB h
 rw[oK (ρ':=E (it.v.foldl (fun s x=>(body s x).v) s0)) (by
  unfold rD
  rw[it.ok h1,bnd]
  subst hE
  exact yN E ρ2 hg body it.v s0 h2)]
 exact (K _).ok h4⟩
def ab7 (E:σ->Ev) (s0:σ) (hE:ρ=E s0) (it:R fi ρ (iE e)) (ρ2:σ->α->Ev) (hg:∀ s x,gt (e x) (E s)=some (ρ2 s x)) (body:∀ s x,R gb (ρ2 s x) (fun s=>Out.nx (E s))) (hb:∀ s x,(body s x).D=none) (K:∀ s,R k (E s) cO):R (aD (rD fi gt gb) k) ρ cO:=⟨(K (it.v.foldl (fun s x=>(body s x).v) s0)).v,bD it.D (K (it.v.foldl (fun s x=>(body s x).v) s0)).D,fun hd=>by
 obtain⟨h1,h4⟩:=aB hd
 have h2:∀ (xs:List α) (s:σ),qM (fun s x=>(body s x).v) (fun s x=>(body s x).D) xs s:=fun xs=>by
  induction xs with
  |nil=>intro s;trivial
  |cons x xs ih=>intro s;exact⟨by show hold (body s x).D;rw[hb s x];trivial,ih _⟩
 rw[oK (ρ':=E (it.v.foldl (fun s x=>(body s x).v) s0)) (by
  unfold rD
  rw[it.ok h1,bnd]
  subst hE
  exact yN E ρ2 hg body it.v s0 (h2 _ _))]
 exact (K _).ok h4⟩
inductive ux (σ τ:Type) where
 |nx (s:σ)|rt (r:τ)|bk (s:σ)|ct (s:σ)
def cC (E:σ->Ev) (c:τ->Bx):ux σ τ->Out
 |.nx s=>.nx (E s)
 |.rt r=>.rt (c r)
 |.bk s=>.bk (E s)
 |.ct s=>.ct (E s)
def ni (step:σ->α->ux σ τ):List α->σ->ux σ τ
 |[],s=>.nx s
 |x::xs,s=>match step s x with
  |.nx s'=>ni step xs s'
  |.ct s'=>ni step xs s'
  |.bk s'=>.nx s'
  |.rt r=>.rt r
def uW (step:σ->α->ux σ τ) (P:σ->α->Option Prop):List α->σ->Prop
 |[],_=>True
 |x::xs,s=>hold (P s x)/\match step s x with
  |.nx s'=>uW step P xs s'
  |.ct s'=>uW step P xs s'
  |.bk _=>True
  |.rt _=>True
theorem Cv {c:τ->Bx} (E:σ->Ev) (ρ2:σ->α->Ev) (hg:∀ s x,gt (e x) (E s)=some (ρ2 s x)) (body:∀ s x,R gb (ρ2 s x) (cC E c)):∀ (xs:List α) (s:σ),uW (fun s x=>(body s x).v) (fun s x=>(body s x).D) xs s->qd gt gb (xs.map e) (E s)=some (cC E c (ni (fun s x=>(body s x).v) xs s))
 |[],s,_=>rfl
 |x::xs,s,h=>by
  obtain⟨h1,h2⟩:=h
  dsimp only at h2
  simp only[zr,qd,hg,bnd,(body s x).ok h1,ni]
  revert h2
  cases (body s x).v with
  |nx s'=>intro h2;exact Cv E ρ2 hg body xs s' h2
  |ct s'=>intro h2;exact Cv E ρ2 hg body xs s' h2
  |bk s'=>intro _;rfl
  |rt r=>intro _;rfl
theorem yO (step:σ->α->ux σ τ):∀ (xs:List α) (s:σ),(∃ s',ni step xs s=.nx s')\/∃ r,ni step xs s=.rt r
 |[],s=>.inl ⟨s,rfl⟩
 |x::xs,s=>by
  unfold ni
  cases step s x with
  |nx s'=>exact yO step xs s'
  |ct s'=>exact yO step xs s'
  |bk s'=>exact .inl ⟨s',rfl⟩
  |rt r=>exact .inr ⟨r,rfl⟩
def behind (r:ux σ τ) (inj:τ->γ) (K:σ->γ):γ:=match r with
 |.rt r=>inj r
 |.nx s=>K s
 |.bk s=>K s
 |.ct s=>K s
def pH (r:ux σ τ) (K:σ->Prop):Prop:=match r with
 |.rt _=>True
 |.nx s=>K s
 |.bk s=>K s
 |.ct s=>K s
def Rj (r:ux σ τ) (K:σ->Option Prop):Option Prop:=some (pH r fun s=>hold (K s))
def R.to {α β:Type} {f:Ev->Option β} {ρ:Ev} {c:α->β} (x:R f ρ c) (v':α) (D':Option Prop) (hv:x.v=v':=by kernel_rfl) (hD:x.D=D':=by kernel_rfl):R f ρ c:=⟨v',D',fun h=>by
 subst hv hD
 exact x.ok h⟩
def ab8 {c:τ->Bx} (E:σ->Ev) (s0:σ) (hE:ρ=E s0) (it:R fi ρ (iE e)) (ρ2:σ->α->Ev) (hg:∀ s x,gt (e x) (E s)=some (ρ2 s x)) (body:∀ s x,R gb (ρ2 s x) (cC E c)) (inj:τ->γ) (hj:∀ r,cO (inj r)=.rt (c r)) (K:∀ s,R k (E s) cO):R (aD (rD fi gt gb) k) ρ cO:=⟨behind (ni (fun s x=>(body s x).v) it.v s0) inj fun s=>(K s).v,bD (bD it.D (some (uW (fun s x=>(body s x).v) (fun s x=>(body s x).D) it.v s0))) (Rj (ni (fun s x=>(body s x).v) it.v s0) fun s=>(K s).D),fun hd=>by
 obtain⟨h,h4⟩:=aB hd
 obtain⟨h1,h2⟩:=aB h
 have e1:rD fi gt gb ρ=some (cC E c (ni (fun s x=>(body s x).v) it.v s0)):=by
  unfold rD
  rw[it.ok h1,bnd]
  subst hE
  exact Cv E ρ2 hg body it.v s0 h2
 rcases yO (fun s x=>(body s x).v) it.v s0 with⟨s',es⟩|⟨r,es⟩
 ·rw[es] at e1 h4 ⊢
  rw[oK e1]
  exact (K s').ok h4
 ·rw[es] at e1 ⊢
  show aD (rD fi gt gb) k ρ=some (cO (inj r))
  unfold aD
  rw[e1,hj]
  rfl⟩
theorem Er {i:Nat} {ds:List Dt} (h:ρ[i]?=some (some (.z (.tup ds)))):qJ i gt gb ρ=qd gt gb ds ρ:=by unfold qJ;rw[h];rfl
theorem ab9 {i:Nat} {ds:List Dt} (h:ρ[i]?=some (some (.z (.lst ds)))):qJ i gt gb ρ=qd gt gb ds ρ:=by unfold qJ;rw[h];rfl
def Pa (i:Nat) {ρ':Ev} (xs:List α) (hv:qJ i gt gb ρ=qd gt gb (xs.map e) ρ') (E:σ->Ev) (s0:σ) (hE:ρ'=E s0) (ρ2:σ->α->Ev) (hg:∀ s x,gt (e x) (E s)=some (ρ2 s x)) (body:∀ s x,R gb (ρ2 s x) (fun s=>Out.nx (E s))) (K:∀ s,R k (E s) cO):R (aD (qJ i gt gb) k) ρ cO:=⟨(K (xs.foldl (fun s x=>(body s x).v) s0)).v,bD (some (qM (fun s x=>(body s x).v) (fun s x=>(body s x).D) xs s0)) (K (xs.foldl (fun s x=>(body s x).v) s0)).D,fun hd=>by
 obtain⟨h2,h4⟩:=aB hd
 rw[oK (ρ':=E (xs.foldl (fun s x=>(body s x).v) s0)) (by
  rw[hv,hE]
  exact yN E ρ2 hg body xs s0 h2)]
 exact (K _).ok h4⟩
def Jw {c:τ->Bx} (i:Nat) {ρ':Ev} (xs:List α) (hv:qJ i gt gb ρ=qd gt gb (xs.map e) ρ') (E:σ->Ev) (s0:σ) (hE:ρ'=E s0) (ρ2:σ->α->Ev) (hg:∀ s x,gt (e x) (E s)=some (ρ2 s x)) (body:∀ s x,R gb (ρ2 s x) (cC E c)) (inj:τ->γ) (hj:∀ r,cO (inj r)=.rt (c r)) (K:∀ s,R k (E s) cO):R (aD (qJ i gt gb) k) ρ cO:=⟨behind (ni (fun s x=>(body s x).v) xs s0) inj fun s=>(K s).v,bD (some (uW (fun s x=>(body s x).v) (fun s x=>(body s x).D) xs s0)) (Rj (ni (fun s x=>(body s x).v) xs s0) fun s=>(K s).D),fun hd=>by
 obtain⟨h2,h4⟩:=aB hd
 have e1:qJ i gt gb ρ=some (cC E c (ni (fun s x=>(body s x).v) xs s0)):=by
  rw[hv,hE]
  exact Cv E ρ2 hg body xs s0 h2
 rcases yO (fun s x=>(body s x).v) xs s0 with⟨s',es⟩|⟨r,es⟩
 ·rw[es] at e1 h4 ⊢
  rw[oK e1]
  exact (K s').ok h4
 ·rw[es] at e1 ⊢
  show aD (qJ i gt gb) k ρ=some (cO (inj r))
  unfold aD
  rw[e1,hj]
  rfl⟩
abbrev mE (e:α->Dt):List (Str×α)->Bx:=fun m=>.m (m.map fun q=>(q.1,e q.2)) none
abbrev nE (e:α->Dt):List (Str×α)->Bx:=fun m=>.n (m.map fun q=>(q.1,e q.2))
def look [Inhabited α] (m:List (Str×α)) (x:Str):α:=((m.find? fun q=>decide (q.1=x)).map (·.2)).getD default
def has (m:List (Str×α)) (x:Str):Bool:=m.any fun q=>decide (q.1=x)
def put (m:List (Str×α)) (x:Str) (a:α):List (Str×α):=if has m x=true then m.map (fun q=>if q.1=x then (q.1,a) else q) else m++[(x,a)]
theorem Wr (m:List (Str×α)) (x:Str):Du (m.map fun q=>(q.1,e q.2)) x=((m.find? fun q=>decide (q.1=x)).map (·.2)).map e:=by
 unfold Du
 rw[List.find?_map]
 simp only[Option.map_map]
 rfl
theorem Ws [Inhabited α] {m:List (Str×α)} {x:Str} (h:has m x=true):Du (m.map fun q=>(q.1,e q.2)) x=some (e (look m x)):=by
 rw[Wr]
 unfold look
 unfold has at h
 rw[QQ] at h
 obtain⟨q,hq,hx⟩:=h
 cases hf:m.find? fun q=>decide (q.1=x) with
 |none=>exact absurd hx (by simpa using List.find?_eq_none.mp hf q hq)
 |some q=>rfl
def rE [Inhabited α] (a:R fa ρ (nE e)) (b:R fb ρ (zE eS)):R (b2 qj fa fb) ρ (zE e):=⟨look a.v b.v,bD (bD a.D b.D) (some (has a.v b.v=true)),fun h=>by
 obtain⟨h,h3⟩:=aB h
 obtain⟨h1,h2⟩:=aB h
 simp only[b2,a.ok h1,b.ok h2,bnd,qj,Ws (show has a.v b.v=true from h3)]⟩
theorem Rk (m:List (Str×α)) (x:Str) (a:α):Je (m.map fun q=>(q.1,e q.2)) x (e a)=(put m x a).map fun q=>(q.1,e q.2):=by
 unfold Je put has
 rw[List.any_map]
 by_cases h:(m.any fun q=>decide (q.1=x))=true
 ·rw[zk h,zk (by exact h)]
  rw[qa,qa]
  refine Q4 fun q _=>?_
  simp only[Function.comp]
  by_cases hq:q.1=x<;>simp[hq]
 ·rw[zw h,zw (by exact h)]
  simp
end
section
variable {α β:Type} {ρ:Ev} {fa f:Ev->Option Bx} {fs:Ev->Option (List Str)} {fi:Ev->Option (List Dt)} {e:α->Dt}
theorem Cw {b:Bx} {ds:List Dt} (h:rC b=some ds):yq b=some ds:=by
 cases b with
 |z d=>cases d<;>first|exact h|(cases h;done)
 |l _=>exact h
 |o _=>exact h
 |n _=>cases h
 |m _ _=>cases h
theorem aam (n:Nat):∃ m,m=n:=⟨n,rfl⟩
noncomputable def kN (n:Nat):Nat:=Classical.choose (aam n)
theorem aan (n:Nat):kN n=n:=Classical.choose_spec (aam n)
noncomputable def Wt (n:Int) (m:Nat) (hm:n.toNat=m) (hn:Rg n):R (Kc (ao (cB (.int n)) aG)) ρ (iE eI):=⟨rng 0 (kN m),none,fun h=>by rw[aan];exact (ab6 n m hm hn).ok h⟩
end
end P1
end
section
namespace P1
open PySem PySem.Spec PyProof.Rows L2 S1 S6
class qT {α:Type} (e:α->Dt) where
 k:α->Key
 ok:∀ a,YC (e a)=some (k a)
 inj:∀ a b,k a=k b->a=b
 same:∀ a b,QF (k a) (k b)=true
instance:qT eI:=⟨fun i=>.inl i,fun _=>rfl,fun a b h=>by cases h;rfl,fun _ _=>rfl⟩
instance:qT eS:=⟨fun i=>.inr i,fun _=>rfl,fun a b h=>by cases h;rfl,fun _ _=>rfl⟩
class tB {α:Type} (e:α->Dt) where
 k:α->List Key
 ok:∀ a,Dy (e a)=some (k a)
 inj:∀ a b,k a=k b->a=b
 shp:∀ a b,Jg (k a) (k b)=true
 ne:∀ a,(k a).isEmpty=false
class Wu {α:Type} (e:α->Dt) [tB e]:Prop where
 tx:∀ a,Lk (tB.k e a)=true
section
variable {α β γ δ:Type} {e:α->Dt} {e':β->Dt} {e'':γ->Dt} {e3:δ->Dt}
instance [qT e] [qT e']:tB (T9 e e'):=⟨fun q=>[qT.k e q.1,qT.k e' q.2],fun q=>by simp only[Dy,Bd,qT.ok,bnd],fun a b h=>by
 simp only[JA,and_true] at h
 exact Prod.ext (qT.inj _ _ h.1) (qT.inj _ _ h.2),fun a b=>by simp[Jg,qT.same],fun _=>rfl⟩
instance [qT e] [qT e'] [qT e'']:tB (eP3 e e' e''):=⟨fun q=>[qT.k e q.1,qT.k e' q.2.1,qT.k e'' q.2.2],fun q=>by simp only[Dy,Bd,qT.ok,bnd],fun a b h=>by
 simp only[JA,and_true] at h
 exact Prod.ext (qT.inj _ _ h.1) (Prod.ext (qT.inj _ _ h.2.1) (qT.inj _ _ h.2.2)),fun a b=>by simp[Jg,qT.same],fun _=>rfl⟩
instance [qT e] [qT e'] [qT e''] [qT e3]:tB (eP4 e e' e'' e3):=⟨fun q=>[qT.k e q.1,qT.k e' q.2.1,qT.k e'' q.2.2.1,qT.k e3 q.2.2.2],fun q=>by simp only[Dy,Bd,qT.ok,bnd],fun a b h=>by
 simp only[JA,and_true] at h
 exact Prod.ext (qT.inj _ _ h.1) (Prod.ext (qT.inj _ _ h.2.1) (Prod.ext (qT.inj _ _ h.2.2.1) (qT.inj _ _ h.2.2.2))),fun a b=>by simp[Jg,qT.same],fun _=>rfl⟩
instance [qT e]:Wu (T9 e eS):=⟨fun a=>by simp[tB.k,Lk,qT.k]⟩
instance [qT e] [qT e']:Wu (eP3 e eS e'):=⟨fun a=>by simp[tB.k,Lk,qT.k]⟩
instance [qT e] [qT e'] [qT e'']:Wu (eP4 e eS e' e''):=⟨fun a=>by simp[tB.k,Lk,qT.k]⟩
variable {ρ:Ev} {fa f:Ev->Option Bx} {fs:Ev->Option (List (List Key))}
theorem w5 [tB e]:∀ xs:List α,sZ (xs.map e)=some (xs.map (tB.k e))
 |[]=>rfl
 |x::xs=>by simp only[zr,sZ,tB.ok,bnd,w5 xs]
def leT (e:α->Dt) [tB e] (a b:α):Bool:=uO (tB.k e a) (tB.k e b)
def pB (e:α->Dt) [tB e] (xs:List α):List α:=xs.mergeSort (leT e)
theorem fj [tB e] (xs:List α):(pB e xs).Perm xs:=Kt ..
theorem Pb [tB e] (xs:List α):(pB e xs).Pairwise (fun a b=>leT e a b=true):=kC (le:=leT e) (fun a b c=>wX (tB.k e a) (tB.k e b) (tB.k e c)) (fun a b=>wY (tB.k e a) (tB.k e b)) xs
theorem Ht [tB e] (xs:List α):m7 (xs.map (tB.k e))=(pB e xs).map (tB.k e):=by
 refine (rU ((fj xs).map _) (List.pairwise_map.mpr (Pb xs))).symm
theorem Wv [tB e] (xs:List α):(xs.map (tB.k e)).map tupK=xs.map e:=by
 rw[qa]
 exact Q4 fun a _=>(K7 (tB.ok a)).symm
theorem Mf [tB e] (xs:List α) (h:xs.length < 64):Bu (xs.map (tB.k e))=true:=by
 simp only[Bu,ZN,Zl,qA,qV,zi,kF,forall_exists_index,and_imp,forall_apply_eq_imp_iff₂]
 exact⟨h,fun a _=>tB.ne a,fun a _ b _=>tB.shp a b⟩
def Ww [tB e] (a:RL fa ρ e):R (bY oJ (ao fa aG)) ρ (oE e):=⟨pB e a.v,bD a.D (some (a.v.length < 64)),fun h=>by
 obtain⟨h,h4⟩:=aB h
 simp only[bY,ao,aG,a.ok h,bnd,oJ,Cw a.lk,w5,Mf a.v h4,qE,Ht,Wv]⟩
abbrev uE (e:α->Dt) [tB e]:List α->List (List Key):=fun xs=>xs.map (tB.k e)
def Wx [tB e] [Wu e] (a:RL fa ρ e):R (O1 fa) ρ (uE e):=⟨a.v,bD a.D (some (a.v.length<=64)),fun h=>by
 obtain⟨h,h4⟩:=aB h
 have h4:a.v.length<=64:=h4
 have ht:(a.v.map (tB.k e)).all Lk=true:=by
  rw[List.all_map,qA];exact fun x _=>Wu.tx x
 simp only[O1,a.ok h,bnd,aad,Cw a.lk,w5]
 rw[zk ⟨by rw[zi];exact h4,ht⟩]⟩
def Wy [DecidableEq α] [tB e] (a:R fs ρ (uE e)):R (DX fs) ρ (oE e):=⟨pB e (Gd a.v),bD a.D (some (a.v.length < 64)),fun h=>by
 obtain⟨h,h4⟩:=aB h
 simp only[DX,a.ok h,bnd,Mf a.v h4,qE,Jo tB.inj,Ht,Wv]⟩
end
end P1
end
section
namespace P1
open PySem PySem.Spec PyProof.Rows L2
section
variable {α β γ:Type} {ρ:Ev} {fa fb fd f fk fv:Ev->Option Bx} {fs:Ev->Option (List Bx)} {fi:Ev->Option (List Dt)} {e:α->Dt} {e':β->Dt} {g k:Ev->Option Out} {cO:γ->Out} {gt:Dt->Ev->Option Ev} {p:Ev->Option Bool} {is:List Nat} {n:Nat}
abbrev mW (w:Option Addr) (e:α->Dt):List (Str×α)->Bx:=fun m=>.m (m.map fun q=>(q.1,e q.2)) w
def aM (e:α->Dt) (t:γ->List Bx->Prop):List (Str×α)×γ->List Bx->Prop:=fun x bs=>∃ b r,bs=b::r/\(b=nE e x.1\/b=mE e x.1)/\t x.2 r
def acd {t:γ->List Bx->Prop} (a:R fa ρ (nE e)) (r:AR t fs ρ):AR (aM e t) (ao fa fs) ρ:=⟨(a.v,r.v),bD a.D r.D,_,⟨_,_,rfl,.inl rfl,r.h⟩,fun h=>by
 obtain⟨h1,h2⟩:=aB h
 simp only[ao,a.ok h1,r.ok h2,bnd]⟩
def Ze (w:Option Addr) (i:Nat) (m:List (Str×α)) (hi:ρ[i]?=some (some (mW w e m))) (a:R fa ρ (zE e)) (b:R fb ρ (zE eS)) (K:∀ m':List (Str×α),R k (ρ.set i (some (mW w e m'))) cO):R (aD (Vj i fa fb) k) ρ cO:=⟨(K (put m b.v a.v)).v,bD (bD (bD a.D b.D) (some (m.length < 1000))) (K (put m b.v a.v)).D,fun hd=>by
 obtain⟨h,h4⟩:=aB hd
 obtain⟨h,h3⟩:=aB h
 obtain⟨h1,h2⟩:=aB h
 rw[oK (ρ':=ρ.set i (some (mW w e (put m b.v a.v)))) (by
  unfold Vj
  rw[a.ok h1,bnd,b.ok h2,bnd]
  simp only[K1,hi,mW,zi,zk (show m.length < 1000 from h3),Rk])]
 exact (K _).ok h4⟩
def mkD (qs:List (Str×β)):List (Str×β):=qs.foldl (fun m q=>put m q.1 q.2) []
theorem Pg (qs:List (Str×β)):dictOf (qs.map (T9 eS e'))=(mkD qs).map fun q=>(q.1,e' q.2):=by
 unfold dictOf mkD
 have:∀ (qs:List (Str×β)) (m:List (Str×β)),(qs.map (T9 eS e')).foldl abS (m.map fun q=>(q.1,e' q.2))=(qs.foldl (fun m q=>put m q.1 q.2) m).map fun q=>(q.1,e' q.2):=by
  intro qs
  induction qs with
  |nil=>intro m;rfl
  |cons q qs ih=>
   intro m
   rw[zr,QA,QA]
   show (qs.map (T9 eS e')).foldl abS (Je (m.map fun q=>(q.1,e' q.2)) q.1 (e' q.2))=_
   rw[Rk]
   exact ih _
 exact this qs []
def Zf (a:R fk ρ (zE eS)) (b:R fv ρ (zE e)):R (b2 Bg fk fv) ρ (zE (T9 eS e)):=⟨(a.v,b.v),bD a.D b.D,fun h=>by
 obtain⟨h1,h2⟩:=aB h
 simp only[b2,a.ok h1,b.ok h2,bnd,Bg]⟩
def Zg (i:R fi ρ (iE e)) (a:R (eX fi gt p (b2 Bg fk fv) is n) ρ (oE (T9 eS e'))):R (QZ fi gt p fk fv is n) ρ (mE e'):=⟨mkD a.v,bD (bD i.D (some (i.v.length < 1000))) a.D,fun h=>by
 obtain⟨h,h3⟩:=aB h
 obtain⟨h1,h2⟩:=aB h
 have h2:i.v.length < 1000:=h2
 have ha:=a.ok h3
 unfold eX at ha
 unfold QZ
 rw[i.ok h1,bnd] at ha ⊢
 rw[zk (by rw[zi];omega)] at ha
 rw[zk (by rw[zi];exact h2)]
 obtain⟨out,eo,ha⟩:=bind_some ha
 rw[eo,bnd]
 injection ha with ha
 injection ha with ha
 rw[ha,Pg]⟩
def aee (a:R fd ρ (nE e)):R (Lr fd) ρ (iE eS):=⟨a.v.map (·.1),a.D,fun h=>by
 simp only[Lr,a.ok h,bnd,keyB,qa]
 rfl⟩
def Zh (a:R fa ρ (nE e)):R (bY Ea (ao fa aG)) ρ (oE eS):=⟨a.v.map (·.1),a.D,fun h=>by
 simp only[bY,ao,aG,a.ok h,bnd,Ea,qa]
 show _=some (Bx.o ((a.v.map (·.1)).map eS))
 rw[qa]
 rfl⟩
def Ph (a:R fa ρ (zE eS)) (b:R fb ρ (zE eS)):R (bY tZ (ao fa (ao fb aG))) ρ (zE eS):=⟨if Ge b.v a.v=true then b.v else a.v,bD a.D b.D,fun h=>by
 obtain⟨h1,h2⟩:=aB h
 simp only[bY,ao,aG,a.ok h1,b.ok h2,bnd,tZ]
 rfl⟩
def Wz (a:R fa ρ (zE eS)) (b:R fb ρ (zE eS)):R (bY Hr (ao fa (ao fb aG))) ρ (zE eS):=⟨if Ge a.v b.v=true then b.v else a.v,bD a.D b.D,fun h=>by
 obtain⟨h1,h2⟩:=aB h
 simp only[bY,ao,aG,a.ok h1,b.ok h2,bnd,Hr]
 rfl⟩
theorem Zi {n:Nat} {bs:List Bx} {a:Addr} {m:List (Str×α)} {ρ2:List (Str×α)->Ev} (x:R g ((mW (some a) e m::bs).map some++List.replicate (n - (bs.length+1)) none) (fun m'=>Out.nx (ρ2 m'))) (h:hold x.D) (h0:∀ m',(ρ2 m')[0]?=some (some (mW (some a) e m'))):Ly n g a (m.map fun q=>(q.1,e q.2)) bs=some (x.v.map fun q=>(q.1,e q.2)):=by
 unfold Ly
 rw[x.ok h,bnd]
 simp only[h0,qE]
def ace {cA:γ->List Bx->Prop} {δ:Type} {cO:δ->Out} {G:Addr->List (Str×Dt)->List Bx->Option (List (Str×Dt))} {n:Nat} {T:List (Str×α)->γ->List (Str×α)} {Df:List (Str×α)->γ->Option Prop} (w:Option Addr) (i:Nat) (m:List (Str×α)) (hi:ρ[i]?=some (some (mW w e m)))
  (S:∀ m v bs,cA v bs->bs.length=n/\bs.all isZ=true/\(hold (Df m v)->∀ a,G a (m.map fun q=>(q.1,e q.2)) bs=some ((T m v).map fun q=>(q.1,e q.2)))) (a:AR cA fs ρ) (K:∀ m':List (Str×α),R k (ρ.set i (some (mW w e m'))) cO):R (aD (yL i n G fs) k) ρ cO:=⟨(K (T m a.v)).v,bD (bD a.D (Df m a.v)) (K (T m a.v)).D,fun hd=>by
 obtain⟨h,h4⟩:=aB hd
 obtain⟨h1,h2⟩:=aB h
 obtain⟨s1,s2,s3⟩:=S m a.v a.bs a.h
 rw[oK (V3 hi (a.ok h1) s1 s2 (s3 h2))]
 exact (K _).ok h4⟩
end
section
variable {α:Type} {ρ:Ev} {fa fb:Ev->Option Bx} {e:α->Dt}
def BJ [DecidableEq α] (x:α) (ys:List α):Bool:=decide (x∈ys)
theorem Mg [DecidableEq α] {x:α} {ys:List α}:BJ x ys=true↔x∈ys:=by unfold BJ;rw[Zl]
theorem WD [DecidableEq α] {n:Nat} [Eqs e n] (hn:n<=60) (x:α) (ys:List α):V4 (e x) (ys.map e)=some (decide (x∈ys)):=by
 unfold V4
 rw[zk]
 ·congr 1
  rw[List.any_map,ko,QQ,Zl]
  constructor
  ·rintro⟨y,hy,h⟩
   simp only[Function.comp,Eqs.eq] at h
   by_cases q:y=x
   ·exact q▸hy
   ·simp[q,isT] at h
  ·intro h
   exact⟨x,h,by simp[Function.comp,Eqs.eq,isT]⟩
 ·rw[List.all_map,qA]
  intro y _
  have:=Eqs.dp (e:=e) y
  simp only[Function.comp,Eqs.eq,Option.isSome_some,Bool.true_and,Zl]
  omega
def WK [DecidableEq α] {n:Nat} [Eqs e n] (hn:n<=60) (a:R fa ρ (zE e)) (b:RL fb ρ e):R (b2 Tq fa fb) ρ (zE eB):=⟨!BJ a.v b.v,bD a.D b.D,fun h=>by
 obtain⟨h1,h2⟩:=aB h
 simp only[b2,a.ok h1,b.ok h2,bnd,Tq,Cw b.lk,WD hn,BJ]⟩
end
end P1
end
section
namespace P1
open PySem PySem.Spec PyProof.Rows L2 S1 S6
section
variable {ρ:Ev} {fa:Ev->Option Bx}
def kT (xs:List Str):List Key:=xs.map Sum.inr
theorem acf {a b:List Str} (h:kT a=kT b):a=b:=by
 unfold kT at h
 induction a generalizing b with
 |nil=>cases b with|nil=>rfl|cons _ _=>simp at h
 |cons x a ih=>cases b with
  |nil=>simp at h
  |cons y b=>
   simp only[zr,JA] at h
   rw[Sum.inr.inj h.1,ih h.2]
theorem Mh:∀ (xs:List Str),Bd (xs.map eS)=some (kT xs)
 |[]=>rfl
 |x::xs=>by simp only[zr,Bd,YC,bnd,Mh xs];rfl
theorem Hu:∀ (xss:List (List Str)),sZ (xss.map (eT eS))=some (xss.map kT)
 |[]=>rfl
 |x::xss=>by simp only[zr,sZ,Dy,eT,Mh,bnd,Hu xss]
def Mi (a b:List Str):Bool:=uO (kT a) (kT b)
def bF (xss:List (List Str)):List (List Str):=xss.mergeSort Mi
theorem fM (xs:List (List Str)):(bF xs).Perm xs:=Kt ..
theorem uX (xs:List (List Str)):(bF xs).Pairwise (fun a b=>Mi a b=true):=kC (le:=Mi) (fun a b c=>wX (kT a) (kT b) (kT c)) (fun a b=>wY (kT a) (kT b)) xs
theorem Tv {a b:List Str} (h:Mi a b=true) (h':Mi b a=true):a=b:=acf (G9 h h')
theorem Hv {xs out:List (List Str)} (hp:out.Perm xs) (hs:out.Pairwise (fun a b=>Mi a b=true)):out=bF xs:=uP (fun _ _=>Tv) (hp.trans (fM xs).symm) hs (uX xs)
theorem Pj (xs:List (List Str)):m7 (xs.map kT)=(bF xs).map kT:=(rU ((fM xs).map _) (List.pairwise_map.mpr (uX xs))).symm
theorem Zj (xs:List (List Str)):(xs.map kT).map tupK=xs.map (eT eS):=by
 rw[qa]
 refine Q4 fun a _=>?_
 show Dt.tup ((kT a).map dK)=Dt.tup (a.map eS)
 unfold kT
 rw[qa]
 rfl
theorem acg (a b:List Str):Jg (kT a) (kT b)=true:=by
 unfold Jg kT
 rw[qA]
 rintro⟨x,y⟩ h
 obtain⟨h1,h2⟩:=List.of_mem_zip h
 obtain⟨p,_,rfl⟩:=List.mem_map.mp h1
 obtain⟨q,_,rfl⟩:=List.mem_map.mp h2
 rfl
theorem Zk (xs:List (List Str)) (h:xs.length < 64) (hn:∀ x∈xs,x.isEmpty=false):Bu (xs.map kT)=true:=by
 simp only[Bu,ZN,Zl,qA,qV,zi,kF,forall_exists_index,and_imp,forall_apply_eq_imp_iff₂]
 refine⟨h,fun a ha=>?_,fun a _ b _=>acg a b⟩
 have:=hn a ha
 cases a with
 |nil=>cases this
 |cons _ _=>rfl
def Cy (a:RL fa ρ (eT eS)):R (bY oJ (ao fa aG)) ρ (oE (eT eS)):=⟨bF a.v,bD a.D (some (a.v.length < 64/\∀ x∈a.v,x.isEmpty=false)),fun h=>by
 obtain⟨h,h4⟩:=aB h
 obtain⟨h4,h5⟩:a.v.length < 64/\∀ x∈a.v,x.isEmpty=false:=h4
 simp only[bY,ao,aG,a.ok h,bnd,oJ,Cw a.lk,Hu,Zk a.v h4 h5,qE,Pj,Zj]⟩
end
section
variable {α:Type} {ρ:Ev} {f:Ev->Option Bx} {e:α->Dt}
theorem map_some (e:α->Dt) (xs:List α):(xs.map some).map (eO e)=xs.map e:=by rw[qa];rfl
end
end P1
end
section
namespace P1
open PySem PySem.Spec PyProof.Rows L2
section
variable {α:Type} {k g:Ev->Option Out} {ρ:Ev} {cO:α->Out}
def Zm (i:Nat) (E:Ev) (hE:V6 i ρ=some E) (K:R k E cO):R (V7 i k) ρ cO:=⟨K.v,K.D,fun h=>by
 unfold V7;rw[hE];exact K.ok h⟩
end
section
variable {α:Type} {e:α->Dt} {ρ:Ev} {fa fb:Ev->Option Bx}
end
section
variable {σ τ γ:Type} {p:Ev->Option Bool} {gb k:Ev->Option Out} {ρ:Ev} {cO:γ->Out}
end
section
variable {α:Type} {e:α->Dt} {ρ:Ev} {fa:Ev->Option Bx}
end
section
variable {α β σ τ:Type}
theorem Cz {step:σ->α->σ} {P:σ->α->Option Prop} (I:Nat->σ->Prop):∀ (xs:List α) (m:Nat) (s0:σ),I m s0->(∀ k x s,xs[k]?=some x->I (m+k) s->hold (P s x)/\I (m+k+1) (step s x))->qM step P xs s0/\I (m+xs.length) (xs.foldl step s0)
 |[],m,s0,h0,_=>⟨trivial,h0⟩
 |x::xs,m,s0,h0,hs=>by
  obtain⟨h1,h2⟩:=hs 0 x s0 rfl h0
  have:=Cz I xs (m+1) (step s0 x) h2 fun k y s e h=>by
   have:=hs (k+1) y s (by simpa using e) (by rw[show m+(k+1)=m+1+k by omega];exact h)
   rw[show m+(k+1)+1=m+1+k+1 by omega] at this
   exact this
  refine⟨⟨h1,this.1⟩,?_⟩
  rw[qv,show m+(xs.length+1)=m+1+xs.length by omega]
  exact this.2
theorem Zn {i:Int} {n k:Nat} {x:Int} (h:(rng i n)[k]?=some x):x=i+k/\k < n:=by
 unfold rng at h
 rw[zS] at h
 cases hk:(List.range n)[k]? with
 |none=>rw[hk] at h;cases h
 |some j=>
  rw[hk] at h
  have hl:k < n:=by simpa using (List.getElem?_eq_some_iff.mp hk).1
  have:j=k:=by
   rw[List.getElem?_range hl] at hk
   cases hk;rfl
  subst this
  cases h
  exact⟨rfl,hl⟩
theorem qU (i:Int) (n:Nat):(rng i n).length=n:=by unfold rng;simp
theorem Zo {i:Int} {n:Nat} {x:Int} (h:x∈rng i n):i<=x/\x < i+n:=by
 unfold rng at h
 obtain⟨k,hk,rfl⟩:=List.mem_map.mp h
 have:=List.mem_range.mp hk
 omega
theorem uY {step:σ->Int->σ} {P:σ->Int->Option Prop} (I:Nat->σ->Prop) (n:Nat) (s0:σ) (h0:I 0 s0) (hs:∀ (k:Nat) s,k < n->I k s->hold (P s k)/\I (k+1) (step s k)):qM step P (rng 0 n) s0/\I n ((rng 0 n).foldl step s0):=by
 have:=Cz (P:=P) I (rng 0 n) 0 s0 h0 fun k x s e h=>by
  obtain⟨rfl,hk⟩:=Zn e
  rw[JE] at h ⊢
  rw[Int.zero_add]
  exact hs k s hk h
 rw[qU,JE] at this
 exact this
theorem yP {step:Unit->α->ux Unit Bool} {P:Unit->α->Option Prop}:∀ xs:List α,(∀ x∈xs,hold (P () x)/\(step () x=.nx ()\/step () x=.ct ()))->ni step xs ()=.nx ()/\uW step P xs ()
 |[],_=>⟨rfl,trivial⟩
 |x::xs,h=>by
  obtain⟨h1,h2⟩:=h x (zh ..)
  have ih:=yP (P:=P) xs fun y hy=>h y (zo _ hy)
  rcases h2 with h2|h2
  ·exact⟨by unfold ni;rw[h2];exact ih.1,h1,by rw[h2];exact ih.2⟩
  ·exact⟨by unfold ni;rw[h2];exact ih.1,h1,by rw[h2];exact ih.2⟩
theorem w6 [Inhabited α] {xs:List α} {i:Int} (h:In xs.length i):at' xs i∈xs:=by
 obtain⟨x,hx⟩:=Jt h
 unfold at'
 rw[hx]
 unfold FJ at hx
 obtain⟨j,_,hx⟩:=bind_some hx
 exact ZO hx
theorem z8 [Inhabited α] {xs:List α} {k:Nat} {x:α} (h:xs[k]?=some x):at' xs (k:Int)=x:=by
 have hl:k < xs.length:=(List.getElem?_eq_some_iff.mp h).1
 unfold at' FJ ixN
 rw[zk (by omega),zk (by omega),bnd,KI,h]
 rfl
theorem in_of {n:Nat} {i:Int} (h0:0<=i) (h1:i < n):In n i:=⟨by omega,h1⟩
theorem tD {n k:Nat} (h:k < n):In n (k:Int):=⟨by omega,by omega⟩
theorem uZ {n:Nat} {x m:Int} (hm:0 < m) (h:m<=n):In n (x % m):=in_of (Int.emod_nonneg _ (by omega)) (Int.lt_of_lt_of_le (Int.emod_lt_of_pos _ hm) h)
theorem oh (x:Int) {m:Int} (hm:0 < m):0<=x % m/\x % m < m:=⟨Int.emod_nonneg _ (by omega),Int.emod_lt_of_pos _ hm⟩
theorem Es {j:Int} (h0:0<=j) (h1:j<=1000000):Rg j:=⟨by omega,by omega⟩
theorem aao {a b:Int} (h0:0<=a) (h1:a < 18446744073709551616):Mul a b:=.inl ⟨by omega,h1⟩
theorem Zq {xs:List α} {lo hi:Option Int} {x:α} (h:x∈cut xs lo hi):x∈xs:=List.mem_of_mem_drop (List.mem_of_mem_take h)
theorem Zr (xs:List α) (lo hi:Option Int):(cut xs lo hi).length<=xs.length:=by
 unfold cut
 rw[ku,kU]
 omega
theorem WL {xs:List α} {k:Nat} (h:k<=xs.length):cut xs (some (k:Int)) none=xs.drop k:=by
 unfold cut
 rw[HT.Xw,HT.Um,Nat.min_eq_left h,List.take_of_length_le (by simp)]
theorem u0 (x y:Str):(x++y).length=x.length+y.length:=by
 show (x.cps++y.cps).size=_
 rw[kP]
 rfl
theorem Jx (x:Str) (i:Int):(ch x i).length=1:=rfl
theorem slice_le (x:Str) (l u:Option Int):(Txt.slice x l u).length<=x.length:=PyProof.Txt.length_slice_le x l u
end
section
variable {α γ:Type} [Inhabited α] {e:α->Dt} {ρ:Ev} {f:Ev->Option Bx} {k:Ev->Option Out} {cO:γ->Out}
end
section
variable {ρ:Ev} {fa:Ev->Option Bx}
end
section
variable {α γ:Type} {e:α->Dt} {ρ:Ev} {f:Ev->Option Bx} {k:Ev->Option Out} {cO:γ->Out}
end
section
variable {α β γ:Type} {e:α->Dt} {f fa fb:Ev->Option Bx} {k g:Ev->Option Out} {ρ:Ev} {cO:γ->Out}
end
section
variable {α:Type} {e:α->Dt} {f fa fb:Ev->Option Bx} {ρ:Ev}
end
section
variable {α β γ:Type} {e:α->Dt} {e':β->Dt} {fa fb:Ev->Option Bx} {ρ:Ev}
end
def RP {α β:Type} (f:Ev->Option β) (ρ:Ev) (c:α->β) (v:α) (D:Option Prop):Prop:=hold D->f ρ=some (c v)
theorem R.tp {α β:Type} {f:Ev->Option β} {ρ:Ev} {c:α->β} {v':α} {D':Option Prop} (x:R f ρ c) (hv:x.v=v':=by kernel_rfl) (hD:x.D=D':=by kernel_rfl):RP f ρ c v' D':=fun h=>by
 subst hv hD
 exact x.ok h
def RP.r {α β:Type} {f:Ev->Option β} {ρ:Ev} {c:α->β} {v:α} {D:Option Prop} (h:RP f ρ c v D):R f ρ c:=⟨v,D,h⟩
theorem len1 {α:Type} {p:List α->Prop} (h:∀ a,p [a]):∀ us:List α,us.length=1->p us
 |[a],_=>h a
theorem len2 {α:Type} {p:List α->Prop} (h:∀ a b,p [a,b]):∀ us:List α,us.length=2->p us
 |[a,b],_=>h a b
theorem ach {α:Type} {p:List α->Prop} (h:∀ a b c,p [a,b,c]):∀ us:List α,us.length=3->p us
 |[a,b,c],_=>h a b c
theorem agh {α:Type} {p:List α->Prop} (h:∀ a b c d,p [a,b,c,d]):∀ us:List α,us.length=4->p us
 |[a,b,c,d],_=>h a b c d
theorem agi {α:Type} {p:List α->Prop} (h:∀ a b c d e,p [a,b,c,d,e]):∀ us:List α,us.length=5->p us
 |[a,b,c,d,e],_=>h a b c d e
end P1
end
section
namespace P1
open PySem PySem.Spec PyProof.Rows L2 S1
section
variable {prog:Program} {w:World} {A:Around} {E:Value->Shared->Prop} {s:Shared}
theorem Pk {l:Addr} {o:Obj} {T:String} {vs:List Value} {ys:List Str} {n:Nat} {Q:Value->Shared->Prop} (ho:s.heap.get? l=some o) (hc:o.cls=.type T) (hT:T = "list" ∨ T = "tuple") (hd:o.data=.seq vs.toArray n) (hS:StrsAre vs ys) (h64:vs.length < 64)
  (h:∀ (l:Addr) (h':Heap) (tk:Nat) (out:Array Value) (zs:List Str) (n:Nat),s.heap.objs.size<=l->(∀ b o,s.heap.get? b=some o->h'.get? b=some o)->h'.get? l=some (seqObj "list" out n)->StrsAre out.toList zs->zs.Perm ys->sortedS zs=true->Q (.ref l) { s with heap:=h',toks:=tk }) :
  wpAny (model prog w) A (call (.builtin "sorted") [.ref l]) Q E s:=by
 refine KB kind_sorted plain_sorted entry_sorted (args_sorted1 _) ?_;unfold Builtin.«sorted»
 refine zb (m:=checkCount "sorted" 1 1 _) (ze (zb (Dw ho hc hT hd (z4 (Q2 h64) (by decide)) fun h1 tk hle ext=>?_)))
 refine zb (KM ?_)
 have hoL:(h1.push (seqObj "list" vs.toArray 0)).get? h1.objs.size=some (seqObj "list" vs.toArray 0):=zt _ rfl
 refine zb (Qr (js slot_list_sort ⟨_,hoL,rfl⟩ entry_list_sort (list_sort_treeK strKind_oneLt hoL hS.keysOf (fun v₁ v₂ rest e=>keyKind_strs (by rw[<-e];exact hS)) h64 fun st' a1 a2=>⟨_,rfl,ze ⟨_,rfl,?_⟩⟩) (args_list_sort _)))
 obtain⟨zs,z1,z2,z3⟩:=sorted_out_str hS a1 a2
 obtain⟨n,en⟩:=sortedHeap_at (out:=(arrOf st').map (·.2)) hoL
 exact h h1.objs.size _ tk _ zs n hle (fun b o e=>by
  have e1:=ext b o e
  have hb:=zv e1
  rw[sortedHeap_old (zD hb) (by rw[ZZ];exact qk hb)]
  exact zd _ e1) en z1 z2 z3
end
section
variable {X:Cx}
def Et:List Bx->Option Bx
 |[b]=>(yq b).bind fun ds=>(Az ds).bind fun ys=>if ys.length < 64 then some (.o ((iB ys).map Dt.str)) else none
 |_=>none
theorem WM:pq X (.builtin "sorted") Et:=by
 intro pins s σ H xs us Q I rx h
 obtain⟨bs,c,rb,e,q⟩:=h
 unfold Et at e
 split at e
 ·rename_i b
  obtain⟨ds,ed,e⟩:=bind_some e
  obtain⟨ys,ey,e⟩:=bind_some e
  split at e
  ·rename_i h64
   cases e
   obtain⟨v,rfl,r1⟩:=rep1 rb
   obtain⟨p,vs,rfl,sq,rs⟩:=Ck r1 ed
   obtain⟨u,rfl,ru⟩:=vals1 rx
   cases ru
   obtain⟨rfl,hy⟩:=vM rs ey
   have got:∃ (its:List Value) (o:Obj) (T:String) (n:Nat),Vals (ys.map V.str) its/\s.heap.get? p=some o/\o.cls=.type T/\(T = "list" ∨ T = "tuple")/\o.data=.seq its.toArray n:=by
    rcases sq with sq|sq
    ·obtain⟨its,r',pl,hz⟩:=I.list sq
     obtain⟨o,g,c,n,d⟩:=pl.isList
     exact⟨its,o,_,n,r',g,c,.inl rfl,d⟩
    ·obtain⟨its,r',⟨o,g,c,n,d⟩,hz⟩:=I.tuple sq
     exact⟨its,o,_,n,r',g,c,.inr rfl,d⟩
   obtain⟨its,o,T,n,r',g,hc,hT,hd⟩:=got
   have hl:=r'.length
   rw[zi] at hl
   refine Pk g hc hT hd (sX r') (by omega) fun l h' tk out zs n hle ext en z1 z2 z3=>?_
   have ez:=KY z2 z3
   subst ez
   have hH:=I.hok.fresh hle
   refine⟨.ref l,_,I.laid (t':=tk) (a:=l) (o:=.lst ((iB ys).map V.str)) ext hle ?_,rfl,q _ _ (bU hH) (fun a ea=>by cases ea;exact hH) ⟨l,_,rfl,aX,yw fun y h=>hy y ((dG ys).mem_iff.mp h)⟩⟩
   refine⟨by rw[zi,(dG _).length_eq];exact z4 (Q2 h64) (by decide),out.toList,n,vN z1,?_⟩
   rw[en]
  ·cases e
 ·cases e
end
section
variable {fa:Ev->Option Bx} {ρ:Ev}
def WQ (a:R fa ρ (zE (eT eS))):R (bY Et (ao fa aG)) ρ (oE eS):=⟨iB a.v,bD a.D (some (a.v.length < 64)),fun h=>by
 obtain⟨h,h4⟩:=aB h
 simp only[bY,ao,aG,a.ok h,bnd,Et,yq,eT,strs_map]
 exact zk h4⟩
end
end P1
end
section
namespace P1
open PySem PySem.Spec PyProof.Rows L2
def NR (g:Ev->Option Out):Prop:=∀ ρ b,g ρ≠some (.rt b)
section
variable {i n:Nat} {is:List Nat} {f:Ev->Option Bx} {fs:Ev->Option (List Bx)} {p:Ev->Option Bool} {gt:Dt->Ev->Option Ev} {g1 g2 gb:Ev->Option Out}
theorem rG:NR (setG i f):=fun ρ b h=>by
 obtain⟨x,_,h⟩:=bind_some h
 obtain⟨y,_,h⟩:=bind_some h
 cases h
theorem aci:NR (KR gt f):=fun ρ b h=>by
 obtain⟨x,_,h⟩:=bind_some h
 cases x with
 |z d=>obtain⟨y,_,h⟩:=bind_some h;cases h
 |_=>cases h
theorem Jy:NR (zT i f):=fun ρ b h=>by
 obtain⟨x,_,h⟩:=bind_some h
 unfold U5 at h
 split at h
 ·split at h
  ·split at h<;>cases h
  ·cases h
 ·cases h
theorem nP:NR (dD is):=fun ρ b h=>by cases h
theorem u5:NR gC:=fun ρ b h=>by cases h
theorem eU (h1:NR g1) (h2:NR g2):NR (aD g1 g2):=fun ρ b h=>by
 obtain⟨r,e,h⟩:=bind_some h
 cases r with
 |nx ρ'=>exact h2 _ _ h
 |rt b'=>exact h1 _ _ e
 |bk ρ'=>cases h
 |ct ρ'=>cases h
theorem Rm (h1:NR g1) (h2:NR g2):NR (wR p g1 g2):=fun ρ b h=>by
 obtain⟨k,_,h⟩:=bind_some h
 split at h
 ·exact h1 _ _ h
 ·exact h2 _ _ h
theorem Rn {G:Addr->List (Str×Dt)->List Bx->Option (List (Str×Dt))}:NR (yL i n G fs):=fun ρ b h=>by
 unfold yL at h
 split at h
 ·obtain⟨bs,_,h⟩:=bind_some h
  split at h<;>cases h
 ·cases h
theorem yQ (hb:NR gb):∀ (ds:List Dt),NR (qd gt gb ds)
 |[],ρ,b,h=>by cases h
 |d::ds,ρ,b,h=>by
  unfold qd at h
  obtain⟨ρ1,_,h⟩:=bind_some h
  obtain⟨r,e,h⟩:=bind_some h
  cases r with
  |nx ρ'=>exact yQ hb ds _ _ h
  |ct ρ'=>exact yQ hb ds _ _ h
  |bk ρ'=>cases h
  |rt b'=>exact hb _ _ e
theorem Zt (hb:NR gb):NR (qJ i gt gb):=fun ρ b h=>by
 unfold qJ at h
 split at h
 ·exact yQ hb _ _ _ h
 ·exact yQ hb _ _ _ h
 ·obtain⟨ds,_,h⟩:=bind_some h
  exact yQ hb _ _ _ h
 ·cases h
end
def NwT (H0 H:Hp) (b:Bx) (v:V):Prop:=∃ (t p0 p1 p2:Addr) (x0 x1 x2:List V) (o0 o1 o2:Obj) (d0 d1 d2:List Dt),b=.z (.tup [.lst d0,.lst d1,.lst d2])/\(x0.length=d0.length/\x2.length=d2.length)/\v=.ref t/\H t=some (.tup [.ref p0,.ref p1,.ref p2])/\(H p0=some (.lG o0 (.lst x0))/\H p1=some (.lG o1 (.lst x1))/\H p2=some (.lG o2 (.lst x2)))/\(H0 p0=none/\H0 p1=none/\H0 p2=none)/\p0≠p1/\p0≠p2/\p1≠p2
def spN (K:PySem.W.Frag) (n:Nat) (F:List Bx->Option Bx):Sp:=fun vs H Q _=>vs.length=n/\∃ bs r,o9 K H bs vs/\bs.all (fun b=>!isO b)=true/\F bs=some r/\∀ v H',Same H H'->bf K H' r v->NwT H H' r v->Q v H'
def tGN (K:PySem.W.Frag) (g:Ev->Option Out):TS:=fun D σ H=>∃ H0 ρ b,bJ K H0 H σ ρ/\g ρ=some (.rt b)/\∀ v H',Same H0 H'->bf K H' b v->NwT H0 H' b v->D.rt v H'
structure PGN (X:Cx) (st:List Stmt) (g:Ev->Option Out):Prop where
 run:J7 X st (tGN X.K g)
section
variable {X:Cx} {st:Stmt} {rest:List Stmt} {g1 g2:Ev->Option Out}
theorem u6 (h1:Qq X st g1) (n1:NR g1) (h2:PGN X rest g2):PGN X (st::rest) (aD g1 g2):=⟨Nz (jJ h1.run h2.run) fun D σ H h=>by
 obtain⟨H0,ρ,b,E,e,q⟩:=h
 obtain⟨r1,e1,e⟩:=bind_some e
 refine⟨H0,ρ,r1,E,e1,?_⟩
 cases r1 with
 |nx ρ'=>exact fun σ' H' E'=>⟨H0,ρ',b,E',e,q⟩
 |rt b'=>exact absurd e1 (n1 _ _)
 |bk ρ'=>cases e
 |ct ρ'=>cases e⟩
theorem acj {e:Expr} {f:Ev->Option Bx} (h:PV X e f):PE X e (fun σ H Q=>∃ H0 ρ ds,bJ X.K H0 H σ ρ/\f ρ=some (.o ds)/\∀ a o xs H',Same H H'->H a=none->H' a=some (.lG o (.lst xs))->aK X.K H' ds xs->Q (.ref a) H'):=by
 intro pins s σ H Q I q
 obtain⟨H0,ρ,ds,E,e,q⟩:=q
 refine mH (h pins s σ H (fun v H'=>Same H H'/\Nw H (.o ds) v/\bf X.K H' (.o ds) v) I ⟨H0,ρ,_,E,e,fun v H' s' n' r'=>⟨s',n',r'⟩⟩) fun u s1 hq=>?_
 obtain⟨v,H1,I1,rv,s',n',a,xs,rfl,ha,rs⟩:=hq
 have hn:H a=none:=n' a rfl
 obtain⟨o,I2⟩:=p7 I1 ha
 refine⟨.ref a,_,I2,rv,q a o xs _ (fun b ob eb=>?_) hn aX (rs.kp (.lst ha))⟩
 rw[aF (fun z=>by subst z;rw[hn] at eb;cases eb)]
 exact s' b ob eb
theorem Zu {e0:Expr} {f0:Ev->Option Bx} {x1 x2:Str} {i1 i2:Nat} {xx} {p1 p2 tp pos:Pos} (h0:QV X e0 f0) (hf:∀ ρ b,f0 ρ=some b->∃ ds,b=.o ds) (h12:i1≠i2)
  (hN1:X.N[i1]?=some x1:=by rfl) (hv1:T5 X.env.scope x1:=by first|exact JP rfl|exact QR (JP rfl)|exact QR (QR rfl)) (hN2:X.N[i2]?=some x2:=by rfl) (hv2:T5 X.env.scope x2:=by first|exact JP rfl|exact QR (JP rfl)|exact QR (QR rfl))
  (hd1:(x1==("__debug__" : Str))=false:=by decide) (hc1:(x1==("__classdict__" : Str))=false:=by decide) (hd2:(x2==("__debug__" : Str))=false:=by decide) (hc2:(x2==("__classdict__" : Str))=false:=by decide)
  (hs0:starEach [e0,.Name x1 p1,.Name x2 p2] X.env=(false,eval e0 X.env)::starEach [.Name x1 p1,.Name x2 p2] X.env:=by rfl) :
  PGN X [.Return (some (.Tuple [e0,.Name x1 p1,.Name x2 p2] xx tp)) pos] (V7 i1 (V7 i2 (aD (jH (bY jG (ao (b1 ou f0) (ao (gv i1) (ao (gv i2) aG))))) gC))):=⟨by
 intro pins s σ H D I q
 obtain⟨H0,ρ,b,E,e,q⟩:=q
 obtain⟨ρ1,e1,e⟩:=bind_some e
 unfold V6 at e1
 split at e1
 ·rename_i ds1 hr1
  cases e1
  obtain⟨ρ2,e2,e⟩:=bind_some e
  unfold V6 at e2
  split at e2
  ·rename_i Zv hr2
   cases e2
   have hr2':ρ[i2]?=some (some (.o Zv)):=by rw[Q3 h12] at hr2;exact hr2
   obtain⟨v1,hv1',a1,vs1,rfl,ha1,rs1⟩:=E.val i1 _ hr1
   obtain⟨v2,WR,a2,vs2,rfl,ha2,rs2⟩:=E.val i2 _ hr2'
   have n1:H0 a1=none:=E.new i1 _ a1 hr1 rfl hv1'
   have n2:H0 a2=none:=E.new i2 _ a2 hr2' rfl WR
   have acn:a1≠a2:=fun z=>h12 (E.own i1 i2 _ a1 _ hr1 rfl hv1' hr2' rfl (z▸WR))
   obtain⟨o1,I1⟩:=p7 I ha1
   have kp1:Kp H (upd H a1 (.lG o1 (.lst vs1))):=.lst ha1
   have E1:=E.U6 (c1:=.z (.lst ds1)) hr1 rfl hv1' kp1 (by simp only[bf,Rep];exact⟨a1,vs1,rfl,.inl ⟨o1,aX⟩,rs1.kp kp1⟩)
   have ha2':(upd H a1 (.lG o1 (.lst vs1))) a2=some (.lst vs2):=by rw[aF acn.symm];exact ha2
   obtain⟨o2,I2⟩:=p7 I1 ha2'
   have kp2:Kp (upd H a1 (.lG o1 (.lst vs1))) (upd (upd H a1 (.lG o1 (.lst vs1))) a2 (.lG o2 (.lst vs2))):=.lst ha2'
   have E2:=E1.U6 (c1:=.z (.lst Zv)) hr2 rfl WR kp2 (by simp only[bf,Rep];exact⟨a2,vs2,rfl,.inl ⟨o2,aX⟩,(rs2.kp kp1).kp kp2⟩)
   have f1:(upd (upd H a1 (.lG o1 (.lst vs1))) a2 (.lG o2 (.lst vs2))) a1=some (.lG o1 (.lst vs1)):=by rw[aF acn,aX]
   have f2:(upd (upd H a1 (.lG o1 (.lst vs1))) a2 (.lG o2 (.lst vs2))) a2=some (.lG o2 (.lst vs2)):=aX
   generalize upd (upd H a1 (.lG o1 (.lst vs1))) a2 (.lG o2 (.lst vs2))=H2 at *
   have g1:((ρ.set i1 (some (.z (.lst ds1)))).set i2 (some (.z (.lst Zv))))[i1]?=some (some (.z (.lst ds1))):=by
    rw[Q3 (Kb h12),kg (List.getElem?_eq_some_iff.mp hr1).1]
   have g2:((ρ.set i1 (some (.z (.lst ds1)))).set i2 (some (.z (.lst Zv))))[i2]?=some (some (.z (.lst Zv))):=by
    rw[kg (List.getElem?_eq_some_iff.mp hr2).1]
   generalize (ρ.set i1 (some (.z (.lst ds1)))).set i2 (some (.z (.lst Zv)))=ρ2 at *
   obtain⟨r1,er,e⟩:=bind_some e
   obtain⟨bt,eb,er⟩:=bind_some er
   obtain⟨bs,Sh,eb⟩:=bind_some eb
   obtain⟨b0,e0,Sh⟩:=bind_some Sh
   obtain⟨bY,WT,Sh⟩:=bind_some Sh
   cases Sh
   obtain⟨x0,ex0,e0⟩:=bind_some e0
   obtain⟨ds0,rfl⟩:=hf _ _ ex0
   cases e0
   obtain⟨c1,ec1,WT⟩:=bind_some WT
   obtain⟨bs2,WW,WT⟩:=bind_some WT
   cases WT
   obtain⟨c2,ec2,WW⟩:=bind_some WW
   obtain⟨bs3,agl,WW⟩:=bind_some WW
   cases WW
   cases agl
   have ec1:vQ ρ2 i1=some c1:=ec1
   have ec2:vQ ρ2 i2=some c2:=ec2
   unfold vQ at ec1 ec2
   rw[g1] at ec1
   rw[g2] at ec2
   cases ec1
   cases ec2
   cases eb
   cases er
   cases e
   have run:=jJ (CG (pos:=pos) (Ul (x1:=xx) (pos:=tp) (jC (acj h0.run) (jC (oF (pos:=p1) hN1 hv1 hd1 hc1) (jC (oF (pos:=p2) hN2 hv2 hd2 hc2) sO)) hs0))) (xQ (X:=X))
   refine run pins s σ H2 D I2 ?_
   refine⟨H0,ρ2,ds0,E2,ex0,fun a0 o0 xs0 H3 s3 hn0 ha0 rs0=>⟨.ref a1,hv1',.ref a2,WR,by show 3<=sizeLine;decide,fun t ht=>?_⟩⟩
   have ne:∀ {c:Addr} {u:HO},H3 c=some u->c≠t:=fun z w=>by subst w;rw[ht] at z;cases z
   have k4:Same H3 (upd H3 t (.tup [.ref a0,.ref a1,.ref a2])):=bU ht
   have h1:=s3 _ _ f1
   have h2:=s3 _ _ f2
   refine q (.ref t) _ ((E2.base.trans s3).trans k4) ?_ ⟨t,a0,a1,a2,xs0,vs1,vs2,o0,o1,o2,ds0,ds1,Zv,rfl,⟨rs0.length,rs2.length⟩,rfl,aX,⟨k4 _ _ ha0,k4 _ _ h1,k4 _ _ h2⟩,⟨?_,n1,n2⟩,?_,?_,acn⟩
   ·have w1:bf X.K H2 (.z (.lst ds1)) (.ref a1):=by
     obtain⟨v,ev,r⟩:=E2.val i1 _ g1
     rw[hv1'] at ev;cases ev;exact r
    have w2:bf X.K H2 (.z (.lst Zv)) (.ref a2):=by
     obtain⟨v,ev,r⟩:=E2.val i2 _ g2
     rw[WR] at ev;cases ev;exact r
    have w1:Rep X.K _ (.lst ds1) (.ref a1):=w1.same (s3.trans k4)
    have w2:Rep X.K _ (.lst Zv) (.ref a2):=w2.same (s3.trans k4)
    have w0:Rep X.K (upd H3 t (.tup [.ref a0,.ref a1,.ref a2])) (.lst ds0) (.ref a0):=by
     simp only[Rep]
     exact⟨a0,xs0,rfl,.inl ⟨o0,k4 _ _ ha0⟩,rs0.kp (.of k4)⟩
    simp only[bf]
    rw[Rep]
    exact⟨t,_,rfl,.inl (.inl aX),aK.cons w0 (aK.cons w1 (aK.cons w2 aK.nil))⟩
   ·cases z:H0 a0 with
    |none=>rfl
    |some u=>rw[E2.base _ _ z] at hn0;cases hn0
   ·intro z;subst z;rw[f1] at hn0;cases hn0
   ·intro z;subst z;rw[f2] at hn0;cases hn0
  ·cases e2
 ·cases e1⟩
end
section
variable {P:Program} {w:World} {K:PySem.W.Frag} {mg:Str->Option Value} {base:Heap}
theorem agm {x qual:Str} {st:Stmt} {f:Addr} {fd:FuncData} {N ps:List Str} {k n m:Nat} {g:Ev->Option Out} (F:zM K x qual st f fd) (S:cQ N ps (aJ st)) (hn:N.length=n) (hm:ps.length=m)
  (hr:∀ ρ,g ρ≠none->∃ b,g ρ=some (.rt b))
  (hbody:∀ (cdv:Value) (A:Around) (outer:List Env) (s:Shared) (H:Hp) (E:XK),mQ k (A.deeper (envOfC qual (aJ st) s.heap.objs.size f cdv))->PGN (CN mR P w K mg base N qual (aJ st) f cdv A outer s H E).RM (cF st) g) :
  cU P w K mg base mR (k+1) f fd ps (spN K m (lH n g)):=by
 subst hn hm
 refine F.ok S (fun vs H Q E h=>h.1) fun cdv A outer s H vs Q E hro h=>?_
 obtain⟨hl,bs,r,rb,ho,e,q⟩:=h
 refine⟨_,(hbody cdv A outer s H E hro).run,?_⟩
 obtain⟨r',er,e⟩:=bind_some e
 obtain⟨b,eb⟩:=hr _ (by rw[er];exact fun z=>by cases z)
 have er':=er.symm.trans eb
 cases er'
 cases e
 exact⟨H,_,_,bJ.start rb ho,eb,fun v H' s' r' n'=>q v H' s' r' n'⟩
end
section
variable {X:Cx} {pins:List (Addr×Obj)} {σ:L2.St} {H:Hp} {s:Shared} {a:Addr} {ks:List V} {o:Obj}
theorem WX (hb:∀ ob u,X.H₀ a≠some (.lG ob u)) (I:L2.Inv X pins σ H s) (e:H a=some (.lG o (.lst ks))):L2.Inv X pins σ (upd H a (.lst ks)) s:=by
 have ne:∀ {b:Addr} {u:HO},H b=some u->u≠.lG o (.lst ks)->b≠a:=fun q n z=>by subst z;rw[e] at q;cases q;exact n rfl
 have nn:∀ {b:Addr},H b=none->b≠a:=fun q z=>by subst z;rw[e] at q;cases q
 refine⟨I.ok,I.os,I.bare,⟨I.base.keep,I.base.slot,fun b ob q n hx=>?_,I.base.there,fun b xs q=>?_,fun b ob u q=>?_,fun b ps q=>?_⟩,I.loc,I.cell,?_,fun x c q=>?_,fun p hp=>?_,fun b ob q=>?_,I.len⟩
 ·have:=I.base.free b ob q n hx
  rw[aF (nn this)];exact this
 ·have:=I.base.tups b xs q
  rw[aF (ne this fun z=>by cases z)];exact this
 ·have:=I.base.uh b ob u q
  rw[aF (fun z=>by subst z;exact hb _ _ q)];exact this
 ·obtain⟨m,this⟩:=I.base.wN b ps q
  exact⟨m,by rw[aF (ne this fun z=>by cases z)];exact this⟩
 ·have:=I.free
  rw[aF (nn this)];exact this
 ·have:=I.o8 x c q
  rw[aF (nn this)];exact this
 ·obtain⟨p1,p2,p3⟩:=I.pin p hp
  exact⟨p1,by rw[aF (nn p2)];exact p2,p3⟩
 ·have st:∀ {c:Addr} {w:HO},iw X.prog X.w H s.heap c w->iw X.prog X.w (upd H a (.lst ks)) s.heap c w:=fun x=>
   x.stay (fun _ _ _ r=>r) (fun d r=>by rw[aF (ne r fun z=>by cases z)];exact r) fun d xs r=>by rw[aF (ne r fun z=>by cases z)];exact r
  by_cases hba:b=a
  ·subst hba
   rw[aX] at q
   cases q
   exact st (I.hok _ _ e).2
  ·rw[aF hba] at q
   exact st (I.hok _ _ q)
end
def Fr3 (Hb Hc H:Hp) (σ:L2.St) (i:Nat):Prop:=∃ (t p0 p1 p2:Addr) (x0 x1 x2:List V) (o0 o1 o2:Obj),(x0.length < 1000/\x2.length < 1000)/\σ[i]?=some (some (.ref t))/\H t=some (.tup [.ref p0,.ref p1,.ref p2])/\(H p0=some (.lG o0 (.lst x0))/\H p1=some (.lG o1 (.lst x1))/\H p2=some (.lG o2 (.lst x2)))/\(Hc p0=none/\Hc p1=none/\Hc p2=none)/\(p0≠p1/\p0≠p2/\p1≠p2)/\(∀ ob u,Hb p0≠some (.lG ob u))/\(∀ ob u,Hb p1≠some (.lG ob u))/\∀ ob u,Hb p2≠some (.lG ob u)
theorem Fr3.grow {Hb Hc H H':Hp} {σ σ':L2.St} {i:Nat} (h:Fr3 Hb Hc H σ i) (s:Same H H') (hs:σ'[i]?=σ[i]?):Fr3 Hb Hc H' σ' i:=by
 obtain⟨t,p0,p1,p2,x0,x1,x2,o0,o1,o2,l,e,ht,⟨h0,h1,h2⟩,r⟩:=h
 exact⟨t,p0,p1,p2,x0,x1,x2,o0,o1,o2,l,by rw[hs];exact e,s _ _ ht,⟨s _ _ h0,s _ _ h1,s _ _ h2⟩,r⟩
def aej (Hb:Hp) (K:PySem.W.Frag) (f:Ev->Option Bx) (i:Nat):TS:=fun D σ H=>∃ H0 Hc ρ d,bJ K H0 Hc σ ρ/\Same Hc H/\Fr3 Hb Hc H σ i/\f ρ=some (.z d)/\∀ v H',Same H0 H'->bf K H' (.z d) v->D.rt v H'
section
variable {X:Cx} {i:Nat} {M0 M1 M2 er:Expr} {f0 f2 f:Ev->Option Bx} {d0 d2:Dt} {z0 z1 z2 z3:Pos}
theorem Zw (hm0:PE X M0 (tBM X.K "list" Ih (ZX (Ur X.K) (Uc i) (tC (.int 0))) (CK (tF X.K f0) Uk))) (hm1:PE X M1 (adl X.K "list" Km (ZX (Ur X.K) (Uc i) (tC (.int 1))))) (hm2:PE X M2 (tBM X.K "list" Ih (ZX (Ur X.K) (Uc i) (tC (.int 2))) (CK (tF X.K f2) Uk)))
  (hf0:∀ ρ,f0 ρ=some (.z d0)) (hf2:∀ ρ,f2 ρ=some (.z d2)) (hr:QV X er f) (hs0:swapsWith M0 none z0.line X.env=pure false:=by rfl) (hs1:swapsWith M1 none z1.line X.env=pure false:=by rfl) (hs2:swapsWith M2 none z2.line X.env=pure false:=by rfl) :
  J7 X [.Expr M0 z0,.Expr M1 z1,.Expr M2 z2,.Return (some er) z3] (aej X.H₀ X.K f i):=by
 intro pins s σ H D I q
 obtain⟨H0,Hc,ρ,d,E,sc,⟨t,p0,p1,p2,x0,x1,x2,o0,o1,o2,⟨l0,l2⟩,es,ht,⟨h0,h1,h2⟩,⟨c0,c1,c2⟩,⟨n01,n02,n12⟩,b0,b1,b2⟩,e,q⟩:=q
 have I1:=WX b0 I h0
 have h1':(upd H p0 (.lst x0)) p1=some (.lG o1 (.lst x1)):=by rw[aF n01.symm];exact h1
 have I2:=WX b1 I1 h1'
 have h2':(upd (upd H p0 (.lst x0)) p1 (.lst x1)) p2=some (.lG o2 (.lst x2)):=by rw[aF n12.symm,aF n02.symm];exact h2
 have I3:=WX b2 I2 h2'
 have t0:t≠p0:=fun z=>by subst z;rw[ht] at h0;cases h0
 have t1:t≠p1:=fun z=>by subst z;rw[ht] at h1;cases h1
 have t2:t≠p2:=fun z=>by subst z;rw[ht] at h2;cases h2
 have a0:(upd (upd (upd H p0 (.lst x0)) p1 (.lst x1)) p2 (.lst x2)) p0=some (.lst x0):=by rw[aF n02,aF n01,aX]
 have a1:(upd (upd (upd H p0 (.lst x0)) p1 (.lst x1)) p2 (.lst x2)) p1=some (.lst x1):=by rw[aF n12,aX]
 have a2:(upd (upd (upd H p0 (.lst x0)) p1 (.lst x1)) p2 (.lst x2)) p2=some (.lst x2):=aX
 have at':(upd (upd (upd H p0 (.lst x0)) p1 (.lst x1)) p2 (.lst x2)) t=some (.tup [.ref p0,.ref p1,.ref p2]):=by rw[aF t2,aF t1,aF t0];exact ht
 have nc:∀ {c:Addr} {u:HO},Hc c=some u->c≠p0/\c≠p1/\c≠p2:=fun w=>⟨(fun z=>by subst z;rw[c0] at w;cases w),(fun z=>by subst z;rw[c1] at w;cases w),(fun z=>by subst z;rw[c2] at w;cases w)⟩
 have s3:Same Hc (upd (upd (upd H p0 (.lst x0)) p1 (.lst x1)) p2 (.lst x2)):=fun c u w=>by
  obtain⟨w0,w1,w2⟩:=nc w
  rw[aF w2,aF w1,aF w0];exact sc _ _ w
 generalize upd (upd (upd H p0 (.lst x0)) p1 (.lst x1)) p2 (.lst x2)=H3 at *
 have big:(1000:Nat) < sizeLine:=by decide
 refine (jJ (xR hm0 hs0) (jJ (xR hm1 hs1) (jJ (xR hm2 hs2) (jJ (CG (pos:=z3) hr.run) xQ)))) pins s σ H3 D I3 ?_
 refine⟨.ref t,es,t,_,0,.ref p0,rfl,rfl,.inl (.inl at'),rfl,.inl ⟨rfl,x0,.inl (.inl a0)⟩,H0,ρ,_,E.grow s3,hf0 ρ,fun y H4 s4 _ _=>⟨p0,x0,y,rfl,rfl,s4 _ _ a0,by omega,?_⟩⟩
 refine⟨.ref t,es,t,_,1,.ref p1,rfl,rfl,.inl (.inl (by rw[aF t0];exact s4 _ _ at')),rfl,.inl ⟨rfl,x1,.inl (.inl (by rw[aF n01.symm];exact s4 _ _ a1))⟩,p1,x1,rfl,rfl,by rw[aF n01.symm];exact s4 _ _ a1,?_⟩
 have s6:Same Hc (upd (upd H4 p0 (.lst (x0++[y]))) p1 (.lst x1.reverse)):=fun c u w=>by
  obtain⟨w0,w1,_⟩:=nc w
  rw[aF w1,aF w0];exact s4 _ _ (s3 _ _ w)
 have g2:(upd (upd H4 p0 (.lst (x0++[y]))) p1 (.lst x1.reverse)) p2=some (.lst x2):=by rw[aF n12.symm,aF n02.symm];exact s4 _ _ a2
 refine⟨.ref t,es,t,_,2,.ref p2,rfl,rfl,.inl (.inl (by rw[aF t1,aF t0];exact s4 _ _ at')),rfl,.inl ⟨rfl,x2,.inl (.inl g2)⟩,H0,ρ,_,E.grow s6,hf2 ρ,fun y2 H7 s7 _ _=>⟨p2,x2,y2,rfl,rfl,s7 _ _ g2,by omega,?_⟩⟩
 have s8:Same Hc (upd H7 p2 (.lst (x2++[y2]))):=fun c u w=>by
  obtain⟨_,_,w2⟩:=nc w
  rw[aF w2];exact s7 _ _ (s6 _ _ w)
 exact⟨H0,ρ,_,E.grow s8,e,fun v H9 s9 _ r9=>q v H9 ((E.base.trans s8).trans s9) r9⟩
end
theorem bJ.sl {K:PySem.W.Frag} {H0 H:Hp} {σ:L2.St} {ρ:Ev} (E:bJ K H0 H σ ρ) {i:Nat} (h:∀ c,ρ[i]?≠some (some c)) (v:Option V):bJ K H0 H (σ.set i v) ρ:=by
 have ne:∀ {j:Nat} {c:Bx},ρ[j]?=some (some c)->(σ.set i v)[j]?=σ[j]?:=fun e=>Q3 (fun z=>h _ (z▸e))
 exact⟨by rw[j3];exact E.len,fun j b e=>by rw[ne e];exact E.val j b e,fun j k c a b e1 e2 e3 e4 e5 e6=>E.own j k c a b e1 e2 (by rw[<-ne e1];exact e3) e4 e5 (by rw[<-ne e4];exact e6),E.base,fun j c a e1 e2 e3=>E.new j c a e1 e2 (by rw[<-ne e1];exact e3)⟩
def agn (K:PySem.W.Frag) (H0:Hp) (D:Ends) (d:Dt):Out->Prop
 |.nx _=>∀ v H',Same H0 H'->bf K H' (.z d) v->D.rt v H'
 |.rt (.z d')=>∀ v H',Same H0 H'->bf K H' (.z d') v->D.rt v H'
 |_=>False
def tM (Hb:Hp) (K:PySem.W.Frag) (g:Ev->Option Out) (f:Ev->Option Bx) (i:Nat) (W:List Nat):TS:=fun D σ H=>∃ H0 Hc ρc ρ r d,bJ K H0 Hc σ ρc/\(∀ j∈W,∀ c,ρc[j]?≠some (some c))/\Same Hc H/\Fr3 Hb Hc H σ i/\bJ K Hc H σ ρ/\g ρ=some r/\f ρc=some (.z d)/\agn K H0 D d r
structure PM (X:Cx) (st:List Stmt) (g:Ev->Option Out) (f:Ev->Option Bx) (i:Nat) (W:List Nat):Prop where
 run:J7 X st (tM X.H₀ X.K g f i W)
section
variable {X:Cx} {st:List Stmt} {g:Ev->Option Out} {f fr fe:Ev->Option Bx} {p:Ev->Option Bool} {i i':Nat} {W:List Nat} {c e:Expr} {pos z:Pos}
theorem aco (h:J7 X st (aej X.H₀ X.K f i)):PM X st gC f i W:=⟨Nz h fun D σ H q=>by
 obtain⟨H0,Hc,ρc,ρ,r,d,E,_,sc,fr,_,e,ef,q⟩:=q
 cases e
 exact⟨H0,Hc,ρc,d,E,sc,fr,ef,q⟩⟩
theorem WY (hc:QB X c p) (he:QV X e fr) (h:PM X st g f i W):PM X (.If c [.Return (some e) z] [] pos::st) (aD (wR p (aD (jH fr) gC) gC) g) f i W:=⟨Nz (jJ (ZS hc.run (jJ (CG (pos:=z) he.run) xQ) xQ) h.run) fun D σ H q=>by
 obtain⟨H0,Hc,ρc,ρ,r,d,E0,hw,sc,fr3,E,e,ef,q⟩:=q
 obtain⟨r1,e1,e⟩:=bind_some e
 obtain⟨k,ek,e1⟩:=bind_some e1
 refine⟨Hc,ρ,k,E,ek,fun H1 s1=>?_⟩
 cases k with
 |true=>
  rw[zk rfl] at e1 ⊢
  obtain⟨r2,e2,e1⟩:=bind_some e1
  obtain⟨b,eb,e2⟩:=bind_some e2
  cases b with
  |z d'=>
   cases e2
   cases e1
   cases e
   exact⟨Hc,ρ,_,E.grow s1,eb,fun v H2 s2 _ r2=>q v H2 (((E0.base.trans sc).trans s1).trans s2) r2⟩
  |l ds=>cases e2
  |n ds=>cases e2
  |o ds=>cases e2;cases e1;cases e;exact q.elim
  |m ds w=>cases e2;cases e1;cases e;exact q.elim
 |false=>
  rw[zw Zp] at e1 ⊢
  cases e1
  exact⟨H0,Hc,ρc,ρ,r,d,E0,hw,sc.trans s1,fr3.grow s1 rfl,E.grow s1,e,ef,q⟩⟩
theorem acp (i':Nat) {x:Str} {p':Pos} (hN:X.N.Nodup) (he:QV X e fe) (h:PM X st g f i W) (hne:i'≠i) (hw':i'∈W) (hi:X.N[i']?=some x:=by rfl) (hx:Loc X.env.scope x:=by first|exact JP rfl|exact QR rfl) (hs:swapsWith e (some (.Name x p')) pos.line X.env=pure false:=by rfl)
  (hf:X.fn x=true\/X.env.scope.names.lookup x=some .local:=by first|exact .inl rfl|exact .inr rfl):PM X (.Assign [.Name x p'] e pos::st) (aD (setG i' fe) g) f i W:=⟨Nz (jJ (Ni (pos:=pos) (pos':=p') hN hi hx he.run hs hf) h.run) fun D σ H q=>by
 obtain⟨H0,Hc,ρc,ρ,r,d,E0,hw,sc,fr3,E,e,ef,q⟩:=q
 obtain⟨r1,e1,e⟩:=bind_some e
 obtain⟨b,eb,e1⟩:=bind_some e1
 obtain⟨ρ',eρ,e1⟩:=bind_some e1
 cases e1
 refine⟨Hc,ρ,b,E,eb,fun v H1 s1 n1 r1=>?_⟩
 exact⟨H0,Hc,ρc,ρ',r,d,E0.sl (hw _ hw') _,hw,sc.trans s1,fr3.grow s1 (Q3 hne),Qu E s1 r1 n1 eρ,e,ef,q⟩⟩
def Ro (ρ:Ev):Bool:=ρ.all fun o=>match o with|some b=>!loose b|none=>true
def aek (f:Ev->Option Bx) (ρ:Ev):Out->Option Out
 |.nx _=>(f ρ).bind fun b=>match b with|.z d=>some (.rt (.z d))|_=>none
 |.rt (.z d)=>some (.rt (.z d))
 |_=>none
def W0 (i:Nat) (W:List Nat) (fc:Ev->Option Bx) (g:Ev->Option Out) (f:Ev->Option Bx):Ev->Option Out:=fun ρ=>(fc ρ).bind fun b=>match b with
 |.z (.tup [.lst d0,.lst d1,.lst d2])=>if d0.length < 1000/\d2.length < 1000/\Ro ρ=true/\i∈W then (f (kill W ρ)).bind fun b'=>match b' with
  |.z d=>(g (ρ.set i (some (.z (.tup [.lst d0,.lst d1,.lst d2]))))).bind fun r=>aek (fun _=>some (.z d)) ρ r
  |_=>none
  else none
 |_=>none
theorem Jz:∀ (W:List Nat) (ρ:Ev) (j:Nat),(j∈W\/∀ c,ρ[j]?≠some (some c))->∀ c,(kill W ρ)[j]?≠some (some c)
 |[],ρ,j,h,c=>by
  rcases h with h|h
  ·cases h
  ·exact h c
 |w::W,ρ,j,h,c=>by
  refine Jz W (ρ.set w none) j ?_ c
  by_cases e:j=w
  ·subst e
   right;intro c z
   rcases getset z with⟨_,z,_⟩|⟨z,_⟩
   ·cases z
   ·exact z rfl
  ·rcases h with h|h
   ·rcases List.mem_cons.mp h with h|h
    ·exact absurd h e
    ·exact .inl h
   ·right;intro c z
    rw[Q3 (Kb e)] at z
    exact h c z
theorem bJ.Zx {K:PySem.W.Frag} {H0 H:Hp} {σ:L2.St} {ρ:Ev} (E:bJ K H0 H σ ρ) (h:Ro ρ=true):bJ K H H σ ρ:=by
 have nl:∀ (j:Nat) c,ρ[j]?=some (some c)->uo c=true->False:=fun j c e ec=>by
  have:=List.all_eq_true.mp h _ (ZO e)
  cases c with
  |z d=>cases ec
  |_=>cases this
 exact⟨E.len,E.val,fun j k c a b e1 e2=>(nl j c e1 e2).elim,Same.refl H,fun j c a e1 e2=>(nl j c e1 e2).elim⟩
theorem acq (i:Nat) {n k:Nat} {F:List Bx->Option Bx} {fs:Ev->Option (List Bx)} {fa:Addr} {fd:FuncData} {ps:List Str} {x fx:Str} {p' p1 pos2:Pos} {es:List Expr} (hN:X.N.Nodup) (G:cU X.prog X.w X.K X.mg X.base mR k fa fd ps (spN X.K n F)) (hr:mQ k X.A) (hg:Gl X fx) (hm:X.mg fx=some (.ref fa)) (hk:PySem.W.keepIn X.K (.ref fa)=true) (hb:Binds X.K fd ps []) (ha:T6 X (e::es) fs) (h:PM X st g f i W)
  (hdb:(fx==("__debug__" : Str))=false:=by decide) (he:starEach (e::es) X.env=(false,eval e X.env)::starEach es X.env:=by rfl) (hpl:(backTo pos (starEach es X.env)).any (·.1)=false:=by rfl)
  (hi:X.N[i]?=some x:=by rfl) (hx:Loc X.env.scope x:=by first|exact JP rfl|exact QR rfl) (hs:swapsWith (.Call (.Name fx p1) (e::es) [] pos) (some (.Name x p')) pos2.line X.env=pure false:=by rfl)
  (hf:X.fn x=true\/X.env.scope.names.lookup x=some .local:=by first|exact .inl rfl|exact .inr rfl):Qs X (.Assign [.Name x p'] (.Call (.Name fx p1) (e::es) [] pos) pos2::st) (W0 i W (cV n F fs) g f):=⟨by
 intro pins s σ H D I q
 obtain⟨H0,ρ,r,E,e,q⟩:=q
 obtain⟨b,eb,e⟩:=bind_some e
 split at e
 ·rename_i d0 d1 d2
  split at e
  ·rename_i hcon
   obtain⟨l0,l2,hz,hiW⟩:=hcon
   obtain⟨b',ef,e⟩:=bind_some e
   split at e
   ·rename_i d
    obtain⟨r1,eg,e⟩:=bind_some e
    obtain⟨bs,Sh,eb⟩:=bind_some eb
    split at eb
    ·rename_i hn
     refine (jJ (Ni (pos:=pos2) (pos':=p') hN hi hx (HW (p:=p1) (pos:=pos) G hr hg hm hk hb .nil (Uz) ha.run hdb he hpl) hs hf) h.run) pins s σ H D I ?_
     refine⟨H0,ρ,bs,E,Sh,fun vs H1 s1 r1'=>?_⟩
     show spN X.K n F (vs++[]) H1 _ _
     rw[km]
     refine⟨by rw[<-Paired.length r1'];exact hn,_,_,Dk r1',Iw bs,eb,fun v H2 s2 r2 nw=>?_⟩
     obtain⟨t,p0,p1,p2,x0,x1,x2,o0,o1,o2,d0',d1',d2',ed,⟨y0,y2⟩,rfl,ht,hps,⟨c0,c1,c2⟩,nes⟩:=nw
     cases ed
     have nf:∀ {c:Addr},H1 c=none->∀ ob u,X.H₀ c≠some (.lG ob u):=fun hc ob u z=>by
      have:=s1 _ _ (I.base.uh _ ob u z)
      rw[hc] at this;cases this
     have hlen:i < σ.length:=by
      have:=(List.getElem?_eq_some_iff.mp hi).1
      rw[I.len];exact this
     have no:∀ c,(P1.kill W ρ)[i]?≠some (some c):=Jz W ρ i (.inl hiW)
     refine⟨H0,H1,P1.kill W ρ,ρ.set i (some (.z (.tup [.lst d0,.lst d1,.lst d2]))),r1,d,((E.grow s1).kill W).sl no _,fun j hj=>Jz W ρ j (.inl hj),s2,⟨t,p0,p1,p2,x0,x1,x2,o0,o1,o2,⟨by omega,by omega⟩,kg hlen,ht,hps,⟨c0,c1,c2⟩,nes,nf c0,nf c1,nf c2⟩,((E.grow s1).Zx hz).set s2 r2 (.inr rfl) trivial,eg,ef,?_⟩
     cases r1 with
     |nx ρ'=>cases e;exact fun v H' s' r'=>q v H' s' trivial r'
     |rt b=>
      cases b with
      |z d'=>cases e;exact fun v H' s' r'=>q v H' s' trivial r'
      |_=>cases e
     |bk ρ'=>cases e
     |ct ρ'=>cases e
    ·cases eb
   ·cases e
  ·cases e
 ·cases e⟩
end
section
variable {a b c g g1 g2 gb:Ev->Option Out} {f:Ev->Option Bx} {p:Ev->Option Bool} {i k:Nat} {gt:Dt->Ev->Option Ev}
theorem Pn:aD (aD a b) c=aD a (aD b c):=by
 funext ρ
 unfold aD
 cases a ρ with
 |none=>rfl
 |some r=>cases r<;>rfl
theorem Zy:aD gC c=c:=by funext ρ;rfl
def RF (g:Ev->Option Out):Prop:=∀ ρ b,g ρ=some (.rt b)->b=.z (.bl false)
theorem aaq (h:NR g):RF g:=fun ρ b e=>absurd e (h ρ b)
theorem JB (h1:RF g1) (h2:RF g2):RF (aD g1 g2):=fun ρ b h=>by
 obtain⟨r,e,h⟩:=bind_some h
 cases r with
 |nx ρ'=>exact h2 _ _ h
 |rt b'=>cases h;exact h1 _ _ e
 |bk ρ'=>cases h
 |ct ρ'=>cases h
theorem W2:RF (wR p (aD (jH (cB (.bl false))) gC) gC):=fun ρ b h=>by
 obtain⟨k,_,h⟩:=bind_some h
 split at h
 ·cases h;rfl
 ·cases h
def Sk (k:Nat) (g:Ev->Option Out):Prop:=∀ ρ ρ',g ρ=some (.nx ρ')->ρ'=ρ\/∃ b,ρ'=ρ.set k b
theorem ael:Sk k gC:=fun ρ ρ' h=>by cases h;exact .inl rfl
theorem acr:Sk k (setG k f):=fun ρ ρ' h=>by
 obtain⟨b,_,h⟩:=bind_some h
 obtain⟨ρ1,e,h⟩:=bind_some h
 cases h
 cases b<;>cases e<;>exact .inr ⟨_,rfl⟩
theorem W3:Sk k (wR p (aD (jH f) gC) gC):=fun ρ ρ' h=>by
 obtain⟨k',_,h⟩:=bind_some h
 split at h
 ·obtain⟨r,e,h⟩:=bind_some h
  obtain⟨b,_,e⟩:=bind_some e
  cases b<;>cases e<;>cases h
 ·cases h;exact .inl rfl
theorem JC (h1:Sk k g1) (h2:Sk k g2):Sk k (aD g1 g2):=fun ρ ρ' h=>by
 obtain⟨r,e,h⟩:=bind_some h
 cases r with
 |nx ρ1=>
  have h3:g2 ρ1=some (.nx ρ'):=h
  clear h
  rcases h1 _ _ e with rfl|⟨b,rfl⟩
  ·exact h2 _ _ h3
  ·rcases h2 _ _ h3 with rfl|⟨b',rfl⟩
   ·exact .inr ⟨_,rfl⟩
   ·exact .inr ⟨b',by rw[List.set_set]⟩
 |rt b'=>cases h
 |bk ρ'=>cases h
 |ct ρ'=>cases h
def ON (g:Ev->Option Out):Prop:=∀ ρ r,g ρ=some r->∃ ρ',r=.nx ρ'
def OR (g:Ev->Option Out):Prop:=∀ ρ r,g ρ=some r->∃ b,r=.rt b
theorem Pq:ON (setG i f):=fun ρ r h=>by
 obtain⟨x,_,h⟩:=bind_some h
 obtain⟨y,_,h⟩:=bind_some h
 cases h;exact⟨_,rfl⟩
theorem acs:ON (KR gt f):=fun ρ r h=>by
 obtain⟨x,_,h⟩:=bind_some h
 cases x with
 |z d=>obtain⟨y,_,h⟩:=bind_some h;cases h;exact⟨_,rfl⟩
 |_=>cases h
theorem yR (hb:NR gb):∀ (ds:List Dt),ON (qd gt gb ds)
 |[],ρ,r,h=>by cases h;exact⟨_,rfl⟩
 |d::ds,ρ,r,h=>by
  unfold qd at h
  obtain⟨ρ1,_,h⟩:=bind_some h
  obtain⟨r',e,h⟩:=bind_some h
  cases r' with
  |nx ρ'=>exact yR hb ds _ _ h
  |ct ρ'=>exact yR hb ds _ _ h
  |bk ρ'=>cases h;exact⟨_,rfl⟩
  |rt b'=>exact absurd e (hb _ _)
theorem Zz (hb:NR gb):ON (qJ i gt gb):=fun ρ r h=>by
 unfold qJ at h
 split at h
 ·exact yR hb _ _ _ h
 ·exact yR hb _ _ _ h
 ·obtain⟨ds,_,h⟩:=bind_some h
  exact yR hb _ _ _ h
 ·cases h
theorem Eu (h1:ON g1) (h2:OR g2):OR (aD g1 g2):=fun ρ r h=>by
 obtain⟨r1,e,h⟩:=bind_some h
 obtain⟨ρ',rfl⟩:=h1 _ _ e
 exact h2 _ _ h
theorem aar (h:OR g):OR (V7 i g):=fun ρ r e=>by
 obtain⟨ρ',_,e⟩:=bind_some e
 exact h _ _ e
theorem acu:OR (aD (jH f) gC):=fun ρ r h=>by
 obtain⟨r1,e,h⟩:=bind_some h
 obtain⟨b,_,e⟩:=bind_some e
 cases b<;>cases e<;>cases h<;>exact⟨_,rfl⟩
theorem aem (h:OR g):∀ ρ,g ρ≠none->∃ b,g ρ=some (.rt b):=fun ρ n=>by
 cases e:g ρ with
 |none=>exact absurd e n
 |some r=>obtain⟨b,rfl⟩:=h _ _ e;exact⟨b,rfl⟩
end
def aen {α:Type} {E:α->Dt} {i:Nat} (W:List Nat) {fc f:Ev->Option Bx} {gS R':Ev->Option Out} {ρ:Ev} (x:R (aD (setG i fc) R') ρ (fun r=>Out.rt (zE eB r))) (xc:R fc ρ (zE E)) (l0 l2:α->Nat) (hE:∀ v,∃ d0 d1 d2,E v=.tup [.lst d0,.lst d1,.lst d2]/\d0.length=l0 v/\d2.length=l2 v)
  (hR:R'=aD gS (aD (jH f) gC)) (hz:Ro ρ=true) (hi:i∈W) (hrf:RF gS) (hS:∀ b ρ',gS (ρ.set i (some b))=some (.nx ρ')->f ρ'=f (kill W ρ)):R (W0 i W fc gS f) ρ (fun r=>Out.rt (zE eB r)):=⟨x.v,bD x.D (bD xc.D (some ((l0 xc.v < 1000/\l2 xc.v < 1000)/\x.v=true))),fun h=>by
 obtain⟨h1,h⟩:=aB h
 obtain⟨h2,h⟩:=aB h
 obtain⟨⟨a0,a2⟩,hv⟩:(l0 xc.v < 1000/\l2 xc.v < 1000)/\x.v=true:=h
 have ex:=x.ok h1
 have ec:=xc.ok h2
 obtain⟨d0,d1,d2,eE,e0,e2⟩:=hE xc.v
 rw[hv] at ex ⊢
 subst hR
 obtain⟨r1,q1,ex⟩:=bind_some ex
 obtain⟨b,q2,q1⟩:=bind_some q1
 rw[ec] at q2
 cases q2
 obtain⟨ρ1,q3,q1⟩:=bind_some q1
 cases q1
 have q3:some (ρ.set i (some (.z (E xc.v))))=some ρ1:=q3
 cases q3
 obtain⟨r2,q4,ex⟩:=bind_some ex
 cases r2 with
 |rt b=>have:=hrf _ _ q4;subst this;cases ex
 |bk ρ'=>cases ex
 |ct ρ'=>cases ex
 |nx ρ'=>
  obtain⟨r3,q5,ex⟩:=bind_some ex
  obtain⟨b,q6,q5⟩:=bind_some q5
  have ef:=hS _ _ q4
  rw[q6] at ef
  cases b with
  |z d=>
   cases q5
   cases ex
   have G:W0 i W fc gS f ρ=(if d0.length < 1000/\d2.length < 1000/\Ro ρ=true/\i∈W then (f (kill W ρ)).bind fun b'=>match b' with
     |.z d=>(gS (ρ.set i (some (.z (.tup [.lst d0,.lst d1,.lst d2]))))).bind fun r=>aek (fun _=>some (.z d)) ρ r
     |_=>none else none):=by
    have ec':fc ρ=some (.z (.tup [.lst d0,.lst d1,.lst d2])):=by
     rw[ec]
     show some (Bx.z (E xc.v))=_
     rw[eE]
    unfold W0
    rw[ec']
    rfl
   rw[G,zk ⟨by omega,by omega,hz,hi⟩,<-ef]
   show (gS (ρ.set i (some (.z (.tup [.lst d0,.lst d1,.lst d2]))))).bind _=_
   rw[<-eE,q4]
   rfl
  |l ds=>cases q5
  |n ds=>cases q5
  |o ds=>cases q5;cases ex
  |m ds w=>cases q5;cases ex⟩
theorem lt_iff (a b:Str):Ge a b=true↔rP a b/\a≠b:=by
 unfold Ge rP
 rw[ltCps_eq]
 simp only[Zl,Qb]
 constructor
 ·intro h
  exact⟨List.lt_asymm h,fun e=>by subst e;exact List.lt_irrefl _ h⟩
 ·intro ⟨h,hn⟩
  by_cases q:a.cps.toList < b.cps.toList
  ·exact q
  ·exact absurd (yC (a:=a) (b:=b) (by unfold rP;rw[ltCps_eq];simpa using h) (by unfold rP;rw[ltCps_eq];simpa using q)) hn
theorem ZC {n:Nat} {i:Int} (h:i∈rng 0 n):∃ k:Nat,k < n/\i=(k:Int):=by
 unfold rng at h
 obtain⟨k,hk,rfl⟩:=List.mem_map.mp h
 exact⟨k,List.mem_range.mp hk,by omega⟩
end P1
end
section
set_option synthInstance.maxSize 100000
namespace G24
open PySem PySem.Spec PyProof.Rows L2 P1
noncomputable section
abbrev aY:Type:=Int×Str×Str×Int
abbrev bh:aY->Dt:=eP4 eI eS eS eI
abbrev bK:Type:=Str×Str×Int
abbrev bQ:bK->Dt:=eP3 eS eS eI
abbrev z9:Type:=(List Str)×(List aY)×(List bK)
abbrev oM:z9->Dt:=eP3 (eT eS) (eT bh) (eT bQ)
abbrev fu:Type:=aY×(Option bK)
abbrev j4:fu->Dt:=T9 bh (eO bQ)
abbrev Mj:Type:=(List (List Str))×(List aY)×(List fu)
abbrev nu:Mj->Dt:=eP3 (eL (eT eS)) (eL bh) (eL j4)
abbrev JD:Type:=Int×Int
abbrev ago:JD->Dt:=T9 eI eI
def top (i:Nat):Stmt:=PySem.Challenge.pw_onefolk_k24_told_joinings.main.body.getD i (.Pass ⟨0,0,0,0⟩)
abbrev nF:Stmt:=top 9
abbrev ju:Stmt:=top 10
abbrev mJ:Stmt:=top 11
abbrev j5:Stmt:=top 12
abbrev j6:Stmt:=top 14
abbrev d7:Stmt:=top 15
abbrev j7:Stmt:=top 1
abbrev jw:Stmt:=top 7
abbrev j8:Stmt:=top 2
abbrev jx:Stmt:=top 4
abbrev j9:Stmt:=top 3
abbrev kh:Stmt:=top 6
abbrev fY:Stmt:=top 16
abbrev mK:Stmt:=top 13
abbrev mL:Stmt:=top 17
abbrev nG:Stmt:=top 18
abbrev yS:Stmt:=top 19
def fuel:Nat:=4
def wz:Ev->Option Out:=(aD (aD (setG 2 (b2 iT (b2 iz (b2 uK (gv 2) (cB (.int 69621))) (gv 3)) (cB (.int 2147483647)))) gC) (dD [3]))
def tH:Ev->Option Out:=(aD (wR (uq ltA (gv 1) (bY FW (ao (gv 0) aG))) (aD (jH (b2 jr (gv 0) (gv 1))) gC) gC) (aD (setG 2 (b2 iT (b2 uK (cB (.int 48271)) (b2 iz (b2 iz (b2 uK (gv 1) (gv 1)) (b2 uK (cB (.int 7)) (gv 1))) (cB (.int 11)))) (cB (.int 2147483647)))) (aD (rD (itF (Xh (gv 0) wU (Ax (cB (.int 3))))) (lN 3) wz) (aD (jH (gv 2)) gC))))
def fB:List Bx->Option Bx:=lH 4 tH
def nH:Ev->Option Out:=(aD (aD (setG 3 (b2 iT (b2 iz (b2 iz (b2 uK (gv 3) (b2 iz (b2 iT (gv 3) (cB (.int 65521))) (cB (.int 40487)))) (b2 uK (cB (.int 7)) (gv 5))) (cB (.int 5))) (cB (.int 1999999973)))) (aD (zT 2 (b2 jr (bY lK (ao (gv 3) (ao (b2 iT (gv 4) (cB (.int 1000000))) aG))) (bY Vf (ao (b2 gtB (gv 4) (cB (.int 0))) aG)))) (aD (setG 4 (b2 Dp (gv 4) (cB (.int 1000000)))) gC))) (dD [5]))
def nQ:Ev->Option Out:=(aD (setG 2 (bY lK aG)) (aD (setG 3 (b2 iT (b2 uK (b2 iz (b2 iT (gv 0) (cB (.int 1999999973))) (cB (.int 31))) (cB (.int 765432101))) (cB (.int 1999999973)))) (aD (setG 4 (cB (.int 0))) (aD (wR (Sg (uq ltA (gv 0) (cB (.int 0))) (uq geB (gv 0) (b2 abo (cB (.int 10)) (cB (.int 18))))) (aD (aD (setG 4 (bY Ve (ao (gv 0) aG))) gC) (dD [])) (aD gC (dD []))) (aD (rD (Kc (ao (gv 1) aG)) (lN 5) nH) (aD (Ir 2) gC))))))
def cI:List Bx->Option Bx:=lH 6 nQ
def qp:Ev->Option Out:=(aD (aD (setG 7 (b2 jr (gv 2) (b2 iT (b2 iz (gv 6) (b2 jr (gv 0) (cB (.int 2)))) (cB (.int 15))))) (aD (setG 8 (b2 iz (b2 iz (Xh (gv 3) wU (Ax (gv 4))) (gv 7)) (Xh (gv 3) (Ax (gv 4)) wU))) (aD (wR (uq eqB (b2 iT (b2 jr (gv 0) (cB (.int 3))) (cB (.int 3))) (cB (.int 1))) (aD (aD (setG 8 (b2 uK (b2 jr (gv 2) (b2 Dp (gv 6) (cB (.int 8)))) (b2 iz (cB (.int 1)) (b2 iT (gv 6) (cB (.int 8)))))) gC) (dD [])) (aD gC (dD []))) (aD (zT 5 (gv 8)) gC)))) (dD [6,7,8]))
def qW:Ev->Option Out:=(aD (setG 2 (cB (.str "abcdefghijklmnopqrstuvwxyz"))) (aD (setG 3 (b1 (KZ "") (eX (Kc (ao (b2 iT (b2 jr (gv 0) (cB (.int 0))) (cB (.int 6))) aG)) (lN 2) ur (b2 jr (gv 0) (b2 iT (b2 Dp (b2 jr (gv 1) (gv 2)) (cB (.int 40))) (cB (.int 26)))) [2,0] 1))) (aD (setG 4 (b2 iT (b2 jr (gv 0) (cB (.int 1))) (b2 iz (bY FW (ao (gv 3) aG)) (cB (.int 1))))) (aD (setG 5 (bY lK aG)) (aD (rD (Kc (ao (gv 1) aG)) (lN 6) qp) (aD (Ir 5) gC))))))
def iK:List Bx->Option Bx:=lH 9 qW
def oN:Ev->Option Out:=(aD (aD (setG 9 (cV 2 cI (ao (b1 ou (cV 2 fB (ao (gv 0) (ao (b1 ou (b2 iz (b2 iz (gv 1) (cB (.int 1))) (gv 8))) aG)))) (ao (cB (.int 4)) aG)))) (aD (Vg 10 11 (ao (b2 iT (b2 jr (gv 9) (cB (.int 0))) (bY Ds (ao (cB (.int 1)) (ao (gv 2) aG)))) (ao (b2 iT (b2 jr (gv 9) (cB (.int 1))) (bY Ds (ao (cB (.int 1)) (ao (gv 2) aG)))) aG))) (aD (setG 12 (b2 jr (bY lK (ao (b1 ou (b2 iz (cB (.int 1)) (b2 iT (b2 jr (gv 9) (cB (.int 2))) (cB (.int 3))))) (ao (b1 ou (b2 iz (cB (.int 1)) (b2 iT (b2 jr (gv 9) (cB (.int 2))) (cB (.int 9))))) (ao (b1 ou (b2 iz (cB (.int 1)) (b2 iT (b2 jr (gv 9) (cB (.int 2))) (cB (.int 1000))))) aG)))) (b2 iT (b2 jr (gv 5) (cB (.int 4))) (cB (.int 3))))) (aD (wR (uq Iz (gv 10) (gv 11)) (aD (aD (zT 7 (bY jG (ao (b2 subB (cB (.int 0)) (gv 12)) (ao (b2 jr (gv 6) (bY Od (ao (gv 10) (ao (gv 11) aG)))) (ao (b2 jr (gv 6) (bY Ds (ao (gv 10) (ao (gv 11) aG)))) (ao (b2 jr (bY lK (ao (cB (.int 0)) (ao (cB (.int 2)) (ao (cB (.int 10)) aG)))) (b2 iT (b2 jr (gv 9) (cB (.int 3))) (cB (.int 3)))) aG)))))) gC) (dD [])) (aD gC (dD []))) gC)))) (dD [8,9,10,11,12]))
def oO:Ev->Option Out:=(aD (aD (setG 9 (cV 2 cI (ao (b1 ou (cV 2 fB (ao (gv 0) (ao (b1 ou (b2 iz (b2 iz (gv 1) (cB (.int 1))) (gv 8))) aG)))) (ao (cB (.int 8)) aG)))) (aD (Vg 10 11 (ao (b2 iT (b2 jr (gv 9) (cB (.int 5))) (bY Ds (ao (cB (.int 1)) (ao (gv 2) aG)))) (ao (b2 iT (b2 jr (gv 9) (cB (.int 6))) (bY Ds (ao (cB (.int 1)) (ao (gv 2) aG)))) aG))) (aD (wR (uq Iz (gv 10) (gv 11)) (aD (aD (zT 14 (bY jG (ao (b2 jr (gv 6) (bY Od (ao (gv 10) (ao (gv 11) aG)))) (ao (b2 jr (gv 6) (bY Ds (ao (gv 10) (ao (gv 11) aG)))) (ao (b2 jr (bY lK (ao (cB (.int 2)) (ao (cB (.int 10)) aG))) (b2 iT (b2 jr (gv 9) (cB (.int 7))) (cB (.int 2)))) aG))))) gC) (dD [])) (aD gC (dD []))) gC))) (dD [8,9,10,11]))
def pI:Ev->Option Out:=(aD (setG 5 (cV 2 cI (ao (b1 ou (cV 2 fB (ao (gv 0) (ao (gv 1) aG)))) (ao (cB (.int 6)) aG)))) (aD (setG 6 (bY Ba (ao (cV 2 iK (ao (gv 5) (ao (gv 2) aG))) aG))) (aD (setG 7 (bY lK aG)) (aD (rD (Kc (ao (gv 3) aG)) (lN 8) oN) (aD (setG 13 (eX (G8 (DX (O1 (gv 7)))) (p8 4 (bV (lN 0) (bV (lN 1) (bV (lN 2) (bV (lN 3) rR))))) ur (bY jG (ao (b2 subB (cB (.int 0)) (gv 0)) (ao (gv 1) (ao (gv 2) (ao (gv 3) aG))))) [] 4)) (aD (setG 14 (bY lK aG)) (aD (rD (Kc (ao (gv 4) aG)) (lN 8) oO) (aD (jH (bY jG (ao (b1 ou (bY lM (ao (gv 6) aG))) (ao (b1 ou (bY lM (ao (gv 13) aG))) (ao (b1 ou (bY lM (ao (DX (O1 (gv 14))) aG))) aG))))) gC))))))))
def iU:List Bx->Option Bx:=lH 15 pI
def pJ:Ev->Option Out:=(aD (jH (b2 jr (eX (G8 (gv 0)) (lN 1) (uq inF (gv 0) (gv 1)) (gv 1) [1] 1) (cB (.int 0)))) gC)
def cM:List Bx->Option Bx:=lH 2 pJ
def nA:Ev->Option Out:=(aD (aD (KR (p8 2 (bV (lN 7) (bV (lN 8) rR))) (bY jG (ao (b1 ou (cV 2 cM (ao (gv 3) (ao (b2 jr (gv 6) (cB (.int 1))) aG)))) (ao (b1 ou (cV 2 cM (ao (gv 3) (ao (b2 jr (gv 6) (cB (.int 2))) aG)))) aG)))) (aD (setG 9 (eX (G8 (gv 2)) (lN 2) (Sg (Im (uq inF (b2 jr (gv 2) (cB (.int 0))) (gv 0)) (uq inF (b2 jr (gv 2) (cB (.int 1))) (gv 1))) (Im (uq inF (b2 jr (gv 2) (cB (.int 0))) (gv 1)) (uq inF (b2 jr (gv 2) (cB (.int 1))) (gv 0)))) (gv 2) [7,8] 1)) (aD (wR (Im (uq Iz (gv 7) (gv 8)) (uq Iz (gv 9) (bY lK aG))) (aD (aD (zT 5 (bY jG (ao (gv 6) (ao (b2 jr (gv 9) (cB (.int 0))) aG)))) gC) (dD [])) (aD (aD (wR (uq Iz (gv 7) (gv 8)) (aD (aD (zT 4 (gv 6)) (aD (setG 3 (b2 iz (eX (G8 (gv 3)) (lN 2) (uq Tq (gv 2) (bY lK (ao (gv 0) (ao (gv 1) aG)))) (gv 2) [7,8] 1) (bY lK (ao (b1 ou (bY lM (ao (bY Et (ao (b2 iz (gv 7) (gv 8)) aG)) aG))) aG)))) gC)) (dD [])) (aD gC (dD []))) gC) (dD []))) gC))) (dD [6,7,8,9]))
def iV:Ev->Option Out:=(aD (setG 3 (eX (G8 (gv 0)) (lN 0) ur (bY jG (ao (gv 0) aG)) [] 1)) (aD (setG 4 (bY lK aG)) (aD (setG 5 (bY lK aG)) (aD (qJ 1 (lN 6) nA) (V7 4 (V7 5 (aD (jH (bY jG (ao (b1 ou (bY oJ (ao (gv 3) aG))) (ao (gv 4) (ao (gv 5) aG))))) gC)))))))
def bR:List Bx->Option Bx:=lH 10 iV
def pK:Ev->Option Out:=(aD (jH (QZ (G8 (gv 0)) (lN 0) ur (gv 0) (gv 0) [] 1)) gC)
def gJ:List Bx->Option Bx:=lH 1 pK
def su:Ev->Option Out:=(aD (aD (wR (Sg (Im (uq eqB (b2 qj (gv 1) (b2 jr (gv 4) (cB (.int 0)))) (gv 2)) (uq eqB (b2 qj (gv 1) (b2 jr (gv 4) (cB (.int 1)))) (gv 3))) (Im (uq eqB (b2 qj (gv 1) (b2 jr (gv 4) (cB (.int 0)))) (gv 3)) (uq eqB (b2 qj (gv 1) (b2 jr (gv 4) (cB (.int 1)))) (gv 2)))) (aD (jH (gv 4)) gC) gC) gC) (dD [4]))
def nR:Ev->Option Out:=(aD (qJ 0 (lN 4) su) (aD (jH (cB .non)) gC))
def fP:List Bx->Option Bx:=lH 5 nR
def uc:Ev->Option Out:=(aD (aD (wR (Sg (uq eqB (b2 qj (gv 0) (gv 4)) (gv 1)) (uq eqB (b2 qj (gv 0) (gv 4)) (gv 2))) (aD (aD (Vj 0 (gv 3) (gv 4)) gC) (dD [])) (aD gC (dD []))) gC) (dD [4]))
def pN:Ev->Option Out:=(aD (aD (setG 3 (bY tZ (ao (gv 1) (ao (gv 2) aG)))) (aD (rD (itF (bY Ea (ao (gv 0) aG))) (lN 4) uc) gC)) (dD [3,4]))
def gK:Addr->List (Str×Dt)->List Bx->Option (List (Str×Dt)):=Ly 5 pN
def nT:Ev->Option Out:=(aD (jH (bY lM (ao (eX (Lr (gv 0)) (lN 2) (uq eqB (b2 qj (gv 1) (gv 2)) (gv 0)) (gv 2) [1,0] 1) aG))) gC)
def gU:List Bx->Option Bx:=lH 2 nT
def pP:Ev->Option Out:=(aD (jH (eX (Lr (gv 0)) (lN 1) (uq eqB (b2 qj (gv 0) (gv 1)) (gv 1)) (b1 ou (cV 2 gU (ao (gv 0) (ao (gv 1) aG)))) [0] 1)) gC)
def fK:List Bx->Option Bx:=lH 1 pP
def ud:Ev->Option Out:=(aD (aD (setG 8 (b2 qj (gv 4) (b2 jr (gv 7) (cB (.int 1))))) (aD (setG 9 (b2 qj (gv 4) (b2 jr (gv 7) (cB (.int 2))))) (aD (wR (uq Iz (gv 8) (gv 9)) (aD (aD (setG 10 (cV 4 fP (ao (gv 3) (ao (gv 4) (ao (gv 8) (ao (gv 9) aG)))))) (aD (wR (uq isB (gv 10) (cB .non)) (aD (aD (yL 4 2 gK (ao (gv 8) (ao (gv 9) aG))) (aD (zT 5 (gv 7)) gC)) (dD [])) (aD (aD (zT 6 (bY jG (ao (gv 7) (ao (gv 10) aG)))) gC) (dD []))) gC)) (dD [10])) (aD gC (dD [10]))) gC))) (dD [7,8,9,10]))
def iW:Ev->Option Out:=(aD (KR (p8 3 (bV (lN 1) (bV (lN 2) (bV (lN 3) rR)))) (gv 0)) (aD (setG 4 (cV 1 gJ (ao (gv 1) aG))) (aD (setG 5 (bY lK aG)) (aD (setG 6 (bY lK aG)) (aD (qJ 2 (lN 7) ud) (V7 5 (V7 6 (aD (jH (bY jG (ao (b1 ou (cV 1 fK (ao (gv 4) aG))) (ao (gv 5) (ao (gv 6) aG))))) gC))))))))
def bT:List Bx->Option Bx:=lH 11 iW
def pC:Ev->Option Out:=(aD (aD (wR (tV (bY anyB (ao (eX (G8 (gv 2)) (lN 2) ur (Yc (b2 inF (gv 0) (gv 2)) (b2 inF (gv 1) (gv 2))) [5,6] 1) aG))) (aD (jH (cB (.bl false))) gC) gC) gC) (dD [5,6,7]))
def pD:Ev->Option Out:=(aD (aD (setG 10 (bY lK (ao (b1 ou (cV 2 cM (ao (gv 2) (ao (b2 jr (gv 8) (cB (.int 1))) aG)))) (ao (b1 ou (cV 2 cM (ao (gv 2) (ao (b2 jr (gv 8) (cB (.int 2))) aG)))) aG)))) (aD (wR (Sg (uq Iz (bY oJ (ao (gv 10) aG)) (bY oJ (ao (bY lK (ao (b1 ou (cV 2 cM (ao (gv 2) (ao (b2 jr (gv 9) (cB (.int 0))) aG)))) (ao (b1 ou (cV 2 cM (ao (gv 2) (ao (b2 jr (gv 9) (cB (.int 1))) aG)))) aG))) aG))) (uq eqB (b2 jr (gv 10) (cB (.int 0))) (b2 jr (gv 10) (cB (.int 1))))) (aD (jH (cB (.bl false))) gC) gC) gC)) (dD [8,9,10]))
def kj:Ev->Option Out:=(aD (KR (p8 3 (bV (lN 2) (bV (lN 3) (bV (lN 4) rR)))) (gv 0)) (aD (qJ 1 (p8 3 (bV (lN 5) (bV (lN 6) (bV (lN 7) rR)))) pC) (aD (qJ 4 (p8 2 (bV (lN 8) (bV (lN 9) rR))) pD) (aD (jH (cB (.bl true))) gC))))
def dh:List Bx->Option Bx:=lH 11 kj
def u9:Ev->Option Out:=(aD (aD (setG 7 (b2 jr (eX (G8 (gv 2)) (lN 1) (uq inF (gv 0) (gv 1)) (gv 1) [4] 1) (cB (.int 0)))) (aD (setG 8 (b2 jr (eX (G8 (gv 2)) (lN 1) (uq inF (gv 0) (gv 1)) (gv 1) [5] 1) (cB (.int 0)))) (aD (wR (uq Iz (gv 7) (gv 8)) (aD (aD (setG 2 (b2 iz (eX (G8 (gv 2)) (lN 2) (uq Tq (gv 2) (bY lK (ao (gv 0) (ao (gv 1) aG)))) (gv 2) [7,8] 1) (bY lK (ao (b1 ou (bY Ba (ao (b2 iz (gv 7) (gv 8)) aG))) aG)))) gC) (dD [])) (aD gC (dD []))) gC))) (dD [3,4,5,6,7,8]))
def qX:Ev->Option Out:=(aD (setG 2 (eX (G8 (gv 0)) (lN 0) ur (b1 ou (bY lK (ao (gv 0) aG))) [] 1)) (aD (qJ 1 (p8 4 (bV (lN 3) (bV (lN 4) (bV (lN 5) (bV (lN 6) rR))))) u9) (aD (jH (bY oJ (ao (eX (G8 (gv 2)) (lN 0) ur (b1 ou (bY lM (ao (gv 0) aG))) [] 1) aG))) gC)))
def iM:List Bx->Option Bx:=lH 9 qX
def Ew:Ev->Option Out:=(aD (wR (Sg (FT (tV (G7 jM (gv 5)))) (Sg (uq Iz (gv 5) (gv 4)) (FT (tV (bY allB (ao (eX (G8 (gv 5)) (lN 0) ur (b1 ou (G7 is_list (gv 0))) [] 1) aG)))))) (aD (jH (cB (.bl false))) gC) gC) (aD (wR (FT (tV (cV 2 dh (ao (gv 5) (ao (gv 3) aG))))) (aD (jH (cB (.bl false))) gC) gC) (aD (setG 6 (cV 1 bT (ao (bY jG (ao (gv 1) (ao (gv 2) (ao (bY jG aG) aG)))) aG))) (aD (wR (uq Iz (gv 6) (bY jG (ao (b1 ou (cV 2 iM (ao (gv 1) (ao (gv 2) aG)))) (ao (b2 jr (cV 3 bR (ao (gv 1) (ao (gv 2) (ao (bY jG aG) aG)))) (cB (.int 1))) (ao (b1 ou (bY lK aG)) aG))))) (aD (jH (cB (.bl false))) gC) gC) (aD (jH (b2 eqB (cV 1 bT (ao (gv 0) aG)) (gv 4))) gC)))))
def vA:Ev->Option Out:=(aD (wR (Sg (FT (tV (G7 jM (gv 5)))) (Sg (uq Iz (gv 5) (gv 4)) (FT (tV (bY allB (ao (eX (G8 (gv 5)) (lN 0) ur (b1 ou (G7 is_list (gv 0))) [] 1) aG)))))) (aD (jH (cB (.bl false))) gC) gC) (aD (wR (FT (tV (cV 2 dh (ao (gv 5) (ao (gv 3) aG))))) (aD (jH (cB (.bl false))) gC) gC) (aD (setG 6 (cV 1 bT (ao (bY jG (ao (gv 1) (ao (gv 2) (ao (bY jG aG) aG)))) aG))) (aD (wR (uq Iz (gv 6) (bY jG (ao (b1 ou (cV 2 iM (ao (gv 1) (ao (gv 2) aG)))) (ao (b2 jr (cV 3 bR (ao (gv 1) (ao (gv 2) (ao (bY jG aG) aG)))) (cB (.int 1))) (ao (b1 ou (bY lK aG)) aG))))) (aD (jH (cB (.bl false))) gC) gC) gC))))
def Ey:Ev->Option Bx:=(b2 eqB (cV 1 bT (ao (gv 0) aG)) (gv 4))
def qY:Ev->Option Out:=(aD (KR (p8 3 (bV (lN 1) (bV (lN 2) (bV (lN 3) rR)))) (gv 0)) (aD (setG 4 (cV 3 bR (ao (gv 1) (ao (gv 2) (ao (gv 3) aG))))) (W0 5 [5,6] (cV 1 bT (ao (gv 0) aG)) vA Ey)))
def iQ:List Bx->Option Bx:=lH 7 qY
def wA:Ev->Option Out:=(aD (aD (Vg 7 8 (ao (b2 jr (gv 4) (gv 6)) (ao (b2 jr (gv 4) (b2 iT (b2 iz (gv 6) (cB (.int 1))) (cB (.int 30)))) aG))) (aD (setG 9 (b2 jr (bY lK (ao (cB (.int 5)) (ao (b2 subB (cB (.int 1000)) (gv 6)) (ao (b1 ou (b2 iz (cB (.int 1)) (gv 6))) (ao (b1 ou (b2 iz (cB (.int 1)) (b2 iT (b2 uK (gv 6) (gv 6)) (cB (.int 9))))) aG))))) (b2 iT (gv 2) (cB (.int 4))))) (aD (zT 5 (bY jG (ao (b2 subB (cB (.int 0)) (gv 9)) (ao (b1 ou (bY tZ (ao (gv 7) (ao (gv 8) aG)))) (ao (b1 ou (bY Hr (ao (gv 7) (ao (gv 8) aG)))) (ao (b2 iT (gv 6) (cB (.int 3))) aG)))))) gC))) (dD [6,7,8,9]))
def wB:Ev->Option Out:=(aD (aD (zT 10 (bY jG (ao (b1 ou (bY tZ (ao (b2 jr (gv 4) (gv 6)) (ao (b2 jr (gv 4) (gv 11)) aG)))) (ao (b1 ou (bY Hr (ao (b2 jr (gv 4) (gv 6)) (ao (b2 jr (gv 4) (gv 11)) aG)))) (ao (b1 ou (b2 iz (cB (.int 2)) (gv 6))) aG))))) gC) (dD [6,11]))
def tK:Ev->Option Out:=(aD (setG 3 (eX (Kc (ao (cB (.int 30)) aG)) (lN 0) ur (b2 uK (b2 jr (cB (.str "abcd")) (b2 Dp (gv 0) (cB (.int 8)))) (b2 iz (cB (.int 1)) (b2 iT (gv 0) (cB (.int 8))))) [] 1)) (aD (setG 4 (eX (Kc (ao (cB (.int 30)) aG)) (lN 2) ur (b2 jr (gv 0) (b2 iT (b2 iz (b2 uK (cB (.int 7)) (gv 2)) (gv 1)) (cB (.int 30)))) [3,1] 1)) (aD (setG 5 (bY lK aG)) (aD (rD (Kc (ao (b2 iz (cB (.int 29)) (b2 iT (gv 0) (cB (.int 2)))) aG)) (lN 6) wA) (aD (setG 10 (bY lK aG)) (aD (rD (itF (Xh (bY lK (ao (bY jG (ao (cB (.int 0)) (ao (cB (.int 29)) aG))) (ao (bY jG (ao (cB (.int 3)) (ao (cB (.int 11)) aG))) (ao (bY jG (ao (cB (.int 20)) (ao (cB (.int 27)) aG))) aG)))) wU (Ax (b2 iT (b2 Dp (gv 0) (cB (.int 2))) (cB (.int 4)))))) (p8 2 (bV (lN 6) (bV (lN 11) rR))) wB) (aD (setG 12 (bY lM (ao (eX (G8 (bY oJ (ao (gv 5) aG))) (p8 4 (bV (lN 0) (bV (lN 1) (bV (lN 2) (bV (lN 3) rR))))) ur (bY jG (ao (b2 subB (cB (.int 0)) (gv 0)) (ao (gv 1) (ao (gv 2) (ao (gv 3) aG))))) [] 4) aG))) (aD (jH (bY jG (ao (b1 ou (bY lM (ao (bY Ba (ao (gv 3) aG)) aG))) (ao (gv 12) (ao (b1 ou (bY lM (ao (bY oJ (ao (gv 10) aG)) aG))) aG))))) gC))))))))
def mF:List Bx->Option Bx:=lH 13 tK
def Ml:Ev->Option Out:=(aD (aD (setG 2 (cV 2 cI (ao (b1 ou (cV 2 fB (ao (gv 0) (ao (gv 1) aG)))) (ao (cB (.int 9)) aG)))) (aD (wR (FT (tV (cV 1 iQ (ao (b1 ou (cV 5 iU (ao (gv 0) (ao (gv 1) (ao (b2 iT (b2 jr (gv 2) (cB (.int 6))) (cB (.int 10))) (ao (b2 iT (b2 jr (gv 2) (cB (.int 7))) (cB (.int 15))) (ao (b2 iT (b2 jr (gv 2) (cB (.int 8))) (cB (.int 7))) aG))))))) aG)))) (aD (jH (cB (.bl false))) gC) gC) gC)) (dD [1,2]))
def Rp:Ev->Option Out:=(aD (rD (Kc (ao (bY Ds (ao (cB (.int 1)) (ao (bY Od (ao (bY FW (ao (gv 0) aG)) (ao (cB (.int 4)) aG))) aG))) aG)) (lN 1) Ml) (aD (setG 2 (Xh (cV 2 cI (ao (b1 ou (cV 2 fB (ao (gv 0) (ao (cB (.int 0)) aG)))) (ao (cB (.int 13)) aG))) (Ax (cB (.int 9))) wU)) (aD (jH (orV (b2 Iz (b2 iT (b2 jr (gv 2) (cB (.int 0))) (cB (.int 8))) (cB (.int 3))) (cV 1 iQ (ao (b1 ou (cV 3 mF (ao (b2 jr (gv 2) (cB (.int 1))) (ao (b2 jr (gv 2) (cB (.int 2))) (ao (b2 jr (gv 2) (cB (.int 3))) aG))))) aG)))) gC)))
def qZ:List Bx->Option Bx:=lH 3 Rp
end
end G24
end
section
set_option synthInstance.maxSize 100000
namespace G24
open PySem PySem.Spec PyProof.Rows L2 P1
structure T (K:PySem.W.Frag) (mg:Str->Option Value) (jO:Addr) (jP:FuncData) (fQ:Addr) (gn:FuncData) (jQ:Addr) (kE:FuncData) (iY:Addr) (jy:FuncData) (gM:Addr) (gW:FuncData) (cZ:Addr) (dM:FuncData) (gO:Addr) (gY:FuncData) (fU:Addr) (gq:FuncData) (gP:Addr) (gZ:FuncData) (g8:Addr) (iD:FuncData) (gQ:Addr) (ig:FuncData) (fL:Addr) (fV:FuncData) (d8:Addr) (eZ:FuncData) (jR:Addr) (kI:FuncData) (jT:Addr) (kJ:FuncData) (mG:Addr) (mO:FuncData) (Hw:Addr) (Ez:FuncData):Prop where
 fB:zM K "_law_cell" "_law_cell" nF jO jP
 qt:Binds K jP ["_law_script", "_law_k"] []
 qu:mg "_law_cell" = some (.ref jO)
 qw:PySem.W.keepIn K (.ref jO)=true
 cI:zM K "_law_numbers" "_law_numbers" ju fQ gn
 lV:Binds K gn ["_law_cell_here", "_law_many"] []
 lW:mg "_law_numbers" = some (.ref fQ)
 lX:PySem.W.keepIn K (.ref fQ)=true
 iK:zM K "_law_names" "_law_names" mJ jQ kE
 Mp:Binds K kE ["_law_xs", "_law_many"] []
 Mq:mg "_law_names" = some (.ref jQ)
 Mr:PySem.W.keepIn K (.ref jQ)=true
 iU:zM K "_law_ground" "_law_ground" j5 iY jy
 JF:Binds K jy ["_law_script", "_law_at", "_law_many", "_law_reasons", "_law_bars"] []
 JG:mg "_law_ground" = some (.ref iY)
 JH:PySem.W.keepIn K (.ref iY)=true
 cM:zM K "_law_set_of" "_law_set_of" j6 gM gW
 kO:Binds K gW ["_law_sets", "_law_name"] []
 kW:mg "_law_set_of" = some (.ref gM)
 kY:PySem.W.keepIn K (.ref gM)=true
 bR:zM K "_law_gone_through" "_law_gone_through" d7 cZ dM
 qx:Binds K dM ["_law_names_here", "_law_reasons", "_law_bars"] []
 qy:mg "_law_gone_through" = some (.ref cZ)
 qz:PySem.W.keepIn K (.ref cZ)=true
 gJ:zM K "lone_heads" "lone_heads" j7 gO gY
 yU:Binds K gY ["names"] []
 yV:mg "lone_heads" = some (.ref gO)
 yW:PySem.W.keepIn K (.ref gO)=true
 fP:zM K "bar_between" "bar_between" jw fU gq
 wC:Binds K gq ["bars", "heads", "one", "other"] []
 wD:mg "bar_between" = some (.ref fU)
 wF:PySem.W.keepIn K (.ref fU)=true
 gK:zM K "join_heads" "join_heads" j8 gP gZ
 yX:Binds K gZ ["heads", "one", "other"] []
 yZ:mg "join_heads" = some (.ref gP)
 za:PySem.W.keepIn K (.ref gP)=true
 gU:zM K "names_under" "names_under" jx g8 iD
 Gf:Binds K iD ["heads", "head"] []
 Gg:mg "names_under" = some (.ref g8)
 Gh:PySem.W.keepIn K (.ref g8)=true
 fK:zM K "sets_under" "sets_under" j9 gQ ig
 zc:Binds K ig ["heads"] []
 zf:mg "sets_under" = some (.ref gQ)
 zj:PySem.W.keepIn K (.ref gQ)=true
 bT:zM K "joining_of" "joining_of" kh fL fV
 tL:Binds K fV ["ground"] []
 tO:mg "joining_of" = some (.ref fL)
 tQ:PySem.W.keepIn K (.ref fL)=true
 dh:zM K "_law_keeps_bars" "_law_keeps_bars" fY d8 eZ
 Aa:Binds K eZ ["_law_found", "_law_bars"] []
 Ab:mg "_law_keeps_bars" = some (.ref d8)
 Ad:PySem.W.keepIn K (.ref d8)=true
 iM:zM K "_law_parts" "_law_parts" mK jR kI
 Ms:Binds K kI ["_law_names_here", "_law_reasons"] []
 Mt:mg "_law_parts" = some (.ref jR)
 Mu:PySem.W.keepIn K (.ref jR)=true
 iQ:zM K "_law_right" "_law_right" mL jT kJ
 Bk:Binds K kJ ["_law_ground_here"] []
 Bl:mg "_law_right" = some (.ref jT)
 Bm:PySem.W.keepIn K (.ref jT)=true
 mF:zM K "_law_long" "_law_long" nG mG mO
 Pr:Binds K mO ["_law_x", "_law_turn", "_law_weigh"] []
 Pu:mg "_law_long" = some (.ref mG)
 Px:PySem.W.keepIn K (.ref mG)=true
 qZ:zM K "law" "law" yS Hw Ez
 aio:Binds K Ez ["_law_script"] []
 aip:mg "law" = some (.ref Hw)
 aiq:PySem.W.keepIn K (.ref Hw)=true
 Mv:mg "abs" = none
 Mw:mg "all" = none
 Mx:mg "any" = none
 Mz:mg "int" = none
 kZ:mg "isinstance" = none
 EY:mg "len" = none
 Ae:mg "list" = none
 sy:mg "max" = none
 wG:mg "min" = none
 lg:mg "range" = none
 Hx:mg "set" = none
 fG:mg "sorted" = none
 jF:mg "tuple" = none
section
variable {P:Program} {w:World} {K:PySem.W.Frag} {mg:Str->Option Value} {base:Heap} {jO:Addr} {jP:FuncData} {fQ:Addr} {gn:FuncData} {jQ:Addr} {kE:FuncData} {iY:Addr} {jy:FuncData} {gM:Addr} {gW:FuncData} {cZ:Addr} {dM:FuncData} {gO:Addr} {gY:FuncData} {fU:Addr} {gq:FuncData} {gP:Addr} {gZ:FuncData} {g8:Addr} {iD:FuncData} {gQ:Addr} {ig:FuncData} {fL:Addr} {fV:FuncData} {d8:Addr} {eZ:FuncData} {jR:Addr} {kI:FuncData} {jT:Addr} {kJ:FuncData} {mG:Addr} {mO:FuncData} {Hw:Addr} {Ez:FuncData} (t:T K mg jO jP fQ gn jQ kE iY jy gM gW cZ dM gO gY fU gq gP gZ g8 iD gQ ig fL fV d8 eZ jR kI jT kJ mG mO Hw Ez)
theorem Bo:cQ ["_law_script", "_law_k", "_law_state", "_law_cell_here"] ["_law_script", "_law_k"] (aJ nF):=uU
include t in
theorem MF:cU P w K mg base mR 1 jO jP ["_law_script", "_law_k"] (qK K 2 fB):=by
 unfold fB
 refine vR (k:=0) (g:=tH) t.fB Bo rfl rfl fun cdv A outer s H E hr=>?_
 have hu:=gB hr
 have nd:=Bo.nd
 exact (aA (nY (cG Vh (ak 1) (bG Oc rfl t.EY Ob (aj (ak 0) au)) (dF _)) (aA (jA (bx (ak 0) (ak 1))) aU) aU) (aA (bA 2 nd (aV cH (aV qg aC (aV dj (aV dj (aV qg (ak 1) (ak 1)) (aV qg aC (ak 1))) aC)) aC)) (aA (sS PassesOwn.never rfl (Iv (KQ (ak 0) uL (uM aC))) (aO 3 nd) (aW [3] (aA (bA 2 nd (aV cH (aV dj (aV qg (ak 2) aC) (ak 3)) aC)) aU))) (aA (jA (ak 2)) aU))))
theorem vB:cQ ["_law_cell_here", "_law_many", "_law_found", "_law_state", "_law_digits", "_law_k"] ["_law_cell_here", "_law_many"] (aJ ju):=uU
include t in
theorem Fb:cU P w K mg base mR 1 fQ gn ["_law_cell_here", "_law_many"] (qK K 2 cI):=by
 unfold cI
 refine vR (k:=0) (g:=nQ) t.cI vB rfl rfl fun cdv A outer s H E hr=>?_
 have hu:=gB hr
 have nd:=vB.nd
 exact (aA (bA 2 nd (dZ au)) (aA (bA 3 nd (aV cH (aV qg (aV dj (aV cH (ak 0) aC) aC) aC) aC)) (aA (bA 4 nd aC) (aA (nY (Dc (wQ (cG Vh (ak 0) aC (dF _)) (vK (cG adJ (ak 0) (aV abp aC aC) (dF _))))) (aW [] (aA (bA 4 nd (bG abz rfl t.Mv abu (aj (ak 0) au))) aU)) (aW [] aU)) (aA (sS PassesOwn.never rfl (mY rfl t.lg (aj (ak 1) au)) (aO 5 nd) (aW [5] (aA (bA 3 nd (aV cH (aV dj (aV dj (aV qg (ak 3) (aV dj (aV cH (ak 3) aC) aC)) (aV qg aC (ak 5))) aC) aC)) (aA (oG 2 (bx (dZ (aj (ak 3) (aj (aV cH (ak 4) aC) au))) (iy abA rfl t.Mz abt (aj (CT adI (ak 4) aC (dF _)) au)))) (aA (bA 4 nd (aV yj (ak 4) aC)) aU))))) (aA (Qt 2) aU))))))
theorem zm:cQ ["_law_xs", "_law_many", "_law_letters", "_law_stem", "_law_at", "_law_found", "_law_k", "_law_mark", "_law_name"] ["_law_xs", "_law_many"] (aJ mJ):=uU
include t in
theorem JK:cU P w K mg base mR 1 jQ kE ["_law_xs", "_law_many"] (qK K 2 iK):=by
 unfold iK
 refine vR (k:=0) (g:=qW) t.iK zm rfl rfl fun cdv A outer s H E hr=>?_
 have hu:=gB hr
 have nd:=zm.nd
 exact (aA (bA 2 nd Oi) (aA (bA 3 nd (Yv (mZ ["_law_k"] (tu ["_law_letters", "_law_xs"] [2,0]) rfl (NT (mY rfl t.lg (aj (aV cH (bx (ak 0) aC) aC) au))) (fun _ _ _ _=>(aO 2 (by show List.Nodup (_++_);decide +kernel))) (fun _ _ _ _=>gk) (fun _ _ _ _=>(bx (ak 0) (aV cH (aV yj (bx (ak 1) (ak 2)) aC) aC))) (cW)))) (aA (bA 4 nd (aV cH (bx (ak 0) aC) (aV dj (bG Oc rfl t.EY Ob (aj (ak 3) au)) aC))) (aA (bA 5 nd (dZ au)) (aA (sS PassesOwn.never rfl (mY rfl t.lg (aj (ak 1) au)) (aO 6 nd) (aW [6,7,8] (aA (bA 7 nd (bx (ak 2) (aV cH (aV dj (ak 6) (bx (ak 0) aC)) aC))) (aA (bA 8 nd (aV dj (aV dj (KQ (ak 3) uL (uM (ak 4))) (ak 7)) (KQ (ak 3) (uM (ak 4)) uL))) (aA (nY (cG (of_eq hu) (aV cH (bx (ak 0) aC) aC) aC (dF _)) (aW [] (aA (bA 8 nd (aV qg (bx (ak 2) (aV yj (ak 6) aC)) (aV dj aC (aV cH (ak 6) aC)))) aU)) (aW [] aU)) (aA (oG 5 (ak 8)) aU)))))) (aA (Qt 5) aU))))))
theorem wH:cQ ["_law_script", "_law_at", "_law_many", "_law_reasons", "_law_bars", "_law_head", "_law_names_here", "_law_told", "_law_k", "_law_xs", "_law_a", "_law_b", "_law_weight", "_law_found", "_law_shut"] ["_law_script", "_law_at", "_law_many", "_law_reasons", "_law_bars"] (aJ j5):=uU
include t in
theorem Gi (iZ:cU P w K mg base mR 1 jO jP ["_law_script", "_law_k"] (qK K 2 fB)) (vC:cU P w K mg base mR 1 jQ kE ["_law_xs", "_law_many"] (qK K 2 iK)) (d9:cU P w K mg base mR 1 fQ gn ["_law_cell_here", "_law_many"] (qK K 2 cI)):cU P w K mg base mR 2 iY jy ["_law_script", "_law_at", "_law_many", "_law_reasons", "_law_bars"] (qK K 5 iU):=by
 unfold iU
 refine vR (k:=1) (g:=pI) t.iU wH rfl rfl fun cdv A outer s H E hr=>?_
 have hu:=gB hr
 have nd:=wH.nd
 exact (aA (bA 5 nd (bO d9 (hr.mono (by decide)) rfl t.lW t.lX t.lV (aj (dB (bO iZ (hr.mono (by decide)) rfl t.qu t.qw t.qt (aj (ak 0) (aj (ak 1) au)))) (aj aC au)))) (aA (bA 6 nd (bG zU rfl t.fG jt (aj (bO vC (hr.mono (by decide)) rfl t.Mq t.Mr t.Mp (aj (ak 5) (aj (ak 2) au))) au))) (aA (bA 7 nd (dZ au)) (aA (sS PassesOwn.never rfl (mY rfl t.lg (aj (ak 3) au)) (aO 8 nd) (aW [8,9,10,11,12] (aA (bA 9 nd (bO d9 (hr.mono (by decide)) rfl t.lW t.lX t.lV (aj (dB (bO iZ (hr.mono (by decide)) rfl t.qu t.qw t.qt (aj (ak 0) (aj (dB (aV dj (aV dj (ak 1) aC) (ak 8))) au)))) (aj aC au)))) (aA (NK 10 11 rfl nd (aj (aV cH (bx (ak 9) aC) (bG (wW rfl) rfl t.sy sW (aj aC (aj (ak 2) au)))) (aj (aV cH (bx (ak 9) aC) (bG (wW rfl) rfl t.sy sW (aj aC (aj (ak 2) au)))) au))) (aA (bA 12 nd (bx (dZ (aj (dB (aV dj aC (aV cH (bx (ak 9) aC) aC))) (aj (dB (aV dj aC (aV cH (bx (ak 9) aC) aC))) (aj (dB (aV dj aC (aV cH (bx (ak 9) aC) aC))) au)))) (aV cH (bx (ak 5) aC) aC))) (aA (nY (cG (tY hu) (ak 10) (ak 11) (dF _)) (aW [] (aA (oG 7 (gj (aj (aV Dq aC (ak 12)) (aj (bx (ak 6) (bG (Oe rfl) rfl t.wG zR (aj (ak 10) (aj (ak 11) au)))) (aj (bx (ak 6) (bG (wW rfl) rfl t.sy sW (aj (ak 10) (aj (ak 11) au)))) (aj (bx (dZ (aj aC (aj aC (aj aC au)))) (aV cH (bx (ak 9) aC) aC)) au)))))) aU)) (aW [] aU)) aU)))))) (aA (yg 13 ["_law_weight", "_law_a", "_law_b", "_law_k"] (tu [] []) rfl nd (jD (QX rfl rfl t.fG (QW rfl hu rfl t.Hx (ak 7)))) (fun _ _ _ _=>(qb rfl (bB (aO 0 (by show List.Nodup (_++_);decide +kernel)) (bB (aO 1 (by show List.Nodup (_++_);decide +kernel)) (bB (aO 2 (by show List.Nodup (_++_);decide +kernel)) (bB (aO 3 (by show List.Nodup (_++_);decide +kernel)) mX)))))) (fun _ _ _ _=>gk) (fun _ _ _ _=>(gj (aj (aV Dq aC (ak 0)) (aj (ak 1) (aj (ak 2) (aj (ak 3) au)))))) (U8 (nZ (cW) (nZ (cW) (nZ (cW) (nZ (cW) Qv)))))) (aA (bA 14 nd (dZ au)) (aA (sS PassesOwn.never rfl (mY rfl t.lg (aj (ak 4) au)) (aO 8 nd) (aW [8,9,10,11] (aA (bA 9 nd (bO d9 (hr.mono (by decide)) rfl t.lW t.lX t.lV (aj (dB (bO iZ (hr.mono (by decide)) rfl t.qu t.qw t.qt (aj (ak 0) (aj (dB (aV dj (aV dj (ak 1) aC) (ak 8))) au)))) (aj aC au)))) (aA (NK 10 11 rfl nd (aj (aV cH (bx (ak 9) aC) (bG (wW rfl) rfl t.sy sW (aj aC (aj (ak 2) au)))) (aj (aV cH (bx (ak 9) aC) (bG (wW rfl) rfl t.sy sW (aj aC (aj (ak 2) au)))) au))) (aA (nY (cG (tY hu) (ak 10) (ak 11) (dF _)) (aW [] (aA (oG 14 (gj (aj (bx (ak 6) (bG (Oe rfl) rfl t.wG zR (aj (ak 10) (aj (ak 11) au)))) (aj (bx (ak 6) (bG (wW rfl) rfl t.sy sW (aj (ak 10) (aj (ak 11) au)))) (aj (bx (dZ (aj aC (aj aC au))) (aV cH (bx (ak 9) aC) aC)) au))))) aU)) (aW [] aU)) aU))))) (aA (jA (gj (aj (dB (iy m5 rfl t.jF lR (aj (ak 6) au))) (aj (dB (iy m5 rfl t.jF lR (aj (ak 13) au))) (aj (dB (iy m5 rfl t.jF lR (aj (QX rfl rfl t.fG (QW rfl hu rfl t.Hx (ak 14))) au))) au))))) aU))))))))
theorem wI:cQ ["_law_sets", "_law_name"] ["_law_sets", "_law_name"] (aJ j6):=uU
include t in
theorem Gj:cU P w K mg base mR 1 gM gW ["_law_sets", "_law_name"] (qK K 2 cM):=by
 unfold cM
 refine vR (k:=0) (g:=pJ) t.cM wI rfl rfl fun cdv A outer s H E hr=>?_
 have hu:=gB hr
 have nd:=wI.nd
 exact (aA (jA (bx (mZ ["_law_some"] (tu ["_law_name"] [1]) rfl (jD (ak 0)) (fun _ _ _ _=>(aO 1 (by show List.Nodup (_++_);decide +kernel))) (fun _ _ _ _=>(jN (cG yt (ak 0) (ak 1) (by with_unfolding_all rfl)))) (fun _ _ _ _=>(ak 1)) (cW)) aC)) aU)
theorem pF:cQ ["_law_names_here", "_law_reasons", "_law_bars", "_law_sets", "_law_kept", "_law_barred", "_law_reason", "_law_one", "_law_other", "_law_between"] ["_law_names_here", "_law_reasons", "_law_bars"] (aJ d7):=uU
include t in
theorem vU (eF:cU P w K mg base mR 1 gM gW ["_law_sets", "_law_name"] (qK K 2 cM)):cU P w K mg base mR 2 cZ dM ["_law_names_here", "_law_reasons", "_law_bars"] (qK K 3 bR):=by
 unfold bR
 refine vR (k:=1) (g:=iV) t.bR pF rfl rfl fun cdv A outer s H E hr=>?_
 have hu:=gB hr
 have nd:=pF.nd
 exact (aA (yg 3 ["_law_name"] (tu [] []) rfl nd (jD (ak 0)) (fun _ _ _ _=>(aO 0 (by show List.Nodup (_++_);decide +kernel))) (fun _ _ _ _=>gk) (fun _ _ _ _=>(gj (aj (ak 0) au))) (cW)) (aA (bA 4 nd (dZ au)) (aA (bA 5 nd (dZ au)) (aA (sU 1 PassesOwn.never rfl (aO 6 nd) (aW [6,7,8,9] (aA (Dj (gj (aj (dB (bO eF (hr.mono (by decide)) rfl t.kW t.kY t.kO (aj (ak 3) (aj (bx (ak 6) aC) au)))) (aj (dB (bO eF (hr.mono (by decide)) rfl t.kW t.kY t.kO (aj (ak 3) (aj (bx (ak 6) aC) au)))) au))) (qb rfl (bB (aO 7 nd) (bB (aO 8 nd) mX)))) (aA (yg 9 ["_law_bar"] (tu ["_law_one", "_law_other"] [7,8]) rfl nd (jD (ak 2)) (fun _ _ _ _=>(aO 2 (by show List.Nodup (_++_);decide +kernel))) (fun _ _ _ _=>(jN (Dc (wQ (Dc (xY (cG yt (bx (ak 2) aC) (ak 0) (by with_unfolding_all rfl)) (uF (cG yt (bx (ak 2) aC) (ak 1) (by with_unfolding_all rfl))))) (vK (Dc (xY (cG yt (bx (ak 2) aC) (ak 1) (by with_unfolding_all rfl)) (uF (cG yt (bx (ak 2) aC) (ak 0) (by with_unfolding_all rfl)))))))))) (fun _ _ _ _=>(ak 2)) (cW)) (aA (nY (Dc (xY (cG (tY hu) (ak 7) (ak 8) (dF _)) (uF (cG (tY hu) (ak 9) (dZ au) (dF _))))) (aW [] (aA (oG 5 (gj (aj (ak 6) (aj (bx (ak 9) aC) au)))) aU)) (aW [] (aA (nY (cG (tY hu) (ak 7) (ak 8) (dF _)) (aW [] (aA (oG 4 (ak 6)) (aA (bA 3 nd (aV dj (mZ ["_law_some"] (tu ["_law_one", "_law_other"] [7,8]) rfl (jD (ak 3)) (fun _ _ _ _=>(aO 2 (by show List.Nodup (_++_);decide +kernel))) (fun _ _ _ _=>(jN (cG (Q9 hu) (ak 2) (dZ (aj (ak 0) (aj (ak 1) au))) (by with_unfolding_all rfl)))) (fun _ _ _ _=>(ak 2)) (cW)) (dZ (aj (dB (iy m5 rfl t.jF lR (aj (bG WM rfl t.fG jt (aj (aV dj (ak 7) (ak 8)) au)) au))) au)))) aU))) (aW [] aU)) aU))) aU))))) (Jq (i:=4) (Jq (i:=5) (aA (jA (gj (aj (dB (bG rW rfl t.fG jt (aj (ak 3) au))) (aj (ak 4) (aj (ak 5) au))))) aU)))))))
theorem wJ:cQ ["names"] ["names"] (aJ j7):=uU
include t in
theorem Gk:cU P w K mg base mR 1 gO gY ["names"] (qK K 1 gJ):=by
 unfold gJ
 refine vR (k:=0) (g:=pK) t.gJ wJ rfl rfl fun cdv A outer s H E hr=>?_
 have hu:=gB hr
 have nd:=wJ.nd
 exact (aA (jA (VR hu ["name"] (tu [] []) rfl (jD (ak 0)) (fun _ _ _ _=>(aO 0 (by show List.Nodup (_++_);decide +kernel))) (fun _ _ _ _=>gk) (fun _ _ _ _=>(ak 0)) (fun _ _ _ _=>(ak 0)) (cW))) aU)
theorem vD:cQ ["bars", "heads", "one", "other", "bar"] ["bars", "heads", "one", "other"] (aJ jw):=uU
include t in
theorem Fd:cU P w K mg base mR 1 fU gq ["bars", "heads", "one", "other"] (qK K 4 fP):=by
 unfold fP
 refine vR (k:=0) (g:=nR) t.fP vD rfl rfl fun cdv A outer s H E hr=>?_
 have hu:=gB hr
 have nd:=vD.nd
 exact (aA (sU 0 PassesOwn.never rfl (aO 4 nd) (aW [4] (aA (nY (Dc (wQ (Dc (xY (cG (of_eq hu) (mC hu (ak 1) (bx (ak 4) aC)) (ak 2) (dF _)) (uF (cG (of_eq hu) (mC hu (ak 1) (bx (ak 4) aC)) (ak 3) (dF _))))) (vK (Dc (xY (cG (of_eq hu) (mC hu (ak 1) (bx (ak 4) aC)) (ak 3) (dF _)) (uF (cG (of_eq hu) (mC hu (ak 1) (bx (ak 4) aC)) (ak 2) (dF _)))))))) (aA (jA (ak 4)) aU) aU) aU))) (aA (jA Il) aU))
theorem wK:cQ ["heads", "one", "other", "head", "name"] ["heads", "one", "other"] (aJ j8):=uU
include t in
theorem Gm:cU P w K mg base mR 1 gP gZ ["heads", "one", "other"] (spM K 2 gK):=by
 unfold gK
 refine af9 (k:=0) (g:=pN) t.gK wK rfl rfl fun cdv A outer s H E hr=>?_
 have hu:=gB hr
 have nd:=wK.nd
 exact (aW [3,4] (aA (bA 3 nd (bG (Jp rfl) rfl t.wG zR (aj (ak 1) (aj (ak 2) au)))) (aA (sS PassesOwn.never rfl (Iv (iy (V2 rfl) rfl t.Ae Qy (aj (ak 0) au))) (aO 4 nd) (aW [4] (aA (nY (Dc (wQ (cG (of_eq hu) (mC hu (ak 0) (ak 4)) (ak 1) (dF _)) (vK (cG (of_eq hu) (mC hu (ak 0) (ak 4)) (ak 2) (dF _))))) (aW [] (aA (Yw 0 hu (ak 3) (ak 4)) aU)) (aW [] aU)) aU))) aU)))
theorem vG:cQ ["heads", "head"] ["heads", "head"] (aJ jx):=uU
include t in
theorem Fe:cU P w K mg base mR 1 g8 iD ["heads", "head"] (qK K 2 gU):=by
 unfold gU
 refine vR (k:=0) (g:=nT) t.gU vG rfl rfl fun cdv A outer s H E hr=>?_
 have hu:=gB hr
 have nd:=vG.nd
 exact (aA (jA (iy m5 rfl t.jF lR (aj (Ls ["name"] (tu ["head", "heads"] [1,0]) rfl (ak 0) (fun _ _ _ _=>(aO 2 (by show List.Nodup (_++_);decide +kernel))) (fun _ _ _ _=>(jN (cG (of_eq hu) (mC hu (ak 1) (ak 2)) (ak 0) (dF _)))) (fun _ _ _ _=>(ak 2)) (cW)) au))) aU)
theorem wL:cQ ["heads"] ["heads"] (aJ j9):=uU
include t in
theorem Gn (rH:cU P w K mg base mR 1 g8 iD ["heads", "head"] (qK K 2 gU)):cU P w K mg base mR 2 gQ ig ["heads"] (qK K 1 fK):=by
 unfold fK
 refine vR (k:=1) (g:=pP) t.fK wL rfl rfl fun cdv A outer s H E hr=>?_
 have hu:=gB hr
 have nd:=wL.nd
 exact (aA (jA (Ls ["name"] (tu ["heads"] [0]) rfl (ak 0) (fun _ _ _ _=>(aO 1 (by show List.Nodup (_++_);decide +kernel))) (fun _ _ _ _=>(jN (cG (of_eq hu) (mC hu (ak 0) (ak 1)) (ak 1) (dF _)))) (fun _ _ _ _=>(dB (bO rH (hr.mono (by decide)) rfl t.Gg t.Gh t.Gf (aj (ak 0) (aj (ak 1) au))))) (cW))) aU)
theorem nU:cQ ["ground", "names", "reasons", "bars", "heads", "kept", "barred", "reason", "one", "other", "bar"] ["ground"] (aJ kh):=uU
include t in
theorem Gp (jz:cU P w K mg base mR 1 fU gq ["bars", "heads", "one", "other"] (qK K 4 fP)) (lq:cU P w K mg base mR 1 gP gZ ["heads", "one", "other"] (spM K 2 gK)) (lu:cU P w K mg base mR 1 gO gY ["names"] (qK K 1 gJ)) (lA:cU P w K mg base mR 2 gQ ig ["heads"] (qK K 1 fK)):cU P w K mg base mR 3 fL fV ["ground"] (qK K 1 bT):=by
 unfold bT
 refine vR (k:=2) (g:=iW) t.bT nU rfl rfl fun cdv A outer s H E hr=>?_
 have hu:=gB hr
 have nd:=nU.nd
 exact (aA (Dj (ak 0) (qb rfl (bB (aO 1 nd) (bB (aO 2 nd) (bB (aO 3 nd) mX))))) (aA (bA 4 nd (bO lu (hr.mono (by decide)) rfl t.yV t.yW t.yU (aj (ak 1) au))) (aA (bA 5 nd (dZ au)) (aA (bA 6 nd (dZ au)) (aA (sU 2 PassesOwn.never rfl (aO 7 nd) (aW [7,8,9,10] (aA (bA 8 nd (mC hu (ak 4) (bx (ak 7) aC))) (aA (bA 9 nd (mC hu (ak 4) (bx (ak 7) aC))) (aA (nY (cG (tY hu) (ak 8) (ak 9) (dF _)) (aW [10] (aA (bA 10 nd (bO jz (hr.mono (by decide)) rfl t.wD t.wF t.wC (aj (ak 3) (aj (ak 4) (aj (ak 8) (aj (ak 9) au)))))) (aA (nY (cG of_is (ak 10) Il (dF _)) (aW [] (aA (Q8 4 lq (hr.mono (by decide)) rfl t.yZ t.za t.yX (aj (ak 8) (aj (ak 9) au))) (aA (oG 5 (ak 7)) aU))) (aW [] (aA (oG 6 (gj (aj (ak 7) (aj (ak 10) au)))) aU))) aU))) (aW [10] aU)) aU))))) (Jq (i:=5) (Jq (i:=6) (aA (jA (gj (aj (dB (bO lA (hr.mono (by decide)) rfl t.zf t.zj t.zc (aj (ak 4) au))) (aj (ak 5) (aj (ak 6) au))))) aU))))))))
theorem ZD {fs:Ev->Option (List Bx)}:∀ ρ b,cV 1 fK fs ρ=some b->∃ ds,b=.o ds:=fun ρ b h=>by
 obtain⟨bs,_,h⟩:=bind_some h
 split at h
 ·obtain⟨r,e,h⟩:=bind_some h
  obtain⟨r1,e1,e⟩:=bind_some e
  obtain⟨b1,e2,e1⟩:=bind_some e1
  unfold eX at e2
  obtain⟨ds,_,e2⟩:=bind_some e2
  split at e2
  ·obtain⟨out,_,e2⟩:=bind_some e2
   cases e2;cases e1;cases e;cases h
   exact⟨_,rfl⟩
  ·cases e2
 ·cases h
theorem Py:∀ ρ,iW ρ≠none->∃ b,iW ρ=some (.rt b):=aem (Eu acs (Eu Pq (Eu Pq (Eu Pq (Eu (Zz (eU (eU rG (eU rG (eU (Rm (eU (eU rG (eU (Rm (eU (eU Rn (eU Jy u5)) nP) (eU (eU Jy u5) nP)) u5)) nP) (eU u5 nP)) u5))) nP)) (aar (aar acu)))))))
include t in
theorem Fg (jz:cU P w K mg base mR 1 fU gq ["bars", "heads", "one", "other"] (qK K 4 fP)) (lq:cU P w K mg base mR 1 gP gZ ["heads", "one", "other"] (spM K 2 gK)) (lu:cU P w K mg base mR 1 gO gY ["names"] (qK K 1 gJ)) (lA:cU P w K mg base mR 2 gQ ig ["heads"] (qK K 1 fK)):cU P w K mg base mR 3 fL fV ["ground"] (spN K 1 bT):=by
 unfold bT
 refine agm (k:=2) (g:=iW) t.bT nU rfl rfl Py fun cdv A outer s H E hr=>?_
 have hu:=gB hr
 have nd:=nU.nd
 exact (u6 (Dj (ak 0) (qb rfl (bB (aO 1 nd) (bB (aO 2 nd) (bB (aO 3 nd) mX))))) aci (u6 (bA 4 nd (bO lu (hr.mono (by decide)) rfl t.yV t.yW t.yU (aj (ak 1) au))) rG (u6 (bA 5 nd (dZ au)) rG (u6 (bA 6 nd (dZ au)) rG (u6 (sU 2 PassesOwn.never rfl (aO 7 nd) (aW [7,8,9,10] (aA (bA 8 nd (mC hu (ak 4) (bx (ak 7) aC))) (aA (bA 9 nd (mC hu (ak 4) (bx (ak 7) aC))) (aA (nY (cG (tY hu) (ak 8) (ak 9) (dF _)) (aW [10] (aA (bA 10 nd (bO jz (hr.mono (by decide)) rfl t.wD t.wF t.wC (aj (ak 3) (aj (ak 4) (aj (ak 8) (aj (ak 9) au)))))) (aA (nY (cG of_is (ak 10) Il (dF _)) (aW [] (aA (Q8 4 lq (hr.mono (by decide)) rfl t.yZ t.za t.yX (aj (ak 8) (aj (ak 9) au))) (aA (oG 5 (ak 7)) aU))) (aW [] (aA (oG 6 (gj (aj (ak 7) (aj (ak 10) au)))) aU))) aU))) (aW [10] aU)) aU))))) (Zt (eU (eU rG (eU rG (eU (Rm (eU (eU rG (eU (Rm (eU (eU Rn (eU Jy u5)) nP) (eU (eU Jy u5) nP)) u5)) nP) (eU u5 nP)) u5))) nP)) (Zu (bO lA (hr.mono (by decide)) rfl t.zf t.zj t.zc (aj (ak 4) au)) ZD (by decide)))))))
theorem q8:cQ ["_law_found", "_law_bars", "_law_sets", "_law_kept", "_law_barred", "_law_a", "_law_b", "_law_k", "_law_reason", "_law_bar", "_law_ends"] ["_law_found", "_law_bars"] (aJ fY):=uU
include t in
theorem zp (eF:cU P w K mg base mR 1 gM gW ["_law_sets", "_law_name"] (qK K 2 cM)):cU P w K mg base mR 2 d8 eZ ["_law_found", "_law_bars"] (qK K 2 dh):=by
 unfold dh
 refine vR (k:=1) (g:=kj) t.dh q8 rfl rfl fun cdv A outer s H E hr=>?_
 have hu:=gB hr
 have nd:=q8.nd
 exact (aA (Dj (ak 0) (qb rfl (bB (aO 2 nd) (bB (aO 3 nd) (bB (aO 4 nd) mX))))) (aA (sU 1 PassesOwn.never rfl (qb rfl (bB (aO 5 nd) (bB (aO 6 nd) (bB (aO 7 nd) mX)))) (aW [5,6,7] (aA (nY (CZ (bG (abC rfl) rfl t.Mx abw (aj (mZ ["_law_some"] (tu ["_law_a", "_law_b"] [5,6]) rfl (jD (ak 2)) (fun _ _ _ _=>(aO 2 (by show List.Nodup (_++_);decide +kernel))) (fun _ _ _ _=>gk) (fun _ _ _ _=>(abj (CT yt (ak 0) (ak 2) (by with_unfolding_all rfl)) (UW (CT yt (ak 1) (ak 2) (by with_unfolding_all rfl))))) (cW)) au))) (aA (jA CW) aU) aU) aU))) (aA (sU 4 PassesOwn.never rfl (qb rfl (bB (aO 8 nd) (bB (aO 9 nd) mX))) (aW [8,9,10] (aA (bA 10 nd (dZ (aj (dB (bO eF (hr.mono (by decide)) rfl t.kW t.kY t.kO (aj (ak 2) (aj (bx (ak 8) aC) au)))) (aj (dB (bO eF (hr.mono (by decide)) rfl t.kW t.kY t.kO (aj (ak 2) (aj (bx (ak 8) aC) au)))) au)))) (aA (nY (Dc (wQ (cG (tY hu) (bG rW rfl t.fG jt (aj (ak 10) au)) (bG rW rfl t.fG jt (aj (dZ (aj (dB (bO eF (hr.mono (by decide)) rfl t.kW t.kY t.kO (aj (ak 2) (aj (bx (ak 9) aC) au)))) (aj (dB (bO eF (hr.mono (by decide)) rfl t.kW t.kY t.kO (aj (ak 2) (aj (bx (ak 9) aC) au)))) au))) au)) (dF _)) (vK (cG (of_eq hu) (bx (ak 10) aC) (bx (ak 10) aC) (dF _))))) (aA (jA CW) aU) aU) aU)))) (aA (jA CW) aU))))
theorem zq:cQ ["_law_names_here", "_law_reasons", "_law_found", "_law_weight", "_law_a", "_law_b", "_law_k", "_law_one", "_law_other"] ["_law_names_here", "_law_reasons"] (aJ mK):=uU
include t in
theorem JL:cU P w K mg base mR 1 jR kI ["_law_names_here", "_law_reasons"] (qK K 2 iM):=by
 unfold iM
 refine vR (k:=0) (g:=qX) t.iM zq rfl rfl fun cdv A outer s H E hr=>?_
 have hu:=gB hr
 have nd:=zq.nd
 exact (aA (yg 2 ["_law_name"] (tu [] []) rfl nd (jD (ak 0)) (fun _ _ _ _=>(aO 0 (by show List.Nodup (_++_);decide +kernel))) (fun _ _ _ _=>gk) (fun _ _ _ _=>(dB (dZ (aj (ak 0) au)))) (cW)) (aA (sU 1 PassesOwn.never rfl (qb rfl (bB (aO 3 nd) (bB (aO 4 nd) (bB (aO 5 nd) (bB (aO 6 nd) mX))))) (aW [3,4,5,6,7,8] (aA (bA 7 nd (bx (mZ ["_law_part"] (tu ["_law_a"] [4]) rfl (jD (ak 2)) (fun _ _ _ _=>(aO 1 (by show List.Nodup (_++_);decide +kernel))) (fun _ _ _ _=>(jN (cG yt (ak 0) (ak 1) (by with_unfolding_all rfl)))) (fun _ _ _ _=>(ak 1)) (cW)) aC)) (aA (bA 8 nd (bx (mZ ["_law_part"] (tu ["_law_b"] [5]) rfl (jD (ak 2)) (fun _ _ _ _=>(aO 1 (by show List.Nodup (_++_);decide +kernel))) (fun _ _ _ _=>(jN (cG yt (ak 0) (ak 1) (by with_unfolding_all rfl)))) (fun _ _ _ _=>(ak 1)) (cW)) aC)) (aA (nY (cG (tY hu) (ak 7) (ak 8) (dF _)) (aW [] (aA (bA 2 nd (aV dj (mZ ["_law_part"] (tu ["_law_one", "_law_other"] [7,8]) rfl (jD (ak 2)) (fun _ _ _ _=>(aO 2 (by show List.Nodup (_++_);decide +kernel))) (fun _ _ _ _=>(jN (cG (Q9 hu) (ak 2) (dZ (aj (ak 0) (aj (ak 1) au))) (by with_unfolding_all rfl)))) (fun _ _ _ _=>(ak 2)) (cW)) (dZ (aj (dB (bG zU rfl t.fG jt (aj (aV dj (ak 7) (ak 8)) au))) au)))) aU)) (aW [] aU)) aU))))) (aA (jA (bG rW rfl t.fG jt (aj (mZ ["_law_part"] (tu [] []) rfl (jD (ak 2)) (fun _ _ _ _=>(aO 0 (by show List.Nodup (_++_);decide +kernel))) (fun _ _ _ _=>gk) (fun _ _ _ _=>(dB (iy m5 rfl t.jF lR (aj (ak 0) au)))) (cW)) au))) aU)))
theorem zu:cQ ["_law_ground_here", "_law_names_here", "_law_reasons", "_law_bars", "_law_due", "_law_found", "_law_free"] ["_law_ground_here"] (aJ mL):=uU
include t in
theorem JM (jc:cU P w K mg base mR 2 cZ dM ["_law_names_here", "_law_reasons", "_law_bars"] (qK K 3 bR)) (nJ:cU P w K mg base mR 2 d8 eZ ["_law_found", "_law_bars"] (qK K 2 dh)) (vH:cU P w K mg base mR 1 jR kI ["_law_names_here", "_law_reasons"] (qK K 2 iM)) (rJ:cU P w K mg base mR 3 fL fV ["ground"] (spN K 1 bT)) (pQ:cU P w K mg base mR 3 fL fV ["ground"] (qK K 1 bT)):cU P w K mg base mR 4 jT kJ ["_law_ground_here"] (qK K 1 iQ):=by
 unfold iQ
 refine vR (k:=3) (g:=qY) t.iQ zu rfl rfl fun cdv A outer s H E hr=>?_
 have hu:=gB hr
 have nd:=zu.nd
 exact (aA (Dj (ak 0) (qb rfl (bB (aO 1 nd) (bB (aO 2 nd) (bB (aO 3 nd) mX))))) (aA (bA 4 nd (bO jc (hr.mono (by decide)) rfl t.qy t.qz t.qx (aj (ak 1) (aj (ak 2) (aj (ak 3) au))))) (acq 5 nd rJ (hr.mono (by decide)) rfl t.tO t.tQ t.tL (aj (ak 0) au) (WY (Dc (wQ (Io (CZ (IW (ak 5) rfl t.kZ rfl t.jF))) (wQ (cG (tY hu) (ak 5) (ak 4) (dF _)) (vK (Io (CZ (bG (abB rfl) rfl t.Mw abv (aj (mZ ["_law_part"] (tu [] []) rfl (jD (ak 5)) (fun _ _ _ _=>(aO 0 (by show List.Nodup (_++_);decide +kernel))) (fun _ _ _ _=>gk) (fun _ _ _ _=>(dB (KJ (ak 0) rfl t.kZ rfl t.Ae))) (cW)) au)))))))) CW (WY (Io (CZ (bO nJ (hr.mono (by decide)) rfl t.Ab t.Ad t.Aa (aj (ak 5) (aj (ak 3) au))))) CW (acp 6 nd (bO pQ (hr.mono (by decide)) rfl t.tO t.tQ t.tL (aj (gj (aj (ak 1) (aj (ak 2) (aj (gj au) au)))) au)) (WY (cG (tY hu) (ak 6) (gj (aj (dB (bO vH (hr.mono (by decide)) rfl t.Mt t.Mu t.Ms (aj (ak 1) (aj (ak 2) au)))) (aj (bx (bO jc (hr.mono (by decide)) rfl t.qy t.qz t.qx (aj (ak 1) (aj (ak 2) (aj (gj au) au)))) aC) (aj (dB (dZ au)) au)))) (dF _)) CW (aco (Zw (Qn kB KP KO vJ (Qm HY (oF (i:=5) rfl (.inl rfl)) HN (by intro _ _;with_unfolding_all rfl)) (jC (gj (aj Oi au)).run sO rfl)) (abd kB PySem.F.slot_list_reverse PySem.F.type_list_reverse Nu (Qm HY (oF (i:=5) rfl (.inl rfl)) HN (by intro _ _;with_unfolding_all rfl))) (Qn kB KP KO vJ (Qm HY (oF (i:=5) rfl (.inl rfl)) HN (by intro _ _;with_unfolding_all rfl)) (jC Il.run sO rfl)) (fun _=>rfl) (fun _=>rfl) (CT (of_eq hu) (bO pQ (hr.mono (by decide)) rfl t.tO t.tQ t.tL (aj (ak 0) au)) (ak 4) (dF _))))) (by decide) (by decide)))))))
theorem Bp:cQ ["_law_x", "_law_turn", "_law_weigh", "_law_names_here", "_law_order", "_law_some", "_law_k", "_law_a", "_law_b", "_law_weight", "_law_bars", "_law_far", "_law_reasons"] ["_law_x", "_law_turn", "_law_weigh"] (aJ nG):=uU
include t in
theorem MJ:cU P w K mg base mR 1 mG mO ["_law_x", "_law_turn", "_law_weigh"] (qK K 3 mF):=by
 unfold mF
 refine vR (k:=0) (g:=tK) t.mF Bp rfl rfl fun cdv A outer s H E hr=>?_
 have hu:=gB hr
 have nd:=Bp.nd
 exact (aA (bA 3 nd (mZ ["_law_k"] (tu [] []) rfl (NT (mY rfl t.lg (aj aC au))) (fun _ _ _ _=>(aO 0 (by show List.Nodup (_++_);decide +kernel))) (fun _ _ _ _=>gk) (fun _ _ _ _=>(aV qg (bx Oi (aV yj (ak 0) aC)) (aV dj aC (aV cH (ak 0) aC)))) (cW))) (aA (yg 4 ["_law_k"] (tu ["_law_names_here", "_law_turn"] [3,1]) rfl nd (NT (mY rfl t.lg (aj aC au))) (fun _ _ _ _=>(aO 2 (by show List.Nodup (_++_);decide +kernel))) (fun _ _ _ _=>gk) (fun _ _ _ _=>(bx (ak 0) (aV cH (aV dj (aV qg aC (ak 2)) (ak 1)) aC))) (cW)) (aA (bA 5 nd (dZ au)) (aA (sS PassesOwn.never rfl (mY rfl t.lg (aj (aV dj aC (aV cH (ak 0) aC)) au)) (aO 6 nd) (aW [6,7,8,9] (aA (NK 7 8 rfl nd (aj (bx (ak 4) (ak 6)) (aj (bx (ak 4) (aV cH (aV dj (ak 6) aC) aC)) au))) (aA (bA 9 nd (bx (dZ (aj aC (aj (aV Dq aC (ak 6)) (aj (dB (aV dj aC (ak 6))) (aj (dB (aV dj aC (aV cH (aV qg (ak 6) (ak 6)) aC))) au))))) (aV cH (ak 2) aC))) (aA (oG 5 (gj (aj (aV Dq aC (ak 9)) (aj (dB (bG (Jp rfl) rfl t.wG zR (aj (ak 7) (aj (ak 8) au)))) (aj (dB (bG (Q5 rfl) rfl t.sy sW (aj (ak 7) (aj (ak 8) au)))) (aj (aV cH (ak 6) aC) au)))))) aU))))) (aA (bA 10 nd (dZ au)) (aA (sS PassesOwn.never rfl (Iv (KQ (dZ (aj (gj (aj aC (aj aC au))) (aj (gj (aj aC (aj aC au))) (aj (gj (aj aC (aj aC au))) au)))) uL (uM (aV cH (aV yj (ak 0) aC) aC)))) (qb rfl (bB (aO 6 nd) (bB (aO 11 nd) mX))) (aW [6,11] (aA (oG 10 (gj (aj (dB (bG (Jp rfl) rfl t.wG zR (aj (bx (ak 4) (ak 6)) (aj (bx (ak 4) (ak 11)) au)))) (aj (dB (bG (Q5 rfl) rfl t.sy sW (aj (bx (ak 4) (ak 6)) (aj (bx (ak 4) (ak 11)) au)))) (aj (dB (aV dj aC (ak 6))) au))))) aU))) (aA (bA 12 nd (iy m5 rfl t.jF lR (aj (mZ ["_law_weight", "_law_a", "_law_b", "_law_k"] (tu [] []) rfl (jD (bG rW rfl t.fG jt (aj (ak 5) au))) (fun _ _ _ _=>(qb rfl (bB (aO 0 (by show List.Nodup (_++_);decide +kernel)) (bB (aO 1 (by show List.Nodup (_++_);decide +kernel)) (bB (aO 2 (by show List.Nodup (_++_);decide +kernel)) (bB (aO 3 (by show List.Nodup (_++_);decide +kernel)) mX)))))) (fun _ _ _ _=>gk) (fun _ _ _ _=>(gj (aj (aV Dq aC (ak 0)) (aj (ak 1) (aj (ak 2) (aj (ak 3) au)))))) (U8 (nZ (cW) (nZ (cW) (nZ (cW) (nZ (cW) Qv)))))) au))) (aA (jA (gj (aj (dB (iy m5 rfl t.jF lR (aj (bG zU rfl t.fG jt (aj (ak 3) au)) au))) (aj (ak 12) (aj (dB (iy m5 rfl t.jF lR (aj (bG rW rfl t.fG jt (aj (ak 10) au)) au))) au))))) aU))))))))
theorem W4:cQ ["_law_script", "_law_k", "_law_xs"] ["_law_script"] (aJ yS):=uU
include t in
theorem acv (iZ:cU P w K mg base mR 1 jO jP ["_law_script", "_law_k"] (qK K 2 fB)) (tR:cU P w K mg base mR 2 iY jy ["_law_script", "_law_at", "_law_many", "_law_reasons", "_law_bars"] (qK K 5 iU)) (xg:cU P w K mg base mR 1 mG mO ["_law_x", "_law_turn", "_law_weigh"] (qK K 3 mF)) (d9:cU P w K mg base mR 1 fQ gn ["_law_cell_here", "_law_many"] (qK K 2 cI)) (q9:cU P w K mg base mR 4 jT kJ ["_law_ground_here"] (qK K 1 iQ)):cU P w K mg base mR 5 Hw Ez ["_law_script"] (qK K 1 qZ):=by
 unfold qZ
 refine vR (k:=4) (g:=Rp) t.qZ W4 rfl rfl fun cdv A outer s H E hr=>?_
 have hu:=gB hr
 have nd:=W4.nd
 exact (aA (sS PassesOwn.never rfl (mY rfl t.lg (aj (bG (wW rfl) rfl t.sy sW (aj aC (aj (bG (Oe rfl) rfl t.wG zR (aj (bG Oc rfl t.EY Ob (aj (ak 0) au)) (aj aC au))) au))) au)) (aO 1 nd) (aW [1,2] (aA (bA 2 nd (bO d9 (hr.mono (by decide)) rfl t.lW t.lX t.lV (aj (dB (bO iZ (hr.mono (by decide)) rfl t.qu t.qw t.qt (aj (ak 0) (aj (ak 1) au)))) (aj aC au)))) (aA (nY (Io (CZ (bO q9 (hr.mono (by decide)) rfl t.Bl t.Bm t.Bk (aj (dB (bO tR (hr.mono (by decide)) rfl t.JG t.JH t.JF (aj (ak 0) (aj (ak 1) (aj (aV cH (bx (ak 2) aC) aC) (aj (aV cH (bx (ak 2) aC) aC) (aj (aV cH (bx (ak 2) aC) aC) au))))))) au)))) (aA (jA CW) aU) aU) aU)))) (aA (bA 2 nd (KQ (bO d9 (hr.mono (by decide)) rfl t.lW t.lX t.lV (aj (dB (bO iZ (hr.mono (by decide)) rfl t.qu t.qw t.qt (aj (ak 0) (aj aC au)))) (aj aC au))) (uM aC) uL)) (aA (jA (adw (CT (tY hu) (aV cH (bx (ak 2) aC) aC) aC (dF _)) (UW (bO q9 (hr.mono (by decide)) rfl t.Bl t.Bm t.Bk (aj (dB (bO xg (hr.mono (by decide)) rfl t.Pu t.Px t.Pr (aj (bx (ak 2) aC) (aj (bx (ak 2) aC) (aj (bx (ak 2) aC) au))))) au))))) aU)))
end
end G24
end
section
set_option synthInstance.maxSize 100000
namespace G24
open PySem PySem.Spec PyProof.Rows L2 P1
theorem all_mk {l:PySem.W.OpenLaw} {w:World} {K:PySem.W.Frag} {h:Heap} {mg:Str->Option Value} {fa:Addr} {f0:Addr} {od0 an0:Option Addr} {sl0:Array (Option Value)} {oc0 kV0 dc0 pm0 cd0 ct0:Value} {f1:Addr} {od1 an1:Option Addr} {sl1:Array (Option Value)} {oc1 kV1 dc1 pm1 cd1 ct1:Value} {f2:Addr} {od2 an2:Option Addr} {sl2:Array (Option Value)} {oc2 kV2 dc2 pm2 cd2 ct2:Value} {f3:Addr} {od3 an3:Option Addr} {sl3:Array (Option Value)} {oc3 kV3 dc3 pm3 cd3 ct3:Value} {f4:Addr} {od4 an4:Option Addr} {sl4:Array (Option Value)} {oc4 kV4 dc4 pm4 cd4 ct4:Value} {f5:Addr} {od5 an5:Option Addr} {sl5:Array (Option Value)} {oc5 kV5 dc5 pm5 cd5 ct5:Value} {f6:Addr} {od6 an6:Option Addr} {sl6:Array (Option Value)} {oc6 kV6 dc6 pm6 cd6 ct6:Value} {f7:Addr} {od7 an7:Option Addr} {sl7:Array (Option Value)} {oc7 kV7 dc7 pm7 cd7 ct7:Value} {f8:Addr} {od8 an8:Option Addr} {sl8:Array (Option Value)} {oc8 kV8 dc8 pm8 cd8 ct8:Value} {f9:Addr} {od9 an9:Option Addr} {sl9:Array (Option Value)} {oc9 kV9 dc9 pm9 cd9 ct9:Value} {f10:Addr} {agq agr:Option Addr} {ags:Array (Option Value)} {agt agu agv agw aeo agx:Value} {f11:Addr} {agy agz:Option Addr} {agA:Array (Option Value)} {agB agC agD agE aep agF:Value} {f12:Addr} {agH agI:Option Addr} {agJ:Array (Option Value)} {agK agL agM agN aer agO:Value} {f13:Addr} {agQ agR:Option Addr} {agS:Array (Option Value)} {agT agU agV agW aes agX:Value} {f14:Addr} {agZ ag0:Option Addr} {ag1:Array (Option Value)} {ag2 ag3 ag4 ag5 aeu ag6:Value} {f15:Addr} {ag8 ag9:Option Addr} {aha:Array (Option Value)} {ahb ahc ahd ahe aev ahf:Value} {f16:Addr} {ahh aew:Option Addr} {ahi:Array (Option Value)} {ahj aex aey aez acw aeA:Value} (X:K.In h) (G:h.Ns mainGlobals mg) (hfa:mg "law" = some (.ref fa))
  (a0:PySem.W.nsIn K mainGlobals "_law_cell" = some (some (.ref f0))) (l0:K.lookup f0=some ⟨oc0,od0,.func (PySem.W.fnOf "_law_cell" "_law_cell" (dW nF) (cF nF) (aJ nF) .none kV0 dc0 pm0 an0 cd0 ct0),sl0⟩) (c0:PySem.W.codeIn K cd0 "_law_cell" = true) (k0:PySem.W.keepIn K (.ref f0)=true)
  (a1:PySem.W.nsIn K mainGlobals "_law_numbers" = some (some (.ref f1))) (l1:K.lookup f1=some ⟨oc1,od1,.func (PySem.W.fnOf "_law_numbers" "_law_numbers" (dW ju) (cF ju) (aJ ju) .none kV1 dc1 pm1 an1 cd1 ct1),sl1⟩) (c1:PySem.W.codeIn K cd1 "_law_numbers" = true) (k1:PySem.W.keepIn K (.ref f1)=true)
  (a2:PySem.W.nsIn K mainGlobals "_law_names" = some (some (.ref f2))) (l2:K.lookup f2=some ⟨oc2,od2,.func (PySem.W.fnOf "_law_names" "_law_names" (dW mJ) (cF mJ) (aJ mJ) .none kV2 dc2 pm2 an2 cd2 ct2),sl2⟩) (c2:PySem.W.codeIn K cd2 "_law_names" = true) (k2:PySem.W.keepIn K (.ref f2)=true)
  (a3:PySem.W.nsIn K mainGlobals "_law_ground" = some (some (.ref f3))) (l3:K.lookup f3=some ⟨oc3,od3,.func (PySem.W.fnOf "_law_ground" "_law_ground" (dW j5) (cF j5) (aJ j5) .none kV3 dc3 pm3 an3 cd3 ct3),sl3⟩) (c3:PySem.W.codeIn K cd3 "_law_ground" = true) (k3:PySem.W.keepIn K (.ref f3)=true)
  (a4:PySem.W.nsIn K mainGlobals "_law_set_of" = some (some (.ref f4))) (l4:K.lookup f4=some ⟨oc4,od4,.func (PySem.W.fnOf "_law_set_of" "_law_set_of" (dW j6) (cF j6) (aJ j6) .none kV4 dc4 pm4 an4 cd4 ct4),sl4⟩) (c4:PySem.W.codeIn K cd4 "_law_set_of" = true) (k4:PySem.W.keepIn K (.ref f4)=true)
  (a5:PySem.W.nsIn K mainGlobals "_law_gone_through" = some (some (.ref f5))) (l5:K.lookup f5=some ⟨oc5,od5,.func (PySem.W.fnOf "_law_gone_through" "_law_gone_through" (dW d7) (cF d7) (aJ d7) .none kV5 dc5 pm5 an5 cd5 ct5),sl5⟩) (c5:PySem.W.codeIn K cd5 "_law_gone_through" = true) (k5:PySem.W.keepIn K (.ref f5)=true)
  (a6:PySem.W.nsIn K mainGlobals "lone_heads" = some (some (.ref f6))) (l6:K.lookup f6=some ⟨oc6,od6,.func (PySem.W.fnOf "lone_heads" "lone_heads" (dW j7) (cF j7) (aJ j7) .none kV6 dc6 pm6 an6 cd6 ct6),sl6⟩) (c6:PySem.W.codeIn K cd6 "lone_heads" = true) (k6:PySem.W.keepIn K (.ref f6)=true)
  (a7:PySem.W.nsIn K mainGlobals "bar_between" = some (some (.ref f7))) (l7:K.lookup f7=some ⟨oc7,od7,.func (PySem.W.fnOf "bar_between" "bar_between" (dW jw) (cF jw) (aJ jw) .none kV7 dc7 pm7 an7 cd7 ct7),sl7⟩) (c7:PySem.W.codeIn K cd7 "bar_between" = true) (k7:PySem.W.keepIn K (.ref f7)=true)
  (a8:PySem.W.nsIn K mainGlobals "join_heads" = some (some (.ref f8))) (l8:K.lookup f8=some ⟨oc8,od8,.func (PySem.W.fnOf "join_heads" "join_heads" (dW j8) (cF j8) (aJ j8) .none kV8 dc8 pm8 an8 cd8 ct8),sl8⟩) (c8:PySem.W.codeIn K cd8 "join_heads" = true) (k8:PySem.W.keepIn K (.ref f8)=true)
  (a9:PySem.W.nsIn K mainGlobals "names_under" = some (some (.ref f9))) (l9:K.lookup f9=some ⟨oc9,od9,.func (PySem.W.fnOf "names_under" "names_under" (dW jx) (cF jx) (aJ jx) .none kV9 dc9 pm9 an9 cd9 ct9),sl9⟩) (c9:PySem.W.codeIn K cd9 "names_under" = true) (k9:PySem.W.keepIn K (.ref f9)=true)
  (a10:PySem.W.nsIn K mainGlobals "sets_under" = some (some (.ref f10))) (l10:K.lookup f10=some ⟨agt,agq,.func (PySem.W.fnOf "sets_under" "sets_under" (dW j9) (cF j9) (aJ j9) .none agu agv agw agr aeo agx),ags⟩) (c10:PySem.W.codeIn K aeo "sets_under" = true) (k10:PySem.W.keepIn K (.ref f10)=true)
  (a11:PySem.W.nsIn K mainGlobals "joining_of" = some (some (.ref f11))) (l11:K.lookup f11=some ⟨agB,agy,.func (PySem.W.fnOf "joining_of" "joining_of" (dW kh) (cF kh) (aJ kh) .none agC agD agE agz aep agF),agA⟩) (c11:PySem.W.codeIn K aep "joining_of" = true) (k11:PySem.W.keepIn K (.ref f11)=true)
  (a12:PySem.W.nsIn K mainGlobals "_law_keeps_bars" = some (some (.ref f12))) (l12:K.lookup f12=some ⟨agK,agH,.func (PySem.W.fnOf "_law_keeps_bars" "_law_keeps_bars" (dW fY) (cF fY) (aJ fY) .none agL agM agN agI aer agO),agJ⟩) (c12:PySem.W.codeIn K aer "_law_keeps_bars" = true) (k12:PySem.W.keepIn K (.ref f12)=true)
  (a13:PySem.W.nsIn K mainGlobals "_law_parts" = some (some (.ref f13))) (l13:K.lookup f13=some ⟨agT,agQ,.func (PySem.W.fnOf "_law_parts" "_law_parts" (dW mK) (cF mK) (aJ mK) .none agU agV agW agR aes agX),agS⟩) (c13:PySem.W.codeIn K aes "_law_parts" = true) (k13:PySem.W.keepIn K (.ref f13)=true)
  (a14:PySem.W.nsIn K mainGlobals "_law_right" = some (some (.ref f14))) (l14:K.lookup f14=some ⟨ag2,agZ,.func (PySem.W.fnOf "_law_right" "_law_right" (dW mL) (cF mL) (aJ mL) .none ag3 ag4 ag5 ag0 aeu ag6),ag1⟩) (c14:PySem.W.codeIn K aeu "_law_right" = true) (k14:PySem.W.keepIn K (.ref f14)=true)
  (a15:PySem.W.nsIn K mainGlobals "_law_long" = some (some (.ref f15))) (l15:K.lookup f15=some ⟨ahb,ag8,.func (PySem.W.fnOf "_law_long" "_law_long" (dW nG) (cF nG) (aJ nG) .none ahc ahd ahe ag9 aev ahf),aha⟩) (c15:PySem.W.codeIn K aev "_law_long" = true) (k15:PySem.W.keepIn K (.ref f15)=true)
  (a16:PySem.W.nsIn K mainGlobals "law" = some (some (.ref f16))) (l16:K.lookup f16=some ⟨ahj,ahh,.func (PySem.W.fnOf "law" "law" (dW yS) (cF yS) (aJ yS) .none aex aey aez aew acw aeA),ahi⟩) (c16:PySem.W.codeIn K acw "law" = true) (k16:PySem.W.keepIn K (.ref f16)=true)
  (Mv:PySem.W.nsIn K mainGlobals "abs" = some none)
  (Mw:PySem.W.nsIn K mainGlobals "all" = some none)
  (Mx:PySem.W.nsIn K mainGlobals "any" = some none)
  (Mz:PySem.W.nsIn K mainGlobals "int" = some none)
  (kZ:PySem.W.nsIn K mainGlobals "isinstance" = some none)
  (EY:PySem.W.nsIn K mainGlobals "len" = some none)
  (Ae:PySem.W.nsIn K mainGlobals "list" = some none)
  (sy:PySem.W.nsIn K mainGlobals "max" = some none)
  (wG:PySem.W.nsIn K mainGlobals "min" = some none)
  (lg:PySem.W.nsIn K mainGlobals "range" = some none)
  (Hx:PySem.W.nsIn K mainGlobals "set" = some none)
  (fG:PySem.W.nsIn K mainGlobals "sorted" = some none)
  (jF:PySem.W.nsIn K mainGlobals "tuple" = some none) :
  ∃ fd:FuncData,(∀ (s:Shared) (v:Value),BindsTo s fd ⟨[v],[]⟩ [("_law_script", v)])/\∀ base:Heap,K.In base->base.Ns mainGlobals mg->cU l.prog w K mg base mR 5 fa fd ["_law_script"] (qK K 1 qZ):=by
 have e:=hfa.symm.trans (qf X G a16)
 cases e
 have F0:=jL (st:=nF) l0 c0 k0
 have b0:=F0.binds (ps:=["_law_script", "_law_k"]) fun _ _ _ _ _ _=>len2 fun _ _=>rfl
 have F1:=jL (st:=ju) l1 c1 k1
 have b1:=F1.binds (ps:=["_law_cell_here", "_law_many"]) fun _ _ _ _ _ _=>len2 fun _ _=>rfl
 have F2:=jL (st:=mJ) l2 c2 k2
 have b2:=F2.binds (ps:=["_law_xs", "_law_many"]) fun _ _ _ _ _ _=>len2 fun _ _=>rfl
 have F3:=jL (st:=j5) l3 c3 k3
 have b3:=F3.binds (ps:=["_law_script", "_law_at", "_law_many", "_law_reasons", "_law_bars"]) fun _ _ _ _ _ _=>agi fun _ _ _ _ _=>rfl
 have F4:=jL (st:=j6) l4 c4 k4
 have b4:=F4.binds (ps:=["_law_sets", "_law_name"]) fun _ _ _ _ _ _=>len2 fun _ _=>rfl
 have F5:=jL (st:=d7) l5 c5 k5
 have b5:=F5.binds (ps:=["_law_names_here", "_law_reasons", "_law_bars"]) fun _ _ _ _ _ _=>ach fun _ _ _=>rfl
 have F6:=jL (st:=j7) l6 c6 k6
 have b6:=F6.binds (ps:=["names"]) fun _ _ _ _ _ _=>len1 fun _=>rfl
 have F7:=jL (st:=jw) l7 c7 k7
 have b7:=F7.binds (ps:=["bars", "heads", "one", "other"]) fun _ _ _ _ _ _=>agh fun _ _ _ _=>rfl
 have F8:=jL (st:=j8) l8 c8 k8
 have b8:=F8.binds (ps:=["heads", "one", "other"]) fun _ _ _ _ _ _=>ach fun _ _ _=>rfl
 have F9:=jL (st:=jx) l9 c9 k9
 have b9:=F9.binds (ps:=["heads", "head"]) fun _ _ _ _ _ _=>len2 fun _ _=>rfl
 have F10:=jL (st:=j9) l10 c10 k10
 have b10:=F10.binds (ps:=["heads"]) fun _ _ _ _ _ _=>len1 fun _=>rfl
 have F11:=jL (st:=kh) l11 c11 k11
 have b11:=F11.binds (ps:=["ground"]) fun _ _ _ _ _ _=>len1 fun _=>rfl
 have F12:=jL (st:=fY) l12 c12 k12
 have b12:=F12.binds (ps:=["_law_found", "_law_bars"]) fun _ _ _ _ _ _=>len2 fun _ _=>rfl
 have F13:=jL (st:=mK) l13 c13 k13
 have b13:=F13.binds (ps:=["_law_names_here", "_law_reasons"]) fun _ _ _ _ _ _=>len2 fun _ _=>rfl
 have F14:=jL (st:=mL) l14 c14 k14
 have b14:=F14.binds (ps:=["_law_ground_here"]) fun _ _ _ _ _ _=>len1 fun _=>rfl
 have F15:=jL (st:=nG) l15 c15 k15
 have b15:=F15.binds (ps:=["_law_x", "_law_turn", "_law_weigh"]) fun _ _ _ _ _ _=>ach fun _ _ _=>rfl
 have F16:=jL (st:=yS) l16 c16 k16
 have b16:=F16.binds (ps:=["_law_script"]) fun _ _ _ _ _ _=>len1 fun _=>rfl
 have t:T K mg _ _ _ _ _ _ _ _ _ _ _ _ _ _ _ _ _ _ _ _ _ _ _ _ _ _ _ _ _ _ _ _ _ _:=⟨F0,b0,qf X G a0,k0,F1,b1,qf X G a1,k1,F2,b2,qf X G a2,k2,F3,b3,qf X G a3,k3,F4,b4,qf X G a4,k4,F5,b5,qf X G a5,k5,F6,b6,qf X G a6,k6,F7,b7,qf X G a7,k7,F8,b8,qf X G a8,k8,F9,b9,qf X G a9,k9,F10,b10,qf X G a10,k10,F11,b11,qf X G a11,k11,F12,b12,qf X G a12,k12,F13,b13,qf X G a13,k13,F14,b14,qf X G a14,k14,F15,b15,qf X G a15,k15,F16,b16,qf X G a16,k16,Z3 X G Mv,Z3 X G Mw,Z3 X G Mx,Z3 X G Mz,Z3 X G kZ,Z3 X G EY,Z3 X G Ae,Z3 X G sy,Z3 X G wG,Z3 X G lg,Z3 X G Hx,Z3 X G fG,Z3 X G jF⟩
 refine⟨PySem.W.fnOf "law" "law" (dW yS) (cF yS) (aJ yS) .none aex aey aez aew acw aeA,fun s v=>.of_eq rfl,fun base _ _=>?_⟩
 have iZ:=MF (P:=l.prog) (w:=w) (base:=base) t
 have d9:=Fb (P:=l.prog) (w:=w) (base:=base) t
 have vC:=JK (P:=l.prog) (w:=w) (base:=base) t
 have tR:=Gi (P:=l.prog) (w:=w) (base:=base) t iZ vC d9
 have eF:=Gj (P:=l.prog) (w:=w) (base:=base) t
 have jc:=vU (P:=l.prog) (w:=w) (base:=base) t eF
 have lu:=Gk (P:=l.prog) (w:=w) (base:=base) t
 have jz:=Fd (P:=l.prog) (w:=w) (base:=base) t
 have lq:=Gm (P:=l.prog) (w:=w) (base:=base) t
 have rH:=Fe (P:=l.prog) (w:=w) (base:=base) t
 have lA:=Gn (P:=l.prog) (w:=w) (base:=base) t rH
 have pQ:=Gp (P:=l.prog) (w:=w) (base:=base) t jz lq lu lA
 have rJ:=Fg (P:=l.prog) (w:=w) (base:=base) t jz lq lu lA
 have nJ:=zp (P:=l.prog) (w:=w) (base:=base) t eF
 have vH:=JL (P:=l.prog) (w:=w) (base:=base) t
 have q9:=JM (P:=l.prog) (w:=w) (base:=base) t jc nJ vH rJ pQ
 have xg:=MJ (P:=l.prog) (w:=w) (base:=base) t
 have aeB:=acv (P:=l.prog) (w:=w) (base:=base) t iZ tR xg d9 q9
 exact aeB
theorem walk {l:PySem.W.OpenLaw} {q:Program} {loose:List Str} {XP:(Str->Option Value)->Heap->Prop} {YP:World->Heap->Prop} {d:DefRec} {K:Params->PySem.W.Frag} (hn:l.most=some 63) (hdf:d.params.defaults=[])
  (h1:∀ ns:List Int,ns.length<=63->qZ [.z (.lst (ns.map .int))]=some (.z (.bl true))) (h2:∀ ns:List Int,ns.length<=63->qZ [.l (ns.map .int)]=some (.z (.bl true)))
  (hY:∀ (w:World) (h:Heap),YP w h->(K w.params).In h)
  (F:∀ (w:World) (mg:Str->Option Value) (fa:Addr) (h:Heap),(K w.params).In h->h.Ns mainGlobals mg->mg d.name=some (.ref fa) →
   ∃ fd:FuncData,(∀ (s:Shared) (u:Value),BindsTo s fd ⟨[u],[]⟩ [("_law_script", u)])/\∀ base:Heap,(K w.params).In base->base.Ns mainGlobals mg->cU l.prog w (K w.params) mg base mR 5 fa fd ["_law_script"] (qK (K w.params) 1 qZ)) :
  PySem.W.WalkO q loose XP YP l.row.toRowW d [] (fun f vs=>PySem.call f vs):=
 L2.Uy (n:=63) (k:=5) (x := "_law_script") (CX:=mR) (sp:=fun K=>qK K 1 qZ) hn (by decide) hdf ⟨rfl,by decide,by decide⟩ hY F (fun K H a ns hl hO hS=>abF h1 h2 K H a ns hl hO hS) fun _ _ _ _ z=>z
end G24
end
section
set_option synthInstance.maxSize 100000
namespace G24
open PySem PySem.Spec PyProof.Rows L2 P1
noncomputable section
def wM  (v3:Int) (v4:Int):Int:=(let v3:=(((v3 * (69621:Int))+v4) % (2147483647:Int));v3)
theorem Gq (v0:(List Int)) {lY:Bx} (pR:Lp lY (v0.map eI)) (v1:Int) (v3:Int) (v4:Int):RP wz [some lY,some ((zE eI) v1),some ((zE eI) v3),some ((zE eI) v4)] (fun s=>Out.nx ((fun v3:Int=>[some lY,some ((zE eI) v1),some ((zE eI) v3),none]) s)) (wM  v3 v4) (none):=R.tp (bL (bW 2 (dw (jE (Ra (aq 2 (zE eI) v3 rfl) 69621 (by decide)) (aq 3 (zE eI) v4 rfl)) 2147483647 (by decide)) (fun _=>rfl) fun v3=>(cR (bI v3 rfl))))
def aQ (v0:(List Int)) (v1:Int):Int:=(if (decide (v1 < (v0.length:Int)))=true then (at' v0 v1) else (let v3:=(((48271:Int) * (((v1 * v1)+((7:Int) * v1))+(11:Int))) % (2147483647:Int));(let v3:Int:=((cut v0 none (some (3:Int))).foldl (fun (v3:Int) (v4:Int)=>(wM  v3 v4)) v3);v3)))
def jf (v0:(List Int)) (v1:Int):Prop:=(((decide (v1 < (v0.length:Int)))=true->In v0.length v1)/\((decide (v1 < (v0.length:Int)))=false->Mul v1 v1))
theorem Pz (v0:(List Int)) {lY:Bx} (pR:Lp lY (v0.map eI)) (v1:Int):RP tH [some lY,some ((zE eI) v1),none,none] (fun r=>Out.rt ((zE eI) r)) (aQ v0 v1) (some (jf v0 v1)):=R.tp (Bj (fD (aaj (aq 1 (zE eI) v1 rfl) (x_len (pA 0 eI v0 pR rfl)))) (bL (lJ (fun r=>r) (gF (pA 0 eI v0 pR rfl) (aq 1 (zE eI) v1 rfl)) (fun _=>rfl) fun _=>rfl)) (cR (bW 2 (dw (Jr 48271 (by decide) (jE (jE (V9 (aq 1 (zE eI) v1 rfl) (aq 1 (zE eI) v1 rfl)) (Jr 7 (by decide) (aq 1 (zE eI) v1 rfl))) (aR (.int 11) eI (11:Int) rfl))) 2147483647 (by decide)) (fun _=>rfl) fun v3=>(ab7 (fun v3:Int=>[some lY,some ((zE eI) v1),some ((zE eI) v3),none]) v3 rfl (ab5 (ab0 (pA 0 eI v0 pR rfl) Wd (Wf (aR (.int 3) eI (3:Int) rfl)))) _ (fun _ _=>rfl) (fun (v3:Int) (v4:Int)=>(Gq v0 pR v1 v3 v4).r) (fun _ _=>rfl) fun v3=>(lJ (fun r=>r) (aq 2 (zE eI) v3 rfl) (fun _=>rfl) fun _=>rfl)))))
theorem qC:∀ v bs,(aL eI (aZ eI aN)) v bs->bs.length=2/\(hold (some (jf v.1 v.2.1))->fB (bs.map lend)=some ((zE eI) (aQ v.1 v.2.1))):=by
 rintro⟨v0,v1,_⟩ _ ⟨lY,_,rfl,pR,⟨_,rfl,rfl⟩⟩
 exact⟨rfl,fun h=>lO (g:=tH) (n:=4) (bs:=[lend lY,.z (eI v1)]) (Pz v0 (Lz pR) v1).r h⟩
end
end G24
end
section
set_option synthInstance.maxSize 100000
namespace G24
open PySem PySem.Spec PyProof.Rows L2 P1
noncomputable section
def cN  (s1:Int×(List Int)×Int) (v1:Int):Int×(List Int)×Int:=(let v3:=((((s1.1 * ((s1.1 % (65521:Int))+(40487:Int)))+((7:Int) * v1))+(5:Int)) % (1999999973:Int));(let v6:=s1.2.1++[(at' [v3,(s1.2.2 % (1000000:Int))] (if (decide ((0:Int) < s1.2.2))=true then (1:Int) else 0))];(let v7:=(s1.2.2 / (1000000:Int));(v3,v6,v7))))
def lB  (s1:Int×(List Int)×Int) (v1:Int):Prop:=(Mul s1.1 ((s1.1 % (65521:Int))+(40487:Int))/\(let v3:=((((s1.1 * ((s1.1 % (65521:Int))+(40487:Int)))+((7:Int) * v1))+(5:Int)) % (1999999973:Int));(In [v3,(s1.2.2 % (1000000:Int))].length (if (decide ((0:Int) < s1.2.2))=true then (1:Int) else 0)/\Ej s1.2.1.length)))
theorem Af (v4:Int) (v5:Int) (s1:Int×(List Int)×Int) (v1:Int):RP nH [some ((zE eI) v4),some ((zE eI) v5),some ((oE eI) s1.2.1),some ((zE eI) s1.1),some ((zE eI) s1.2.2),some ((zE eI) v1)] (fun s=>Out.nx ((fun s1:Int×(List Int)×Int=>[some ((zE eI) v4),some ((zE eI) v5),some ((oE eI) s1.2.1),some ((zE eI) s1.1),some ((zE eI) s1.2.2),none]) s)) (cN  s1 v1) (some (lB  s1 v1)):=R.tp (bL (bW 3 (dw (jE (jE (V9 (aq 3 (zE eI) s1.1 rfl) (jE (dw (aq 3 (zE eI) s1.1 rfl) 65521 (by decide)) (aR (.int 40487) eI (40487:Int) rfl))) (Jr 7 (by decide) (aq 5 (zE eI) v1 rfl))) (aR (.int 5) eI (5:Int) rfl)) 1999999973 (by decide)) (fun _=>rfl) fun v3=>(bL (wg 2 s1.2.1 rfl (gF (jZ (jl (cj (aq 3 (zE eI) v3 rfl) (cj (dw (aq 4 (zE eI) s1.2.2 rfl) 1000000 (by decide)) (eN eI))) (zC rfl))) (ab3 (agc (aq 4 (zE eI) s1.2.2 rfl) (aR (.int 0) eI (0:Int) rfl)))) fun v6=>(bL (bW 4 (yM (aq 4 (zE eI) s1.2.2 rfl) 1000000 (by decide)) (fun _=>rfl) fun v7=>(cR (bI (v3,v6,v7) rfl))))))))
def lC (v4:Int) (v5:Int) (v6:(List Int)) (v3:Int) (v7:Int):(List Int):=(let s1:Int×(List Int)×Int:=((rng 0 v5.toNat).foldl (fun (s1:Int×(List Int)×Int) (v1:Int)=>(cN  s1 v1)) (v3,v6,v7));s1.2.1)
def nM (v4:Int) (v5:Int) (v6:(List Int)) (v3:Int) (v7:Int):Prop:=(Rg v5/\qM (fun (s1:Int×(List Int)×Int) (v1:Int)=>(cN  s1 v1)) (fun (s1:Int×(List Int)×Int) (v1:Int)=>some (lB  s1 v1)) (rng 0 v5.toNat) (v3,v6,v7))
def Ag:Ev->Option Out:=(aD (rD (Kc (ao (gv 1) aG)) (lN 5) nH) (aD (Ir 2) gC))
theorem Ah (v4:Int) (v5:Int) (v6:(List Int)) (v3:Int) (v7:Int):RP Ag [some ((zE eI) v4),some ((zE eI) v5),some ((oE eI) v6),some ((zE eI) v3),some ((zE eI) v7),none] (fun r=>Out.rt ((oE eI) r)) (lC v4 v5 v6 v3 v7) (some (nM v4 v5 v6 v3 v7)):=R.tp (Ep (fun s1:Int×(List Int)×Int=>[some ((zE eI) v4),some ((zE eI) v5),some ((oE eI) s1.2.1),some ((zE eI) s1.1),some ((zE eI) s1.2.2),none]) (v3,v6,v7) rfl (Eo (aq 1 (zE eI) v5 rfl)) _ (fun _ _=>rfl) (fun (s1:Int×(List Int)×Int) (v1:Int)=>(Af v4 v5 s1 v1).r) fun s1=>(Wo 2 (fun r=>r) s1.2.1 rfl (fun _=>rfl) fun _=>rfl))
def aP (v4:Int) (v5:Int):(List Int):=(let v6:=([]:List Int);(let v3:=((((v4 % (1999999973:Int))+(31:Int)) * (765432101:Int)) % (1999999973:Int));(let v7:=(0:Int);(let v7:Int:=(if ((decide (v4 < (0:Int)))||(decide (((10:Int) ^ 18)<=v4)))=true then (let v7:=(if v4 < 0 then -v4 else v4);v7) else v7);(lC v4 v5 v6 v3 v7)))))
def fW (v4:Int) (v5:Int):Prop:=(let v6:=([]:List Int);(let v3:=((((v4 % (1999999973:Int))+(31:Int)) * (765432101:Int)) % (1999999973:Int));(let v7:=(0:Int);(let v7:Int:=(if ((decide (v4 < (0:Int)))||(decide (((10:Int) ^ 18)<=v4)))=true then (let v7:=(if v4 < 0 then -v4 else v4);v7) else v7);(nM v4 v5 v6 v3 v7)))))
theorem Gs (v4:Int) (v5:Int):RP nQ [some ((zE eI) v4),some ((zE eI) v5),none,none,none,none] (fun r=>Out.rt ((oE eI) r)) (aP v4 v5) (some (fW v4 v5)):=R.tp (bW 2 (jl (eN eI) (zC rfl)) (fun _=>rfl) fun v6=>(bW 3 (dw (Ra (jE (dw (aq 0 (zE eI) v4 rfl) 1999999973 (by decide)) (aR (.int 31) eI (31:Int) rfl)) 765432101 (by decide)) 1999999973 (by decide)) (fun _=>rfl) fun v3=>(bW 4 (aR (.int 0) eI (0:Int) rfl) (fun _=>rfl) fun v7=>(wj (fun v7:Int=>[some ((zE eI) v4),some ((zE eI) v5),some ((oE eI) v6),some ((zE eI) v3),some ((zE eI) v7),none]) (O7 (fD (aaj (aq 0 (zE eI) v4 rfl) (aR (.int 0) eI (0:Int) rfl))) (fD (x_ge (aq 0 (zE eI) v4 rfl) (abW 10 18 18 (by decide) rfl)))) (bL (bW 4 (ad8 (aq 0 (zE eI) v4 rfl)) (fun _=>rfl) fun v7=>(cR (bI v7 rfl)))) (cR (bI v7 rfl)) fun v7=>(Ah v4 v5 v6 v3 v7).r))))
theorem lZ:∀ v bs,(aZ eI (aZ eI aN)) v bs->bs.length=2/\(hold (some (fW v.1 v.2.1))->cI (bs.map lend)=some ((oE eI) (aP v.1 v.2.1))):=by
 rintro⟨v4,v5,_⟩ _ ⟨_,rfl,⟨_,rfl,rfl⟩⟩
 exact⟨rfl,fun h=>lO (g:=nQ) (n:=6) (bs:=[.z (eI v4),.z (eI v5)]) (Gs v4 v5).r h⟩
end
end G24
end
section
set_option synthInstance.maxSize 100000
namespace G24
open PySem PySem.Spec PyProof.Rows L2 P1
noncomputable section
def gw (v2:(List Int)) (vd:Str) (ve:Str) (v8:Int) (v6:(List Str)) (v1:Int):(List Str):=(let vf:=(ch vd ((v1+(at' v2 (2:Int))) % (15:Int)));(let vg:=(((Txt.slice ve none (some v8))++vf)++(Txt.slice ve (some v8) none));(let vg:Str:=(if (decide (((at' v2 (3:Int)) % (3:Int))=(1:Int)))=true then (let vg:=(Txt.mul (ch vd (v1 / (8:Int))) ((1:Int)+(v1 % (8:Int))));vg) else vg);(let v6:=v6++[vg];v6))))
def nj (v2:(List Int)) (vd:Str) (ve:Str) (v8:Int) (v6:(List Str)) (v1:Int):Prop:=((In v2.length (2:Int)/\In vd.length ((v1+(at' v2 (2:Int))) % (15:Int)))/\(let vf:=(ch vd ((v1+(at' v2 (2:Int))) % (15:Int)));((Ej ((Txt.slice ve none (some v8)).length+vf.length)/\Ej (((Txt.slice ve none (some v8))++vf).length+(Txt.slice ve (some v8) none).length))/\(let vg:=(((Txt.slice ve none (some v8))++vf)++(Txt.slice ve (some v8) none));((In v2.length (3:Int)/\((decide (((at' v2 (3:Int)) % (3:Int))=(1:Int)))=true->(In vd.length (v1 / (8:Int))/\(((1:Int)+(v1 % (8:Int)))<=1000 ∧ -1000<=((1:Int)+(v1 % (8:Int)))/\(ch vd (v1 / (8:Int))).length<=1000))))/\(let vg:Str:=(if (decide (((at' v2 (3:Int)) % (3:Int))=(1:Int)))=true then (let vg:=(Txt.mul (ch vd (v1 / (8:Int))) ((1:Int)+(v1 % (8:Int))));vg) else vg);Ej v6.length))))))
theorem Fi (v2:(List Int)) {lY:Bx} (pR:Lp lY (v2.map eI)) (v5:Int) (vd:Str) (ve:Str) (v8:Int) (v6:(List Str)) (v1:Int):RP qp [some lY,some ((zE eI) v5),some ((zE eS) vd),some ((zE eS) ve),some ((zE eI) v8),some ((oE eS) v6),some ((zE eI) v1),none,none] (fun s=>Out.nx ((fun v6:(List Str)=>[some lY,some ((zE eI) v5),some ((zE eS) vd),some ((zE eS) ve),some ((zE eI) v8),some ((oE eS) v6),none,none,none]) s)) (gw v2 vd ve v8 v6 v1) (some (nj v2 vd ve v8 v6 v1)):=R.tp (bL (bW 7 (Rc (aq 2 (zE eS) vd rfl) (dw (jE (aq 6 (zE eI) v1 rfl) (gF (pA 0 eI v2 pR rfl) (aR (.int 2) eI (2:Int) rfl))) 15 (by decide))) (fun _=>rfl) fun vf=>(bL (bW 8 (Wg (Wg (aak (aq 3 (zE eS) ve rfl) Wd (Wf (aq 4 (zE eI) v8 rfl))) (aq 7 (zE eS) vf rfl)) (aak (aq 3 (zE eS) ve rfl) (Wf (aq 4 (zE eI) v8 rfl)) Wd)) (fun _=>rfl) fun vg=>(bL (wj (fun vg:Str=>[some lY,some ((zE eI) v5),some ((zE eS) vd),some ((zE eS) ve),some ((zE eI) v8),some ((oE eS) v6),some ((zE eI) v1),some ((zE eS) vf),some ((zE eS) vg)]) (fD (x_eq (by decide) (dw (gF (pA 0 eI v2 pR rfl) (aR (.int 3) eI (3:Int) rfl)) 3 (by decide)) (aR (.int 1) eI (1:Int) rfl))) (bL (bW 8 (Wi (Rc (aq 2 (zE eS) vd rfl) (yM (aq 6 (zE eI) v1 rfl) 8 (by decide))) (jE (aR (.int 1) eI (1:Int) rfl) (dw (aq 6 (zE eI) v1 rfl) 8 (by decide)))) (fun _=>rfl) fun vg=>(cR (bI vg rfl)))) (cR (bI vg rfl)) fun vg=>(bL (wg 5 v6 rfl (aq 8 (zE eS) vg rfl) fun v6=>(cR (bI v6 rfl))))))))))
def nq (v2:(List Int)) (v5:Int) (vd:Str) (ve:Str):(List Str):=(let v8:=((at' v2 (1:Int)) % ((ve.length:Int)+(1:Int)));(let v6:=([]:List Str);(let v6:(List Str):=((rng 0 v5.toNat).foldl (fun (v6:(List Str)) (v1:Int)=>(gw v2 vd ve v8 v6 v1)) v6);v6)))
def qD (v2:(List Int)) (v5:Int) (vd:Str) (ve:Str):Prop:=((In v2.length (1:Int)/\0 < ((ve.length:Int)+(1:Int)))/\(let v8:=((at' v2 (1:Int)) % ((ve.length:Int)+(1:Int)));(let v6:=([]:List Str);(Rg v5/\qM (fun (v6:(List Str)) (v1:Int)=>(gw v2 vd ve v8 v6 v1)) (fun (v6:(List Str)) (v1:Int)=>some (nj v2 vd ve v8 v6 v1)) (rng 0 v5.toNat) v6))))
def Fj:Ev->Option Out:=(aD (setG 4 (b2 iT (b2 jr (gv 0) (cB (.int 1))) (b2 iz (bY FW (ao (gv 3) aG)) (cB (.int 1))))) (aD (setG 5 (bY lK aG)) (aD (rD (Kc (ao (gv 1) aG)) (lN 6) qp) (aD (Ir 5) gC))))
theorem Fl (v2:(List Int)) {lY:Bx} (pR:Lp lY (v2.map eI)) (v5:Int) (vd:Str) (ve:Str):RP Fj [some lY,some ((zE eI) v5),some ((zE eS) vd),some ((zE eS) ve),none,none,none,none,none] (fun r=>Out.rt ((oE eS) r)) (nq v2 v5 vd ve) (some (qD v2 v5 vd ve)):=R.tp (bW 4 (LK (gF (pA 0 eI v2 pR rfl) (aR (.int 1) eI (1:Int) rfl)) (jE (ab2 (aq 3 (zE eS) ve rfl)) (aR (.int 1) eI (1:Int) rfl))) (fun _=>rfl) fun v8=>(bW 5 (jl (eN eS) (zC rfl)) (fun _=>rfl) fun v6=>(Ep (fun v6:(List Str)=>[some lY,some ((zE eI) v5),some ((zE eS) vd),some ((zE eS) ve),some ((zE eI) v8),some ((oE eS) v6),none,none,none]) v6 rfl (Eo (aq 1 (zE eI) v5 rfl)) _ (fun _ _=>rfl) (fun (v6:(List Str)) (v1:Int)=>(Fi v2 pR v5 vd ve v8 v6 v1).r) fun v6=>(Wo 5 (fun r=>r) v6 rfl (fun _=>rfl) fun _=>rfl))))
def cT (v2:(List Int)) (v5:Int):(List Str):=(let vd:=("abcdefghijklmnopqrstuvwxyz" : Str);(let ve:=(Txt.join "" ((rng 0 ((at' v2 (0:Int)) % (6:Int)).toNat).map fun v1:Int=>(ch vd (((at' v2 v1) / (40:Int)) % (26:Int)))));(nq v2 v5 vd ve)))
def rz (v2:(List Int)) (v5:Int):Prop:=(let vd:=("abcdefghijklmnopqrstuvwxyz" : Str);(((((In v2.length (0:Int)/\Rg ((at' v2 (0:Int)) % (6:Int)))/\(rng 0 ((at' v2 (0:Int)) % (6:Int)).toNat).length<=100000)/\(∀ v1∈(rng 0 ((at' v2 (0:Int)) % (6:Int)).toNat),(In v2.length v1/\In vd.length (((at' v2 v1) / (40:Int)) % (26:Int)))))/\(((rng 0 ((at' v2 (0:Int)) % (6:Int)).toNat).map fun v1:Int=>(ch vd (((at' v2 v1) / (40:Int)) % (26:Int)))).map (·.length)).sum+((rng 0 ((at' v2 (0:Int)) % (6:Int)).toNat).map fun v1:Int=>(ch vd (((at' v2 v1) / (40:Int)) % (26:Int)))).length * ("" : Str).length<=100000)/\(let ve:=(Txt.join "" ((rng 0 ((at' v2 (0:Int)) % (6:Int)).toNat).map fun v1:Int=>(ch vd (((at' v2 v1) / (40:Int)) % (26:Int)))));(qD v2 v5 vd ve))))
theorem MK (v2:(List Int)) {lY:Bx} (pR:Lp lY (v2.map eI)) (v5:Int):RP qW [some lY,some ((zE eI) v5),none,none,none,none,none,none,none] (fun r=>Out.rt ((oE eS) r)) (cT v2 v5) (some (rz v2 v5)):=R.tp (bW 2 (aR (.str "abcdefghijklmnopqrstuvwxyz") eS ("abcdefghijklmnopqrstuvwxyz" : Str) rfl) (fun _=>rfl) fun vd=>(bW 3 (ab4 "" (jZ (O9 (Eo (dw (gF (pA 0 eI v2 pR rfl) (aR (.int 0) eI (0:Int) rfl)) 6 (by decide))) _ (fun _=>rfl) (fun v1:Int=>(Rc (aq 0 (zE eS) vd rfl) (dw (yM (gF (pA 1 eI v2 pR (congrArg some (pR.get rfl))) (aq 2 (zE eI) v1 rfl)) 40 (by decide)) 26 (by decide))))))) (fun _=>rfl) fun ve=>(Fl v2 pR v5 vd ve).r))
theorem MN:∀ v bs,(aL eI (aZ eI aN)) v bs->bs.length=2/\(hold (some (rz v.1 v.2.1))->iK (bs.map lend)=some ((oE eS) (cT v.1 v.2.1))):=by
 rintro⟨v2,v5,_⟩ _ ⟨lY,_,rfl,pR,⟨_,rfl,rfl⟩⟩
 exact⟨rfl,fun h=>lO (g:=qW) (n:=9) (bs:=[lend lY,.z (eI v5)]) (MK v2 (Lz pR) v5).r h⟩
end
end G24
end
section
set_option synthInstance.maxSize 100000
namespace G24
open PySem PySem.Spec PyProof.Rows L2 P1
noncomputable section
def dR (v0:(List Int)) (v8:Int) (v5:Int) (vb:(List Int)) (vc:(List Str)) (vh:(List aY)) (v1:Int):(List aY):=(let v2:=(aP (aQ v0 ((v8+(1:Int))+v1)) (4:Int));(let y1:=((at' v2 (0:Int)) % (if v5 > (1:Int) then v5 else (1:Int)));let y2:=((at' v2 (1:Int)) % (if v5 > (1:Int) then v5 else (1:Int)));let vi:=y1;let vj:=y2;(let vk:=(at' [((1:Int)+((at' v2 (2:Int)) % (3:Int))),((1:Int)+((at' v2 (2:Int)) % (9:Int))),((1:Int)+((at' v2 (2:Int)) % (1000:Int)))] ((at' vb (4:Int)) % (3:Int)));(let vh:(List aY):=(if (!decide (vi=vj))=true then (let vh:=vh++[(((0:Int) - vk),(at' vc (if vj < vi then vj else vi)),(at' vc (if vj > vi then vj else vi)),(at' [(0:Int),(2:Int),(10:Int)] ((at' v2 (3:Int)) % (3:Int))))];vh) else vh);vh))))
def jo (v0:(List Int)) (v8:Int) (v5:Int) (vb:(List Int)) (vc:(List Str)) (vh:(List aY)) (v1:Int):Prop:=(((jf v0 ((v8+(1:Int))+v1))/\(fW (aQ v0 ((v8+(1:Int))+v1)) (4:Int)))/\(let v2:=(aP (aQ v0 ((v8+(1:Int))+v1)) (4:Int));(((In v2.length (0:Int)/\0 < (if v5 > (1:Int) then v5 else (1:Int)))/\(In v2.length (1:Int)/\0 < (if v5 > (1:Int) then v5 else (1:Int))))/\(let y1:=((at' v2 (0:Int)) % (if v5 > (1:Int) then v5 else (1:Int)));let y2:=((at' v2 (1:Int)) % (if v5 > (1:Int) then v5 else (1:Int)));let vi:=y1;let vj:=y2;((((In v2.length (2:Int)/\(In v2.length (2:Int)/\In v2.length (2:Int)))/\In vb.length (4:Int))/\In [((1:Int)+((at' v2 (2:Int)) % (3:Int))),((1:Int)+((at' v2 (2:Int)) % (9:Int))),((1:Int)+((at' v2 (2:Int)) % (1000:Int)))].length ((at' vb (4:Int)) % (3:Int)))/\(let vk:=(at' [((1:Int)+((at' v2 (2:Int)) % (3:Int))),((1:Int)+((at' v2 (2:Int)) % (9:Int))),((1:Int)+((at' v2 (2:Int)) % (1000:Int)))] ((at' vb (4:Int)) % (3:Int)));((!decide (vi=vj))=true->((In vc.length (if vj < vi then vj else vi)/\(In vc.length (if vj > vi then vj else vi)/\(In v2.length (3:Int)/\In [(0:Int),(2:Int),(10:Int)].length ((at' v2 (3:Int)) % (3:Int)))))/\Ej vh.length))))))))
theorem BK (v0:(List Int)) {lY:Bx} (pR:Lp lY (v0.map eI)) (v8:Int) (v5:Int) (v9:Int) (va:Int) (vb:(List Int)) (vc:(List Str)) (vh:(List aY)) (v1:Int):RP oN [some lY,some ((zE eI) v8),some ((zE eI) v5),some ((zE eI) v9),some ((zE eI) va),some ((oE eI) vb),some ((oE eS) vc),some ((oE bh) vh),some ((zE eI) v1),none,none,none,none,none,none] (fun s=>Out.nx ((fun vh:(List aY)=>[some lY,some ((zE eI) v8),some ((zE eI) v5),some ((zE eI) v9),some ((zE eI) va),some ((oE eI) vb),some ((oE eS) vc),some ((oE bh) vh),none,none,none,none,none,none,none]) s)) (dR v0 v8 v5 vb vc vh v1) (some (jo v0 v8 v5 vb vc vh v1)):=R.tp (bL (bW 9 (x_call lZ (eV (eY (x_call qC (z7 (pA 0 eI v0 pR rfl) (eV (eY (jE (jE (aq 1 (zE eI) v8 rfl) (aR (.int 1) eI (1:Int) rfl)) (aq 8 (zE eI) v1 rfl))) cL)))) (eV (aR (.int 4) eI (4:Int) rfl) cL))) (fun _=>rfl) fun v2=>(bL (Wq 10 11 (LK (gF (fJ (aq 9 (lE eI) v2 rfl)) (aR (.int 0) eI (0:Int) rfl)) (Ek (aR (.int 1) eI (1:Int) rfl) (aq 2 (zE eI) v5 rfl))) (LK (gF (fJ (aq 9 (lE eI) v2 rfl)) (aR (.int 1) eI (1:Int) rfl)) (Ek (aR (.int 1) eI (1:Int) rfl) (aq 2 (zE eI) v5 rfl))) fun vi vj=>(bL (bW 12 (gF (jZ (jl (cj (eY (jE (aR (.int 1) eI (1:Int) rfl) (dw (gF (fJ (aq 9 (lE eI) v2 rfl)) (aR (.int 2) eI (2:Int) rfl)) 3 (by decide)))) (cj (eY (jE (aR (.int 1) eI (1:Int) rfl) (dw (gF (fJ (aq 9 (lE eI) v2 rfl)) (aR (.int 2) eI (2:Int) rfl)) 9 (by decide)))) (cj (eY (jE (aR (.int 1) eI (1:Int) rfl) (dw (gF (fJ (aq 9 (lE eI) v2 rfl)) (aR (.int 2) eI (2:Int) rfl)) 1000 (by decide)))) (eN eI)))) (zC rfl))) (dw (gF (fJ (aq 5 (lE eI) vb rfl)) (aR (.int 4) eI (4:Int) rfl)) 3 (by decide))) (fun _=>rfl) fun vk=>(bL (wj (fun vh:(List aY)=>[some lY,some ((zE eI) v8),some ((zE eI) v5),some ((zE eI) v9),some ((zE eI) va),some ((oE eI) vb),some ((oE eS) vc),some ((oE bh) vh),some ((zE eI) v1),some ((oE eI) v2),some ((zE eI) vi),some ((zE eI) vj),some ((zE eI) vk),none,none]) (fD (LQ (by decide) (aq 10 (zE eI) vi rfl) (aq 11 (zE eI) vj rfl))) (bL (wg 7 vh rfl (Js (LC (aR (.int 0) eI (0:Int) rfl) (aq 12 (zE eI) vk rfl)) (gF (fJ (aq 6 (lE eS) vc rfl)) (Wn (aq 10 (zE eI) vi rfl) (aq 11 (zE eI) vj rfl))) (gF (fJ (aq 6 (lE eS) vc rfl)) (Ek (aq 10 (zE eI) vi rfl) (aq 11 (zE eI) vj rfl))) (gF (jZ (jl (cj (aR (.int 0) eI (0:Int) rfl) (cj (aR (.int 2) eI (2:Int) rfl) (cj (aR (.int 10) eI (10:Int) rfl) (eN eI)))) (zC rfl))) (dw (gF (fJ (aq 9 (lE eI) v2 rfl)) (aR (.int 3) eI (3:Int) rfl)) 3 (by decide)))) fun vh=>(cR (bI vh rfl)))) (cR (bI vh rfl)) fun vh=>(cR (bI vh rfl))))))))))
def cJ (v0:(List Int)) (v8:Int) (v5:Int) (vc:(List Str)) (vl:(List bK)) (v1:Int):(List bK):=(let v2:=(aP (aQ v0 ((v8+(1:Int))+v1)) (8:Int));(let y4:=((at' v2 (5:Int)) % (if v5 > (1:Int) then v5 else (1:Int)));let y5:=((at' v2 (6:Int)) % (if v5 > (1:Int) then v5 else (1:Int)));let vi:=y4;let vj:=y5;(let vl:(List bK):=(if (!decide (vi=vj))=true then (let vl:=vl++[((at' vc (if vj < vi then vj else vi)),(at' vc (if vj > vi then vj else vi)),(at' [(2:Int),(10:Int)] ((at' v2 (7:Int)) % (2:Int))))];vl) else vl);vl)))
def jq (v0:(List Int)) (v8:Int) (v5:Int) (vc:(List Str)) (vl:(List bK)) (v1:Int):Prop:=(((jf v0 ((v8+(1:Int))+v1))/\(fW (aQ v0 ((v8+(1:Int))+v1)) (8:Int)))/\(let v2:=(aP (aQ v0 ((v8+(1:Int))+v1)) (8:Int));(((In v2.length (5:Int)/\0 < (if v5 > (1:Int) then v5 else (1:Int)))/\(In v2.length (6:Int)/\0 < (if v5 > (1:Int) then v5 else (1:Int))))/\(let y4:=((at' v2 (5:Int)) % (if v5 > (1:Int) then v5 else (1:Int)));let y5:=((at' v2 (6:Int)) % (if v5 > (1:Int) then v5 else (1:Int)));let vi:=y4;let vj:=y5;((!decide (vi=vj))=true->((In vc.length (if vj < vi then vj else vi)/\(In vc.length (if vj > vi then vj else vi)/\(In v2.length (7:Int)/\In [(2:Int),(10:Int)].length ((at' v2 (7:Int)) % (2:Int)))))/\Ej vl.length))))))
theorem BL (v0:(List Int)) {lY:Bx} (pR:Lp lY (v0.map eI)) (v8:Int) (v5:Int) (v9:Int) (va:Int) (vb:(List Int)) (vc:(List Str)) (vh:(List aY)) (v6:(List aY)) (vl:(List bK)) (v1:Int):RP oO [some lY,some ((zE eI) v8),some ((zE eI) v5),some ((zE eI) v9),some ((zE eI) va),some ((oE eI) vb),some ((oE eS) vc),some ((oE bh) vh),some ((zE eI) v1),none,none,none,none,some ((oE bh) v6),some ((oE bQ) vl)] (fun s=>Out.nx ((fun vl:(List bK)=>[some lY,some ((zE eI) v8),some ((zE eI) v5),some ((zE eI) v9),some ((zE eI) va),some ((oE eI) vb),some ((oE eS) vc),some ((oE bh) vh),none,none,none,none,none,some ((oE bh) v6),some ((oE bQ) vl)]) s)) (cJ v0 v8 v5 vc vl v1) (some (jq v0 v8 v5 vc vl v1)):=R.tp (bL (bW 9 (x_call lZ (eV (eY (x_call qC (z7 (pA 0 eI v0 pR rfl) (eV (eY (jE (jE (aq 1 (zE eI) v8 rfl) (aR (.int 1) eI (1:Int) rfl)) (aq 8 (zE eI) v1 rfl))) cL)))) (eV (aR (.int 8) eI (8:Int) rfl) cL))) (fun _=>rfl) fun v2=>(bL (Wq 10 11 (LK (gF (fJ (aq 9 (lE eI) v2 rfl)) (aR (.int 5) eI (5:Int) rfl)) (Ek (aR (.int 1) eI (1:Int) rfl) (aq 2 (zE eI) v5 rfl))) (LK (gF (fJ (aq 9 (lE eI) v2 rfl)) (aR (.int 6) eI (6:Int) rfl)) (Ek (aR (.int 1) eI (1:Int) rfl) (aq 2 (zE eI) v5 rfl))) fun vi vj=>(bL (wj (fun vl:(List bK)=>[some lY,some ((zE eI) v8),some ((zE eI) v5),some ((zE eI) v9),some ((zE eI) va),some ((oE eI) vb),some ((oE eS) vc),some ((oE bh) vh),some ((zE eI) v1),some ((oE eI) v2),some ((zE eI) vi),some ((zE eI) vj),none,some ((oE bh) v6),some ((oE bQ) vl)]) (fD (LQ (by decide) (aq 10 (zE eI) vi rfl) (aq 11 (zE eI) vj rfl))) (bL (wg 14 vl rfl (uV (gF (fJ (aq 6 (lE eS) vc rfl)) (Wn (aq 10 (zE eI) vi rfl) (aq 11 (zE eI) vj rfl))) (gF (fJ (aq 6 (lE eS) vc rfl)) (Ek (aq 10 (zE eI) vi rfl) (aq 11 (zE eI) vj rfl))) (gF (jZ (jl (cj (aR (.int 2) eI (2:Int) rfl) (cj (aR (.int 10) eI (10:Int) rfl) (eN eI))) (zC rfl))) (dw (gF (fJ (aq 9 (lE eI) v2 rfl)) (aR (.int 7) eI (7:Int) rfl)) 2 (by decide)))) fun vl=>(cR (bI vl rfl)))) (cR (bI vl rfl)) fun vl=>(cR (bI vl rfl))))))))
def oR (v0:(List Int)) (v8:Int) (v5:Int) (v9:Int) (va:Int) (vb:(List Int)) (vc:(List Str)) (vh:(List aY)):z9:=(let v6:=((pB bh (Gd vh)).map fun q3:aY=>(((0:Int) - q3.1),q3.2.1,q3.2.2.1,q3.2.2.2));(let vl:=([]:List bK);(let vl:(List bK):=((rng 0 va.toNat).foldl (fun (vl:(List bK)) (v1:Int)=>(cJ v0 v8 v5 vc vl v1)) vl);(vc,v6,(pB bQ (Gd vl))))))
def oU (v0:(List Int)) (v8:Int) (v5:Int) (v9:Int) (va:Int) (vb:(List Int)) (vc:(List Str)) (vh:(List aY)):Prop:=(((vh.length<=64/\vh.length < 64)/\(pB bh (Gd vh)).length<=100000)/\(let v6:=((pB bh (Gd vh)).map fun q3:aY=>(((0:Int) - q3.1),q3.2.1,q3.2.2.1,q3.2.2.2));(let vl:=([]:List bK);((Rg va/\qM (fun (vl:(List bK)) (v1:Int)=>(cJ v0 v8 v5 vc vl v1)) (fun (vl:(List bK)) (v1:Int)=>some (jq v0 v8 v5 vc vl v1)) (rng 0 va.toNat) vl)/\(let vl:(List bK):=((rng 0 va.toNat).foldl (fun (vl:(List bK)) (v1:Int)=>(cJ v0 v8 v5 vc vl v1)) vl);(vl.length<=64/\vl.length < 64))))))
def uf:Ev->Option Out:=(aD (setG 13 (eX (G8 (DX (O1 (gv 7)))) (p8 4 (bV (lN 0) (bV (lN 1) (bV (lN 2) (bV (lN 3) rR))))) ur (bY jG (ao (b2 subB (cB (.int 0)) (gv 0)) (ao (gv 1) (ao (gv 2) (ao (gv 3) aG))))) [] 4)) (aD (setG 14 (bY lK aG)) (aD (rD (Kc (ao (gv 4) aG)) (lN 8) oO) (aD (jH (bY jG (ao (b1 ou (bY lM (ao (gv 6) aG))) (ao (b1 ou (bY lM (ao (gv 13) aG))) (ao (b1 ou (bY lM (ao (DX (O1 (gv 14))) aG))) aG))))) gC))))
theorem BP (v0:(List Int)) {lY:Bx} (pR:Lp lY (v0.map eI)) (v8:Int) (v5:Int) (v9:Int) (va:Int) (vb:(List Int)) (vc:(List Str)) (vh:(List aY)):RP uf [some lY,some ((zE eI) v8),some ((zE eI) v5),some ((zE eI) v9),some ((zE eI) va),some ((oE eI) vb),some ((oE eS) vc),some ((oE bh) vh),none,none,none,none,none,none,none] (fun r=>Out.rt ((zE oM) r)) (oR v0 v8 v5 v9 va vb vc vh) (some (oU v0 v8 v5 v9 va vb vc vh)):=R.tp (bW 13 (qR (Jv (jZ (Wy (Wx (fJ (aq 7 (lE bh) vh rfl)))))) _ (fun _=>rfl) (fun q3:aY=>(Js (LC (aR (.int 0) eI (0:Int) rfl) (aq 0 (zE eI) q3.1 rfl)) (aq 1 (zE eS) q3.2.1 rfl) (aq 2 (zE eS) q3.2.2.1 rfl) (aq 3 (zE eI) q3.2.2.2 rfl))) fun _=>rfl) (fun _=>rfl) fun v6=>(bW 14 (jl (eN bQ) (zC rfl)) (fun _=>rfl) fun vl=>(Ep (fun vl:(List bK)=>[some lY,some ((zE eI) v8),some ((zE eI) v5),some ((zE eI) v9),some ((zE eI) va),some ((oE eI) vb),some ((oE eS) vc),some ((oE bh) vh),none,none,none,none,none,some ((oE bh) v6),some ((oE bQ) vl)]) vl rfl (Eo (aq 4 (zE eI) va rfl)) _ (fun _ _=>rfl) (fun (vl:(List bK)) (v1:Int)=>(BL v0 pR v8 v5 v9 va vb vc vh v6 vl v1).r) fun vl=>(lJ (fun r=>r) (uV (eY (pG (fJ (aq 6 (lE eS) vc rfl)))) (eY (pG (fJ (aq 13 (lE bh) v6 rfl)))) (eY (pG (jZ (Wy (Wx (fJ (aq 14 (lE bQ) vl rfl)))))))) (fun _=>rfl) fun _=>rfl))))
def oV (v0:(List Int)) (v8:Int) (v5:Int) (v9:Int) (va:Int) (vb:(List Int)) (vc:(List Str)):z9:=(let vh:=([]:List aY);(let vh:(List aY):=((rng 0 v9.toNat).foldl (fun (vh:(List aY)) (v1:Int)=>(dR v0 v8 v5 vb vc vh v1)) vh);(oR v0 v8 v5 v9 va vb vc vh)))
def oW (v0:(List Int)) (v8:Int) (v5:Int) (v9:Int) (va:Int) (vb:(List Int)) (vc:(List Str)):Prop:=(let vh:=([]:List aY);((Rg v9/\qM (fun (vh:(List aY)) (v1:Int)=>(dR v0 v8 v5 vb vc vh v1)) (fun (vh:(List aY)) (v1:Int)=>some (jo v0 v8 v5 vb vc vh v1)) (rng 0 v9.toNat) vh)/\(let vh:(List aY):=((rng 0 v9.toNat).foldl (fun (vh:(List aY)) (v1:Int)=>(dR v0 v8 v5 vb vc vh v1)) vh);(oU v0 v8 v5 v9 va vb vc vh))))
def ug:Ev->Option Out:=(aD (setG 7 (bY lK aG)) (aD (rD (Kc (ao (gv 3) aG)) (lN 8) oN) uf))
theorem BR (v0:(List Int)) {lY:Bx} (pR:Lp lY (v0.map eI)) (v8:Int) (v5:Int) (v9:Int) (va:Int) (vb:(List Int)) (vc:(List Str)):RP ug [some lY,some ((zE eI) v8),some ((zE eI) v5),some ((zE eI) v9),some ((zE eI) va),some ((oE eI) vb),some ((oE eS) vc),none,none,none,none,none,none,none,none] (fun r=>Out.rt ((zE oM) r)) (oV v0 v8 v5 v9 va vb vc) (some (oW v0 v8 v5 v9 va vb vc)):=R.tp (bW 7 (jl (eN bh) (zC rfl)) (fun _=>rfl) fun vh=>(Ep (fun vh:(List aY)=>[some lY,some ((zE eI) v8),some ((zE eI) v5),some ((zE eI) v9),some ((zE eI) va),some ((oE eI) vb),some ((oE eS) vc),some ((oE bh) vh),none,none,none,none,none,none,none]) vh rfl (Eo (aq 3 (zE eI) v9 rfl)) _ (fun _ _=>rfl) (fun (vh:(List aY)) (v1:Int)=>(BK v0 pR v8 v5 v9 va vb vc vh v1).r) fun vh=>(BP v0 pR v8 v5 v9 va vb vc vh).r))
def mD (v0:(List Int)) (v8:Int) (v5:Int) (v9:Int) (va:Int) (vb:(List Int)):z9:=(let vc:=(iB (cT vb v5));(oV v0 v8 v5 v9 va vb vc))
def oX (v0:(List Int)) (v8:Int) (v5:Int) (v9:Int) (va:Int) (vb:(List Int)):Prop:=(((rz vb v5)/\(cT vb v5).length < 64)/\(let vc:=(iB (cT vb v5));(oW v0 v8 v5 v9 va vb vc)))
def BW:Ev->Option Out:=(aD (setG 6 (bY Ba (ao (cV 2 iK (ao (gv 5) (ao (gv 2) aG))) aG))) ug)
theorem BX (v0:(List Int)) {lY:Bx} (pR:Lp lY (v0.map eI)) (v8:Int) (v5:Int) (v9:Int) (va:Int) (vb:(List Int)):RP BW [some lY,some ((zE eI) v8),some ((zE eI) v5),some ((zE eI) v9),some ((zE eI) va),some ((oE eI) vb),none,none,none,none,none,none,none,none,none] (fun r=>Out.rt ((zE oM) r)) (mD v0 v8 v5 v9 va vb) (some (oX v0 v8 v5 v9 va vb)):=R.tp (bW 6 (Ju (jZ (x_call MN (z7 (fJ (aq 5 (lE eI) vb rfl)) (eV (aq 2 (zE eI) v5 rfl) cL))))) (fun _=>rfl) fun vc=>(BR v0 pR v8 v5 v9 va vb vc).r)
def jg (v0:(List Int)) (v8:Int) (v5:Int) (v9:Int) (va:Int):z9:=(let vb:=(aP (aQ v0 v8) (6:Int));(mD v0 v8 v5 v9 va vb))
def pU (v0:(List Int)) (v8:Int) (v5:Int) (v9:Int) (va:Int):Prop:=(((jf v0 v8)/\(fW (aQ v0 v8) (6:Int)))/\(let vb:=(aP (aQ v0 v8) (6:Int));(oX v0 v8 v5 v9 va vb)))
theorem JN (v0:(List Int)) {lY:Bx} (pR:Lp lY (v0.map eI)) (v8:Int) (v5:Int) (v9:Int) (va:Int):RP pI [some lY,some ((zE eI) v8),some ((zE eI) v5),some ((zE eI) v9),some ((zE eI) va),none,none,none,none,none,none,none,none,none,none] (fun r=>Out.rt ((zE oM) r)) (jg v0 v8 v5 v9 va) (some (pU v0 v8 v5 v9 va)):=R.tp (bW 5 (x_call lZ (eV (eY (x_call qC (z7 (pA 0 eI v0 pR rfl) (eV (aq 1 (zE eI) v8 rfl) cL)))) (eV (aR (.int 6) eI (6:Int) rfl) cL))) (fun _=>rfl) fun vb=>(BX v0 pR v8 v5 v9 va vb).r)
theorem JQ:∀ v bs,(aL eI (aZ eI (aZ eI (aZ eI (aZ eI aN))))) v bs->bs.length=5/\(hold (some (pU v.1 v.2.1 v.2.2.1 v.2.2.2.1 v.2.2.2.2.1))->iU (bs.map lend)=some ((zE oM) (jg v.1 v.2.1 v.2.2.1 v.2.2.2.1 v.2.2.2.2.1))):=by
 rintro⟨v0,v8,v5,v9,va,_⟩ _ ⟨lY,_,rfl,pR,⟨_,rfl,⟨_,rfl,⟨_,rfl,⟨_,rfl,rfl⟩⟩⟩⟩⟩
 exact⟨rfl,fun h=>lO (g:=pI) (n:=15) (bs:=[lend lY,.z (eI v8),.z (eI v5),.z (eI v9),.z (eI va)]) (JN v0 (Lz pR) v8 v5 v9 va).r h⟩
end
end G24
end
section
set_option synthInstance.maxSize 100000
namespace G24
open PySem PySem.Spec PyProof.Rows L2 P1
noncomputable section
def aH (vo:(List (List Str))) (vg:Str):(List Str):=(at' ((vo.filter fun vs:(List Str)=>(decide (vg∈vs))).map fun vs:(List Str)=>vs) (0:Int))
def eG (vo:(List (List Str))) (vg:Str):Prop:=(vo.length<=100000/\In ((vo.filter fun vs:(List Str)=>(decide (vg∈vs))).map fun vs:(List Str)=>vs).length (0:Int))
theorem JR (vo:(List (List Str))) {lY:Bx} (pR:Lp lY (vo.map (eT eS))) (vg:Str):RP pJ [some lY,some ((zE eS) vg)] (fun r=>Out.rt ((zE (eT eS)) r)) (aH vo vg) (some (eG vo vg)):=R.tp (lJ (fun r=>r) (gF (jZ (rZ (Jv (pA 0 (eT eS) vo pR rfl)) _ (fun _=>rfl) (fun vs:(List Str)=>(fD (El (aq 0 (zE eS) vg rfl) (aq 1 (zE (eT eS)) vs rfl)))) (fun vs:(List Str)=>(aq 1 (zE (eT eS)) vs rfl)) (fun _=>rfl) fun _=>rfl)) (aR (.int 0) eI (0:Int) rfl)) (fun _=>rfl) fun _=>rfl)
theorem lD:∀ v bs,(aL (eT eS) (aZ eS aN)) v bs->bs.length=2/\(hold (some (eG v.1 v.2.1))->cM (bs.map lend)=some ((zE (eT eS)) (aH v.1 v.2.1))):=by
 rintro⟨vo,vg,_⟩ _ ⟨lY,_,rfl,pR,⟨_,rfl,rfl⟩⟩
 exact⟨rfl,fun h=>lO (g:=pJ) (n:=2) (bs:=[lend lY,.z (eS vg)]) (JR vo (Lz pR) vg).r h⟩
end
end G24
end
section
set_option synthInstance.maxSize 100000
namespace G24
open PySem PySem.Spec PyProof.Rows L2 P1
noncomputable section
def bH (va:(List bK)) (s1:(List fu)×(List aY)×(List (List Str))) (vr:aY):(List fu)×(List aY)×(List (List Str)):=(let q2:=((aH s1.2.2 vr.2.1),(aH s1.2.2 vr.2.2.1));(let vt:=((va.filter fun vu:bK=>(((decide (vu.1∈q2.1))&&(decide (vu.2.1∈q2.2)))||((decide (vu.1∈q2.2))&&(decide (vu.2.1∈q2.1))))).map fun vu:bK=>vu);(let s4:(List fu)×(List aY)×(List (List Str)):=(if ((!decide (q2.1=q2.2))&&(!decide (vt=([]:List bK))))=true then (let vq:=s1.1++[(vr,(some (at' vt (0:Int))))];(vq,s1.2.1,s1.2.2)) else (let s3:(List aY)×(List (List Str)):=(if (!decide (q2.1=q2.2))=true then (let vp:=s1.2.1++[vr];(let vo:=(((s1.2.2.filter fun vs:(List Str)=>(!BJ vs [q2.1,q2.2])).map fun vs:(List Str)=>vs)++[(iB (q2.1++q2.2))]);(vp,vo))) else (s1.2.1,s1.2.2));(s1.1,s3.1,s3.2)));(s4.1,s4.2.1,s4.2.2))))
def dX (va:(List bK)) (s1:(List fu)×(List aY)×(List (List Str))) (vr:aY):Prop:=(((eG s1.2.2 vr.2.1)/\(eG s1.2.2 vr.2.2.1))/\(let q2:=((aH s1.2.2 vr.2.1),(aH s1.2.2 vr.2.2.1));(va.length<=100000/\(let vt:=((va.filter fun vu:bK=>(((decide (vu.1∈q2.1))&&(decide (vu.2.1∈q2.2)))||((decide (vu.1∈q2.2))&&(decide (vu.2.1∈q2.1))))).map fun vu:bK=>vu);((((!decide (q2.1=q2.2))&&(!decide (vt=([]:List bK))))=true->(In vt.length (0:Int)/\Ej s1.1.length))/\(((!decide (q2.1=q2.2))&&(!decide (vt=([]:List bK))))=false->((!decide (q2.1=q2.2))=true->(Ej s1.2.1.length/\(let vp:=s1.2.1++[vr];((s1.2.2.length<=100000/\(Ej (q2.1.length+q2.2.length)/\(q2.1++q2.2).length < 64))/\Ej (((s1.2.2.filter fun vs:(List Str)=>(!BJ vs [q2.1,q2.2])).map fun vs:(List Str)=>vs).length+[(iB (q2.1++q2.2))].length)))))))))))
theorem uw (vc:(List Str)) (v9:(List aY)) (va:(List bK)) (s1:(List fu)×(List aY)×(List (List Str))) (vr:aY):RP nA [some ((zE (eT eS)) vc),some ((zE (eT bh)) v9),some ((zE (eT bQ)) va),some ((oE (eT eS)) s1.2.2),some ((oE bh) s1.2.1),some ((oE j4) s1.1),some ((zE bh) vr),none,none,none] (fun s=>Out.nx ((fun s1:(List fu)×(List aY)×(List (List Str))=>[some ((zE (eT eS)) vc),some ((zE (eT bh)) v9),some ((zE (eT bQ)) va),some ((oE (eT eS)) s1.2.2),some ((oE bh) s1.2.1),some ((oE j4) s1.1),none,none,none,none]) s)) (bH va s1 vr) (some (dX va s1 vr)):=R.tp (bL (Ri (zZ (eY (x_call lD (z7 (fJ (aq 3 (lE (eT eS)) s1.2.2 rfl)) (eV (n8 (aq 6 (zE bh) vr rfl) (fun q=>q.2.1) eS 1 fun _=>rfl) cL)))) (eY (x_call lD (z7 (fJ (aq 3 (lE (eT eS)) s1.2.2 rfl)) (eV (n8 (aq 6 (zE bh) vr rfl) (fun q=>q.2.2.1) eS 2 fun _=>rfl) cL))))) _ (fun _=>rfl) fun q2=>(bL (bW 9 (rZ (Tt (aq 2 (zE (eT bQ)) va rfl)) _ (fun _=>rfl) (fun vu:bK=>(O7 (LR (fD (El (n8 (aq 2 (zE bQ) vu rfl) (fun q=>q.1) eS 0 fun _=>rfl) (aq 0 (zE (eT eS)) q2.1 rfl))) (fD (El (n8 (aq 2 (zE bQ) vu rfl) (fun q=>q.2.1) eS 1 fun _=>rfl) (aq 1 (zE (eT eS)) q2.2 rfl)))) (LR (fD (El (n8 (aq 2 (zE bQ) vu rfl) (fun q=>q.1) eS 0 fun _=>rfl) (aq 1 (zE (eT eS)) q2.2 rfl))) (fD (El (n8 (aq 2 (zE bQ) vu rfl) (fun q=>q.2.1) eS 1 fun _=>rfl) (aq 0 (zE (eT eS)) q2.1 rfl)))))) (fun vu:bK=>(aq 2 (zE bQ) vu rfl)) (fun _=>rfl) fun _=>rfl) (fun _=>rfl) fun vt=>(bL (wj (fun s4:(List fu)×(List aY)×(List (List Str))=>[some ((zE (eT eS)) vc),some ((zE (eT bh)) v9),some ((zE (eT bQ)) va),some ((oE (eT eS)) s4.2.2),some ((oE bh) s4.2.1),some ((oE j4) s4.1),some ((zE bh) vr),some ((zE (eT eS)) q2.1),some ((zE (eT eS)) q2.2),some ((oE bQ) vt)]) (LR (fD (LQ (by decide) (aq 7 (zE (eT eS)) q2.1 rfl) (aq 8 (zE (eT eS)) q2.2 rfl))) (fD (Wa (by decide) (fJ (aq 9 (lE bQ) vt rfl)) (jZ (jl (eN bQ) (zC rfl)))))) (bL (wg 5 s1.1 rfl (zZ (aq 6 (zE bh) vr rfl) (V8 (gF (fJ (aq 9 (lE bQ) vt rfl)) (aR (.int 0) eI (0:Int) rfl)))) fun vq=>(cR (bI (vq,s1.2.1,s1.2.2) rfl)))) (bL (wj (fun s3:(List aY)×(List (List Str))=>[some ((zE (eT eS)) vc),some ((zE (eT bh)) v9),some ((zE (eT bQ)) va),some ((oE (eT eS)) s3.2),some ((oE bh) s3.1),some ((oE j4) s1.1),some ((zE bh) vr),some ((zE (eT eS)) q2.1),some ((zE (eT eS)) q2.2),some ((oE bQ) vt)]) (fD (LQ (by decide) (aq 7 (zE (eT eS)) q2.1 rfl) (aq 8 (zE (eT eS)) q2.2 rfl))) (bL (wg 4 s1.2.1 rfl (aq 6 (zE bh) vr rfl) fun vp=>(bL (bW 3 (O8 (jZ (rZ (Jv (fJ (aq 3 (lE (eT eS)) s1.2.2 rfl))) _ (fun _=>rfl) (fun vs:(List Str)=>(fD (WK (by decide) (aq 2 (zE (eT eS)) vs rfl) (jZ (jl (cj (aq 0 (zE (eT eS)) q2.1 rfl) (cj (aq 1 (zE (eT eS)) q2.2 rfl) (eN (eT eS)))) (zC rfl)))))) (fun vs:(List Str)=>(aq 2 (zE (eT eS)) vs rfl)) (fun _=>rfl) fun _=>rfl)) (jZ (jl (cj (eY (pG (jZ (WQ (ab1 (aq 7 (zE (eT eS)) q2.1 rfl) (aq 8 (zE (eT eS)) q2.2 rfl)))))) (eN (eT eS))) (zC rfl)))) (fun _=>rfl) fun vo=>(cR (bI (vp,vo) rfl)))))) (cR (bI (s1.2.1,s1.2.2) rfl)) fun s3=>(cR (bI (s1.1,s3.1,s3.2) rfl)))) fun s4=>(cR (bI (s4.1,s4.2.1,s4.2.2) rfl))))))))
def bN (vc:(List Str)) (v9:(List aY)) (va:(List bK)):Mj:=(let vo:=(vc.map fun vg:Str=>[vg]);(let vp:=([]:List aY);(let vq:=([]:List fu);(let s1:(List fu)×(List aY)×(List (List Str)):=(v9.foldl (fun (s1:(List fu)×(List aY)×(List (List Str))) (vr:aY)=>(bH va s1 vr)) (vq,vp,vo));((bF s1.2.2),s1.2.1,s1.1)))))
def gA (vc:(List Str)) (v9:(List aY)) (va:(List bK)):Prop:=(vc.length<=100000/\(let vo:=(vc.map fun vg:Str=>[vg]);(let vp:=([]:List aY);(let vq:=([]:List fu);(qM (fun (s1:(List fu)×(List aY)×(List (List Str))) (vr:aY)=>(bH va s1 vr)) (fun (s1:(List fu)×(List aY)×(List (List Str))) (vr:aY)=>some (dX va s1 vr)) v9 (vq,vp,vo)/\(let s1:(List fu)×(List aY)×(List (List Str)):=(v9.foldl (fun (s1:(List fu)×(List aY)×(List (List Str))) (vr:aY)=>(bH va s1 vr)) (vq,vp,vo));(s1.2.2.length < 64/\∀ x∈s1.2.2,x.isEmpty=false)))))))
theorem xr (vc:(List Str)) (v9:(List aY)) (va:(List bK)):RP iV [some ((zE (eT eS)) vc),some ((zE (eT bh)) v9),some ((zE (eT bQ)) va),none,none,none,none,none,none,none] (fun r=>Out.rt ((zE nu) r)) (bN vc v9 va) (some (gA vc v9 va)):=R.tp (bW 3 (qR (Tt (aq 0 (zE (eT eS)) vc rfl)) _ (fun _=>rfl) (fun vg:Str=>(abX (cj (aq 0 (zE eS) vg rfl) (eN eS)) (zC rfl))) fun _=>rfl) (fun _=>rfl) fun vo=>(bW 4 (jl (eN bh) (zC rfl)) (fun _=>rfl) fun vp=>(bW 5 (jl (eN j4) (zC rfl)) (fun _=>rfl) fun vq=>(Pa 1 v9 (Er rfl) (fun s1:(List fu)×(List aY)×(List (List Str))=>[some ((zE (eT eS)) vc),some ((zE (eT bh)) v9),some ((zE (eT bQ)) va),some ((oE (eT eS)) s1.2.2),some ((oE bh) s1.2.1),some ((oE j4) s1.1),none,none,none,none]) (vq,vp,vo) rfl _ (fun _ _=>rfl) (fun (s1:(List fu)×(List aY)×(List (List Str))) (vr:aY)=>(uw vc v9 va s1 vr).r) fun s1=>(Zm 4 [some ((zE (eT eS)) vc),some ((zE (eT bh)) v9),some ((zE (eT bQ)) va),some ((oE (eT eS)) s1.2.2),some ((zE (eL bh)) s1.2.1),some ((oE j4) s1.1),none,none,none,none] rfl (Zm 5 [some ((zE (eT eS)) vc),some ((zE (eT bh)) v9),some ((zE (eT bQ)) va),some ((oE (eT eS)) s1.2.2),some ((zE (eL bh)) s1.2.1),some ((zE (eL j4)) s1.1),none,none,none,none] rfl (lJ (fun r=>r) (uV (Tr (Cy (fJ (aq 3 (lE (eT eS)) s1.2.2 rfl)))) (aq 4 (zE (eL bh)) s1.2.1 rfl) (aq 5 (zE (eL j4)) s1.1 rfl)) (fun _=>rfl) fun _=>rfl)))))))
theorem qF:∀ v bs,(aZ (eT eS) (aZ (eT bh) (aZ (eT bQ) aN))) v bs->bs.length=3/\(hold (some (gA v.1 v.2.1 v.2.2.1))->bR (bs.map lend)=some ((zE nu) (bN v.1 v.2.1 v.2.2.1))):=by
 rintro⟨vc,v9,va,_⟩ _ ⟨_,rfl,⟨_,rfl,⟨_,rfl,rfl⟩⟩⟩
 exact⟨rfl,fun h=>lO (g:=iV) (n:=10) (bs:=[.z ((eT eS) vc),.z ((eT bh) v9),.z ((eT bQ) va)]) (xr vc v9 va).r h⟩
end
end G24
end
section
set_option synthInstance.maxSize 100000
namespace G24
open PySem PySem.Spec PyProof.Rows L2 P1
noncomputable section
def cD (vx:(List Str)):(List (Str×Str)):=(mkD (vx.map fun vy:Str=>(vy,vy)))
def pW (vx:(List Str)):Prop:=(vx.length < 1000/\vx.length<=100000)
theorem JT (vx:(List Str)):RP pK [some ((zE (eT eS)) vx)] (fun r=>Out.rt ((mE eS) r)) (cD vx) (some (pW vx)):=R.tp (lJ (fun r=>r) (Zg (Tt (aq 0 (zE (eT eS)) vx rfl)) (qR (Tt (aq 0 (zE (eT eS)) vx rfl)) _ (fun _=>rfl) (fun vy:Str=>(Zf (aq 0 (zE eS) vy rfl) (aq 0 (zE eS) vy rfl))) fun _=>rfl)) (fun _=>rfl) fun _=>rfl)
theorem JV:∀ v bs,(aZ (eT eS) aN) v bs->bs.length=1/\(hold (some (pW v.1))->gJ (bs.map lend)=some ((mE eS) (cD v.1))):=by
 rintro⟨vx,_⟩ _ ⟨_,rfl,rfl⟩
 exact⟨rfl,fun h=>lO (g:=pK) (n:=1) (bs:=[.z ((eT eS) vx)]) (JT vx).r h⟩
end
end G24
end
section
set_option synthInstance.maxSize 100000
namespace G24
open PySem PySem.Spec PyProof.Rows L2 P1
noncomputable section
def iG (vw:(List (Str×Str))) (iH:Str) (iI:Str) (s1:Unit) (rK:bK):ux (Unit) (Option bK):=(if (((decide ((look vw rK.1)=iH))&&(decide ((look vw rK.2.1)=iI)))||((decide ((look vw rK.1)=iI))&&(decide ((look vw rK.2.1)=iH))))=true then (ux.rt (some rK)) else (ux.nx ()))
def sE (vw:(List (Str×Str))) (iH:Str) (iI:Str) (s1:Unit) (rK:bK):Prop:=((has vw rK.1=true/\((decide ((look vw rK.1)=iH))=true->has vw rK.2.1=true))/\(((decide ((look vw rK.1)=iH))&&(decide ((look vw rK.2.1)=iI)))=false->(has vw rK.1=true/\((decide ((look vw rK.1)=iI))=true->has vw rK.2.1=true))))
theorem Ai (xu:(List bK)) (vw:(List (Str×Str))) (iH:Str) (iI:Str) (s1:Unit) (rK:bK):RP su [some ((zE (eT bQ)) xu),some ((nE eS) vw),some ((zE eS) iH),some ((zE eS) iI),some ((zE bQ) rK)] (cC (fun s1:Unit=>[some ((zE (eT bQ)) xu),some ((nE eS) vw),some ((zE eS) iH),some ((zE eS) iI),none]) (zE (eO bQ))) (iG vw iH iI s1 rK) (some (sE vw iH iI s1 rK)):=R.tp (bL (Bj (O7 (LR (fD (x_eq (by decide) (rE (aq 1 (nE eS) vw rfl) (n8 (aq 4 (zE bQ) rK rfl) (fun q=>q.1) eS 0 fun _=>rfl)) (aq 2 (zE eS) iH rfl))) (fD (x_eq (by decide) (rE (aq 1 (nE eS) vw rfl) (n8 (aq 4 (zE bQ) rK rfl) (fun q=>q.2.1) eS 1 fun _=>rfl)) (aq 3 (zE eS) iI rfl)))) (LR (fD (x_eq (by decide) (rE (aq 1 (nE eS) vw rfl) (n8 (aq 4 (zE bQ) rK rfl) (fun q=>q.1) eS 0 fun _=>rfl)) (aq 3 (zE eS) iI rfl))) (fD (x_eq (by decide) (rE (aq 1 (nE eS) vw rfl) (n8 (aq 4 (zE bQ) rK rfl) (fun q=>q.2.1) eS 1 fun _=>rfl)) (aq 2 (zE eS) iH rfl))))) (bL (lJ .rt (V8 (aq 4 (zE bQ) rK rfl)) (fun _=>rfl) fun _=>rfl)) (cR (cR (bI (.nx ()) rfl)))))
def fX (xu:(List bK)) (vw:(List (Str×Str))) (iH:Str) (iI:Str):(Option bK):=(behind (ni (fun (s1:Unit) (rK:bK)=>((iG vw iH iI s1 rK):ux (Unit) (Option bK))) xu ()) (fun r=>r) fun s1:Unit=>none)
def nW (xu:(List bK)) (vw:(List (Str×Str))) (iH:Str) (iI:Str):Prop:=(uW (fun (s1:Unit) (rK:bK)=>((iG vw iH iI s1 rK):ux (Unit) (Option bK))) (fun (s1:Unit) (rK:bK)=>some (sE vw iH iI s1 rK)) xu ()/\(pH (ni (fun (s1:Unit) (rK:bK)=>((iG vw iH iI s1 rK):ux (Unit) (Option bK))) xu ()) fun s1:Unit=>True))
theorem Gu (xu:(List bK)) (vw:(List (Str×Str))) (iH:Str) (iI:Str):RP nR [some ((zE (eT bQ)) xu),some ((nE eS) vw),some ((zE eS) iH),some ((zE eS) iI),none] (fun r=>Out.rt ((zE (eO bQ)) r)) (fX xu vw iH iI) (some (nW xu vw iH iI)):=R.tp (Jw 0 xu (Er rfl) (fun s1:Unit=>[some ((zE (eT bQ)) xu),some ((nE eS) vw),some ((zE eS) iH),some ((zE eS) iI),none]) () rfl _ (fun _ _=>rfl) (fun (s1:Unit) (rK:bK)=>((Ai xu vw iH iI s1 rK).r:R _ _ (cC (fun s1:Unit=>[some ((zE (eT bQ)) xu),some ((nE eS) vw),some ((zE eS) iH),some ((zE eS) iI),none]) (zE (eO bQ))))) (fun r=>r) (fun _=>rfl) fun s1=>(lJ (fun r=>r) abV (fun _=>rfl) fun _=>rfl))
theorem Gv:∀ v bs,(aZ (eT bQ) (aM eS (aZ eS (aZ eS aN)))) v bs->bs.length=4/\(hold (some (nW v.1 v.2.1 v.2.2.1 v.2.2.2.1))->fP (bs.map lend)=some ((zE (eO bQ)) (fX v.1 v.2.1 v.2.2.1 v.2.2.2.1))):=by
 rintro⟨xu,vw,iH,iI,_⟩ _ ⟨_,rfl,⟨_,_,rfl,(rfl|rfl),⟨_,rfl,⟨_,rfl,rfl⟩⟩⟩⟩
 all_goals exact⟨rfl,fun h=>lO (g:=nR) (n:=5) (bs:=[.z ((eT bQ) xu),nE eS vw,.z (eS iH),.z (eS iI)]) (Gu xu vw iH iI).r h⟩
end
end G24
end
section
set_option synthInstance.maxSize 100000
namespace G24
open PySem PySem.Spec PyProof.Rows L2 P1
noncomputable section
def dU (iH:Str) (iI:Str) (zG:Str) (vw:(List (Str×Str))) (vy:Str):(List (Str×Str)):=(let vw:(List (Str×Str)):=(if ((decide ((look vw vy)=iH))||(decide ((look vw vy)=iI)))=true then (let vw:=put vw vy zG;vw) else vw);vw)
def oY (iH:Str) (iI:Str) (zG:Str) (vw:(List (Str×Str))) (vy:Str):Prop:=((has vw vy=true/\((decide ((look vw vy)=iH))=false->has vw vy=true))/\(((decide ((look vw vy)=iH))||(decide ((look vw vy)=iI)))=true->vw.length < 1000))
theorem BZ {a_:Addr} (iH:Str) (iI:Str) (zG:Str) (vw:(List (Str×Str))) (vy:Str):RP uc [some ((mW (some a_) eS) vw),some ((zE eS) iH),some ((zE eS) iI),some ((zE eS) zG),some ((zE eS) vy)] (fun s=>Out.nx ((fun vw:(List (Str×Str))=>[some ((mW (some a_) eS) vw),some ((zE eS) iH),some ((zE eS) iI),some ((zE eS) zG),none]) s)) (dU iH iI zG vw vy) (some (oY iH iI zG vw vy)):=R.tp (bL (wj (fun vw:(List (Str×Str))=>[some ((mW (some a_) eS) vw),some ((zE eS) iH),some ((zE eS) iI),some ((zE eS) zG),some ((zE eS) vy)]) (O7 (fD (x_eq (by decide) (rE (aq 0 (nE eS) vw rfl) (aq 4 (zE eS) vy rfl)) (aq 1 (zE eS) iH rfl))) (fD (x_eq (by decide) (rE (aq 0 (nE eS) vw rfl) (aq 4 (zE eS) vy rfl)) (aq 2 (zE eS) iI rfl)))) (bL (Ze (some a_) 0 vw rfl (aq 3 (zE eS) zG rfl) (aq 4 (zE eS) vy rfl) fun vw=>(cR (bI vw rfl)))) (cR (bI vw rfl)) fun vw=>(cR (bI vw rfl))))
def dH (vw:(List (Str×Str))) (iH:Str) (iI:Str):(List (Str×Str)):=(let zG:=(if Ge iI iH=true then iI else iH);(let vw:(List (Str×Str)):=((vw.map (·.1)).foldl (fun (vw:(List (Str×Str))) (vy:Str)=>(dU iH iI zG vw vy)) vw);vw))
def pX (vw:(List (Str×Str))) (iH:Str) (iI:Str):Prop:=(let zG:=(if Ge iI iH=true then iI else iH);qM (fun (vw:(List (Str×Str))) (vy:Str)=>(dU iH iI zG vw vy)) (fun (vw:(List (Str×Str))) (vy:Str)=>some (oY iH iI zG vw vy)) (vw.map (·.1)) vw)
def tW {a_:Addr} (vw:(List (Str×Str))) (iH:Str) (iI:Str):R pN [some ((mW (some a_) eS) vw),some ((zE eS) iH),some ((zE eS) iI),none,none] (fun m'=>Out.nx [some ((mW (some a_) eS) m'),some ((zE eS) iH),some ((zE eS) iI),none,none]):=(bL (bW 3 (Ph (aq 1 (zE eS) iH rfl) (aq 2 (zE eS) iI rfl)) (fun _=>rfl) fun zG=>(bL (Ep (fun vw:(List (Str×Str))=>[some ((mW (some a_) eS) vw),some ((zE eS) iH),some ((zE eS) iI),some ((zE eS) zG),none]) vw rfl (ab5 (Zh (aq 0 (nE eS) vw rfl))) _ (fun _ _=>rfl) (fun (vw:(List (Str×Str))) (vy:Str)=>(BZ iH iI zG vw vy).r) fun vw=>(cR (bI vw rfl))))))
theorem Gw {a_:Addr} (vw:(List (Str×Str))) (iH:Str) (iI:Str):(tW (a_:=a_) vw iH iI).v=dH vw iH iI:=by kernel_rfl
theorem Gx {a_:Addr} (vw:(List (Str×Str))) (iH:Str) (iI:Str):(tW (a_:=a_) vw iH iI).D=some (pX vw iH iI):=by kernel_rfl
theorem JW:∀ (vw:(List (Str×Str))) v bs,(aZ eS (aZ eS aN)) v bs->bs.length=2/\bs.all isZ=true/\(hold (some (pX vw v.1 v.2.1))->∀ a,gK a (vw.map fun q=>(q.1,eS q.2)) bs=some ((dH vw v.1 v.2.1).map fun q=>(q.1,eS q.2))):=by
 rintro vw ⟨iH,iI,_⟩ _ ⟨_,rfl,⟨_,rfl,rfl⟩⟩
 exact⟨rfl,rfl,fun h a=>(Zi (g:=pN) (n:=5) (bs:=[.z (eS iH),.z (eS iI)]) (tW (a_:=a) vw iH iI) ((congrArg hold (Gx (a_:=a) vw iH iI)).mpr h) (fun _=>rfl)).trans (congrArg (fun r:(List (Str×Str))=>some (r.map fun q=>(q.1,eS q.2))) (Gw (a_:=a) vw iH iI))⟩
end
end G24
end
section
set_option synthInstance.maxSize 100000
namespace G24
open PySem PySem.Spec PyProof.Rows L2 P1
noncomputable section
def bZ (vw:(List (Str×Str))) (zG:Str):(List Str):=(((vw.map (·.1)).filter fun vy:Str=>(decide ((look vw vy)=zG))).map fun vy:Str=>vy)
def rM (vw:(List (Str×Str))) (zG:Str):Prop:=((vw.map (·.1)).length<=100000/\(∀ vy∈(vw.map (·.1)),has vw vy=true))
theorem Gy (vw:(List (Str×Str))) (zG:Str):RP nT [some ((nE eS) vw),some ((zE eS) zG)] (fun r=>Out.rt ((zE (eT eS)) r)) (bZ vw zG) (some (rM vw zG)):=R.tp (lJ (fun r=>r) (pG (jZ (Rf (aee (aq 0 (nE eS) vw rfl)) _ (fun _=>rfl) (fun vy:Str=>(fD (x_eq (by decide) (rE (aq 1 (nE eS) vw rfl) (aq 2 (zE eS) vy rfl)) (aq 0 (zE eS) zG rfl)))) (fun vy:Str=>(aq 2 (zE eS) vy rfl))))) (fun _=>rfl) fun _=>rfl)
theorem Gz:∀ v bs,(aM eS (aZ eS aN)) v bs->bs.length=2/\(hold (some (rM v.1 v.2.1))->gU (bs.map lend)=some ((zE (eT eS)) (bZ v.1 v.2.1))):=by
 rintro⟨vw,zG,_⟩ _ ⟨_,_,rfl,(rfl|rfl),⟨_,rfl,rfl⟩⟩
 all_goals exact⟨rfl,fun h=>lO (g:=nT) (n:=2) (bs:=[nE eS vw,.z (eS zG)]) (Gy vw zG).r h⟩
end
end G24
end
section
set_option synthInstance.maxSize 100000
namespace G24
open PySem PySem.Spec PyProof.Rows L2 P1
noncomputable section
def cX (vw:(List (Str×Str))):(List (List Str)):=(((vw.map (·.1)).filter fun vy:Str=>(decide ((look vw vy)=vy))).map fun vy:Str=>(bZ vw vy))
def pY (vw:(List (Str×Str))):Prop:=((vw.map (·.1)).length<=100000/\(∀ vy∈(vw.map (·.1)),(has vw vy=true/\((decide ((look vw vy)=vy))=true->(rM vw vy)))))
theorem JX (vw:(List (Str×Str))):RP pP [some ((nE eS) vw)] (fun r=>Out.rt ((oE (eT eS)) r)) (cX vw) (some (pY vw)):=R.tp (lJ (fun r=>r) (Rf (aee (aq 0 (nE eS) vw rfl)) _ (fun _=>rfl) (fun vy:Str=>(fD (x_eq (by decide) (rE (aq 0 (nE eS) vw rfl) (aq 1 (zE eS) vy rfl)) (aq 1 (zE eS) vy rfl)))) (fun vy:Str=>(eY (x_call Gz (acd (aq 0 (nE eS) vw rfl) (eV (aq 1 (zE eS) vy rfl) cL)))))) (fun _=>rfl) fun _=>rfl)
theorem JZ:∀ v bs,(aM eS aN) v bs->bs.length=1/\(hold (some (pY v.1))->fK (bs.map lend)=some ((oE (eT eS)) (cX v.1))):=by
 rintro⟨vw,_⟩ _ ⟨_,_,rfl,(rfl|rfl),rfl⟩
 all_goals exact⟨rfl,fun h=>lO (g:=pP) (n:=1) (bs:=[nE eS vw]) (JX vw).r h⟩
end
end G24
end
section
set_option synthInstance.maxSize 100000
namespace G24
open PySem PySem.Spec PyProof.Rows L2 P1
noncomputable section
def cY (xu:(List bK)) (s2:(List (Str×Str))×(List aY)×(List fu)) (zx:aY):(List (Str×Str))×(List aY)×(List fu):=(let iH:=(look s2.1 zx.2.1);(let iI:=(look s2.1 zx.2.2.1);(let s4:(List (Str×Str))×(List aY)×(List fu):=(if (!decide (iH=iI))=true then (let rK:=(fX xu s2.1 iH iI);(let s3:(List (Str×Str))×(List aY)×(List fu):=(if rK.isNone=true then (let vw:=(dH s2.1 iH iI);(let vz:=s2.2.1++[zx];(vw,vz,s2.2.2))) else (let Xi:=s2.2.2++[(zx,rK)];(s2.1,s2.2.1,Xi)));(s3.1,s3.2.1,s3.2.2))) else (s2.1,s2.2.1,s2.2.2));(s4.1,s4.2.1,s4.2.2))))
def oZ (xu:(List bK)) (s2:(List (Str×Str))×(List aY)×(List fu)) (zx:aY):Prop:=(has s2.1 zx.2.1=true/\(let iH:=(look s2.1 zx.2.1);(has s2.1 zx.2.2.1=true/\(let iI:=(look s2.1 zx.2.2.1);((!decide (iH=iI))=true->((nW xu s2.1 iH iI)/\(let rK:=(fX xu s2.1 iH iI);((rK.isNone=true->((pX s2.1 iH iI)/\(let vw:=(dH s2.1 iH iI);Ej s2.2.1.length)))/\(rK.isNone=false->Ej s2.2.2.length)))))))))
theorem Ca (vv:z9) (vx:(List Str)) (va2:(List aY)) (xu:(List bK)) (s2:(List (Str×Str))×(List aY)×(List fu)) (zx:aY):RP ud [some ((zE oM) vv),some ((zE (eT eS)) vx),some ((zE (eT bh)) va2),some ((zE (eT bQ)) xu),some ((mE eS) s2.1),some ((oE bh) s2.2.1),some ((oE j4) s2.2.2),some ((zE bh) zx),none,none,none] (fun s=>Out.nx ((fun s2:(List (Str×Str))×(List aY)×(List fu)=>[some ((zE oM) vv),some ((zE (eT eS)) vx),some ((zE (eT bh)) va2),some ((zE (eT bQ)) xu),some ((mE eS) s2.1),some ((oE bh) s2.2.1),some ((oE j4) s2.2.2),none,none,none,none]) s)) (cY xu s2 zx) (some (oZ xu s2 zx)):=R.tp (bL (bW 8 (rE (aq 4 (nE eS) s2.1 rfl) (n8 (aq 7 (zE bh) zx rfl) (fun q=>q.2.1) eS 1 fun _=>rfl)) (fun _=>rfl) fun iH=>(bL (bW 9 (rE (aq 4 (nE eS) s2.1 rfl) (n8 (aq 7 (zE bh) zx rfl) (fun q=>q.2.2.1) eS 2 fun _=>rfl)) (fun _=>rfl) fun iI=>(bL (wj (fun s4:(List (Str×Str))×(List aY)×(List fu)=>[some ((zE oM) vv),some ((zE (eT eS)) vx),some ((zE (eT bh)) va2),some ((zE (eT bQ)) xu),some ((mE eS) s4.1),some ((oE bh) s4.2.1),some ((oE j4) s4.2.2),some ((zE bh) zx),some ((zE eS) iH),some ((zE eS) iI),none]) (fD (LQ (by decide) (aq 8 (zE eS) iH rfl) (aq 9 (zE eS) iI rfl))) (bL (bW 10 (x_call Gv (eV (aq 3 (zE (eT bQ)) xu rfl) (acd (aq 4 (nE eS) s2.1 rfl) (eV (aq 8 (zE eS) iH rfl) (eV (aq 9 (zE eS) iI rfl) cL))))) (fun _=>rfl) fun rK=>(bL (wj (fun s3:(List (Str×Str))×(List aY)×(List fu)=>[some ((zE oM) vv),some ((zE (eT eS)) vx),some ((zE (eT bh)) va2),some ((zE (eT bQ)) xu),some ((mE eS) s3.1),some ((oE bh) s3.2.1),some ((oE j4) s3.2.2),some ((zE bh) zx),some ((zE eS) iH),some ((zE eS) iI),some ((zE (eO bQ)) rK)]) (fD (ad6 (aq 10 (zE (eO bQ)) rK rfl) fun _=>rfl)) (bL (ace none 4 s2.1 rfl JW (eV (aq 8 (zE eS) iH rfl) (eV (aq 9 (zE eS) iI rfl) cL)) fun vw=>(bL (wg 5 s2.2.1 rfl (aq 7 (zE bh) zx rfl) fun vz=>(cR (bI (vw,vz,s2.2.2) rfl)))))) (bL (wg 6 s2.2.2 rfl (zZ (aq 7 (zE bh) zx rfl) (aq 10 (zE (eO bQ)) rK rfl)) fun Xi=>(cR (bI (s2.1,s2.2.1,Xi) rfl)))) fun s3=>(cR (bI (s3.1,s3.2.1,s3.2.2) rfl)))))) (cR (bI (s2.1,s2.2.1,s2.2.2) rfl)) fun s4=>(cR (bI (s4.1,s4.2.1,s4.2.2) rfl))))))))
def bC (vv:z9):Mj:=(let q1:=vv;(let vw:=(cD q1.1);(let vz:=([]:List aY);(let Xi:=([]:List fu);(let s2:(List (Str×Str))×(List aY)×(List fu):=(q1.2.1.foldl (fun (s2:(List (Str×Str))×(List aY)×(List fu)) (zx:aY)=>(cY q1.2.2 s2 zx)) (vw,vz,Xi));((cX s2.1),s2.2.1,s2.2.2))))))
def jh (vv:z9):Prop:=(let q1:=vv;((pW q1.1)/\(let vw:=(cD q1.1);(let vz:=([]:List aY);(let Xi:=([]:List fu);(qM (fun (s2:(List (Str×Str))×(List aY)×(List fu)) (zx:aY)=>(cY q1.2.2 s2 zx)) (fun (s2:(List (Str×Str))×(List aY)×(List fu)) (zx:aY)=>some (oZ q1.2.2 s2 zx)) q1.2.1 (vw,vz,Xi)/\(let s2:(List (Str×Str))×(List aY)×(List fu):=(q1.2.1.foldl (fun (s2:(List (Str×Str))×(List aY)×(List fu)) (zx:aY)=>(cY q1.2.2 s2 zx)) (vw,vz,Xi));(pY s2.1))))))))
theorem J0 (vv:z9):RP iW [some ((zE oM) vv),none,none,none,none,none,none,none,none,none,none] (fun r=>Out.rt ((zE nu) r)) (bC vv) (some (jh vv)):=R.tp (Ri (aq 0 (zE oM) vv rfl) _ (fun _=>rfl) fun q1=>(bW 4 (x_call JV (eV (aq 1 (zE (eT eS)) q1.1 rfl) cL)) (fun _=>rfl) fun vw=>(bW 5 (jl (eN bh) (zC rfl)) (fun _=>rfl) fun vz=>(bW 6 (jl (eN j4) (zC rfl)) (fun _=>rfl) fun Xi=>(Pa 2 q1.2.1 (Er rfl) (fun s2:(List (Str×Str))×(List aY)×(List fu)=>[some ((zE oM) vv),some ((zE (eT eS)) q1.1),some ((zE (eT bh)) q1.2.1),some ((zE (eT bQ)) q1.2.2),some ((mE eS) s2.1),some ((oE bh) s2.2.1),some ((oE j4) s2.2.2),none,none,none,none]) (vw,vz,Xi) rfl _ (fun _ _=>rfl) (fun (s2:(List (Str×Str))×(List aY)×(List fu)) (zx:aY)=>(Ca vv q1.1 q1.2.1 q1.2.2 s2 zx).r) fun s2=>(Zm 5 [some ((zE oM) vv),some ((zE (eT eS)) q1.1),some ((zE (eT bh)) q1.2.1),some ((zE (eT bQ)) q1.2.2),some ((mE eS) s2.1),some ((zE (eL bh)) s2.2.1),some ((oE j4) s2.2.2),none,none,none,none] rfl (Zm 6 [some ((zE oM) vv),some ((zE (eT eS)) q1.1),some ((zE (eT bh)) q1.2.1),some ((zE (eT bQ)) q1.2.2),some ((mE eS) s2.1),some ((zE (eL bh)) s2.2.1),some ((zE (eL j4)) s2.2.2),none,none,none,none] rfl (lJ (fun r=>r) (uV (Tr (x_call JZ (acd (aq 4 (nE eS) s2.1 rfl) cL))) (aq 5 (zE (eL bh)) s2.2.1 rfl) (aq 6 (zE (eL j4)) s2.2.2 rfl)) (fun _=>rfl) fun _=>rfl))))))))
theorem pZ:∀ v bs,(aZ oM aN) v bs->bs.length=1/\(hold (some (jh v.1))->bT (bs.map lend)=some ((zE nu) (bC v.1))):=by
 rintro⟨vv,_⟩ _ ⟨_,rfl,rfl⟩
 exact⟨rfl,fun h=>lO (g:=iW) (n:=11) (bs:=[.z (oM vv)]) (J0 vv).r h⟩
end
end G24
end
section
set_option synthInstance.maxSize 100000
namespace G24
open PySem PySem.Spec PyProof.Rows L2 P1
noncomputable section
def dN (vo:(List (List Str))) (s2:Unit) (q3:bK):ux (Unit) Bool:=(if ((vo.map fun vs:(List Str)=>((decide (q3.1∈vs))&&(decide (q3.2.1∈vs)))).any id)=true then (ux.rt false) else (ux.nx ()))
def lQ (vo:(List (List Str))) (s2:Unit) (q3:bK):Prop:=vo.length<=100000
theorem vV (v6:Mj) (va:(List bK)) (vo:(List (List Str))) (vp:(List aY)) (vq:(List fu)) (s2:Unit) (q3:bK):RP pC [some ((zE nu) v6),some ((zE (eT bQ)) va),some ((zE (eL (eT eS))) vo),some ((zE (eL bh)) vp),some ((zE (eL j4)) vq),some ((zE eS) q3.1),some ((zE eS) q3.2.1),some ((zE eI) q3.2.2),none,none,none] (cC (fun s2:Unit=>[some ((zE nu) v6),some ((zE (eT bQ)) va),some ((zE (eL (eT eS))) vo),some ((zE (eL bh)) vp),some ((zE (eL j4)) vq),none,none,none,none,none,none]) (zE eB)) (dN vo s2 q3) (some (lQ vo s2 q3)):=R.tp (bL (Bj (Wb (aea (jZ (qR (Jv (Bw (aq 2 (zE (eL (eT eS))) vo rfl))) _ (fun _=>rfl) (fun vs:(List Str)=>(ad7 (El (aq 0 (zE eS) q3.1 rfl) (aq 2 (zE (eT eS)) vs rfl)) (El (aq 1 (zE eS) q3.2.1 rfl) (aq 2 (zE (eT eS)) vs rfl)))) fun _=>rfl)))) (bL (lJ .rt (aR (.bl false) eB false rfl) (fun _=>rfl) fun _=>rfl)) (cR (cR (bI (.nx ()) rfl)))))
def dO (vo:(List (List Str))) (s4:Unit) (q5:fu):ux (Unit) Bool:=(let Tw:=[(aH vo q5.1.2.1),(aH vo q5.1.2.2.1)];(if ((!decide ((bF Tw)=(bF [(aH vo (q5.2.getD default).1),(aH vo (q5.2.getD default).2.1)])))||(decide ((at' Tw (0:Int))=(at' Tw (1:Int)))))=true then (ux.rt false) else (ux.nx ())))
def fH (vo:(List (List Str))) (s4:Unit) (q5:fu):Prop:=(((eG vo q5.1.2.1)/\(eG vo q5.1.2.2.1))/\(let Tw:=[(aH vo q5.1.2.1),(aH vo q5.1.2.2.1)];(((Tw.length < 64/\∀ x∈Tw,x.isEmpty=false)/\(((q5.2.isSome=true/\(eG vo (q5.2.getD default).1))/\(q5.2.isSome=true/\(eG vo (q5.2.getD default).2.1)))/\([(aH vo (q5.2.getD default).1),(aH vo (q5.2.getD default).2.1)].length < 64/\∀ x∈[(aH vo (q5.2.getD default).1),(aH vo (q5.2.getD default).2.1)],x.isEmpty=false)))/\((!decide ((bF Tw)=(bF [(aH vo (q5.2.getD default).1),(aH vo (q5.2.getD default).2.1)])))=false->(In Tw.length (0:Int)/\In Tw.length (1:Int))))))
theorem vW (v6:Mj) (va:(List bK)) (vo:(List (List Str))) (vp:(List aY)) (vq:(List fu)) (s4:Unit) (q5:fu):RP pD [some ((zE nu) v6),some ((zE (eT bQ)) va),some ((zE (eL (eT eS))) vo),some ((zE (eL bh)) vp),some ((zE (eL j4)) vq),none,none,none,some ((zE bh) q5.1),some ((zE (eO bQ)) q5.2),none] (cC (fun s4:Unit=>[some ((zE nu) v6),some ((zE (eT bQ)) va),some ((zE (eL (eT eS))) vo),some ((zE (eL bh)) vp),some ((zE (eL j4)) vq),none,none,none,none,none,none]) (zE eB)) (dO vo s4 q5) (some (fH vo s4 q5)):=R.tp (bL (bW 10 (jl (cj (eY (x_call lD (z7 (Bw (aq 2 (zE (eL (eT eS))) vo rfl)) (eV (n8 (aq 8 (zE bh) q5.1 rfl) (fun q=>q.2.1) eS 1 fun _=>rfl) cL)))) (cj (eY (x_call lD (z7 (Bw (aq 2 (zE (eL (eT eS))) vo rfl)) (eV (n8 (aq 8 (zE bh) q5.1 rfl) (fun q=>q.2.2.1) eS 2 fun _=>rfl) cL)))) (eN (eT eS)))) (zC rfl)) (fun _=>rfl) fun Tw=>(bL (Bj (O7 (fD (Wa (by decide) (jZ (Cy (fJ (aq 10 (lE (eT eS)) Tw rfl)))) (jZ (Cy (jZ (jl (cj (eY (x_call lD (z7 (Bw (aq 2 (zE (eL (eT eS))) vo rfl)) (eV (n8 (aai (aq 9 (zE (eO bQ)) q5.2 rfl)) (fun q=>q.1) eS 0 fun _=>rfl) cL)))) (cj (eY (x_call lD (z7 (Bw (aq 2 (zE (eL (eT eS))) vo rfl)) (eV (n8 (aai (aq 9 (zE (eO bQ)) q5.2 rfl)) (fun q=>q.2.1) eS 1 fun _=>rfl) cL)))) (eN (eT eS)))) (zC rfl))))))) (fD (x_eq (by decide) (gF (fJ (aq 10 (lE (eT eS)) Tw rfl)) (aR (.int 0) eI (0:Int) rfl)) (gF (fJ (aq 10 (lE (eT eS)) Tw rfl)) (aR (.int 1) eI (1:Int) rfl))))) (bL (lJ .rt (aR (.bl false) eB false rfl) (fun _=>rfl) fun _=>rfl)) (cR (cR (bI (.nx ()) rfl)))))))
def fZ (v6:Mj) (va:(List bK)):Bool:=(let q1:=v6;(behind (ni (fun (s2:Unit) (q3:bK)=>((dN q1.1 s2 q3):ux (Unit) Bool)) va ()) (fun r=>r) fun s2:Unit=>(behind (ni (fun (s4:Unit) (q5:fu)=>((dO q1.1 s4 q5):ux (Unit) Bool)) q1.2.2 ()) (fun r=>r) fun s4:Unit=>true)))
def lF (v6:Mj) (va:(List bK)):Prop:=(let q1:=v6;(uW (fun (s2:Unit) (q3:bK)=>((dN q1.1 s2 q3):ux (Unit) Bool)) (fun (s2:Unit) (q3:bK)=>some (lQ q1.1 s2 q3)) va ()/\(pH (ni (fun (s2:Unit) (q3:bK)=>((dN q1.1 s2 q3):ux (Unit) Bool)) va ()) fun s2:Unit=>(uW (fun (s4:Unit) (q5:fu)=>((dO q1.1 s4 q5):ux (Unit) Bool)) (fun (s4:Unit) (q5:fu)=>some (fH q1.1 s4 q5)) q1.2.2 ()/\(pH (ni (fun (s4:Unit) (q5:fu)=>((dO q1.1 s4 q5):ux (Unit) Bool)) q1.2.2 ()) fun s4:Unit=>True)))))
theorem Aj (v6:Mj) (va:(List bK)):RP kj [some ((zE nu) v6),some ((zE (eT bQ)) va),none,none,none,none,none,none,none,none,none] (fun r=>Out.rt ((zE eB) r)) (fZ v6 va) (some (lF v6 va)):=R.tp (Ri (aq 0 (zE nu) v6 rfl) _ (fun _=>rfl) fun q1=>(Jw 1 va (Er rfl) (fun s2:Unit=>[some ((zE nu) v6),some ((zE (eT bQ)) va),some ((zE (eL (eT eS))) q1.1),some ((zE (eL bh)) q1.2.1),some ((zE (eL j4)) q1.2.2),none,none,none,none,none,none]) () rfl _ (fun _ _=>rfl) (fun (s2:Unit) (q3:bK)=>((vV v6 va q1.1 q1.2.1 q1.2.2 s2 q3).r:R _ _ (cC (fun s2:Unit=>[some ((zE nu) v6),some ((zE (eT bQ)) va),some ((zE (eL (eT eS))) q1.1),some ((zE (eL bh)) q1.2.1),some ((zE (eL j4)) q1.2.2),none,none,none,none,none,none]) (zE eB)))) (fun r=>r) (fun _=>rfl) fun s2=>(Jw 4 q1.2.2 (ab9 rfl) (fun s4:Unit=>[some ((zE nu) v6),some ((zE (eT bQ)) va),some ((zE (eL (eT eS))) q1.1),some ((zE (eL bh)) q1.2.1),some ((zE (eL j4)) q1.2.2),none,none,none,none,none,none]) () rfl _ (fun _ _=>rfl) (fun (s4:Unit) (q5:fu)=>((vW v6 va q1.1 q1.2.1 q1.2.2 s4 q5).r:R _ _ (cC (fun s4:Unit=>[some ((zE nu) v6),some ((zE (eT bQ)) va),some ((zE (eL (eT eS))) q1.1),some ((zE (eL bh)) q1.2.1),some ((zE (eL j4)) q1.2.2),none,none,none,none,none,none]) (zE eB)))) (fun r=>r) (fun _=>rfl) fun s4=>(lJ (fun r=>r) (aR (.bl true) eB true rfl) (fun _=>rfl) fun _=>rfl))))
theorem Ak:∀ v bs,(aZ nu (aZ (eT bQ) aN)) v bs->bs.length=2/\(hold (some (lF v.1 v.2.1))->dh (bs.map lend)=some ((zE eB) (fZ v.1 v.2.1))):=by
 rintro⟨v6,va,_⟩ _ ⟨_,rfl,⟨_,rfl,rfl⟩⟩
 exact⟨rfl,fun h=>lO (g:=kj) (n:=11) (bs:=[.z (nu v6),.z ((eT bQ) va)]) (Aj v6 va).r h⟩
end
end G24
end
section
set_option synthInstance.maxSize 100000
namespace G24
open PySem PySem.Spec PyProof.Rows L2 P1
noncomputable section
def dI  (v6:(List (List Str))) (q1:aY):(List (List Str)):=(let Rq:=(at' ((v6.filter fun mU:(List Str)=>(decide (q1.2.1∈mU))).map fun mU:(List Str)=>mU) (0:Int));(let Rr:=(at' ((v6.filter fun mU:(List Str)=>(decide (q1.2.2.1∈mU))).map fun mU:(List Str)=>mU) (0:Int));(let v6:(List (List Str)):=(if (!decide (Rq=Rr))=true then (let v6:=(((v6.filter fun mU:(List Str)=>(!BJ mU [Rq,Rr])).map fun mU:(List Str)=>mU)++[(iB (Rq++Rr))]);v6) else v6);v6)))
def jU  (v6:(List (List Str))) (q1:aY):Prop:=((v6.length<=100000/\In ((v6.filter fun mU:(List Str)=>(decide (q1.2.1∈mU))).map fun mU:(List Str)=>mU).length (0:Int))/\(let Rq:=(at' ((v6.filter fun mU:(List Str)=>(decide (q1.2.1∈mU))).map fun mU:(List Str)=>mU) (0:Int));((v6.length<=100000/\In ((v6.filter fun mU:(List Str)=>(decide (q1.2.2.1∈mU))).map fun mU:(List Str)=>mU).length (0:Int))/\(let Rr:=(at' ((v6.filter fun mU:(List Str)=>(decide (q1.2.2.1∈mU))).map fun mU:(List Str)=>mU) (0:Int));((!decide (Rq=Rr))=true->((v6.length<=100000/\(Ej (Rq.length+Rr.length)/\(Rq++Rr).length < 64))/\Ej (((v6.filter fun mU:(List Str)=>(!BJ mU [Rq,Rr])).map fun mU:(List Str)=>mU).length+[(iB (Rq++Rr))].length)))))))
theorem Fo (vc:(List Str)) (v9:(List aY)) (v6:(List (List Str))) (q1:aY):RP u9 [some ((zE (eT eS)) vc),some ((zE (eT bh)) v9),some ((oE (eL eS)) v6),some ((zE eI) q1.1),some ((zE eS) q1.2.1),some ((zE eS) q1.2.2.1),some ((zE eI) q1.2.2.2),none,none] (fun s=>Out.nx ((fun v6:(List (List Str))=>[some ((zE (eT eS)) vc),some ((zE (eT bh)) v9),some ((oE (eL eS)) v6),none,none,none,none,none,none]) s)) (dI  v6 q1) (some (jU  v6 q1)):=R.tp (bL (bW 7 (gF (jZ (rZ (Jv (fJ (aq 2 (lE (eL eS)) v6 rfl))) _ (fun _=>rfl) (fun mU:(List Str)=>(fD (aeb (aq 0 (zE eS) q1.2.1 rfl) (Bw (aq 1 (zE (eL eS)) mU rfl))))) (fun mU:(List Str)=>(aq 1 (zE (eL eS)) mU rfl)) (fun _=>rfl) fun _=>rfl)) (aR (.int 0) eI (0:Int) rfl)) (fun _=>rfl) fun Rq=>(bL (bW 8 (gF (jZ (rZ (Jv (fJ (aq 2 (lE (eL eS)) v6 rfl))) _ (fun _=>rfl) (fun mU:(List Str)=>(fD (aeb (aq 0 (zE eS) q1.2.2.1 rfl) (Bw (aq 1 (zE (eL eS)) mU rfl))))) (fun mU:(List Str)=>(aq 1 (zE (eL eS)) mU rfl)) (fun _=>rfl) fun _=>rfl)) (aR (.int 0) eI (0:Int) rfl)) (fun _=>rfl) fun Rr=>(bL (wj (fun v6:(List (List Str))=>[some ((zE (eT eS)) vc),some ((zE (eT bh)) v9),some ((oE (eL eS)) v6),some ((zE eI) q1.1),some ((zE eS) q1.2.1),some ((zE eS) q1.2.2.1),some ((zE eI) q1.2.2.2),some ((zE (eL eS)) Rq),some ((zE (eL eS)) Rr)]) (fD (Wa (by decide) (Bw (aq 7 (zE (eL eS)) Rq rfl)) (Bw (aq 8 (zE (eL eS)) Rr rfl)))) (bL (bW 2 (O8 (jZ (rZ (Jv (fJ (aq 2 (lE (eL eS)) v6 rfl))) _ (fun _=>rfl) (fun mU:(List Str)=>(fD (WK (by decide) (aq 2 (zE (eL eS)) mU rfl) (jZ (jl (cj (aq 0 (zE (eL eS)) Rq rfl) (cj (aq 1 (zE (eL eS)) Rr rfl) (eN (eL eS)))) (zC rfl)))))) (fun mU:(List Str)=>(aq 2 (zE (eL eS)) mU rfl)) (fun _=>rfl) fun _=>rfl)) (jZ (jl (cj (Tr (Ju (jZ (O8 (Bw (aq 7 (zE (eL eS)) Rq rfl)) (Bw (aq 8 (zE (eL eS)) Rr rfl)))))) (eN (eL eS))) (zC rfl)))) (fun _=>rfl) fun v6=>(cR (bI v6 rfl)))) (cR (bI v6 rfl)) fun v6=>(cR (bI v6 rfl))))))))
def iR (vc:(List Str)) (v9:(List aY)):(List (List Str)):=(let v6:=(vc.map fun vg:Str=>[vg]);(let v6:(List (List Str)):=(v9.foldl (fun (v6:(List (List Str))) (q1:aY)=>(dI  v6 q1)) v6);(bF (v6.map fun mU:(List Str)=>mU))))
def rA (vc:(List Str)) (v9:(List aY)):Prop:=(vc.length<=100000/\(let v6:=(vc.map fun vg:Str=>[vg]);(qM (fun (v6:(List (List Str))) (q1:aY)=>(dI  v6 q1)) (fun (v6:(List (List Str))) (q1:aY)=>some (jU  v6 q1)) v9 v6/\(let v6:(List (List Str)):=(v9.foldl (fun (v6:(List (List Str))) (q1:aY)=>(dI  v6 q1)) v6);(v6.length<=100000/\((v6.map fun mU:(List Str)=>mU).length < 64/\∀ x∈(v6.map fun mU:(List Str)=>mU),x.isEmpty=false))))))
theorem MP (vc:(List Str)) (v9:(List aY)):RP qX [some ((zE (eT eS)) vc),some ((zE (eT bh)) v9),none,none,none,none,none,none,none] (fun r=>Out.rt ((oE (eT eS)) r)) (iR vc v9) (some (rA vc v9)):=R.tp (bW 2 (qR (Tt (aq 0 (zE (eT eS)) vc rfl)) _ (fun _=>rfl) (fun vg:Str=>(Tr (jl (cj (aq 0 (zE eS) vg rfl) (eN eS)) (zC rfl)))) fun _=>rfl) (fun _=>rfl) fun v6=>(Pa 1 v9 (Er rfl) (fun v6:(List (List Str))=>[some ((zE (eT eS)) vc),some ((zE (eT bh)) v9),some ((oE (eL eS)) v6),none,none,none,none,none,none]) v6 rfl _ (fun _ _=>rfl) (fun (v6:(List (List Str))) (q1:aY)=>(Fo vc v9 v6 q1).r) fun v6=>(lJ (fun r=>r) (Cy (jZ (qR (Jv (fJ (aq 2 (lE (eL eS)) v6 rfl))) _ (fun _=>rfl) (fun mU:(List Str)=>(eY (pG (Bw (aq 0 (zE (eL eS)) mU rfl))))) fun _=>rfl))) (fun _=>rfl) fun _=>rfl)))
theorem M4:∀ v bs,(aZ (eT eS) (aZ (eT bh) aN)) v bs->bs.length=2/\(hold (some (rA v.1 v.2.1))->iM (bs.map lend)=some ((oE (eT eS)) (iR v.1 v.2.1))):=by
 rintro⟨vc,v9,_⟩ _ ⟨_,rfl,⟨_,rfl,rfl⟩⟩
 exact⟨rfl,fun h=>lO (g:=qX) (n:=9) (bs:=[.z ((eT eS) vc),.z ((eT bh) v9)]) (MP vc v9).r h⟩
end
end G24
end
section
set_option synthInstance.maxSize 100000
namespace G24
open PySem PySem.Spec PyProof.Rows L2 P1
noncomputable section
def jV (vm:z9):Bool:=(let q1:=vm;(let vn:=(bN q1.1 q1.2.1 q1.2.2);(let v6:=(bC vm);(if ((!(jM (nu v6)))||((!decide (v6=vn))||(!(([(eL (eT eS)) v6.1,(eL bh) v6.2.1,(eL j4) v6.2.2].map fun mU:Dt=>(is_list mU)).all id))))=true then false else (if (!(fZ v6 q1.2.2))=true then false else (let vaa:=(bC (q1.1,q1.2.1,([]:List bK)));(if (!decide (vaa=((iR q1.1 q1.2.1),(bN q1.1 q1.2.1 ([]:List bK)).2.1,([]:List fu))))=true then false else (decide ((bC vm)=vn)))))))))
def jW (vm:z9):Prop:=(let q1:=vm;((gA q1.1 q1.2.1 q1.2.2)/\(let vn:=(bN q1.1 q1.2.1 q1.2.2);(((jh vm)/\(let v6:=(bC vm);(((!(jM (nu v6)))=false->((!decide (v6=vn))=false->[(eL (eT eS)) v6.1,(eL bh) v6.2.1,(eL j4) v6.2.2].length<=100000))/\(((!(jM (nu v6)))||((!decide (v6=vn))||(!(([(eL (eT eS)) v6.1,(eL bh) v6.2.1,(eL j4) v6.2.2].map fun mU:Dt=>(is_list mU)).all id))))=false->((lF v6 q1.2.2)/\((!(fZ v6 q1.2.2))=false->((jh (q1.1,q1.2.1,([]:List bK)))/\(let vaa:=(bC (q1.1,q1.2.1,([]:List bK)));(((rA q1.1 q1.2.1)/\(gA q1.1 q1.2.1 ([]:List bK)))/\((!decide (vaa=((iR q1.1 q1.2.1),(bN q1.1 q1.2.1 ([]:List bK)).2.1,([]:List fu))))=false->(jh vm)))))))))))/\((jh vm)/\(((bC vm).1.length < 1000/\(bC vm).2.2.length < 1000)/\(let v6:=(bC vm);(if ((!(jM (nu v6)))||((!decide (v6=vn))||(!(([(eL (eT eS)) v6.1,(eL bh) v6.2.1,(eL j4) v6.2.2].map fun mU:Dt=>(is_list mU)).all id))))=true then false else (if (!(fZ v6 q1.2.2))=true then false else (let vaa:=(bC (q1.1,q1.2.1,([]:List bK)));(if (!decide (vaa=((iR q1.1 q1.2.1),(bN q1.1 q1.2.1 ([]:List bK)).2.1,([]:List fu))))=true then false else (decide ((bC vm)=vn)))))))=true))))))
theorem aeC:Ew=aD vA (aD (jH Ey) gC):=by
 unfold Ew vA Ey
 simp only[Pn,Zy]
theorem aeD:RF vA:=JB W2 (JB W2 (JB (aaq rG) (JB W2 (aaq u5))))
theorem aeE:Sk 6 vA:=JC W3 (JC W3 (JC acr (JC W3 ael)))
theorem M5 (vm:z9):RP qY [some ((zE oM) vm),none,none,none,none,none,none] (fun r=>Out.rt ((zE eB) r)) (jV vm) (some (jW vm)):=R.tp (Ri (aq 0 (zE oM) vm rfl) _ (fun _=>rfl) fun q1=>(bW 4 (x_call qF (eV (aq 1 (zE (eT eS)) q1.1 rfl) (eV (aq 2 (zE (eT bh)) q1.2.1 rfl) (eV (aq 3 (zE (eT bQ)) q1.2.2 rfl) cL)))) (fun _=>rfl) fun vn=>(aen (R':=Ew) [5,6] (bW 5 (x_call pZ (eV (aq 0 (zE oM) vm rfl) cL)) (fun _=>rfl) fun v6=>(Bj (O7 (Rb (Wb (aal jM (aq 5 (zE nu) v6 rfl)))) (O7 (fD (LQ (by decide) (aq 5 (zE nu) v6 rfl) (aq 4 (zE nu) vn rfl))) (Rb (Wb (ad9 (jZ (qR (Tt (agf (aq 5 (zE nu) v6 rfl) (fun q=>[(eL (eT eS)) q.1,(eL bh) q.2.1,(eL j4) q.2.2]) (eT eD) fun _=>rfl)) _ (fun _=>rfl) (fun mU:Dt=>(eY (aal is_list (aq 0 (zE eD) mU rfl)))) fun _=>rfl))))))) (bL (lJ (fun r=>r) (aR (.bl false) eB false rfl) (fun _=>rfl) fun _=>rfl)) (cR (Bj (Rb (Wb (x_call Ak (eV (aq 5 (zE nu) v6 rfl) (eV (aq 3 (zE (eT bQ)) q1.2.2 rfl) cL))))) (bL (lJ (fun r=>r) (aR (.bl false) eB false rfl) (fun _=>rfl) fun _=>rfl)) (cR (bW 6 (x_call pZ (eV (uV (aq 1 (zE (eT eS)) q1.1 rfl) (aq 2 (zE (eT bh)) q1.2.1 rfl) (Wc bQ)) cL)) (fun _=>rfl) fun vaa=>(Bj (fD (LQ (by decide) (aq 6 (zE nu) vaa rfl) (uV (Tr (x_call M4 (eV (aq 1 (zE (eT eS)) q1.1 rfl) (eV (aq 2 (zE (eT bh)) q1.2.1 rfl) cL)))) (n8 (x_call qF (eV (aq 1 (zE (eT eS)) q1.1 rfl) (eV (aq 2 (zE (eT bh)) q1.2.1 rfl) (eV (Wc bQ) cL)))) (fun q=>q.2.1) (eL bh) 1 fun _=>rfl) (Tr (jl (eN j4) (zC rfl)))))) (bL (lJ (fun r=>r) (aR (.bl false) eB false rfl) (fun _=>rfl) fun _=>rfl)) (cR (lJ (fun r=>r) (x_eq (by decide) (x_call pZ (eV (aq 0 (zE oM) vm rfl) cL)) (aq 4 (zE nu) vn rfl)) (fun _=>rfl) fun _=>rfl))))))))) (x_call pZ (eV (aq 0 (zE oM) vm rfl) cL)) (fun v=>v.1.length) (fun v=>v.2.2.length) (fun v=>⟨_,_,_,rfl,zi ..,zi ..⟩) aeC rfl (by decide) aeD (fun b ρ' h=>by rcases aeE _ _ h with rfl|⟨c,rfl⟩<;>rfl))))
theorem Bq:∀ v bs,(aZ oM aN) v bs->bs.length=1/\(hold (some (jW v.1))->iQ (bs.map lend)=some ((zE eB) (jV v.1))):=by
 rintro⟨vm,_⟩ _ ⟨_,rfl,rfl⟩
 exact⟨rfl,fun h=>lO (g:=qY) (n:=7) (bs:=[.z (oM vm)]) (M5 vm).r h⟩
end
end G24
end
section
set_option synthInstance.maxSize 100000
namespace G24
open PySem PySem.Spec PyProof.Rows L2 P1
noncomputable section
def mj (xO:Int) (oA:(List Str)) (vs:(List aY)) (v1:Int):(List aY):=(let y1:=(at' oA v1);let y2:=(at' oA ((v1+(1:Int)) % (30:Int)));let vi:=y1;let vj:=y2;(let vk:=(at' [(5:Int),((1000:Int) - v1),((1:Int)+v1),((1:Int)+((v1 * v1) % (9:Int)))] (xO % (4:Int)));(let vs:=vs++[(((0:Int) - vk),(if Ge vj vi=true then vj else vi),(if Ge vi vj=true then vj else vi),(v1 % (3:Int)))];vs)))
def rN (xO:Int) (oA:(List Str)) (vs:(List aY)) (v1:Int):Prop:=((In oA.length v1/\In oA.length ((v1+(1:Int)) % (30:Int)))/\(let y1:=(at' oA v1);let y2:=(at' oA ((v1+(1:Int)) % (30:Int)));let vi:=y1;let vj:=y2;((Mul v1 v1/\In [(5:Int),((1000:Int) - v1),((1:Int)+v1),((1:Int)+((v1 * v1) % (9:Int)))].length (xO % (4:Int)))/\(let vk:=(at' [(5:Int),((1000:Int) - v1),((1:Int)+v1),((1:Int)+((v1 * v1) % (9:Int)))] (xO % (4:Int)));Ej vs.length))))
theorem GC (Al:Int) (Fz:Int) (xO:Int) (vc:(List Str)) (oA:(List Str)) (vs:(List aY)) (v1:Int):RP wA [some ((zE eI) Al),some ((zE eI) Fz),some ((zE eI) xO),some ((oE eS) vc),some ((oE eS) oA),some ((oE bh) vs),some ((zE eI) v1),none,none,none,none,none,none] (fun s=>Out.nx ((fun vs:(List aY)=>[some ((zE eI) Al),some ((zE eI) Fz),some ((zE eI) xO),some ((oE eS) vc),some ((oE eS) oA),some ((oE bh) vs),none,none,none,none,none,none,none]) s)) (mj xO oA vs v1) (some (rN xO oA vs v1)):=R.tp (bL (Wq 7 8 (gF (fJ (aq 4 (lE eS) oA rfl)) (aq 6 (zE eI) v1 rfl)) (gF (fJ (aq 4 (lE eS) oA rfl)) (dw (jE (aq 6 (zE eI) v1 rfl) (aR (.int 1) eI (1:Int) rfl)) 30 (by decide))) fun vi vj=>(bL (bW 9 (gF (jZ (jl (cj (aR (.int 5) eI (5:Int) rfl) (cj (LC (aR (.int 1000) eI (1000:Int) rfl) (aq 6 (zE eI) v1 rfl)) (cj (eY (jE (aR (.int 1) eI (1:Int) rfl) (aq 6 (zE eI) v1 rfl))) (cj (eY (jE (aR (.int 1) eI (1:Int) rfl) (dw (V9 (aq 6 (zE eI) v1 rfl) (aq 6 (zE eI) v1 rfl)) 9 (by decide)))) (eN eI))))) (zC rfl))) (dw (aq 2 (zE eI) xO rfl) 4 (by decide))) (fun _=>rfl) fun vk=>(bL (wg 5 vs rfl (Js (LC (aR (.int 0) eI (0:Int) rfl) (aq 9 (zE eI) vk rfl)) (eY (Ph (aq 7 (zE eS) vi rfl) (aq 8 (zE eS) vj rfl))) (eY (Wz (aq 7 (zE eS) vi rfl) (aq 8 (zE eS) vj rfl))) (dw (aq 6 (zE eI) v1 rfl) 3 (by decide))) fun vs=>(cR (bI vs rfl))))))))
def mz (oA:(List Str)) (va:(List bK)) (q3:JD):(List bK):=(let va:=va++[((if Ge (at' oA q3.2) (at' oA q3.1)=true then (at' oA q3.2) else (at' oA q3.1)),(if Ge (at' oA q3.1) (at' oA q3.2)=true then (at' oA q3.2) else (at' oA q3.1)),((2:Int)+q3.1))];va)
def rO (oA:(List Str)) (va:(List bK)) (q3:JD):Prop:=(((In oA.length q3.1/\In oA.length q3.2)/\(In oA.length q3.1/\In oA.length q3.2))/\Ej va.length)
theorem GD (Al:Int) (Fz:Int) (xO:Int) (vc:(List Str)) (oA:(List Str)) (vs:(List aY)) (va:(List bK)) (q3:JD):RP wB [some ((zE eI) Al),some ((zE eI) Fz),some ((zE eI) xO),some ((oE eS) vc),some ((oE eS) oA),some ((oE bh) vs),some ((zE eI) q3.1),none,none,none,some ((oE bQ) va),some ((zE eI) q3.2),none] (fun s=>Out.nx ((fun va:(List bK)=>[some ((zE eI) Al),some ((zE eI) Fz),some ((zE eI) xO),some ((oE eS) vc),some ((oE eS) oA),some ((oE bh) vs),none,none,none,none,some ((oE bQ) va),none,none]) s)) (mz oA va q3) (some (rO oA va q3)):=R.tp (bL (wg 10 va rfl (uV (eY (Ph (gF (fJ (aq 4 (lE eS) oA rfl)) (aq 6 (zE eI) q3.1 rfl)) (gF (fJ (aq 4 (lE eS) oA rfl)) (aq 11 (zE eI) q3.2 rfl)))) (eY (Wz (gF (fJ (aq 4 (lE eS) oA rfl)) (aq 6 (zE eI) q3.1 rfl)) (gF (fJ (aq 4 (lE eS) oA rfl)) (aq 11 (zE eI) q3.2 rfl)))) (eY (jE (aR (.int 2) eI (2:Int) rfl) (aq 6 (zE eI) q3.1 rfl)))) fun va=>(cR (bI va rfl))))
def dJ (Al:Int) (Fz:Int) (xO:Int):z9:=(let vc:=((rng 0 (kN 30)).map fun v1:Int=>(Txt.mul (ch ("abcd" : Str) (v1 / (8:Int))) ((1:Int)+(v1 % (8:Int)))));(let oA:=((rng 0 (kN 30)).map fun v1:Int=>(at' vc ((((7:Int) * v1)+Fz) % (30:Int))));(let vs:=([]:List aY);(let vs:(List aY):=((rng 0 ((29:Int)+(Al % (2:Int))).toNat).foldl (fun (vs:(List aY)) (v1:Int)=>(mj xO oA vs v1)) vs);(let va:=([]:List bK);(let va:(List bK):=((cut [((0:Int),(29:Int)),((3:Int),(11:Int)),((20:Int),(27:Int))] none (some ((Al / (2:Int)) % (4:Int)))).foldl (fun (va:(List bK)) (q3:JD)=>(mz oA va q3)) va);(let v9:=((pB bh vs).map fun q4:aY=>(((0:Int) - q4.1),q4.2.1,q4.2.2.1,q4.2.2.2));((iB vc),v9,(pB bQ va)))))))))
def qG (Al:Int) (Fz:Int) (xO:Int):Prop:=(((rng 0 (kN 30)).length<=100000/\(∀ v1∈(rng 0 (kN 30)),(In ("abcd" : Str).length (v1 / (8:Int))/\(((1:Int)+(v1 % (8:Int)))<=1000 ∧ -1000<=((1:Int)+(v1 % (8:Int)))/\(ch ("abcd" : Str) (v1 / (8:Int))).length<=1000))))/\(let vc:=((rng 0 (kN 30)).map fun v1:Int=>(Txt.mul (ch ("abcd" : Str) (v1 / (8:Int))) ((1:Int)+(v1 % (8:Int)))));(((rng 0 (kN 30)).length<=100000/\(∀ v1∈(rng 0 (kN 30)),In vc.length ((((7:Int) * v1)+Fz) % (30:Int))))/\(let oA:=((rng 0 (kN 30)).map fun v1:Int=>(at' vc ((((7:Int) * v1)+Fz) % (30:Int))));(let vs:=([]:List aY);((Rg ((29:Int)+(Al % (2:Int)))/\qM (fun (vs:(List aY)) (v1:Int)=>(mj xO oA vs v1)) (fun (vs:(List aY)) (v1:Int)=>some (rN xO oA vs v1)) (rng 0 ((29:Int)+(Al % (2:Int))).toNat) vs)/\(let vs:(List aY):=((rng 0 ((29:Int)+(Al % (2:Int))).toNat).foldl (fun (vs:(List aY)) (v1:Int)=>(mj xO oA vs v1)) vs);(let va:=([]:List bK);(qM (fun (va:(List bK)) (q3:JD)=>(mz oA va q3)) (fun (va:(List bK)) (q3:JD)=>some (rO oA va q3)) (cut [((0:Int),(29:Int)),((3:Int),(11:Int)),((20:Int),(27:Int))] none (some ((Al / (2:Int)) % (4:Int)))) va/\(let va:(List bK):=((cut [((0:Int),(29:Int)),((3:Int),(11:Int)),((20:Int),(27:Int))] none (some ((Al / (2:Int)) % (4:Int)))).foldl (fun (va:(List bK)) (q3:JD)=>(mz oA va q3)) va);((vs.length < 64/\(pB bh vs).length<=100000)/\(let v9:=((pB bh vs).map fun q4:aY=>(((0:Int) - q4.1),q4.2.1,q4.2.2.1,q4.2.2.2));(vc.length < 64/\va.length < 64)))))))))))))
theorem PJ (Al:Int) (Fz:Int) (xO:Int):RP tK [some ((zE eI) Al),some ((zE eI) Fz),some ((zE eI) xO),none,none,none,none,none,none,none,none,none,none] (fun r=>Out.rt ((zE oM) r)) (dJ Al Fz xO) (some (qG Al Fz xO)):=R.tp (bW 3 (O9 (Wt 30 30 rfl (by unfold Rg;decide)) _ (fun _=>rfl) (fun v1:Int=>(Wi (Rc (aR (.str "abcd") eS ("abcd" : Str) rfl) (yM (aq 0 (zE eI) v1 rfl) 8 (by decide))) (jE (aR (.int 1) eI (1:Int) rfl) (dw (aq 0 (zE eI) v1 rfl) 8 (by decide)))))) (fun _=>rfl) fun vc=>(bW 4 (O9 (Wt 30 30 rfl (by unfold Rg;decide)) _ (fun _=>rfl) (fun v1:Int=>(gF (fJ (aq 0 (lE eS) vc rfl)) (dw (jE (Jr 7 (by decide) (aq 2 (zE eI) v1 rfl)) (aq 1 (zE eI) Fz rfl)) 30 (by decide))))) (fun _=>rfl) fun oA=>(bW 5 (jl (eN bh) (zC rfl)) (fun _=>rfl) fun vs=>(Ep (fun vs:(List aY)=>[some ((zE eI) Al),some ((zE eI) Fz),some ((zE eI) xO),some ((oE eS) vc),some ((oE eS) oA),some ((oE bh) vs),none,none,none,none,none,none,none]) vs rfl (Eo (jE (aR (.int 29) eI (29:Int) rfl) (dw (aq 0 (zE eI) Al rfl) 2 (by decide)))) _ (fun _ _=>rfl) (fun (vs:(List aY)) (v1:Int)=>(GC Al Fz xO vc oA vs v1).r) fun vs=>(bW 10 (jl (eN bQ) (zC rfl)) (fun _=>rfl) fun va=>(Ep (fun va:(List bK)=>[some ((zE eI) Al),some ((zE eI) Fz),some ((zE eI) xO),some ((oE eS) vc),some ((oE eS) oA),some ((oE bh) vs),none,none,none,none,some ((oE bQ) va),none,none]) va rfl (ab5 (ab0 (jZ (jl (cj (zZ (aR (.int 0) eI (0:Int) rfl) (aR (.int 29) eI (29:Int) rfl)) (cj (zZ (aR (.int 3) eI (3:Int) rfl) (aR (.int 11) eI (11:Int) rfl)) (cj (zZ (aR (.int 20) eI (20:Int) rfl) (aR (.int 27) eI (27:Int) rfl)) (eN ago)))) (zC rfl))) Wd (Wf (dw (yM (aq 0 (zE eI) Al rfl) 2 (by decide)) 4 (by decide))))) _ (fun _ _=>rfl) (fun (va:(List bK)) (q3:JD)=>(GD Al Fz xO vc oA vs va q3).r) fun va=>(bW 12 (pG (jZ (qR (Jv (jZ (Ww (fJ (aq 5 (lE bh) vs rfl))))) _ (fun _=>rfl) (fun q4:aY=>(Js (LC (aR (.int 0) eI (0:Int) rfl) (aq 0 (zE eI) q4.1 rfl)) (aq 1 (zE eS) q4.2.1 rfl) (aq 2 (zE eS) q4.2.2.1 rfl) (aq 3 (zE eI) q4.2.2.2 rfl))) fun _=>rfl))) (fun _=>rfl) fun v9=>(lJ (fun r=>r) (uV (eY (pG (jZ (Ju (fJ (aq 3 (lE eS) vc rfl)))))) (aq 12 (zE (eT bh)) v9 rfl) (eY (pG (jZ (Ww (fJ (aq 10 (lE bQ) va rfl))))))) (fun _=>rfl) fun _=>rfl))))))))
theorem PK:∀ v bs,(aZ eI (aZ eI (aZ eI aN))) v bs->bs.length=3/\(hold (some (qG v.1 v.2.1 v.2.2.1))->mF (bs.map lend)=some ((zE oM) (dJ v.1 v.2.1 v.2.2.1))):=by
 rintro⟨Al,Fz,xO,_⟩ _ ⟨_,rfl,⟨_,rfl,⟨_,rfl,rfl⟩⟩⟩
 exact⟨rfl,fun h=>lO (g:=tK) (n:=13) (bs:=[.z (eI Al),.z (eI Fz),.z (eI xO)]) (PJ Al Fz xO).r h⟩
end
end G24
end
section
set_option synthInstance.maxSize 100000
namespace G24
open PySem PySem.Spec PyProof.Rows L2 P1
noncomputable section
def qH (v0:(List Int)) (s1:Unit) (v1:Int):ux (Unit) Bool:=(let v2:=(aP (aQ v0 v1) (9:Int));(if (!(jV (jg v0 v1 ((at' v2 (6:Int)) % (10:Int)) ((at' v2 (7:Int)) % (15:Int)) ((at' v2 (8:Int)) % (7:Int)))))=true then (ux.rt false) else (ux.nx ())))
def vI (v0:(List Int)) (s1:Unit) (v1:Int):Prop:=(((jf v0 v1)/\(fW (aQ v0 v1) (9:Int)))/\(let v2:=(aP (aQ v0 v1) (9:Int));(((In v2.length (6:Int)/\(In v2.length (7:Int)/\In v2.length (8:Int)))/\(pU v0 v1 ((at' v2 (6:Int)) % (10:Int)) ((at' v2 (7:Int)) % (15:Int)) ((at' v2 (8:Int)) % (7:Int))))/\(jW (jg v0 v1 ((at' v2 (6:Int)) % (10:Int)) ((at' v2 (7:Int)) % (15:Int)) ((at' v2 (8:Int)) % (7:Int)))))))
theorem W5 (v0:(List Int)) {lY:Bx} (pR:Lp lY (v0.map eI)) (s1:Unit) (v1:Int):RP Ml [some lY,some ((zE eI) v1),none] (cC (fun s1:Unit=>[some lY,none,none]) (zE eB)) (qH v0 s1 v1) (some (vI v0 s1 v1)):=R.tp (bL (bW 2 (x_call lZ (eV (eY (x_call qC (z7 (pA 0 eI v0 pR rfl) (eV (aq 1 (zE eI) v1 rfl) cL)))) (eV (aR (.int 9) eI (9:Int) rfl) cL))) (fun _=>rfl) fun v2=>(bL (Bj (Rb (Wb (x_call Bq (eV (eY (x_call JQ (z7 (pA 0 eI v0 pR rfl) (eV (aq 1 (zE eI) v1 rfl) (eV (dw (gF (fJ (aq 2 (lE eI) v2 rfl)) (aR (.int 6) eI (6:Int) rfl)) 10 (by decide)) (eV (dw (gF (fJ (aq 2 (lE eI) v2 rfl)) (aR (.int 7) eI (7:Int) rfl)) 15 (by decide)) (eV (dw (gF (fJ (aq 2 (lE eI) v2 rfl)) (aR (.int 8) eI (8:Int) rfl)) 7 (by decide)) cL))))))) cL)))) (bL (lJ .rt (aR (.bl false) eB false rfl) (fun _=>rfl) fun _=>rfl)) (cR (cR (bI (.nx ()) rfl)))))))
def M6 (v0:(List Int)):Bool:=(behind (ni (fun (s1:Unit) (v1:Int)=>((qH v0 s1 v1):ux (Unit) Bool)) (rng 0 (if (if (4:Int) < (v0.length:Int) then (4:Int) else (v0.length:Int)) > (1:Int) then (if (4:Int) < (v0.length:Int) then (4:Int) else (v0.length:Int)) else (1:Int)).toNat) ()) (fun r=>r) fun s1:Unit=>(let v2:=(cut (aP (aQ v0 (0:Int)) (13:Int)) (some (9:Int)) none);((!decide (((at' v2 (0:Int)) % (8:Int))=(3:Int)))||(jV (dJ (at' v2 (1:Int)) (at' v2 (2:Int)) (at' v2 (3:Int)))))))
def M7 (v0:(List Int)):Prop:=((Rg (if (if (4:Int) < (v0.length:Int) then (4:Int) else (v0.length:Int)) > (1:Int) then (if (4:Int) < (v0.length:Int) then (4:Int) else (v0.length:Int)) else (1:Int))/\uW (fun (s1:Unit) (v1:Int)=>((qH v0 s1 v1):ux (Unit) Bool)) (fun (s1:Unit) (v1:Int)=>some (vI v0 s1 v1)) (rng 0 (if (if (4:Int) < (v0.length:Int) then (4:Int) else (v0.length:Int)) > (1:Int) then (if (4:Int) < (v0.length:Int) then (4:Int) else (v0.length:Int)) else (1:Int)).toNat) ())/\(pH (ni (fun (s1:Unit) (v1:Int)=>((qH v0 s1 v1):ux (Unit) Bool)) (rng 0 (if (if (4:Int) < (v0.length:Int) then (4:Int) else (v0.length:Int)) > (1:Int) then (if (4:Int) < (v0.length:Int) then (4:Int) else (v0.length:Int)) else (1:Int)).toNat) ()) fun s1:Unit=>(((jf v0 (0:Int))/\(fW (aQ v0 (0:Int)) (13:Int)))/\(let v2:=(cut (aP (aQ v0 (0:Int)) (13:Int)) (some (9:Int)) none);(In v2.length (0:Int)/\((!decide (((at' v2 (0:Int)) % (8:Int))=(3:Int)))=false->(((In v2.length (1:Int)/\(In v2.length (2:Int)/\In v2.length (3:Int)))/\(qG (at' v2 (1:Int)) (at' v2 (2:Int)) (at' v2 (3:Int))))/\(jW (dJ (at' v2 (1:Int)) (at' v2 (2:Int)) (at' v2 (3:Int)))))))))))
theorem aeF (v0:(List Int)) {lY:Bx} (pR:Lp lY (v0.map eI)):RP Rp [some lY,none,none] (fun r=>Out.rt ((zE eB) r)) (M6 v0) (some (M7 v0)):=R.tp (ab8 (fun s1:Unit=>[some lY,none,none]) () rfl (Eo (Ek (aR (.int 1) eI (1:Int) rfl) (Wn (x_len (pA 0 eI v0 pR rfl)) (aR (.int 4) eI (4:Int) rfl)))) _ (fun _ _=>rfl) (fun (s1:Unit) (v1:Int)=>((W5 v0 pR s1 v1).r:R _ _ (cC (fun s1:Unit=>[some lY,none,none]) (zE eB)))) (fun r=>r) (fun _=>rfl) fun s1=>(bW 2 (ab0 (jZ (x_call lZ (eV (eY (x_call qC (z7 (pA 0 eI v0 pR rfl) (eV (aR (.int 0) eI (0:Int) rfl) cL)))) (eV (aR (.int 13) eI (13:Int) rfl) cL)))) (Wf (aR (.int 9) eI (9:Int) rfl)) Wd) (fun _=>rfl) fun v2=>(lJ (fun r=>r) (agd (LQ (by decide) (dw (gF (fJ (aq 2 (lE eI) v2 rfl)) (aR (.int 0) eI (0:Int) rfl)) 8 (by decide)) (aR (.int 3) eI (3:Int) rfl)) (x_call Bq (eV (eY (x_call PK (eV (gF (fJ (aq 2 (lE eI) v2 rfl)) (aR (.int 1) eI (1:Int) rfl)) (eV (gF (fJ (aq 2 (lE eI) v2 rfl)) (aR (.int 2) eI (2:Int) rfl)) (eV (gF (fJ (aq 2 (lE eI) v2 rfl)) (aR (.int 3) eI (3:Int) rfl)) cL))))) cL))) (fun _=>rfl) fun _=>rfl)))
theorem aas:∀ v bs,(aL eI aN) v bs->bs.length=1/\(hold (some (M7 v.1))->qZ (bs.map lend)=some ((zE eB) (M6 v.1))):=by
 rintro⟨v0,_⟩ _ ⟨lY,_,rfl,pR,rfl⟩
 exact⟨rfl,fun h=>lO (g:=Rp) (n:=3) (bs:=[lend lY]) (aeF v0 (Lz pR)).r h⟩
theorem aat (h:∀ ns:List Int,ns.length<=63->M7 ns/\M6 ns=true):(∀ ns:List Int,ns.length<=63->qZ [.z (.lst (ns.map .int))]=some (.z (.bl true)))/\∀ ns:List Int,ns.length<=63->qZ [.l (ns.map .int)]=some (.z (.bl true)):=
 ⟨fun ns hn=>((aas (ns,()) [.z (.lst (ns.map .int))] ⟨_,_,rfl,rfl,rfl⟩).2 (h ns hn).1).trans (by rw[(h ns hn).2]),fun ns hn=>((aas (ns,()) [.l (ns.map .int)] ⟨_,_,rfl,rfl,rfl⟩).2 (h ns hn).1).trans (by rw[(h ns hn).2])⟩
end
end G24
end
section
set_option synthInstance.maxSize 100000
namespace G24
open PySem PySem.Spec PyProof.Rows L2 P1
theorem Fp (script:List Int) (k:Int) (h0:0<=k) (h1:k<=1000):jf script k:=by
 unfold jf
 exact⟨fun h=>in_of h0 (by simpa using h),fun _=>aao h0 (by omega)⟩
theorem W6 (k:Nat) (s:Int×List Int×Int) (hk:k < 1000) (h:(0<=s.1/\s.1 < 1999999973)/\s.2.1.length=k/\(∀ x∈s.2.1,0<=x)/\0<=s.2.2):lB s k/\(0<=(cN s k).1/\(cN s k).1 < 1999999973)/\(cN s k).2.1.length=k+1/\(∀ x∈(cN s k).2.1,0<=x)/\0<=(cN s k).2.2:=by
 obtain⟨h1,h2,h3,h4⟩:=h
 have hin:In 2 (if (decide ((0:Int) < s.2.2))=true then (1:Int) else 0):=by split<;>exact in_of (by omega) (by omega)
 refine⟨⟨aao h1.1 (by omega),hin,?_⟩,oh _ (by decide),?_,?_,Int.ediv_nonneg h4 (by decide)⟩
 ·show s.2.1.length<=1000000
  omega
 ·show (s.2.1++[_]).length=k+1
  rw[z5,h2];rfl
 ·intro x hx
  rcases List.mem_append.mp hx with hx|hx
  ·exact h3 x hx
  ·cases List.mem_singleton.mp hx
   have:=w6 (xs:=[((((s.1 * ((s.1 % (65521:Int))+(40487:Int)))+((7:Int) * k))+(5:Int)) % (1999999973:Int)),(s.2.2 % (1000000:Int))]) hin
   simp only[QN,Q1,or_false] at this
   rcases this with e|e<;>rw[e]
   ·exact (oh _ (by decide)).1
   ·exact (oh _ (by decide)).1
theorem Fq (c m:Int) (h0:0<=m) (h1:m<=1000):fW c m/\(aP c m).length=m.toNat/\∀ x∈aP c m,0<=x:=by
 have key:∀ st dg:Int,(0<=st/\st < 1999999973)->0<=dg->nM c m [] st dg/\(lC c m [] st dg).length=m.toNat/\∀ x∈lC c m [] st dg,0<=x:=fun st dg hs hd=>by
  have:=uY (P:=fun s k=>some (lB s k)) (fun k s=>(0<=s.1/\s.1 < 1999999973)/\s.2.1.length=k/\(∀ x∈s.2.1,0<=x)/\0<=s.2.2) (step:=fun s k=>cN s k) m.toNat (st,[],dg) ⟨hs,rfl,fun x h=>(by cases h),hd⟩ fun k s hk h=>W6 k s (by omega) h
  exact⟨⟨Es h0 (by omega),this.1⟩,this.2.2.1,this.2.2.2.1⟩
 refine key _ _ (oh _ (by decide)) ?_
 dsimp only
 split<;>(try split)<;>omega
theorem vP {α:Type} {m:List (Str×α)} {x:Str}:has m x=true↔x∈m.map (·.1):=by
 unfold has
 rw[QQ,kF]
 constructor
 ·rintro⟨q,hq,h⟩;exact⟨q,hq,JO h⟩
 ·rintro⟨q,hq,h⟩;exact⟨q,hq,QU h⟩
theorem M8 {α:Type} [Inhabited α] {pre rest:List (Str×α)} {n:Str} {h:α} (hn:n∉pre.map (·.1)):look (pre++(n,h)::rest) n=h:=by
 unfold look
 have:pre.find? (fun q=>decide (q.1=n))=none:=List.find?_eq_none.mpr fun q hq e=>hn (List.mem_map.mpr ⟨q,hq,JO e⟩)
 rw[List.find?_append,this]
 simp
theorem ZF {α:Type} {pre rest:List (Str×α)} {n:Str} {h v:α} (hn:n∉pre.map (·.1)) (hr:n∉rest.map (·.1)):put (pre++(n,h)::rest) n v=pre++(n,v)::rest:=by
 unfold put
 rw[zk (vP.mpr (by simp))]
 have fix:∀ l:List (Str×α),n∉l.map (·.1)->l.map (fun q=>if q.1=n then (q.1,v) else q)=l:=fun l hl=>by
  conv=>rhs;rw[<-List.map_id l]
  refine Q4 fun q hq=>?_
  rw[zw fun e=>hl (List.mem_map.mpr ⟨q,hq,e⟩)]
  rfl
 rw[QO,zr,fix pre hn,fix rest hr]
 simp
theorem Tz {α:Type} [Inhabited α] {m:List (Str×α)} {x:Str} (h:x∈m.map (·.1)):(x,look m x)∈m:=by
 unfold look
 cases hf:m.find? fun q=>decide (q.1=x) with
 |none=>
  obtain⟨q,hq,rfl⟩:=List.mem_map.mp h
  have:=List.find?_eq_none.mp hf q hq
  simp at this
 |some q=>
  have h1:=List.mem_of_find?_eq_some hf
  have h2:q.1=x:=by simpa using List.find?_some hf
  show (x,q.2)∈m
  rw[<-h2];exact h1
theorem J1 {α:Type} [Inhabited α] {m:List (Str×α)} (nd:(m.map (·.1)).Nodup) {q:Str×α} (h:q∈m):look m q.1=q.2:=by
 obtain⟨pre,rest,rfl⟩:=List.append_of_mem h
 have:q.1∉pre.map (·.1):=fun e=>by
  rw[QO,zr,kL] at nd
  exact nd.2.2 _ e _ (zh ..) rfl
 exact M8 this
def mn (one other:Str):Str:=if Ge other one=true then other else one
def jn (one other h:Str):Str:=if h=one\/h=other then mn one other else h
theorem Hy (a b:Str):mn a b=a\/mn a b=b:=by unfold mn;split;exact .inr rfl;exact .inl rfl
def jm (m:List (Str×Str)) (one other:Str):List (Str×Str):=m.map fun q=>(q.1,jn one other q.2)
theorem Rt (m:List (Str×Str)) (one other:Str):(jm m one other).map (·.1)=m.map (·.1):=by unfold jm;rw[qa];rfl
theorem ZG {m:List (Str×Str)} {one other x:Str} (nd:(m.map (·.1)).Nodup) (h:x∈m.map (·.1)):look (jm m one other) x=jn one other (look m x):=by
 have h1:=Tz h
 have:(x,jn one other (look m x))∈jm m one other:=List.mem_map.mpr ⟨_,h1,rfl⟩
 exact J1 (by rw[Rt];exact nd) this
theorem join_loop (one other:Str):∀ (post pre:List (Str×Str)),((pre++post).map (·.1)).Nodup->(pre++post).length < 1000 →
  qM (fun (heads:(List (Str×Str))) (name:Str)=>(dU one other (mn one other) heads name)) (fun (heads:(List (Str×Str))) (name:Str)=>some (oY one other (mn one other) heads name)) (post.map (·.1)) (pre++post) ∧
  (post.map (·.1)).foldl (fun (heads:(List (Str×Str))) (name:Str)=>(dU one other (mn one other) heads name)) (pre++post)=pre++jm post one other
 |[],pre,_,_=>⟨trivial,rfl⟩
 |(n,h)::rest,pre,nd,hl=>by
  have hn:n∉pre.map (·.1):=fun e=>by
   rw[QO,zr,kL] at nd
   exact nd.2.2 _ e _ (zh ..) rfl
  have hr:n∉rest.map (·.1):=by
   rw[QO,zr,kL,List.nodup_cons] at nd
   exact nd.2.1.1
  have hh:has (pre++(n,h)::rest) n=true:=vP.mpr (by simp)
  have e:dU one other (mn one other) (pre++(n,h)::rest) n=pre++(n,jn one other h)::rest:=by
   unfold dU
   dsimp only
   rw[M8 hn]
   unfold jn
   by_cases q:h=one\/h=other
   ·rw[zk q,zk (by simpa using q),ZF hn hr]
   ·rw[zw q,zw (by simpa using q)]
  have ih:=join_loop one other rest (pre++[(n,jn one other h)]) (by simpa using nd) (by simpa using hl)
  rw[List.append_assoc] at ih
  refine⟨⟨⟨⟨hh,fun _=>hh⟩,fun _=>hl⟩,?_⟩,?_⟩
  ·show qM _ _ _ (dU one other (mn one other) (pre++(n,h)::rest) n)
   rw[e];exact ih.1
  ·rw[zr,QA,e]
   rw[show pre++(n,jn one other h)::rest=pre++([(n,jn one other h)]++rest) by simp,ih.2]
   unfold jm
   simp
theorem zy {m:List (Str×Str)} (one other:Str) (nd:(m.map (·.1)).Nodup) (hl:m.length < 1000):pX m one other/\dH m one other=jm m one other:=join_loop one other m [] nd hl
theorem Ru:∀ (qs m:List (Str×Str)),((m++qs).map (·.1)).Nodup->qs.foldl (fun m q=>put m q.1 q.2) m=m++qs
 |[],m,_=>by simp
 |q::qs,m,nd=>by
  rw[QA]
  have:put m q.1 q.2=m++[q]:=by
   unfold put
   rw[zw]
   intro e
   have e:=vP.mp e
   rw[QO,zr,kL] at nd
   exact nd.2.2 _ e _ (zh ..) rfl
  rw[this,Ru qs (m++[q]) (by simpa using nd)]
  simp
theorem zA (names:List Str) (nd:names.Nodup) (hl:names.length < 1000):pW names/\cD names=names.map fun n=>(n,n):=by
 refine⟨⟨hl,by omega⟩,?_⟩
 unfold cD mkD
 rw[Ru _ [] (by rw[List.nil_append,qa];show (names.map id).Nodup;rw[List.map_id];exact nd)]
 rfl
structure Hd (names:List Str) (m:List (Str×Str)):Prop where
 keys:m.map (·.1)=names
 nd:names.Nodup
 len:names.length < 1000
 mem:∀ x∈names,look m x∈names
 idem:∀ x∈names,look m (look m x)=look m x
theorem Hd.kn {names:List Str} {m:List (Str×Str)} (h:Hd names m):(m.map (·.1)).Nodup:=by rw[h.keys];exact h.nd
theorem Hd.ml {names:List Str} {m:List (Str×Str)} (h:Hd names m):m.length < 1000:=by rw[<-zi (f:=(·.1)),h.keys];exact h.len
theorem Hd.has {names:List Str} {m:List (Str×Str)} (h:Hd names m) {x:Str} (hx:x∈names):has m x=true:=vP.mpr (by rw[h.keys];exact hx)
theorem Hd.lone {names:List Str} (nd:names.Nodup) (hl:names.length < 1000):Hd names (names.map fun n=>(n,n)):=by
 have k:(names.map fun n=>(n,n)).map (·.1)=names:=by rw[qa];show names.map id=names;rw[List.map_id]
 have lk:∀ x∈names,look (names.map fun n=>(n,n)) x=x:=fun x hx=>J1 (q:=(x,x)) (by rw[k];exact nd) (List.mem_map.mpr ⟨x,hx,rfl⟩)
 exact⟨k,nd,hl,fun x hx=>by rw[lk x hx];exact hx,fun x hx=>by rw[lk x hx,lk x hx]⟩
theorem sI {names:List Str} (nd:names.Nodup) {x:Str} (hx:x∈names):look (names.map fun n=>(n,n)) x=x:=
 J1 (q:=(x,x)) (by rw[qa];show (names.map id).Nodup;rw[List.map_id];exact nd) (List.mem_map.mpr ⟨x,hx,rfl⟩)
theorem Hd.zB {names:List Str} {m:List (Str×Str)} (h:Hd names m) {one other x:Str} (hx:x∈names):look (jm m one other) x=jn one other (look m x):=ZG h.kn (by rw[h.keys];exact hx)
theorem Hd.join {names:List Str} {m:List (Str×Str)} (h:Hd names m) {a b:Str} (ha:a∈names) (hb:b∈names):Hd names (jm m (look m a) (look m b)):=by
 have m1:=h.mem a ha
 have m2:=h.mem b hb
 refine⟨(Rt _ _ _).trans h.keys,h.nd,h.len,fun x hx=>?_,fun x hx=>?_⟩
 ·rw[h.zB hx]
  unfold jn
  split
  ·rcases Hy (look m a) (look m b) with e|e<;>rw[e]<;>assumption
  ·exact h.mem x hx
 ·have hx':jn (look m a) (look m b) (look m x)∈names:=by
   unfold jn
   split
   ·rcases Hy (look m a) (look m b) with e|e<;>rw[e]<;>assumption
   ·exact h.mem x hx
  rw[h.zB hx,h.zB hx']
  unfold jn
  by_cases q:look m x=look m a\/look m x=look m b
  ·rw[zk q]
   rcases Hy (look m a) (look m b) with e|e
   ·rw[e,h.idem a ha,zk (.inl rfl)]
   ·rw[e,h.idem b hb,zk (.inr rfl)]
  ·rw[zw q,h.idem x hx,zw q]
theorem Rv {m:List (Str×Str)} (a:Str):jm m a a=m:=by
 unfold jm
 conv=>rhs;rw[<-List.map_id m]
 refine Q4 fun q _=>?_
 unfold jn mn
 have:Ge a a=false:=by simp[Ge]
 rw[this]
 by_cases e:q.2=a
 ·rw[zk (.inl e),zw (by decide),<-e];rfl
 ·rw[zw (by simp[e])];rfl
def aeG (names:List Str) (m:List (Str×Str)):List Str:=names.filter fun x=>decide (look m x=x)
theorem ZJ {names:List Str} {m:List (Str×Str)} (h:Hd names m):pY m/\(cX m).length=(aeG names m).length:=by
 have hl:=h.len
 refine⟨⟨by rw[h.keys];omega,fun x hx=>⟨vP.mpr hx,fun _=>⟨by rw[h.keys];omega,fun y hy=>vP.mpr hy⟩⟩⟩,?_⟩
 unfold cX aeG
 rw[zi,h.keys]
end G24
end
section
set_option synthInstance.maxSize 100000
namespace G24
open PySem PySem.Spec PyProof.Rows L2 P1
abbrev qN:=Int×Str×Str×Int
def Rs (names:List Str) (rs:List qN):Prop:=∀ r∈rs,r.2.1∈names/\r.2.2.1∈names
def jb (m:List (Str×Str)) (r:qN):List (Str×Str):=jm m (look m r.2.1) (look m r.2.2.1)
def hb (names:List Str) (rs:List qN):List (Str×Str):=rs.foldl jb (cD names)
theorem hd0 {names:List Str} (nd:names.Nodup) (hl:names.length < 1000):Hd names (cD names):=by rw[(zA names nd hl).2];exact Hd.lone nd hl
theorem ZK (names:List Str) (rs:List qN) (r:qN):hb names (rs++[r])=jb (hb names rs) r:=List.foldl_append (l:=rs) (l':=[r])
theorem pig:∀ {xs ys:List Str},xs.Nodup->(∀ x∈xs,x∈ys)->xs.length<=ys.length
 |[],_,_,_=>qS _
 |x::xs,ys,nd,h=>by
  obtain⟨n1,n2⟩:=List.nodup_cons.mp nd
  have hx:=h x (zh ..)
  have:=pig (ys:=ys.erase x) n2 fun z hz=>(List.mem_erase_of_ne (fun e:z=x=>n1 (e▸hz))).mpr (h z (zo _ hz))
  rw[List.length_erase_of_mem hx] at this
  have:=List.length_pos_of_mem hx
  rw[qv]
  omega
structure PH (names:List Str) (P:List (List Str)) (m:List (Str×Str)):Prop where
 sub:∀ p∈P,∀ y∈p,y∈names
 cov:∀ x∈names,∃ p∈P,x∈p
 cls:∀ p∈P,∀ x∈p,∀ y∈names,(y∈p↔look m x=look m y)
 ne:∀ p∈P,p≠[]
 nd:∀ p∈P,p.Nodup
 uni:∀ p∈P,∀ q∈P,∀ x,x∈p->x∈q->p=q
 len:P.length<=names.length
 pn:P.Nodup
 srt:∀ p∈P,p.Pairwise rP
theorem ph0 {names:List Str} (nd:names.Nodup) (hl:names.length < 1000):PH names (names.map fun name:Str=>[name]) (cD names):=by
 rw[(zA names nd hl).2]
 have inv:∀ p,p∈(names.map fun name:Str=>[name])->∃ n∈names,p=[n]:=fun p hp=>by
  obtain⟨n,hn,e⟩:=List.mem_map.mp hp
  exact⟨n,hn,e.symm⟩
 refine⟨fun p hp y hy=>?_,fun x hx=>⟨[x],List.mem_map.mpr ⟨x,hx,rfl⟩,List.mem_singleton.mpr rfl⟩,fun p hp x hx y hy=>?_,fun p hp e=>?_,fun p hp=>?_,fun p hp q hq x h1 h2=>?_,by rw[zi];exact zg _,?_,fun p hp=>?_⟩
 ·obtain⟨n,hn,rfl⟩:=inv p hp
  cases List.mem_singleton.mp hy;exact hn
 ·obtain⟨n,hn,rfl⟩:=inv p hp
  cases List.mem_singleton.mp hx
  rw[sI nd hn,sI nd hy,List.mem_singleton]
  exact⟨fun e=>e.symm,fun e=>e.symm⟩
 ·obtain⟨n,hn,rfl⟩:=inv p hp
  cases e
 ·obtain⟨n,hn,rfl⟩:=inv p hp
  exact List.nodup_cons.mpr ⟨fun z=>(by cases z),List.nodup_nil⟩
 ·obtain⟨n,hn,rfl⟩:=inv p hp
  obtain⟨n',hn',rfl⟩:=inv q hq
  cases List.mem_singleton.mp h1
  cases List.mem_singleton.mp h2
  rfl
 ·unfold List.Nodup
  rw[kK]
  exact nd.imp fun h e=>h (by injection e)
 ·obtain⟨n,hn,rfl⟩:=inv p hp
  exact List.pairwise_singleton _ _
theorem pick {P:List (List Str)} {a:Str} (h:∃ p∈P,a∈p):In ((P.filter fun part:(List Str)=>(decide (a∈part))).map fun part:(List Str)=>part).length (0:Int)/\at' ((P.filter fun part:(List Str)=>(decide (a∈part))).map fun part:(List Str)=>part) (0:Int)∈P/\a∈at' ((P.filter fun part:(List Str)=>(decide (a∈part))).map fun part:(List Str)=>part) (0:Int):=by
 obtain⟨p,hp,ha⟩:=h
 have m:p∈((P.filter fun part:(List Str)=>(decide (a∈part))).map fun part:(List Str)=>part):=List.mem_map.mpr ⟨p,List.mem_filter.mpr ⟨hp,QU ha⟩,rfl⟩
 have i:In ((P.filter fun part:(List Str)=>(decide (a∈part))).map fun part:(List Str)=>part).length (0:Int):=tD (k:=0) (List.length_pos_of_mem m)
 refine⟨i,?_⟩
 obtain⟨q,hq,e⟩:=List.mem_map.mp (w6 i)
 rw[<-e]
 exact⟨(List.mem_filter.mp hq).1,JO (List.mem_filter.mp hq).2⟩
theorem comb {names:List Str} {P:List (List Str)} {m:List (Str×Str)} (h:Hd names m) (p:PH names P m) {one other:List Str} {a b:Str} (h1:one∈P) (h2:other∈P) (ha:a∈one) (hb:b∈other) (hne:one≠other) :
  (one++other).length<=names.length/\PH names (((P.filter fun part:(List Str)=>(!BJ part [one,other])).map fun part:(List Str)=>part)++[(iB (one++other))]) (jm m (look m a) (look m b)):=by
 have an:=p.sub _ h1 _ ha
 have bn:=p.sub _ h2 _ hb
 have ndq:(one++other).Nodup:=List.nodup_append.mpr ⟨p.nd _ h1,p.nd _ h2,fun x hx y hy e=>hne (p.uni _ h1 _ h2 x hx (e▸hy))⟩
 have acz:∀ x∈one++other,x∈names:=fun x hx=>(List.mem_append.mp hx).elim (p.sub _ h1 _) (p.sub _ h2 _)
 have c1:∀ y∈names,(y∈one↔look m y=look m a):=fun y hy=>(p.cls _ h1 _ ha y hy).trans ⟨Eq.symm,Eq.symm⟩
 have c2:∀ y∈names,(y∈other↔look m y=look m b):=fun y hy=>(p.cls _ h2 _ hb y hy).trans ⟨Eq.symm,Eq.symm⟩
 have old:∀ q,q∈((P.filter fun part:(List Str)=>(!BJ part [one,other])).map fun part:(List Str)=>part)↔q∈P/\q≠one/\q≠other:=fun q=>by
  rw[kf,j0,qV,<-Bool.not_eq_true,Mg]
  simp
 have mq:∀ y,y∈iB (one++other)↔y∈one\/y∈other:=fun y=>(dG _).mem_iff.trans List.mem_append
 have far:∀ q,q∈P->q≠one->q≠other->∀ x∈q,look m x≠look m a/\look m x≠look m b:=fun q hq n1 n2 x hx=>by
  have xn:=p.sub _ hq _ hx
  exact⟨fun e=>n1 (p.uni _ hq _ h1 x hx ((c1 x xn).mpr e)),fun e=>n2 (p.uni _ hq _ h2 x hx ((c2 x xn).mpr e))⟩
 refine⟨pig ndq acz,⟨fun q hq y hy=>?_,fun x hx=>?_,fun q hq x hx y hy=>?_,fun q hq=>?_,fun q hq=>?_,fun q hq q' hq' x hx hx'=>?_,?_,?_,fun q hq=>?_⟩⟩
 ·rcases List.mem_append.mp hq with hq|hq
  ·exact p.sub _ ((old q).mp hq).1 _ hy
  ·cases List.mem_singleton.mp hq
   exact acz y ((dG _).mem_iff.mp hy)
 ·obtain⟨q,hq,hx'⟩:=p.cov x hx
  by_cases e:q=one\/q=other
  ·refine⟨_,List.mem_append.mpr (.inr (List.mem_singleton.mpr rfl)),(mq x).mpr ?_⟩
   rcases e with rfl|rfl
   ·exact .inl hx'
   ·exact .inr hx'
  ·exact⟨q,List.mem_append.mpr (.inl ((old q).mpr ⟨hq,fun z=>e (.inl z),fun z=>e (.inr z)⟩)),hx'⟩
 ·rcases List.mem_append.mp hq with hq|hq
  ·obtain⟨hq,n1,n2⟩:=(old q).mp hq
   have xn:=p.sub _ hq _ hx
   have f:=far q hq n1 n2 x hx
   rw[h.zB xn,h.zB hy,p.cls _ hq _ hx y hy]
   unfold jn
   rw[zw (fun z=>z.elim f.1 f.2)]
   by_cases e:look m y=look m a\/look m y=look m b
   ·rw[zk e]
    constructor
    ·intro z;rw[z] at f;exact absurd e (fun w=>w.elim f.1 f.2)
    ·intro z
     rcases Hy (look m a) (look m b) with w|w<;>rw[w] at z
     ·exact absurd z f.1
     ·exact absurd z f.2
   ·rw[zw e]
  ·cases List.mem_singleton.mp hq
   have xq:=(mq x).mp hx
   have xn:=acz x (List.mem_append.mpr xq)
   rw[mq,h.zB xn,h.zB hy,c1 y hy,c2 y hy]
   unfold jn
   rw[zk (xq.elim (fun z=>.inl ((c1 x xn).mp z)) (fun z=>.inr ((c2 x xn).mp z)))]
   by_cases e:look m y=look m a\/look m y=look m b
   ·rw[zk e];exact⟨fun _=>rfl,fun _=>e⟩
   ·rw[zw e]
    refine⟨fun z=>absurd z e,fun z=>?_⟩
    rcases Hy (look m a) (look m b) with w|w<;>rw[w] at z
    ·exact .inl z.symm
    ·exact .inr z.symm
 ·rcases List.mem_append.mp hq with hq|hq
  ·exact p.ne _ ((old q).mp hq).1
  ·cases List.mem_singleton.mp hq
   intro e
   have:=(mq a).mpr (.inl ha)
   rw[e] at this
   cases this
 ·rcases List.mem_append.mp hq with hq|hq
  ·exact p.nd _ ((old q).mp hq).1
  ·cases List.mem_singleton.mp hq
   exact (dG _).nodup_iff.mpr ndq
 ·have key:∀ q,q∈P->q≠one->q≠other->x∈q->x∈iB (one++other)->False:=fun q hq n1 n2 e1 e2=>
   ((mq x).mp e2).elim (fun z=>n1 (p.uni _ hq _ h1 x e1 z)) (fun z=>n2 (p.uni _ hq _ h2 x e1 z))
  rcases List.mem_append.mp hq with hq|hq<;>rcases List.mem_append.mp hq' with hq'|hq'
  ·exact p.uni _ ((old q).mp hq).1 _ ((old q').mp hq').1 x hx hx'
  ·cases List.mem_singleton.mp hq'
   obtain⟨z,n1,n2⟩:=(old q).mp hq
   exact (key q z n1 n2 hx hx').elim
  ·cases List.mem_singleton.mp hq
   obtain⟨z,n1,n2⟩:=(old q').mp hq'
   exact (key q' z n1 n2 hx' hx).elim
  ·exact (List.mem_singleton.mp hq).trans (List.mem_singleton.mp hq').symm
 ·rw[z5,kf]
  have:(P.filter fun part:(List Str)=>(!BJ part [one,other])).length < P.length:=by
   rw[List.length_filter_lt_length_iff_exists]
   refine⟨one,h1,?_⟩
   rw[qV,Bool.not_eq_false]
   exact Mg.mpr (zh ..)
  have:=p.len
  show _+1<=_
  omega
 ·rw[kL]
  refine⟨by rw[kf];exact p.pn.filter _,List.nodup_cons.mpr ⟨fun z=>(by cases z),List.nodup_nil⟩,fun x hx y hy e=>?_⟩
  cases List.mem_singleton.mp hy
  obtain⟨z,n1,n2⟩:=(old x).mp hx
  have:a∈x:=by rw[e];exact (mq a).mpr (.inl ha)
  exact n1 (p.uni _ z _ h1 a this ha)
 ·rcases List.mem_append.mp hq with hq|hq
  ·exact p.srt _ ((old q).mp hq).1
  ·cases List.mem_singleton.mp hq
   exact sY _
theorem PL {names:List Str} {P:List (List Str)} {m:List (Str×Str)} (h:Hd names m) (hl:names.length < 64) (p:PH names P m) {r:qN} (ha:r.2.1∈names) (hb:r.2.2.1∈names) :
  jU P r/\PH names (dI P r) (jm m (look m r.2.1) (look m r.2.2.1)):=by
 obtain⟨i1,o1,a1⟩:=pick (p.cov _ ha)
 obtain⟨i2,o2,a2⟩:=pick (p.cov _ hb)
 have pl:=p.len
 unfold jU dI
 dsimp only
 generalize at' ((P.filter fun part:(List Str)=>(decide (r.2.1∈part))).map fun part:(List Str)=>part) (0:Int)=one at *
 generalize at' ((P.filter fun part:(List Str)=>(decide (r.2.2.1∈part))).map fun part:(List Str)=>part) (0:Int)=other at *
 by_cases e:one=other
 ·subst e
  refine⟨⟨⟨by omega,i1⟩,⟨by omega,i2⟩,fun z=>by simp at z⟩,?_⟩
  rw[zw (by simp),(p.cls _ o1 _ a1 _ hb).mp a2,Rv]
  exact p
 ·obtain⟨c1,c2⟩:=comb h p o1 o2 a1 a2 e
  rw[z5] at c1
  refine⟨⟨⟨by omega,i1⟩,⟨by omega,i2⟩,fun _=>⟨⟨by omega,?_,?_⟩,?_⟩⟩,?_⟩
  ·show _<=1000000
   omega
  ·rw[z5];omega
  ·have:=c2.len
   rw[z5] at this
   show _<=1000000
   omega
  ·rw[zk (by simp[e])]
   exact c2
theorem Ft {names:List Str} (hl:names.length < 64):∀ (rs:List qN) (P:List (List Str)) (m:List (Str×Str)),Rs names rs->Hd names m->PH names P m →
  qM (fun (found:(List (List Str))) (q1:qN)=>(dI found q1)) (fun (found:(List (List Str))) (q1:qN)=>some (jU found q1)) rs P/\PH names (rs.foldl (fun (found:(List (List Str))) (q1:qN)=>(dI found q1)) P) (rs.foldl jb m)
 |[],_,_,_,_,p=>⟨trivial,p⟩
 |r::rs,P,m,hr,h,p=>by
  obtain⟨ha,hb⟩:=hr r (zh ..)
  obtain⟨d,q⟩:=PL h hl p ha hb
  have ih:=Ft hl rs (dI P r) (jb m r) (fun x hx=>hr x (zo _ hx)) (h.join ha hb) q
  exact⟨⟨d,ih.1⟩,ih.2⟩
theorem W7 {names:List Str} (nd:names.Nodup) (hl:names.length < 64) {rs:List qN} (hr:Rs names rs):rA names rs/\∃ P,iR names rs=bF P/\PH names P (hb names rs):=by
 obtain⟨d,p⟩:=Ft hl rs _ _ hr (hd0 nd (by omega)) (ph0 nd (by omega))
 have pl:=p.len
 refine⟨⟨by omega,d,by show List.length _<=100000;exact z4 pl (by omega),by show (List.map _ _).length < 64;rw[zi];exact QP pl hl,fun x hx=>?_⟩,_,congrArg bF (kf _),p⟩
 obtain⟨y,hy,rfl⟩:=List.mem_map.mp hx
 have:=p.ne _ hy
 cases y
 ·exact absurd rfl this
 ·rfl
theorem TF {names:List Str} {P:List (List Str)} {m:List (Str×Str)} (p:PH names P m) {a b:Str} (ha:a∈names) (hb:b∈names):(((bF P).map fun part:(List Str)=>((decide (a∈part))&&(decide (b∈part)))).any id)=decide (look m a=look m b):=by
 rw[ko,QQ,Zl]
 constructor
 ·rintro⟨x,hx,e⟩
  obtain⟨q,hq,rfl⟩:=List.mem_map.mp hx
  have e:(decide (a∈q)&&decide (b∈q))=true:=e
  rw[ZN,Zl,Zl] at e
  exact (p.cls q ((fM P).mem_iff.mp hq) a e.1 b hb).mp e.2
 ·intro e
  obtain⟨q,hq,hx⟩:=p.cov a ha
  refine⟨_,List.mem_map.mpr ⟨q,(fM P).mem_iff.mpr hq,rfl⟩,?_⟩
  show (_&&_)=true
  rw[ZN,Zl,Zl]
  exact⟨hx,(p.cls q hq a hx b hb).mpr e⟩
theorem Fv (a:Str):rP a a:=by unfold rP;rw[ltCps_eq];simp
theorem Hz {a b c:Str} (h:rP a b) (h':rP b c):rP a c:=by
 unfold rP at *
 rw[ltCps_eq] at *
 simp only[Qb] at *
 exact List.le_trans (α:=Nat) h h'
theorem aau (a b:Str):rP (mn a b) a/\rP (mn a b) b:=by
 unfold mn
 by_cases h:Ge b a=true
 ·rw[zk h]
  exact⟨((lt_iff b a).mp h).1,Fv b⟩
 ·rw[zw h]
  refine⟨Fv a,?_⟩
  have h:Ge b a=false:=by simpa using h
  unfold Ge at h
  unfold rP
  rw[ltCps_eq]
  exact h
def Lst (names:List Str) (m:List (Str×Str)):Prop:=∀ x∈names,rP (look m x) x
theorem ahv {names:List Str} (nd:names.Nodup) (hl:names.length < 1000):Lst names (cD names):=fun x hx=>by
 rw[(zA names nd hl).2,sI nd hx];exact Fv x
theorem Lst.jb {names:List Str} {m:List (Str×Str)} (l:Lst names m) (h:Hd names m) (r:qN):Lst names (jb m r):=fun x hx=>by
 show rP (look (jm m (look m r.2.1) (look m r.2.2.1)) x) x
 rw[h.zB hx]
 unfold jn
 split
 ·rename_i e
  rcases e with e|e
  ·exact Hz (aau _ _).1 (e▸l x hx)
  ·exact Hz (aau _ _).2 (e▸l x hx)
 ·exact l x hx
theorem J2 {α:Type} [DecidableEq α]:∀ {xs ys:List α},xs.Nodup->ys.Nodup->(∀ x,x∈xs↔x∈ys)->xs.Perm ys
 |[],ys,_,_,h=>by
  cases ys with
  |nil=>exact .refl _
  |cons y ys=>exact absurd ((h y).mpr (zh ..)) (by simp)
 |x::xs,ys,nx,ny,h=>by
  obtain⟨n1,n2⟩:=List.nodup_cons.mp nx
  have hx:=(h x).mp (zh ..)
  refine (List.Perm.cons x (J2 (ys:=ys.erase x) n2 (ny.erase x) fun z=>?_)).trans (List.perm_cons_erase hx).symm
  constructor
  ·intro hz
   have:z≠x:=fun e=>n1 (e▸hz)
   exact (List.mem_erase_of_ne this).mpr ((h z).mp (zo _ hz))
  ·intro hz
   have hne:z≠x:=fun e=>by subst e;exact (List.Nodup.not_mem_erase ny) hz
   have:=(h z).mpr (List.mem_of_mem_erase hz)
   rcases List.mem_cons.mp this with e|e
   ·exact absurd e hne
   ·exact e
theorem ZL {a b:Str} {xs ys:List Str} (h:rP a b) (hne:a≠b):Mi (a::xs) (b::ys)=true:=by
 unfold Mi S1.uO
 show (!S1.oH (Sum.inr b::kT ys) (Sum.inr a::kT xs))=true
 unfold S1.oH
 rw[zw (fun e=>hne (Sum.inr.inj e).symm)]
 unfold S1.QD
 unfold rP at h
 rw[ltCps_eq] at h
 simpa using h
theorem Rw {names:List Str} (so:names.Pairwise rP) {m:List (Str×Str)} (h:Hd names m) (l:Lst names m) {P:List (List Str)} (p:PH names P m):cX m=bF P:=by
 have ks:=h.keys
 have under:∀ q∈P,∀ x∈q,bZ m (look m x)=q:=fun q hq x hx=>by
  unfold bZ
  rw[kf,ks]
  refine Jd (J2 (h.nd.filter _) (p.nd _ hq) fun z=>?_) (so.filter _) (p.srt _ hq)
  rw[j0,Zl]
  constructor
  ·rintro⟨hz,e⟩;exact (p.cls q hq x hx z hz).mpr e.symm
  ·intro hz
   have zn:=p.sub _ hq _ hz
   exact⟨zn,((p.cls q hq x hx z zn).mp hz).symm⟩
 have first:∀ n∈names,look m n=n->∃ t,bZ m n=n::t:=fun n hn e=>by
  have hmem:n∈bZ m n:=by
   unfold bZ
   rw[kf,ks,j0,Zl]
   exact⟨hn,e⟩
  have hso:(bZ m n).Pairwise rP:=by
   unfold bZ
   rw[kf,ks]
   exact so.filter _
  cases hc:bZ m n with
  |nil=>rw[hc] at hmem;cases hmem
  |cons y t=>
   have hy:y∈bZ m n:=by rw[hc];exact zh ..
   unfold bZ at hy
   rw[kf,ks,j0,Zl] at hy
   have h1:rP n y:=by have:=l y hy.1;rw[hy.2] at this;exact this
   rw[hc] at hmem hso
   rcases List.mem_cons.mp hmem with e2|e2
   ·exact⟨t,by rw[e2]⟩
   ·have:=yC h1 ((List.pairwise_cons.mp hso).1 n e2)
    exact⟨t,by rw[this]⟩
 refine Hv (J2 ?_ p.pn fun q=>?_) ?_
 ·unfold cX List.Nodup
  rw[ks,kK]
  refine ka ?_ (h.nd.filter _)
  intro a b ha hb hne e
  rw[j0,Zl] at ha hb
  obtain⟨t1,e1⟩:=first a ha.1 ha.2
  obtain⟨t2,e2⟩:=first b hb.1 hb.2
  rw[e1,e2] at e
  exact hne (by injection e)
 ·unfold cX
  rw[ks,kF]
  constructor
  ·rintro⟨n,hn,rfl⟩
   rw[j0,Zl] at hn
   obtain⟨q,hq,hx⟩:=p.cov n hn.1
   have:=under q hq n hx
   rw[hn.2] at this
   rw[this];exact hq
  ·intro hq
   cases hc:q with
   |nil=>exact absurd hc (p.ne _ hq)
   |cons x t=>
    have hx:x∈q:=by rw[hc];exact zh ..
    have xn:=p.sub _ hq _ hx
    refine⟨look m x,List.mem_filter.mpr ⟨h.mem x xn,QU (h.idem x xn)⟩,?_⟩
    rw[under q hq x hx,hc]
 ·unfold cX
  rw[ks,kK]
  have both:(names.filter fun name:Str=>decide (look m name=name)).Pairwise fun a b=>rP a b/\a≠b:=(so.filter _).and (h.nd.filter _)
  refine ka ?_ both
  intro a b ha hb hab
  rw[j0,Zl] at ha hb
  obtain⟨t1,e1⟩:=first a ha.1 ha.2
  obtain⟨t2,e2⟩:=first b hb.1 hb.2
  rw[e1,e2]
  exact ZL hab.1 hab.2
end G24
end
section
set_option synthInstance.maxSize 100000
namespace G24
open PySem PySem.Spec PyProof.Rows L2 P1
abbrev Bar:=Str×Str×Int
abbrev JS:=(List (Str×Str))×(List qN)×(List (qN×Option Bar))
abbrev zF (bars:List Bar):JS->qN->JS:=fun s2 reason=>cY bars s2 reason
def xG (bars:List Bar) (names:List Str) (rs:List qN):JS:=rs.foldl (zF bars) (cD names,[],[])
theorem xH (names:List Str) (rs:List qN) (bars:List Bar):bC (names,rs,bars)=(cX (xG bars names rs).1,(xG bars names rs).2.1,(xG bars names rs).2.2):=rfl
theorem Am {α σ τ:Type} {step:σ->α->ux σ τ} {P:σ->α->Option Prop}:∀ (xs:List α) (s:σ),(∀ s x,x∈xs->hold (P s x))->uW step P xs s
 |[],_,_=>trivial
 |x::xs,s,h=>by
  refine⟨h s x (zh ..),?_⟩
  cases step s x with
  |nx s'=>exact Am xs s' fun s y hy=>h s y (zo _ hy)
  |ct s'=>exact Am xs s' fun s y hy=>h s y (zo _ hy)
  |bk s'=>trivial
  |rt s'=>trivial
theorem acA {names:List Str} {m:List (Str×Str)} (h:Hd names m) {bars:List Bar} (hbs:∀ b∈bars,b.1∈names/\b.2.1∈names) (one other:Str):nW bars m one other:=by
 refine⟨Am _ _ fun s x hx=>?_,?_⟩
 ·have h1:=h.has (hbs x hx).1
  have h2:=h.has (hbs x hx).2
  exact⟨⟨h1,fun _=>h2⟩,fun _=>⟨h1,fun _=>h2⟩⟩
 ·unfold pH
  split<;>trivial
structure JI (names:List Str) (n:Nat) (s:JS):Prop where
 h:Hd names s.1
 l:Lst names s.1
 e:s.1=hb names s.2.1
 rs:Rs names s.2.1
 kl:s.2.1.length<=n
 bl:s.2.2.length<=n
theorem Fw {names:List Str} (nd:names.Nodup) (hl:names.length < 64) {bars:List Bar} (hbs:∀ b∈bars,b.1∈names/\b.2.1∈names) {rs:List qN} (hr:Rs names rs) (rl:rs.length < 64):jh (names,rs,bars)/\JI names rs.length (xG bars names rs):=by
 have:=Cz (P:=fun s2 reason=>some (oZ bars s2 reason)) (step:=zF bars) (fun k s=>JI names k s) rs 0 (cD names,[],[]) ⟨hd0 nd (by omega),ahv nd (by omega),rfl,fun r h=>(by cases h),zg _,zg _⟩ fun k r s hk i=>by
  obtain⟨m,kp,ba⟩:=s
  have hm:r∈rs:=ZO hk
  have hkl:k < rs.length:=(List.getElem?_eq_some_iff.mp hk).1
  obtain⟨ha,hb'⟩:=hr r hm
  rw[JE] at i
  have ih:Hd names m:=i.h
  have ikl:kp.length<=k:=i.kl
  have ibl:ba.length<=k:=i.bl
  have j:=zy (look m r.2.1) (look m r.2.2.1) ih.kn ih.ml
  refine⟨⟨ih.has ha,ih.has hb',fun _=>⟨acA ih hbs _ _,fun _=>⟨j.1,?_⟩,fun _=>?_⟩⟩,?_⟩
  ·show kp.length<=1000000
   omega
  ·show ba.length<=1000000
   omega
  rw[JE]
  by_cases e:look m r.2.1=look m r.2.2.1
  ·have:zF bars (m,kp,ba) r=(m,kp,ba):=by unfold zF cY;simp[e]
   rw[this]
   exact⟨ih,i.l,i.e,i.rs,by show kp.length<=_;omega,by show ba.length<=_;omega⟩
  ·by_cases q:(fX bars m (look m r.2.1) (look m r.2.2.1)).isNone=true
   ·have:zF bars (m,kp,ba) r=(jb m r,kp++[r],ba):=by unfold zF cY;simp only[j.2];simp[e,q];rfl
    rw[this]
    refine⟨ih.join ha hb',i.l.jb ih r,?_,?_,by rw[z5];show kp.length+1<=_;omega,by show ba.length<=_;omega⟩
    ·show jb m r=hb names (kp++[r])
     rw[ZK,<-i.e]
    ·intro x hx
     rcases List.mem_append.mp hx with hx|hx
     ·exact i.rs x hx
     ·cases List.mem_singleton.mp hx;exact⟨ha,hb'⟩
   ·have:zF bars (m,kp,ba) r=(m,kp,ba++[(r,fX bars m (look m r.2.1) (look m r.2.2.1))]):=by unfold zF cY;simp[e,q]
    rw[this]
    exact⟨ih,i.l,i.e,i.rs,by show kp.length<=_;omega,by rw[z5];show ba.length+1<=_;omega⟩
 rw[JE] at this
 exact⟨⟨(zA names nd (by omega)).1,this.1,(ZJ this.2.h).1⟩,this.2⟩
end G24
end
section
set_option synthInstance.maxSize 100000
namespace G24
open PySem PySem.Spec PyProof.Rows L2 P1
theorem foldl_size {α:Type} (c:Array α):∀ (n:Nat) (a:Array α),((List.replicate n c).foldl (·++·) a).size=a.size+n * c.size
 |0,a=>by simp
 |n+1,a=>by
  rw[List.replicate_succ,QA,foldl_size c n,kP,Nat.succ_mul]
  omega
theorem IK (x:Str) (k:Int):(Txt.mul x k).length<=x.length * k.toNat:=by
 unfold Txt.mul
 split
 ·exact qS _
 split
 ·rename_i h0 h
  simp only[Bool.or_eq_true,beq_iff_eq] at h
  rcases h with h|h
  ·subst h;simp
  ·rw[h];simp
 ·show (Array.size _)<=_
  rw[foldl_size]
  have:x.cps.size=x.length:=rfl
  rw[this,Nat.mul_comm]
  simp
def LT:Str:=("abcdefghijklmnopqrstuvwxyz" : Str)
theorem PN:LT.length=26:=by decide +kernel
theorem xJ {n:Nat} (h:n<=1000):Ej n:=z4 h (by decide)
theorem PX (xs:List Int) (hl:6<=xs.length) (stem:Str) (hs:stem.length<=5) (at_:Int) (k:Nat) (found:List Str) (hk:k < 200) (h:found.length=k/\∀ n∈found,n.length<=12):nj xs LT stem at_ found k/\(gw xs LT stem at_ found k).length=k+1/\∀ n∈gw xs LT stem at_ found k,n.length<=12:=by
 have s1:=z4 (slice_le stem none (some at_)) hs
 have s2:=z4 (slice_le stem (some at_) none) hs
 have c1:=Jx LT ((↑k+at' xs 2) % 15)
 have m8:=oh (k:Int) (m:=8) (by decide)
 have hd:(0:Int)<=(k:Int) / 8/\(k:Int) / 8 < 26:=by omega
 refine⟨⟨⟨in_of (by decide) (by omega),uZ (by decide) (by rw[PN];decide)⟩,⟨xJ (by omega),xJ (by rw[u0];omega)⟩,⟨in_of (by decide) (by omega),fun _=>⟨in_of hd.1 (by rw[PN];exact hd.2),by omega,by omega,by rw[Jx];decide⟩⟩,xJ (by omega)⟩,?_⟩
 have key:∀ n:Str,n.length<=12->(found++[n]).length=k+1/\∀ m∈found++[n],m.length<=12:=fun n hn=>⟨by simp[h.1],fun m hm=>by
  rcases List.mem_append.mp hm with hm|hm
  ·exact h.2 m hm
  ·cases List.mem_singleton.mp hm;exact hn⟩
 unfold gw
 dsimp only
 split
 ·exact key _ (by have:=IK (ch LT ((k:Int) / 8)) (1+(k:Int) % 8);rw[Jx] at this;exact z4 this (by omega))
 ·exact key _ (by rw[u0,u0,c1];omega)
theorem acB (xs:List Str) (n:Nat) (h:∀ x∈xs,x.length<=n):(Txt.join "" xs).length<=xs.length * n:=by
 have h1:=StrLaws.join_length_le ("" : Str) xs
 rw[<-StrLaws.glued_eq_join] at h1
 have h2:(xs.map (·.length)).sum<=xs.length * n:=by
  clear h1
  induction xs with
  |nil=>simp
  |cons a l ih=>
   have:=ih fun x hx=>h x (zo _ hx)
   have:=h a (zh ..)
   simp only[zr,List.sum_cons,qv,Nat.succ_mul]
   omega
 have h3:("" : Str).length=0:=rfl
 rw[h3,Nat.mul_zero] at h1
 exact z4 h1 (by omega)
theorem ahw (xs:List Str) (h:∀ x∈xs,x.length=1):(xs.map (·.length)).sum=xs.length:=by
 induction xs with
 |nil=>rfl
 |cons a l ih=>
  have:=ih fun x hx=>h x (zo _ hx)
  have:=h a (zh ..)
  simp only[zr,List.sum_cons,qv]
  omega
theorem W8 (xs:List Int) (hl:6<=xs.length) (many:Int) (h0:0<=many) (h1:many<=200):rz xs many/\(cT xs many).length=many.toNat/\∀ n∈cT xs many,n.length<=12:=by
 have m6:=oh (at' xs 0) (m:=6) (by decide)
 have st:∀ stem:Str,stem.length<=5->qD xs many LT stem/\(nq xs many LT stem).length=many.toNat/\∀ n∈nq xs many LT stem,n.length<=12:=fun stem hs=>by
  have:=uY (P:=fun f k=>some (nj xs LT stem (at' xs 1 % ((stem.length:Int)+1)) f k)) (step:=fun f k=>gw xs LT stem (at' xs 1 % ((stem.length:Int)+1)) f k) (fun k s=>s.length=k/\∀ n∈s,n.length<=12) many.toNat [] ⟨rfl,fun n h=>(by cases h)⟩ fun k s hk h=>PX xs hl stem hs _ k s (by omega) h
  exact⟨⟨⟨in_of (by decide) (by omega),by omega⟩,Es h0 (by omega),this.1⟩,this.2⟩
 have c1:∀ x∈((rng 0 (at' xs 0 % 6).toNat).map fun k_:Int=>ch LT (at' xs k_ / 40 % 26)),x.length=1:=fun x hx=>by
  obtain⟨k,_,rfl⟩:=List.mem_map.mp hx
  exact Jx _ _
 have:=st (Txt.join "" ((rng 0 (at' xs 0 % 6).toNat).map fun k_:Int=>ch LT (at' xs k_ / 40 % 26))) (by
  have:=acB _ 1 fun x hx=>Nat.le_of_eq (c1 x hx)
  rw[zi,qU] at this
  omega)
 refine⟨⟨⟨⟨⟨⟨in_of (by decide) (by omega),Es m6.1 (by omega)⟩,by rw[qU];omega⟩,fun k hk=>?_⟩,?_⟩,this.1⟩,this.2⟩
 ·obtain⟨j,hj,rfl⟩:=ZC hk
  exact⟨in_of (by omega) (by omega),uZ (by decide) (by rw[show ("abcdefghijklmnopqrstuvwxyz" : Str)=LT from rfl,PN];decide)⟩
 ·rw[show ("abcdefghijklmnopqrstuvwxyz" : Str)=LT from rfl,ahw _ c1,zi,qU]
  have h3:("" : Str).length=0:=rfl
  rw[h3]
  omega
def nmF (xs:List Int) (stem:Str) (at_:Int) (k:Int):Str:=if (decide (((at' xs (3:Int)) % (3:Int))=(1:Int)))=true then (Txt.mul (ch LT (k / (8:Int))) ((1:Int)+(k % (8:Int)))) else (((Txt.slice stem none (some at_))++(ch LT ((k+(at' xs (2:Int))) % (15:Int))))++(Txt.slice stem (some at_) none))
theorem Fx {α β:Type} (g:β->α):∀ (l:List β) (f:List α),l.foldl (fun f k=>f++[g k]) f=f++l.map g
 |[],f=>by simp
 |k::l,f=>by rw[QA,Fx g l];simp
theorem M9 (xs:List Int) (many:Int):∃ stem at_,cT xs many=(rng 0 many.toNat).map (nmF xs stem at_):=by
 refine⟨_,_,(Fx (nmF xs _ _) _ []).trans (List.nil_append _)⟩
theorem Qa {a b m m':Str} (h:(a++m)++b=(a++m')++b):m=m':=by
 have h:=congrArg (fun s:Str=>s.cps.toList) h
 have h:((a.cps++m.cps)++b.cps).toList=((a.cps++m'.cps)++b.cps).toList:=h
 simp only[Array.toList_append] at h
 have:=List.append_cancel_left (List.append_cancel_right h)
 cases m;cases m'
 congr 1
 exact Array.ext' this
theorem acC:∀ i:Fin 30,∀ j:Fin 30,Txt.mul (ch LT ((i.val:Int) / 8)) (1+(i.val:Int) % 8)=Txt.mul (ch LT ((j.val:Int) / 8)) (1+(j.val:Int) % 8)->i=j:=by decide +kernel
theorem aeI:∀ i:Fin 15,∀ j:Fin 15,ch LT (i.val:Int)=ch LT (j.val:Int)->i=j:=by decide +kernel
theorem acD {x y:Int} (hx:0<=x/\x < 15) (hy:0<=y/\y < 15) (h:ch LT x=ch LT y):x=y:=by
 have:=aeI ⟨x.toNat,by omega⟩ ⟨y.toNat,by omega⟩ (by
  show ch LT ((x.toNat:Nat):Int)=ch LT ((y.toNat:Nat):Int)
  rw[Int.toNat_of_nonneg hx.1,Int.toNat_of_nonneg hy.1];exact h)
 have:=congrArg Fin.val this
 have:x.toNat=y.toNat:=this
 omega
theorem acE {xs:List Int} {stem:Str} {at_:Int} {i j:Nat} (hi:i < 15) (hj:j < 15) (h:nmF xs stem at_ i=nmF xs stem at_ j):i=j:=by
 unfold nmF at h
 by_cases e:(decide (((at' xs (3:Int)) % (3:Int))=(1:Int)))=true
 ·rw[zk e,zk e] at h
  exact congrArg Fin.val (acC ⟨i,by omega⟩ ⟨j,by omega⟩ h)
 ·rw[zw e,zw e] at h
  have:=acD (oh _ (by decide)) (oh _ (by decide)) (Qa h)
  omega
theorem acF {n:Nat} {g:Int->Str} (h:∀ i j:Nat,i < n->j < n->g i=g j->i=j):((rng 0 n).map g).Nodup:=by
 unfold rng
 rw[qa]
 unfold List.Nodup
 rw[kK]
 refine ka ?_ (KU (n:=n))
 intro a b ha hb hne e
 refine hne (h a b (List.mem_range.mp ha) (List.mem_range.mp hb) ?_)
 have e:g (0+(a:Int))=g (0+(b:Int)):=e
 rwa [Int.zero_add,Int.zero_add] at e
theorem Nb (xs:List Int) (many:Int) (h:many<=15):(cT xs many).Nodup:=by
 obtain⟨stem,at_,e⟩:=M9 xs many
 rw[e]
 exact acF fun i j hi hj=>acE (by omega) (by omega)
theorem J3 {n:Nat} {a b:Int} (ha:0<=a/\a < n) (hb:0<=b/\b < n):In n (if b < a then b else a):=by split<;>exact in_of (by omega) (by omega)
theorem J4 {n:Nat} {a b:Int} (ha:0<=a/\a < n) (hb:0<=b/\b < n):In n (if b > a then b else a):=by split<;>exact in_of (by omega) (by omega)
theorem J5 {many:Int} {n:Nat} (hn:n=many.toNat) {x y:Int} (h:(!decide (x % (if many > (1:Int) then many else (1:Int))=y % (if many > (1:Int) then many else (1:Int))))=true):(0<=x % (if many > (1:Int) then many else (1:Int))/\x % (if many > (1:Int) then many else (1:Int)) < n)/\(0<=y % (if many > (1:Int) then many else (1:Int))/\y % (if many > (1:Int) then many else (1:Int)) < n):=by
 by_cases e:many > 1
 ·rw[zk e] at h ⊢
  have h1:=oh x (m:=many) (by omega)
  have h2:=oh y (m:=many) (by omega)
  omega
 ·rw[zw e] at h
  simp at h
theorem Nf {many:Int}:0 < (if many > (1:Int) then many else (1:Int)):=by split<;>omega
theorem TJ (script:List Int) (at_ many:Int) (a0:0<=at_) (a1:at_<=500) (head:List Int) (hh:6<=head.length) (names:List Str) (hn:names.length=many.toNat) (k:Nat) (hk:k < 60) (told:List qN) (h:told.length<=k/\Rs names told) :
  jo script at_ many head names told k/\(dR script at_ many head names told k).length<=k+1/\Rs names (dR script at_ many head names told k):=by
 obtain⟨n1,n2,n3⟩:=Fq (aQ script ((at_+(1:Int))+k)) 4 (by decide) (by decide)
 have n2:(aP (aQ script ((at_+(1:Int))+k)) 4).length=4:=n2
 unfold jo dR
 dsimp only
 generalize aP (aQ script ((at_+(1:Int))+k)) 4=xs at *
 have en:=fun x y=>J5 (x:=x) (y:=y) hn
 have pm:=@Nf many
 generalize (if many > (1:Int) then many else (1:Int))=mm at *
 have ix:∀ i:Nat,i < 4->In xs.length (i:Int):=fun i hi=>tD (by omega)
 refine⟨⟨⟨Fp _ _ (by omega) (by omega),n1⟩,⟨⟨ix 0 (by decide),pm⟩,ix 1 (by decide),pm⟩,⟨⟨⟨ix 2 (by decide),ix 2 (by decide),ix 2 (by decide)⟩,in_of (by decide) (by omega)⟩,uZ (by decide) (Int.le_refl 3)⟩,fun hne=>?_⟩,?_⟩
 ·have:=en _ _ hne
  exact⟨⟨J3 this.1 this.2,J4 this.1 this.2,ix 3 (by decide),uZ (by decide) (by decide)⟩,xJ (by omega)⟩
 ·split
  ·rename_i hne
   have:=en _ _ hne
   refine⟨by rw[z5];show _+1<=_;omega,fun r hr=>?_⟩
   rcases List.mem_append.mp hr with hr|hr
   ·exact h.2 r hr
   ·cases List.mem_singleton.mp hr
    exact⟨w6 (J3 this.1 this.2),w6 (J4 this.1 this.2)⟩
  ·exact⟨by omega,h.2⟩
theorem TQ (script:List Int) (at_ many:Int) (a0:0<=at_) (a1:at_<=500) (names:List Str) (hn:names.length=many.toNat) (k:Nat) (hk:k < 60) (shut:List (Str×Str×Int)) (h:shut.length<=k/\∀ b∈shut,b.1∈names/\b.2.1∈names) :
  jq script at_ many names shut k/\(cJ script at_ many names shut k).length<=k+1/\∀ b∈cJ script at_ many names shut k,b.1∈names/\b.2.1∈names:=by
 obtain⟨n1,n2,n3⟩:=Fq (aQ script ((at_+(1:Int))+k)) 8 (by decide) (by decide)
 have n2:(aP (aQ script ((at_+(1:Int))+k)) 8).length=8:=n2
 unfold jq cJ
 dsimp only
 generalize aP (aQ script ((at_+(1:Int))+k)) 8=xs at *
 have en:=fun x y=>J5 (x:=x) (y:=y) hn
 have pm:=@Nf many
 generalize (if many > (1:Int) then many else (1:Int))=mm at *
 have ix:∀ i:Nat,i < 8->In xs.length (i:Int):=fun i hi=>tD (by omega)
 refine⟨⟨⟨Fp _ _ (by omega) (by omega),n1⟩,⟨⟨ix 5 (by decide),pm⟩,ix 6 (by decide),pm⟩,fun hne=>?_⟩,?_⟩
 ·have:=en _ _ hne
  exact⟨⟨J3 this.1 this.2,J4 this.1 this.2,ix 7 (by decide),uZ (by decide) (by decide)⟩,xJ (by omega)⟩
 ·split
  ·rename_i hne
   have:=en _ _ hne
   refine⟨by rw[z5];show _+1<=_;omega,fun r hr=>?_⟩
   rcases List.mem_append.mp hr with hr|hr
   ·exact h.2 r hr
   ·cases List.mem_singleton.mp hr
    exact⟨w6 (J3 this.1 this.2),w6 (J4 this.1 this.2)⟩
  ·exact⟨by omega,h.2⟩
structure Gr (g:(List Str)×(List qN)×(List (Str×Str×Int))):Prop where
 nd:g.1.Nodup
 len:g.1.length < 64
 rs:Rs g.1 g.2.1
 bs:∀ b∈g.2.2,b.1∈g.1/\b.2.1∈g.1
 rl:g.2.1.length < 64
 bl:g.2.2.length < 64
 so:g.1.Pairwise rP
 rn:g.2.1.Nodup
theorem Rs.turn {names:List Str} {rs:List qN} (h:Rs names rs):Rs names (rs.map fun q3:(Int×Str×Str×Int)=>(((0:Int) - q3.1),q3.2.1,q3.2.2.1,q3.2.2.2)):=fun r hr=>by
 obtain⟨q,hq,rfl⟩:=List.mem_map.mp hr
 exact h q hq
theorem TV (script:List Int) (at_ many reasons bars:Int) (a0:0<=at_) (a1:at_<=500) (m0:0<=many) (m1:many<=15) (r0:0<=reasons) (r1:reasons < 60) (b0:0<=bars) (b1:bars < 60):pU script at_ many reasons bars/\Gr (jg script at_ many reasons bars):=by
 obtain⟨n1,n2,n3⟩:=Fq (aQ script at_) 6 (by decide) (by decide)
 have n2:(aP (aQ script at_) 6).length=6:=n2
 have key:∀ head:List Int,6<=head.length->oX script at_ many reasons bars head/\Gr (mD script at_ many reasons bars head):=fun head hh=>by
  obtain⟨k1,k2,k3⟩:=W8 head hh many m0 (by omega)
  have knd:=Nb head many m1
  have hn:(iB (cT head many)).length=many.toNat:=by rw[(dG _).length_eq,k2]
  have nd:(iB (cT head many)).Nodup:=(dG _).nodup_iff.mpr knd
  have c8:∀ names:List Str,names.length=many.toNat->names.Nodup->names.Pairwise rP->oW script at_ many reasons bars head names/\Gr (oV script at_ many reasons bars head names):=fun names hn nd so=>by
   obtain⟨t1,t2,t3⟩:=uY (P:=fun f k=>some (jo script at_ many head names f k)) (step:=fun f k=>dR script at_ many head names f k) (fun k s=>s.length<=k/\Rs names s) reasons.toNat [] ⟨zg 0,fun r h=>(by cases h)⟩ fun k s hk h=>TJ script at_ many a0 a1 head hh names hn k (by omega) s h
   obtain⟨s1,s2,s3⟩:=uY (P:=fun f k=>some (jq script at_ many names f k)) (step:=fun f k=>cJ script at_ many names f k) (fun k s=>s.length<=k/\∀ b∈s,b.1∈names/\b.2.1∈names) bars.toNat [] ⟨zg 0,fun r h=>(by cases h)⟩ fun k s hk h=>TQ script at_ many a0 a1 names hn k (by omega) s h
   have sl:=QP s2 (show bars.toNat < 64 by omega)
   have c6:∀ told:List qN,told.length<=reasons.toNat->Rs names told->oU script at_ many reasons bars head names told/\Gr (oR script at_ many reasons bars head names told):=fun told tl tr=>by
    have dl:=Cr told
    have sp:=(fj (e:=eP4 eI eS eS eI) (Gd told)).length_eq
    refine⟨⟨⟨⟨by omega,by omega⟩,by rw[sp];omega⟩,⟨Es b0 (by omega),s1⟩,Q2 sl,sl⟩,nd,?_,?_,?_,?_,?_,so,?_⟩
    ·show names.length < 64
     omega
    ·exact Rs.turn fun r hr=>tr r (qQ.mp ((fj _).mem_iff.mp hr))
    ·exact fun b hb=>s3 b (qQ.mp ((fj _).mem_iff.mp hb))
    ·show (List.map _ _).length < 64
     rw[zi,sp];omega
    ·show (pB _ _).length < 64
     rw[(fj _).length_eq]
     exact QP (Cr _) sl
    ·show (List.map _ _).Nodup
     unfold List.Nodup
     rw[kK]
     refine ((fj (e:=eP4 eI eS eS eI) (Gd told)).nodup_iff.mpr (DW told)).imp ?_
     intro a b hne e
     apply hne
     obtain⟨a1,a2,a3,a4⟩:=a
     obtain⟨b1,b2,b3,b4⟩:=b
     simp only[Prod.mk.injEq] at e ⊢
     exact⟨by omega,e.2⟩
   have:=c6 _ t2 t3
   exact⟨⟨⟨Es r0 (by omega),t1⟩,this.1⟩,this.2⟩
  have:=c8 _ hn nd (sY _)
  exact⟨⟨⟨k1,by rw[k2];omega⟩,this.1⟩,this.2⟩
 have:=key _ (Nat.le_of_eq n2.symm)
 exact⟨⟨⟨Fp _ _ a0 (by omega),n1⟩,this.1⟩,this.2⟩
end G24
end
section
set_option synthInstance.maxSize 100000
namespace G24
open PySem PySem.Spec PyProof.Rows L2 P1
def bp (m:List (Str×Str)) (x y:Str) (b:Bar):Bool:=((decide (look m b.1=x))&&(decide (look m b.2.1=y)))||((decide (look m b.1=y))&&(decide (look m b.2.1=x)))
theorem Rx (m:List (Str×Str)) (x y:Str):∀ bars:List Bar,fX bars m x y=bars.find? (bp m x y)
 |[]=>rfl
 |b::bars=>by
  have ih:=Rx m x y bars
  unfold fX at ih ⊢
  unfold ni
  have e:iG m x y () b=if bp m x y b=true then ux.rt (some b) else ux.nx ():=rfl
  rw[e,Jn]
  cases h:bp m x y b with
  |true=>rfl
  |false=>exact ih
theorem Fy (bars:List Bar) (m:List (Str×Str)) (k:List qN) (bd:List (qN×Option Bar)) (r:qN):zF bars (m,k,bd) r=if look m r.2.1=look m r.2.2.1 then (m,k,bd) else
  match bars.find? (bp m (look m r.2.1) (look m r.2.2.1)) with
  |none=>(dH m (look m r.2.1) (look m r.2.2.1),k++[r],bd)
  |some q=>(m,k,bd++[(r,some q)]):=by
 unfold zF cY
 dsimp only
 rw[Rx]
 by_cases e:look m r.2.1=look m r.2.2.1
 ·simp[e]
 ·rw[zw e]
  cases h:bars.find? (bp m (look m r.2.1) (look m r.2.2.1)) with
  |none=>simp[e]
  |some q=>simp[e]
theorem W9 {names:List Str} {bars:List Bar} {s:JS} {r:qN} (h:Hd names s.1) (ha:r.2.1∈names) (hb:r.2.2.1∈names):Hd names (zF bars s r).1:=by
 obtain⟨m,k,bd⟩:=s
 rw[Fy]
 split
 ·exact h
 ·split
  ·rw[show (dH m (look m r.2.1) (look m r.2.2.1),k++[r],bd).1=_ from (zy _ _ h.kn h.ml).2]
   exact h.join ha hb
  ·exact h
theorem TX {names:List Str} {P:List (List Str)} {m:List (Str×Str)} (h:Hd names m) (hl:names.length < 64) (p:PH names P m) {bars:List Bar} (hbs:∀ b∈bars,b.1∈names/\b.2.1∈names) (bl:bars.length<=1000) {r:qN} (ha:r.2.1∈names) (hb:r.2.2.1∈names) {k:List qN} {bd:List (qN×Option Bar)} (kl:k.length<=1000) (dl:bd.length<=1000) :
  dX bars (bd,k,P) r/\∃ P',bH bars (bd,k,P) r=((zF bars (m,k,bd) r).2.2,(zF bars (m,k,bd) r).2.1,P')/\PH names P' (zF bars (m,k,bd) r).1:=by
 obtain⟨i1,o1,a1⟩:=pick (p.cov _ ha)
 obtain⟨i2,o2,a2⟩:=pick (p.cov _ hb)
 have pl:=p.len
 rw[Fy]
 unfold dX bH eG aH
 dsimp only
 generalize at' ((P.filter fun part:(List Str)=>(decide (r.2.1∈part))).map fun part:(List Str)=>part) (0:Int)=one at *
 generalize at' ((P.filter fun part:(List Str)=>(decide (r.2.2.1∈part))).map fun part:(List Str)=>part) (0:Int)=other at *
 have c1:∀ y∈names,(y∈one↔look m y=look m r.2.1):=fun y hy=>(p.cls _ o1 _ a1 y hy).trans ⟨Eq.symm,Eq.symm⟩
 have c2:∀ y∈names,(y∈other↔look m y=look m r.2.2.1):=fun y hy=>(p.cls _ o2 _ a2 y hy).trans ⟨Eq.symm,Eq.symm⟩
 have heq:one=other↔look m r.2.1=look m r.2.2.1:=⟨fun e=>by subst e;exact ((c1 _ hb).mp a2).symm,fun e=>p.uni _ o1 _ o2 _ a1 ((c2 _ ha).mpr e)⟩
 have ef:bars.filter (fun vu:Bar=>(((decide (vu.1∈one))&&(decide (vu.2.1∈other)))||((decide (vu.1∈other))&&(decide (vu.2.1∈one)))))=bars.filter (bp m (look m r.2.1) (look m r.2.2.1)):=List.filter_congr fun b hb'=>by
  obtain⟨b1,b2⟩:=hbs b hb'
  unfold bp
  simp only[c1 _ b1,c1 _ b2,c2 _ b1,c2 _ b2]
 rw[ef,kf (bars.filter (bp m (look m r.2.1) (look m r.2.2.1)))]
 have hh:(bars.filter (bp m (look m r.2.1) (look m r.2.2.1))).head?=bars.find? (bp m (look m r.2.1) (look m r.2.2.1)):=List.head?_filter
 generalize bars.filter (bp m (look m r.2.1) (look m r.2.2.1))=vt at *
 have P0:P.length<=100000:=by omega
 have B0:bars.length<=100000:=by omega
 have K0:Ej k.length:=by show k.length<=1000000;omega
 have D0:Ej bd.length:=by show bd.length<=1000000;omega
 by_cases e:one=other
 ·rw[zk (heq.mp e)]
  subst e
  refine⟨⟨⟨⟨P0,i1⟩,P0,i2⟩,B0,fun z=>by simp at z,fun _ z=>by simp at z⟩,P,?_,p⟩
  simp
 ·rw[zw (fun z=>e (heq.mpr z)),<-hh]
  obtain⟨q1,q2⟩:=comb h p o1 o2 a1 a2 e
  rw[z5] at q1
  have ql:=q2.len
  rw[z5] at ql
  cases vt with
  |nil=>
   refine⟨⟨⟨⟨P0,i1⟩,P0,i2⟩,B0,fun z=>by simp at z,fun _ _=>⟨K0,⟨P0,by show _<=1000000;omega,by rw[z5];omega⟩,by show _<=1000000;omega⟩⟩,((P.filter fun part:(List Str)=>(!BJ part [one,other])).map fun part:(List Str)=>part)++[(iB (one++other))],?_,?_⟩
   ·rw[zw (by simp),zk (by simp[e])];rfl
   ·show PH names _ (dH m (look m r.2.1) (look m r.2.2.1))
    rw[(zy _ _ h.kn h.ml).2]
    exact q2
  |cons q vt=>
   refine⟨⟨⟨⟨P0,i1⟩,P0,i2⟩,B0,fun _=>⟨tD (k:=0) (by simp),D0⟩,fun z=>by simp[e] at z⟩,P,?_,p⟩
   simp[e]
   exact z8 (k:=0) rfl
theorem HB {names:List Str} (hl:names.length < 64) {bars:List Bar} (hbs:∀ b∈bars,b.1∈names/\b.2.1∈names) (bl:bars.length<=1000):∀ (rs:List qN) (P:List (List Str)) (m:List (Str×Str)) (k:List qN) (bd:List (qN×Option Bar)),Rs names rs->Hd names m->PH names P m->k.length+rs.length<=1000->bd.length+rs.length<=1000 →
  qM (fun s1 (vr:qN)=>(bH bars s1 vr)) (fun s1 (vr:qN)=>some (dX bars s1 vr)) rs (bd,k,P)/\∃ P',rs.foldl (fun s1 (vr:qN)=>(bH bars s1 vr)) (bd,k,P)=((rs.foldl (zF bars) (m,k,bd)).2.2,(rs.foldl (zF bars) (m,k,bd)).2.1,P')/\PH names P' (rs.foldl (zF bars) (m,k,bd)).1
 |[],P,m,k,bd,_,_,p,_,_=>⟨trivial,P,rfl,p⟩
 |r::rs,P,m,k,bd,hr,h,p,kl,dl=>by
  obtain⟨ha,hb⟩:=hr r (zh ..)
  rw[qv] at kl dl
  obtain⟨d,P',e,q⟩:=TX h hl p hbs bl ha hb (k:=k) (bd:=bd) (by omega) (by omega)
  have hd:Hd names (zF bars (m,k,bd) r).1:=W9 h ha hb
  have l2:(zF bars (m,k,bd) r).2.1.length<=k.length+1/\(zF bars (m,k,bd) r).2.2.length<=bd.length+1:=by
   rw[Fy]
   split
   ·exact⟨by show k.length<=_;omega,by show bd.length<=_;omega⟩
   ·split
    ·exact⟨by show (k++[r]).length<=_;simp,by show bd.length<=_;omega⟩
    ·exact⟨by show k.length<=_;omega,by simp⟩
  have ih:=HB hl hbs bl rs P' (zF bars (m,k,bd) r).1 (zF bars (m,k,bd) r).2.1 (zF bars (m,k,bd) r).2.2 (fun x hx=>hr x (zo _ hx)) hd q (by omega) (by omega)
  refine⟨⟨d,?_⟩,?_⟩
  ·show qM _ _ rs (bH bars (bd,k,P) r)
   rw[e];exact ih.1
  ·rw[QA,e]
   exact ih.2
theorem Ry {names:List Str} (so:names.Pairwise rP) (nd:names.Nodup) (hl:names.length < 64) {bars:List Bar} (hbs:∀ b∈bars,b.1∈names/\b.2.1∈names) (bl:bars.length<=1000) {rs:List qN} (hr:Rs names rs) (rl:rs.length < 64) :
  gA names rs bars/\bN names rs bars=bC (names,rs,bars)/\∃ P,cX (xG bars names rs).1=bF P/\PH names P (xG bars names rs).1:=by
 obtain⟨d,P',e,q⟩:=HB hl hbs bl rs _ _ [] [] hr (hd0 nd (by omega)) (ph0 nd (by omega)) (by simp;omega) (by simp;omega)
 have j:=(Fw nd hl hbs hr rl).2
 have se:=Rw so j.h j.l q
 refine⟨⟨by omega,d,?_⟩,?_,P',se,q⟩
 ·dsimp only
  rw[e]
  refine⟨QP q.len hl,fun x hx=>?_⟩
  have:=q.ne _ hx
  cases x
  ·exact absurd rfl this
  ·rfl
 ·rw[xH,se]
  unfold bN
  dsimp only
  rw[e]
  rfl
end G24
end
section
set_option synthInstance.maxSize 100000
namespace G24
open PySem PySem.Spec PyProof.Rows L2 P1
theorem aeJ {x y u v:Str} (h:jn x y u=jn x y v):u=v\/((u=x\/u=y)/\(v=x\/v=y)):=by
 unfold jn at h
 have:=Hy x y
 by_cases hu:u=x\/u=y<;>by_cases hv:v=x\/v=y
 ·exact .inr ⟨hu,hv⟩
 ·rw[zk hu,zw hv] at h
  exact absurd (this.imp (h.symm.trans ·) (h.symm.trans ·)) hv
 ·rw[zw hu,zk hv] at h
  exact absurd (this.imp (h.trans ·) (h.trans ·)) hu
 ·rw[zw hu,zw hv] at h
  exact .inl h
def Sds (m:List (Str×Str)) (b:Bar) (x y:Str):Prop:=(look m b.1=x/\look m b.2.1=y)\/(look m b.1=y/\look m b.2.1=x)
theorem Xa {m:List (Str×Str)} {x y:Str} {b:Bar}:bp m x y b=true↔Sds m b x y:=by
 unfold bp Sds
 simp
structure BI (names:List Str) (bars:List Bar) (s:JS):Prop where
 ap:∀ b∈bars,look s.1 b.1≠look s.1 b.2.1
 bd:∀ q∈s.2.2,(q.1.2.1∈names/\q.1.2.2.1∈names)/\∃ b∈bars,q.2=some b/\Sds s.1 b (look s.1 q.1.2.1) (look s.1 q.1.2.2.1)
theorem ZM {names:List Str} {bars:List Bar} (hbs:∀ b∈bars,b.1∈names/\b.2.1∈names) {s:JS} {r:qN} (h:Hd names s.1) (ha:r.2.1∈names) (hb:r.2.2.1∈names) (i:BI names bars s):BI names bars (zF bars s r):=by
 obtain⟨m,k,bd⟩:=s
 rw[Fy]
 split
 ·exact i
 ·split
  ·rename_i hf
   have e:(dH m (look m r.2.1) (look m r.2.2.1),k++[r],bd)=(jm m (look m r.2.1) (look m r.2.2.1),k++[r],bd):=by rw[(zy _ _ h.kn h.ml).2]
   rw[e]
   have lk:∀ z∈names,look (jm m (look m r.2.1) (look m r.2.2.1)) z=jn (look m r.2.1) (look m r.2.2.1) (look m z):=fun z hz=>h.zB hz
   refine⟨fun b hb' e=>?_,fun q hq=>?_⟩
   ·obtain⟨b1,b2⟩:=hbs b hb'
    have e:look (jm m (look m r.2.1) (look m r.2.2.1)) b.1=look (jm m (look m r.2.1) (look m r.2.2.1)) b.2.1:=e
    rw[lk _ b1,lk _ b2] at e
    have nb:=List.find?_eq_none.mp hf b hb'
    rw[Xa] at nb
    have ne:look m b.1≠look m b.2.1:=i.ap b hb'
    rcases aeJ e with e|⟨u|u,v|v⟩
    ·exact ne e
    ·exact ne (u.trans v.symm)
    ·exact nb (.inl ⟨u,v⟩)
    ·exact nb (.inr ⟨u,v⟩)
    ·exact ne (u.trans v.symm)
   ·obtain⟨⟨q1,q2⟩,b,hb',e,sd⟩:=i.bd q hq
    obtain⟨b1,b2⟩:=hbs b hb'
    refine⟨⟨q1,q2⟩,b,hb',e,?_⟩
    show Sds (jm m (look m r.2.1) (look m r.2.2.1)) b (look (jm m (look m r.2.1) (look m r.2.2.1)) q.1.2.1) (look (jm m (look m r.2.1) (look m r.2.2.1)) q.1.2.2.1)
    unfold Sds
    rw[lk _ b1,lk _ b2,lk _ q1,lk _ q2]
    rcases sd with⟨x,y⟩|⟨x,y⟩
    ·exact .inl ⟨congrArg _ x,congrArg _ y⟩
    ·exact .inr ⟨congrArg _ x,congrArg _ y⟩
  ·rename_i b hf
   refine⟨i.ap,fun q hq=>?_⟩
   rcases List.mem_append.mp hq with hq|hq
   ·exact i.bd q hq
   ·cases List.mem_singleton.mp hq
    exact⟨⟨ha,hb⟩,b,List.mem_of_find?_eq_some hf,rfl,Xa.mp (List.find?_some hf)⟩
theorem Rz {names:List Str} {bars:List Bar} (hbs:∀ b∈bars,b.1∈names/\b.2.1∈names):∀ (rs:List qN) (s:JS),Rs names rs->Hd names s.1->BI names bars s->BI names bars (rs.foldl (zF bars) s)
 |[],_,_,_,i=>i
 |r::rs,s,hr,h,i=>by
  obtain⟨ha,hb⟩:=hr r (zh ..)
  exact Rz hbs rs _ (fun x hx=>hr x (zo _ hx)) (W9 h ha hb) (ZM hbs h ha hb i)
theorem acG {names:List Str} (nd:names.Nodup) (hl:names.length < 1000) {bars:List Bar} (hbs:∀ b∈bars,b.1∈names/\b.2.1∈names) (hbn:∀ b∈bars,b.1≠b.2.1) {rs:List qN} (hr:Rs names rs):BI names bars (xG bars names rs):=by
 refine Rz hbs rs _ hr (hd0 nd hl) ⟨fun b hb e=>hbn b hb ?_,fun q hq=>(by cases hq)⟩
 obtain⟨b1,b2⟩:=hbs b hb
 have e:look (cD names) b.1=look (cD names) b.2.1:=e
 rw[(zA names nd hl).2,sI nd b1,sI nd b2] at e
 exact e
theorem nO {names:List Str} {P:List (List Str)} {m:List (Str×Str)} (p:PH names P m) (hl:names.length < 64) {a:Str} (ha:a∈names):eG (bF P) a/\aH (bF P) a∈P/\a∈aH (bF P) a:=by
 obtain⟨q,hq,hx⟩:=p.cov a ha
 obtain⟨i,m1,m2⟩:=pick (P:=bF P) ⟨q,(fM P).mem_iff.mpr hq,hx⟩
 refine⟨⟨?_,i⟩,(fM P).mem_iff.mp m1,m2⟩
 rw[(fM P).length_eq]
 have:=p.len
 omega
theorem qI {names:List Str} {P:List (List Str)} {m:List (Str×Str)} (p:PH names P m) (hl:names.length < 64) {a b:Str} (ha:a∈names) (hb:b∈names):aH (bF P) a=aH (bF P) b↔look m a=look m b:=by
 obtain⟨_,a1,a2⟩:=nO p hl ha
 obtain⟨_,b1,b2⟩:=nO p hl hb
 constructor
 ·intro e
  rw[<-e] at b2
  exact (p.cls _ a1 _ a2 _ hb).mp b2
 ·intro e
  exact p.uni _ a1 _ b1 b ((p.cls _ a1 _ a2 _ hb).mpr e) b2
theorem Ng (x y:List Str):bF [x,y]=bF [y,x]:=Hv ((fM [x,y]).trans (List.Perm.swap ..)) (uX _)
theorem ahx (x y:List Str):at' [x,y] (0:Int)=x:=z8 (k:=0) rfl
theorem ahy (x y:List Str):at' [x,y] (1:Int)=y:=z8 (k:=1) rfl
theorem Xb {names:List Str} {P:List (List Str)} {m:List (Str×Str)} (p:PH names P m) (hl:names.length < 64) {bars:List Bar} (hbs:∀ b∈bars,b.1∈names/\b.2.1∈names) {k:List qN} {bd:List (qN×Option Bar)} (i:BI names bars (m,k,bd)) :
  lF (bF P,k,bd) bars/\fZ (bF P,k,bd) bars=true:=by
 have pl:(bF P).length<=100000:=by rw[(fM P).length_eq];have:=p.len;omega
 obtain⟨f1,f2⟩:=yP (P:=fun s2 q3=>some (lQ (bF P) s2 q3)) (step:=fun s2 q3=>dN (bF P) s2 q3) bars fun b hb=>by
  obtain⟨b1,b2⟩:=hbs b hb
  refine⟨pl,.inl ?_⟩
  unfold dN
  rw[TF p b1 b2,zw]
  rw[Zl]
  exact i.ap b hb
 have ne:∀ a∈names,(aH (bF P) a).isEmpty=false:=fun a ha=>by
  obtain⟨_,_,a2⟩:=nO p hl ha
  cases h:aH (bF P) a
  ·rw[h] at a2;cases a2
  ·rfl
 obtain⟨g1,g2⟩:=yP (P:=fun s4 q5=>some (fH (bF P) s4 q5)) (step:=fun s4 q5=>dO (bF P) s4 q5) bd fun q hq=>by
  obtain⟨⟨q1,q2⟩,b,hb,e,sd⟩:=i.bd q hq
  obtain⟨b1,b2⟩:=hbs b hb
  have two:∀ x y:Str,x∈names->y∈names->([aH (bF P) x,aH (bF P) y].length < 64/\∀ z∈[aH (bF P) x,aH (bF P) y],z.isEmpty=false):=fun x y hx hy=>by
   refine⟨by simp,fun z hz=>?_⟩
   simp only[QN,Q1,or_false] at hz
   rcases hz with rfl|rfl
   ·exact ne x hx
   ·exact ne y hy
  have e1:(q.2.getD default)=b:=by rw[e];rfl
  have es:q.2.isSome=true:=by rw[e];rfl
  have eq:bF [aH (bF P) q.1.2.1,aH (bF P) q.1.2.2.1]=bF [aH (bF P) b.1,aH (bF P) b.2.1]:=by
   rcases sd with⟨x,y⟩|⟨x,y⟩
   ·rw[(qI p hl b1 q1).mpr x,(qI p hl b2 q2).mpr y]
   ·rw[(qI p hl b1 q2).mpr x,(qI p hl b2 q1).mpr y,Ng]
  have dn:aH (bF P) q.1.2.1≠aH (bF P) q.1.2.2.1:=fun z=>by
   have z:=(qI p hl q1 q2).mp z
   have ap:=i.ap b hb
   rcases sd with⟨x,y⟩|⟨x,y⟩
   ·exact ap (x.trans (z.trans y.symm))
   ·exact ap (x.trans (z.symm.trans y.symm))
  refine⟨?_,.inl ?_⟩
  ·show fH (bF P) () q
   unfold fH
   dsimp only
   rw[e1]
   exact⟨⟨(nO p hl q1).1,(nO p hl q2).1⟩,⟨two _ _ q1 q2,⟨⟨es,(nO p hl b1).1⟩,es,(nO p hl b2).1⟩,two _ _ b1 b2⟩,fun _=>⟨tD (k:=0) (by simp),tD (k:=1) (by simp)⟩⟩
  ·unfold dO
   dsimp only
   rw[e1,eq,ahx,ahy,zw]
   simp[dn]
 constructor
 ·refine⟨f2,?_⟩
  show pH (ni _ _ _) _
  rw[f1]
  refine⟨g2,?_⟩
  show pH (ni _ _ _) _
  rw[g1]
  trivial
 ·show behind (ni _ _ _) _ _=true
  rw[f1]
  show behind (ni _ _ _) _ _=true
  rw[g1]
  rfl
end G24
end
section
set_option synthInstance.maxSize 100000
namespace G24
open PySem PySem.Spec PyProof.Rows L2 P1
theorem Ao {names:List Str}:∀ (rs:List qN) (m:List (Str×Str)) (k:List qN) (bd:List (qN×Option Bar)),Rs names rs->Hd names m->(rs.foldl (zF []) (m,k,bd)).1=rs.foldl jb m/\(rs.foldl (zF []) (m,k,bd)).2.2=bd
 |[],_,_,_,_,_=>⟨rfl,rfl⟩
 |r::rs,m,k,bd,hr,h=>by
  obtain⟨ha,hb⟩:=hr r (zh ..)
  have hr':Rs names rs:=fun x hx=>hr x (zo _ hx)
  rw[QA,QA,Fy]
  by_cases e:look m r.2.1=look m r.2.2.1
  ·rw[zk e]
   have:jb m r=m:=by unfold jb;rw[e,Rv]
   rw[this]
   exact Ao rs m k bd hr' h
  ·rw[zw e]
   show (rs.foldl (zF []) (dH m (look m r.2.1) (look m r.2.2.1),k++[r],bd)).1=_/\(rs.foldl (zF []) (dH m (look m r.2.1) (look m r.2.2.1),k++[r],bd)).2.2=_
   rw[(zy _ _ h.kn h.ml).2]
   exact Ao rs _ _ bd hr' (h.join ha hb)
theorem Nh {names:List Str} (so:names.Pairwise rP) (nd:names.Nodup) (hl:names.length < 64) {bars:List Bar} (hbs:∀ b∈bars,b.1∈names/\b.2.1∈names) (hbn:∀ b∈bars,b.1≠b.2.1) (bl:bars.length<=1000) {rs:List qN} (hr:Rs names rs) (rl:rs.length < 64) :
  jW (names,rs,bars)/\jV (names,rs,bars)=true:=by
 obtain⟨gd,ge,P,se,p⟩:=Ry so nd hl hbs bl hr rl
 obtain⟨jd,ji⟩:=Fw nd hl hbs hr rl
 obtain⟨kd,ke⟩:=Xb (k:=(xG bars names rs).2.1) (bd:=(xG bars names rs).2.2) p hl hbs (acG nd (by omega) hbs hbn hr)
 have je:bC (names,rs,bars)=(bF P,(xG bars names rs).2.1,(xG bars names rs).2.2):=by rw[xH,se]
 rw[<-je] at kd ke
 have h0:∀ b∈([]:List Bar),b.1∈names/\b.2.1∈names:=fun b hb=>by cases hb
 obtain⟨fd,fe,P',se',p'⟩:=Ry so nd hl h0 (qS _) hr rl
 obtain⟨fjd,fji⟩:=Fw nd hl h0 hr rl
 obtain⟨pd,P0,pe,p0⟩:=W7 nd hl hr
 have fm:(xG [] names rs).1=hb names rs/\(xG [] names rs).2.2=[]:=Ao rs _ _ _ hr (hd0 nd (by omega))
 have ps:cX (xG [] names rs).1=iR names rs:=by
  rw[pe]
  exact Rw so fji.h fji.l (by rw[fm.1];exact p0)
 have fje:bC (names,rs,[])=(iR names rs,(bN names rs []).2.1,[]):=by
  rw[fe,xH,ps,fm.2]
 have l1:(bC (names,rs,bars)).1.length < 1000:=by
  rw[je]
  show (bF P).length < 1000
  rw[(fM P).length_eq]
  have:=p.len
  omega
 have l2:(bC (names,rs,bars)).2.2.length < 1000:=by
  rw[je]
  show (xG bars names rs).2.2.length < 1000
  have:=ji.bl
  omega
 unfold jW jV
 dsimp only
 rw[ge]
 generalize bC (names,rs,bars)=J at *
 have h1:jM (nu J)=true:=rfl
 have h2:(([(eL (eT eS)) J.1,(eL bh) J.2.1,(eL j4) J.2.2].map fun mU:Dt=>(is_list mU)).all id)=true:=rfl
 refine⟨⟨gd,⟨jd,fun _ _=>by simp,fun _=>⟨kd,fun _=>⟨fjd,⟨pd,fd⟩,fun _=>jd⟩⟩⟩,jd,⟨l1,l2⟩,?_⟩,?_⟩
 all_goals
  rw[h1,h2,ke,QU rfl,QU fje]
  rfl
end G24
end
section
set_option synthInstance.maxSize 100000
namespace G24
open PySem PySem.Spec PyProof.Rows L2 P1
theorem fold_all {α β:Type} {P:α->Prop} {step:List α->β->List α} (hs:∀ f k,(∀ x∈f,P x)->∀ x∈step f k,P x):∀ (l:List β) (f:List α),(∀ x∈f,P x)->∀ x∈l.foldl step f,P x
 |[],_,h=>h
 |k::l,f,h=>fold_all hs l _ (hs f k h)
theorem Xc {names:List Str} (nd:names.Nodup) {i j:Int} (hi:0<=i/\i < names.length) (hj:0<=j/\j < names.length) (hne:i≠j):at' names i≠at' names j:=by
 obtain⟨a,rfl⟩:=yb hi.1
 obtain⟨b,rfl⟩:=yb hj.1
 have ha:a < names.length:=by omega
 have hb:b < names.length:=by omega
 rw[z8 (zI ha),z8 (zI hb)]
 intro e
 have:a=b:=(List.getElem?_inj ha nd).mp (by rw[zI ha,zI hb,e])
 exact hne (congrArg _ this)
theorem TY (script:List Int) (at_ many reasons bars:Int) (m1:many<=15):∀ b∈(jg script at_ many reasons bars).2.2,b.1≠b.2.1:=by
 show ∀ b∈(mD script at_ many reasons bars _).2.2,b.1≠b.2.1
 generalize aP (aQ script at_) 6=head
 have hn:(iB (cT head many)).length=many.toNat:=by
  obtain⟨stem,at_,e⟩:=M9 head many
  rw[(dG _).length_eq,e,zi,qU]
 have nd:(iB (cT head many)).Nodup:=(dG _).nodup_iff.mpr (Nb head many m1)
 intro b hb
 have hb:=qQ.mp ((fj _).mem_iff.mp hb)
 refine fold_all (P:=fun q:Bar=>q.1≠q.2.1) (step:=fun f k=>cJ script at_ many (iB (cT head many)) f k) (fun f k hf x hx=>?_) _ [] (fun x h=>by cases h) b hb
 unfold cJ at hx
 dsimp only at hx
 generalize aP (aQ script (at_+1+k)) 8=xs at hx
 have en:=fun x y=>J5 (x:=x) (y:=y) hn
 generalize (if many > (1:Int) then many else (1:Int))=mm at *
 split at hx
 ·rename_i hne
  have:=en _ _ hne
  rcases List.mem_append.mp hx with hx|hx
  ·exact hf x hx
  ·cases List.mem_singleton.mp hx
   have hne:at' xs 5 % mm≠at' xs 6 % mm:=by simpa using hne
   dsimp only
   refine Xc nd ?_ ?_ ?_<;>split<;>(try split)<;>omega
 ·exact hf x hx
theorem T3 (a b:Str):rP a b\/rP b a:=by
 unfold rP
 rw[ltCps_eq,ltCps_eq]
 simp only[Qb]
 exact List.le_total a.cps.toList b.cps.toList
theorem aeL {u v:Str} (ne:u≠v):(if Ge v u=true then v else u)≠(if Ge u v=true then v else u):=by
 by_cases h:Ge u v=true
 ·have n:¬ Ge v u=true:=fun z=>ne (yC ((lt_iff _ _).mp h).1 ((lt_iff _ _).mp z).1)
  rw[zk h,zw n];exact ne
 ·have:Ge v u=true:=(lt_iff _ _).mpr ⟨(T3 v u).resolve_right fun z=>h ((lt_iff _ _).mpr ⟨z,ne⟩),ne.symm⟩
  rw[zw h,zk this];exact ne.symm
def LN:List Str:=(rng 0 30).map fun v1:Int=>(Txt.mul (ch ("abcd" : Str) (v1 / (8:Int))) ((1:Int)+(v1 % (8:Int))))
theorem aav:LN.Nodup:=by decide +kernel
theorem Aq:LN.length=30:=by unfold LN;rw[zi,qU]
def Ar (t:Int):List Str:=(rng 0 30).map fun v1:Int=>(at' LN ((((7:Int) * v1)+t) % (30:Int)))
theorem ZP (t:Int):(Ar t).length=30:=by unfold Ar;rw[zi,qU]
theorem acH {n k:Nat} (h:k < n):(rng 0 n)[k]?=some (k:Int):=by unfold rng;simp[h]
theorem Qc (t:Int) {i:Int} (h0:0<=i) (h1:i < 30):at' (Ar t) i=at' LN ((7 * i+t) % 30):=by
 obtain⟨a,rfl⟩:=yb h0
 exact z8 (by unfold Ar;rw[zS,acH (by omega)];rfl)
theorem J6 (t:Int) {i:Int} (h0:0<=i) (h1:i < 30):at' (Ar t) i∈LN:=by
 rw[Qc t h0 h1]
 exact w6 (uZ (by decide) (by rw[Aq];decide))
theorem pk {p:Prop} [Decidable p] {α:Type} {x y:α} {l:List α} (hx:x∈l) (hy:y∈l):(if p then x else y)∈l:=by split<;>assumption
theorem RB (x t g:Int):qG x t g/\(dJ x t g).1=iB LN/\Rs LN (dJ x t g).2.1/\(dJ x t g).2.1.length < 64/\(∀ b∈(dJ x t g).2.2,(b.1∈LN/\b.2.1∈LN)/\b.1≠b.2.1)/\(dJ x t g).2.2.length < 64:=by
 have m2:=oh x (m:=2) (by decide)
 have ol:=ZP t
 obtain⟨t1,t2,t3⟩:=uY (P:=fun f k=>some (rN g (Ar t) f k)) (step:=fun f k=>mj g (Ar t) f k) (fun k s=>s.length<=k/\Rs LN s) ((29:Int)+(x % (2:Int))).toNat [] ⟨zg 0,fun r h=>(by cases h)⟩ fun k s hk h=>by
  have hk:k < 30:=by omega
  have m3:=oh ((k:Int)+1) (m:=30) (by decide)
  have i1:=J6 t (i:=(k:Int)) (by omega) (by omega)
  have i2:=J6 t m3.1 m3.2
  refine⟨⟨⟨tD (by omega),in_of m3.1 (by omega)⟩,⟨.inl ⟨by omega,by omega⟩,uZ (by decide) (by simp)⟩,xJ (by omega)⟩,?_,fun r hr=>?_⟩
  ·show (s++[_]).length<=_
   rw[z5];show _+1<=_;omega
  ·rcases List.mem_append.mp hr with hr|hr
   ·exact h.2 r hr
   ·cases List.mem_singleton.mp hr
    exact⟨pk i2 i1,pk i2 i1⟩
 have cl:=Zr [((0:Int),(29:Int)),((3:Int),(11:Int)),((20:Int),(27:Int))] none (some ((x / (2:Int)) % (4:Int)))
 have bars:=Cz (P:=fun va q3=>some (rO (Ar t) va q3)) (step:=fun va q3=>mz (Ar t) va q3) (fun k s=>s.length<=k/\∀ b∈s,(b.1∈LN/\b.2.1∈LN)/\b.1≠b.2.1) (cut [((0:Int),(29:Int)),((3:Int),(11:Int)),((20:Int),(27:Int))] none (some ((x / (2:Int)) % (4:Int)))) 0 [] ⟨zg 0,fun r h=>(by cases h)⟩ fun k q s hk h=>by
  have hm:=Zq (ZO hk)
  have hkl:k < 3:=ZA (List.getElem?_eq_some_iff.mp hk).1 cl
  have two:(0<=q.1/\q.1 < 30)/\(0<=q.2/\q.2 < 30)/\(7 * q.1+t) % 30≠(7 * q.2+t) % 30:=by
   simp only[QN,Q1,or_false] at hm
   rcases hm with rfl|rfl|rfl<;>refine⟨by decide,by decide,?_⟩<;>dsimp only<;>omega
  obtain⟨⟨a0,a1⟩,⟨b0,b1⟩,hne⟩:=two
  have i1:=J6 t a0 a1
  have i2:=J6 t b0 b1
  have ne:at' (Ar t) q.1≠at' (Ar t) q.2:=by
   rw[Qc t a0 a1,Qc t b0 b1]
   have u:=oh (7 * q.1+t) (m:=30) (by decide)
   have v:=oh (7 * q.2+t) (m:=30) (by decide)
   exact Xc aav (by rw[Aq];exact u) (by rw[Aq];exact v) hne
  have ia:In (Ar t).length q.1:=in_of a0 (by omega)
  have ib:In (Ar t).length q.2:=in_of b0 (by omega)
  refine⟨⟨⟨⟨ia,ib⟩,ia,ib⟩,xJ (by omega)⟩,?_,fun b hb=>?_⟩
  ·show (s++[_]).length<=_
   rw[z5];show _+1<=_;omega
  ·rcases List.mem_append.mp hb with hb|hb
   ·exact h.2 b hb
   ·cases List.mem_singleton.mp hb
    refine⟨⟨pk i2 i1,pk i2 i1⟩,?_⟩
    exact aeL ne
 obtain⟨s1,s2,s3⟩:=bars
 have cl:(cut [((0:Int),(29:Int)),((3:Int),(11:Int)),((20:Int),(27:Int))] none (some ((x / (2:Int)) % (4:Int)))).length<=3:=cl
 unfold qG dJ
 rw[aan]
 have hch:∀ v1∈rng 0 30,(In ("abcd" : Str).length (v1 / (8:Int))/\(((1:Int)+(v1 % (8:Int)))<=1000 ∧ -1000<=((1:Int)+(v1 % (8:Int)))/\(ch ("abcd" : Str) (v1 / (8:Int))).length<=1000)):=by unfold P1.In;decide +kernel
 have r0:(rng 0 30).length<=100000:=by rw[qU];decide
 rw[JE] at s2
 refine⟨⟨⟨r0,hch⟩,⟨r0,fun v1 _=>uZ (n:=LN.length) (by decide) (by rw[Aq];decide)⟩,⟨Es (by omega) (by omega),t1⟩,s1,⟨?_,?_⟩,?_,?_⟩,rfl,?_,?_,fun b hb=>s3 b ((fj _).mem_iff.mp hb),?_⟩
 ·exact QP t2 (by omega)
 ·rw[(fj _).length_eq];exact z4 t2 (by omega)
 ·show LN.length < 64;rw[Aq];decide
 ·exact QP s2 (by omega)
 ·exact Rs.turn fun r hr=>t3 r ((fj _).mem_iff.mp hr)
 ·show (List.map _ (pB _ _)).length < 64
  rw[zi,(fj _).length_eq];exact QP t2 (by omega)
 ·show (pB _ _).length < 64
  rw[(fj _).length_eq];exact QP s2 (by omega)
end G24
end
section
set_option synthInstance.maxSize 100000
namespace G24
open PySem PySem.Spec PyProof.Rows L2 P1
theorem ZQ (ns:List Int) (k:Int) (k0:0<=k) (k1:k<=100):vI ns () k/\qH ns () k=.nx ():=by
 obtain⟨n1,n2,n3⟩:=Fq (aQ ns k) 9 (by decide) (by decide)
 have n2:(aP (aQ ns k) 9).length=9:=n2
 unfold vI qH
 dsimp only
 generalize aP (aQ ns k) 9=xs at *
 have m1:=oh (at' xs 6) (m:=10) (by decide)
 have m2:=oh (at' xs 7) (m:=15) (by decide)
 have m3:=oh (at' xs 8) (m:=7) (by decide)
 obtain⟨gd,s⟩:=TV ns k (at' xs 6 % 10) (at' xs 7 % 15) (at' xs 8 % 7) k0 (by omega) m1.1 (by omega) m2.1 (by omega) m3.1 (by omega)
 have bn:=TY ns k (at' xs 6 % 10) (at' xs 7 % 15) (at' xs 8 % 7) (by omega)
 generalize jg ns k (at' xs 6 % 10) (at' xs 7 % 15) (at' xs 8 % 7)=v at *
 obtain⟨names,rs,bars⟩:=v
 have bl:bars.length < 64:=s.bl
 have r:=Nh (names:=names) (rs:=rs) (bars:=bars) s.so s.nd s.len s.bs bn (by omega) s.rs s.rl
 have ix:∀ i:Nat,i < 9->In xs.length (i:Int):=fun i hi=>tD (by omega)
 refine⟨⟨⟨Fp _ _ k0 (by omega),n1⟩,⟨⟨ix 6 (by decide),ix 7 (by decide),ix 8 (by decide)⟩,gd⟩,r.1⟩,?_⟩
 rw[r.2]
 rfl
theorem Qd (x t g:Int):jW (dJ x t g)/\jV (dJ x t g)=true:=by
 obtain⟨_,e,h1,h2,h3,h4⟩:=RB x t g
 generalize dJ x t g=v at *
 obtain⟨names,rs,bars⟩:=v
 have e:names=iB LN:=e
 subst e
 have me:∀ y,y∈LN->y∈iB LN:=fun y hy=>(dG _).mem_iff.mpr hy
 have h4:bars.length < 64:=h4
 exact Nh (sY _) ((dG _).nodup_iff.mpr aav) (by rw[(dG _).length_eq,Aq];decide) (fun b hb=>⟨me _ (h3 b hb).1.1,me _ (h3 b hb).1.2⟩) (fun b hb=>(h3 b hb).2) (by omega) (fun r hr=>⟨me _ (h1 r hr).1,me _ (h1 r hr).2⟩) h2
theorem Xd (ns:List Int) (_:ns.length<=63):M7 ns/\M6 ns=true:=by
 have hN:∀ n:Int,0<=n->(0<=(if (if (4:Int) < n then (4:Int) else n) > (1:Int) then (if (4:Int) < n then (4:Int) else n) else (1:Int)))/\(if (if (4:Int) < n then (4:Int) else n) > (1:Int) then (if (4:Int) < n then (4:Int) else n) else (1:Int))<=4:=fun n h=>by
  constructor<;>split<;>(try split)<;>omega
 have hN:=hN (ns.length:Int) (by omega)
 unfold M7 M6
 generalize (if (if (4:Int) < (ns.length:Int) then (4:Int) else (ns.length:Int)) > (1:Int) then (if (4:Int) < (ns.length:Int) then (4:Int) else (ns.length:Int)) else (1:Int))=N at *
 obtain⟨f1,f2⟩:=yP (P:=fun s1 v1=>some (vI ns s1 v1)) (step:=fun s1 v1=>qH ns s1 v1) (rng 0 N.toNat) fun k hk=>by
  have:=Zo hk
  have:=ZQ ns k (by omega) (by omega)
  exact⟨this.1,.inl this.2⟩
 obtain⟨n1,n2,n3⟩:=Fq (aQ ns 0) 13 (by decide) (by decide)
 have n2:(aP (aQ ns 0) 13).length=13:=n2
 rw[f1]
 have cl:(cut (aP (aQ ns 0) 13) (some (9:Int)) none).length=4:=by
  exact (congrArg List.length (WL (xs:=aP (aQ ns 0) 13) (k:=9) (by omega))).trans (by rw[kU,n2])
 dsimp only[behind,pH]
 generalize cut (aP (aQ ns 0) 13) (some (9:Int)) none=v2 at *
 have ix:∀ i:Nat,i < 4->In v2.length (i:Int):=fun i hi=>tD (by omega)
 have lo:=(RB (at' v2 1) (at' v2 2) (at' v2 3)).1
 have lr:=Qd (at' v2 1) (at' v2 2) (at' v2 3)
 generalize dJ (at' v2 1) (at' v2 2) (at' v2 3)=g at *
 refine⟨⟨⟨Es (by omega) (by omega),f2⟩,⟨Fp _ _ (by decide) (by decide),n1⟩,ix 0 (by decide),fun _=>⟨⟨⟨ix 1 (by decide),ix 2 (by decide),ix 3 (by decide)⟩,lo⟩,lr.1⟩⟩,?_⟩
 rw[lr.2,Bool.or_true]
theorem H1:∀ ns:List Int,ns.length<=63->qZ [.z (.lst (ns.map .int))]=some (.z (.bl true)):=(aat Xd).1
theorem H2:∀ ns:List Int,ns.length<=63->qZ [.l (ns.map .int)]=some (.z (.bl true)):=(aat Xd).2
end G24
end
open PySem PySem.W PyProof.Rows
def PySem.W.Fast.tw10666045830769225876:=0
def PySem.W.Fast.tw10020995791447672326:=0
def PySem.W.Fast.tw4127423771281796961:=0
set_option maxRecDepth 100000 in
set_option maxHeartbeats 0 in
theorem PySem.Challenge.cw_onefolk_k24_told_joinings_holds : PySem.Challenge.rw_onefolk_k24_told_joinings.Holds := by
 w_on;refine PySem.W.holds_law (by decide +kernel) fun said=>?_
 k_head;(case hw=>w_witness2)
 k_fill
 refine G24.walk (l:=PySem.Challenge.rw_onefolk_k24_told_joinings) rfl rfl G24.H1 G24.H2 (fun w h Y=>PySem.W.kIn_of Y) ?F
 case F=>
  intro w mg fa h KX G hmg
  refine' G24.all_mk KX G hmg ?a0 ?l0 ?c0 ?k0 ?a1 ?l1 ?c1 ?k1 ?a2 ?l2 ?c2 ?k2 ?a3 ?l3 ?c3 ?k3 ?a4 ?l4 ?c4 ?k4 ?a5 ?l5 ?c5 ?k5 ?a6 ?l6 ?c6 ?k6 ?a7 ?l7 ?c7 ?k7 ?a8 ?l8 ?c8 ?k8 ?a9 ?l9 ?c9 ?k9 ?a10 ?l10 ?c10 ?k10 ?a11 ?l11 ?c11 ?k11 ?a12 ?l12 ?c12 ?k12 ?a13 ?l13 ?c13 ?k13 ?a14 ?l14 ?c14 ?k14 ?a15 ?l15 ?c15 ?k15 ?a16 ?l16 ?c16 ?k16 ?Mv ?Mw ?Mx ?Mz ?kZ ?EY ?Ae ?sy ?wG ?lg ?Hx ?fG ?jF
  (case a0=>k_is);(case l0=>k_is);(case c0=>k_is);(case k0=>k_is)
  (case a1=>k_is);(case l1=>k_is);(case c1=>k_is);(case k1=>k_is)
  (case a2=>k_is);(case l2=>k_is);(case c2=>k_is);(case k2=>k_is)
  (case a3=>k_is);(case l3=>k_is);(case c3=>k_is);(case k3=>k_is)
  (case a4=>k_is);(case l4=>k_is);(case c4=>k_is);(case k4=>k_is)
  (case a5=>k_is);(case l5=>k_is);(case c5=>k_is);(case k5=>k_is)
  (case a6=>k_is);(case l6=>k_is);(case c6=>k_is);(case k6=>k_is)
  (case a7=>k_is);(case l7=>k_is);(case c7=>k_is);(case k7=>k_is)
  (case a8=>k_is);(case l8=>k_is);(case c8=>k_is);(case k8=>k_is)
  (case a9=>k_is);(case l9=>k_is);(case c9=>k_is);(case k9=>k_is)
  (case a10=>k_is);(case l10=>k_is);(case c10=>k_is);(case k10=>k_is)
  (case a11=>k_is);(case l11=>k_is);(case c11=>k_is);(case k11=>k_is)
  (case a12=>k_is);(case l12=>k_is);(case c12=>k_is);(case k12=>k_is)
  (case a13=>k_is);(case l13=>k_is);(case c13=>k_is);(case k13=>k_is)
  (case a14=>k_is);(case l14=>k_is);(case c14=>k_is);(case k14=>k_is)
  (case a15=>k_is);(case l15=>k_is);(case c15=>k_is);(case k15=>k_is)
  (case a16=>k_is);(case l16=>k_is);(case c16=>k_is);(case k16=>k_is)
  (case Mv=>k_is)
  (case Mw=>k_is)
  (case Mx=>k_is)
  (case Mz=>k_is)
  (case kZ=>k_is)
  (case EY=>k_is)
  (case Ae=>k_is)
  (case sy=>k_is)
  (case wG=>k_is)
  (case lg=>k_is)
  (case Hx=>k_is)
  (case fG=>k_is)
  (case jF=>k_is)
