import PyProof.Rows.All
import Wide.All
import OpenK.AllK
import Wide.FinOn
import PyProof.EqAt
import PyProof.EqKinds
import PyProof.TupleCall
import PyProof.StrLoop
import PyProof.StrWalks
import PyProof.CompFree
import PyProof.NeKinds
import PyProof.Rows.RuleN_isinstance
import PyProof.ConsumeWalk
import PyProof.IsiPairs
import PyProof.IsiSeqPairs
import PyProof.IsiHeapPairs
import PyProof.IsiNone
import PyProof.PureStr
import PyProof.StrCalls
import PyProof.Rows.SortStr
import PyProof.Rows.StrJoin2
import PyProof.CallStr
import PyProof.WalkInts
import PyProof.Rows.StrDigits
import PyProof.DictWalks
import PyProof.DictTruth
import PyProof.CollectWalk
import PyProof.WalkLemmas
import PyProof.Rows.SortShellK
import PyProof.Rows.SortWalk
import PyProof.SetKind
import PyProof.FactsAll.set
import PyProof.Rows.SetFrom
import PyProof.TupleKey
import PyProof.IsRules
import PyProof.WalksMore
import PyProof.SetRoads
import PyProof.DictCompW
import PyProof.ListRange
import PyProof.FString5
import PyProof.MeetsSeq2
import PyProof.FactsAll.tuple_0
import PyProof.FactsAll.tuple_2
import PyProof.FactsAll.tuple_3
import PyProof.EnumFor
import PyProof.EnumMake
import PyProof.EnumStmt
import PyProof.Rows.EnumRows
import PyProof.SumWalk
import PyProof.Rows.SeqCalls
import KE.KRevSl
import PyProof.ZipIter
import PyProof.TupleIter
import PyProof.AttrMiss
import KE.KDictOf
import KE.KDictLaws
import PyProof.TupleOfStr
import Lean
import PySem.Challenge.RW_onefolk_k29_good_joinings
set_option maxRecDepth 100000
set_option maxHeartbeats 4000000
set_option linter.all false
set_option Elab.async false
section
open PySem PySem.Spec PyProof.Rows
abbrev LS_:=List PySem.Str
abbrev VP_:=PySem.Value->PySem.Shared->Prop
abbrev FG_:=PySem.W.Frag
abbrev zb:=@wpAny_bind
abbrev zd:=@Heap.get?_push_of_some
abbrev ze:=@List.mem_cons_self
abbrev zg:=@wpAny_pure
abbrev zh:=@List.mem_cons_of_mem
abbrev zi:=@List.length_map
abbrev zk:=@Nat.le_refl
abbrev zl:=@List.map_cons
abbrev zo:=@if_pos
abbrev zr:=@Bool.false_eq_true
abbrev zt:=@Heap.get?_push_size
abbrev zv:=@if_neg
abbrev zw:=@Nat.le_of_ble_eq_true
abbrev zz:=@Heap.lt_size
abbrev zC:=@List.size_toArray
abbrev zD:=@List.getElem?_eq_getElem
abbrev zI:=@Nat.ne_of_lt
abbrev zS:=@List.getElem?_map
abbrev z4:=@Bool.false_ne_true
abbrev z5:=@decide_eq_true_eq
abbrev Zl:=@Nat.le_trans
abbrev Zp:=@List.map_map
abbrev Zs:=@Nat.lt_of_lt_of_le
abbrev ZA:=@List.length_append
abbrev ZE:=@List.map_append
abbrev ZH:=@List.getElem?_append_left
abbrev ZI:=@List.mem_append_right
abbrev ZN:=@if_false
abbrev ZO:=@List.getElem?_cons_succ
abbrev ZT:=@List.getElem?_eq_none
abbrev ZU:=@Bool.and_eq_true
abbrev ZY:=@List.map_congr_left
abbrev ZZ:=@Array.length_toList
abbrev Z3:=@Array.getElem?_eq_getElem
abbrev qa:=@PySem.W.mg_of
abbrev qc:=@Heap.size_push
abbrev qf:=@Nat.lt_succ_self
abbrev qh:=@List.length_cons
abbrev qi:=@List.flatten_cons
abbrev qk:=@decide_eq_false
abbrev qo:=@wpAny_mono
abbrev qq:=@wpAny_newObj_type
abbrev qr:=@List.nodup_append
abbrev qv:=@PySem.W.mg_none_of
abbrev qA:=@List.getElem?_append_right
abbrev qB:=@Array.getElem?_toList
abbrev qE:=@Nat.zero_le
abbrev qS:=@Bool.not_eq_true'
abbrev qV:=@decide_eq_true
abbrev Qb:=@decide_eq_false_iff_not
abbrev Qr:=@List.mem_cons
abbrev QA:=@Nat.lt_succ_of_lt
abbrev QE:=@List.mem_of_getElem?
abbrev QI:=@List.foldl_cons
abbrev QN:=@if_true
abbrev QO:=@List.not_mem_nil
abbrev QP:=@List.append_assoc
abbrev QQ:=@List.getElem?_replicate
abbrev QR:=@wpAny_holding
abbrev QU:=@wpAny_typeOf
abbrev QY:=@List.all_eq_true
abbrev Q1:=@wpAny_setState_of
abbrev Q2:=@List.map_id'
abbrev Q3:=@Or.inr
abbrev Q4:=@Nat.le_of_lt
abbrev ja:=@List.getElem_of_mem
abbrev js:=@List.mem_filter
abbrev jv:=@List.exists_mem_of_ne_nil
abbrev jI:=@of_decide_eq_true
abbrev jS:=@List.length_set
abbrev j0:=@List.getElem?_range
abbrev Jn:=@Heap.get?_update_ne
abbrev JA:=@Nat.lt_irrefl
abbrev JE:=@wpAny_call_entry
abbrev JI:=@List.nodup_nil
abbrev JJ:=@List.rel_of_pairwise_cons
abbrev JO:=@codeAny_builtin
abbrev JP:=@Option.some.inj
abbrev JS:=@List.cons.injEq
abbrev JU:=@List.map_nil
abbrev JY:=@Or.inl
abbrev ka:=@List.any_cons
abbrev kb:=@wpAny_comprehension_free
abbrev kc:=@List.Pairwise.imp_of_mem
abbrev ke:=@PySem.mem_of_lookup
abbrev kf:=@List.length_take
abbrev kg:=@List.any_eq_true
abbrev ki:=@Nat.not_lt_zero
abbrev kl:=@List.find?_cons
abbrev km:=@List.append_nil
abbrev ko:=@List.all_cons
abbrev kq:=@Bool.not_true
abbrev kr:=@List.lookup_cons_self
abbrev ku:=@List.mem_append_left
abbrev kz:=@decide_false
abbrev kA:=@Nat.ne_of_gt
abbrev kB:=@List.filterMap_cons
abbrev kC:=@wpAny_standAt
abbrev kD:=@Nat.lt_of_le_of_lt
abbrev kF:=@Nat.le_succ
abbrev kK:=@wpAny_getItem_str_slice
abbrev kL:=@List.pairwise_mergeSort
abbrev kM:=@Ne.symm
abbrev kP:=@List.mem_map
abbrev kQ:=@wpAny_truthy_bool
abbrev kR:=@List.pairwise_map
abbrev kU:=@List.length_range
abbrev kX:=@Array.size_append
abbrev Kb:=@List.length_pos_of_mem
abbrev Ki:=@Array.getElem?_eq_none
abbrev Kj:=@List.getElem?_zipWith
abbrev Kk:=@Heap.get?_update_self
abbrev Kn:=@wpAny_isInstance
abbrev Kt:=@List.length_drop
abbrev Kx:=@Bool.and_true
abbrev KA:=@decide_true
abbrev KB:=@List.mem_erase_of_ne
abbrev KF:=@wpAny_passesOwn
abbrev KG:=@List.nil_append
abbrev KI:=@Bool.eq_iff_iff
abbrev KL:=@List.mergeSort_perm
abbrev KM:=@Nat.zero_add
abbrev KO:=@List.any_map
abbrev KP:=@wpAny_rule
abbrev KS:=@List.mem_range
abbrev KU:=@Obj.data_mapFields
abbrev KW:=@List.drop_eq_getElem_cons
abbrev K0:=@List.map_id
abbrev K2:=@List.getElem?_set
abbrev ya:=@List.flatMap_cons
abbrev yb:=@List.ext_getElem?
abbrev ye:=@PySem.F.args_tuple_add_2
abbrev yf:=@List.length_erase_of_mem
abbrev yi:=@wpAny_askSetting
abbrev ym:=@List.nodup_range
abbrev yo:=@List.filter_cons
abbrev yv:=@wpAny_callSpecial?_slot
abbrev yz:=@PySem.F.entry_tuple_add
abbrev yA:=@F.plain_set_update_loop
end
section
namespace L2
open PySem PySem.Spec PyProof.Rows
abbrev Key:=Sum Int Str
def mD:Key->Value->Bool
 |.inl k,v=>Value.isInt k v
 |.inr x,v=>Value.isStrOf x v
def agO (w:World):Key->Int
 |.inl k=>hashInt k
 |.inr x=>hashStr w x
theorem bD:∀ {k:Key} {v:Value},mD k v=true->(∃ i t,k=Sum.inl i/\v=Value.int i t)\/(∃ x t,k=Sum.inr x/\v=Value.str x t)
 |.inl i,v,h=>by
  obtain⟨t,e⟩:=Value.isInt_shape (k:=i) (v:=v) h
  exact .inl ⟨i,t,rfl,e⟩
 |.inr x,v,h=>by
  obtain⟨t,e⟩:=Value.isStrOf_shape (x:=x) (v:=v) h
  exact .inr ⟨x,t,rfl,e⟩
theorem TQ (i:Int) (t:Tok):mD (.inl i) (.int i t)=true:=by simp[mD,Value.isInt]
theorem TV (x:Str) (t:Tok):mD (.inr x) (.str x t)=true:=by simp[mD,Value.isStrOf]
theorem abX (a b:Int):decide ((Sum.inl a:Key)=Sum.inl b)=(a==b):=by
 by_cases e:a=b
 ·subst e;simp
 ·have h:¬ (Sum.inl a:Key)=Sum.inl b:=fun q=>e (Sum.inl.inj q)
  rw[qk h]
  exact (beq_eq_false_iff_ne.mpr e).symm
theorem abY (a b:Str):decide ((Sum.inr a:Key)=Sum.inr b)=decide (a=b):=by
 by_cases e:a=b
 ·subst e;simp
 ·have h:¬ (Sum.inr a:Key)=Sum.inr b:=fun q=>e (Sum.inr.inj q)
  rw[qk h,qk e]
theorem abZ (a:Int) (b:Str):decide ((Sum.inl a:Key)=Sum.inr b)=false:=qk (fun q=>nomatch q)
theorem ab0 (a:Str) (b:Int):decide ((Sum.inr a:Key)=Sum.inl b)=false:=qk (fun q=>nomatch q)
def bh (prog:Program) (w:World):PySem.KeyKind prog w Key where
 is:=mD
 hash:=agO w
 inj:=fun v a b ha hb=>by
  rcases bD ha with⟨i,t,rfl,rfl⟩|⟨x,t,rfl,rfl⟩
  ·rcases bD hb with⟨j,u,rfl,e⟩|⟨y,u,rfl,e⟩
   ·injection e with e1 _;rw[e1]
   ·exact nomatch e
  ·rcases bD hb with⟨j,u,rfl,e⟩|⟨y,u,rfl,e⟩
   ·exact nomatch e
   ·injection e with e1 _;rw[e1]
 byValue:=fun k v h=>by
  rcases bD h with⟨i,t,rfl,rfl⟩|⟨x,t,rfl,rfl⟩<;>rfl
 pyHash:=fun hv h=>by
  rcases bD hv with⟨i,t,rfl,rfl⟩|⟨x,t,rfl,rfl⟩
  ·exact wpAny_pyHash_int h
  ·exact wpAny_pyHash_str h
 eqBool:=fun hu hv h=>by
  rcases bD hu with⟨i,t,rfl,rfl⟩|⟨x,t,rfl,rfl⟩
  ·rcases bD hv with⟨j,u,rfl,rfl⟩|⟨y,u,rfl,rfl⟩
   ·rw[abX] at h;exact wpAny_eqBool_int h
   ·rw[abZ] at h;exact SeqAt.EqAt.int_str i t y u _ _ _ _ h
  ·rcases bD hv with⟨j,u,rfl,rfl⟩|⟨y,u,rfl,rfl⟩
   ·rw[ab0] at h;exact SeqAt.EqAt.str_int x t j u _ _ _ _ h
   ·rw[abY] at h;exact wpAny_eqBool_str h
 «strs»:=fun k x t v h=>by
  rcases bD h with⟨i,u,rfl,e⟩|⟨y,u,rfl,e⟩
  ·exact nomatch e
  ·injection e with e1 _
   subst e1
   cases v<;>rfl
theorem Mi (prog:Program) (w:World) (i:Int) (t:Tok):(bh prog w).is (.inl i) (.int i t)=true:=TQ i t
theorem Mj (prog:Program) (w:World) (x:Str) (t:Tok):(bh prog w).is (.inr x) (.str x t)=true:=TV x t
end L2
namespace L2
open PySem PySem.Spec PyProof.Rows
inductive V where
 |non|bl (b:Bool)|int (i:Int)|str (x:Str)|byt (b:Array UInt8)|flt (b:UInt64)|ref (a:Addr)|ty (n:String)
 deriving DecidableEq
def RelV:V->Value->Prop
 |.non,u=>u=Value.none
 |.bl b,u=>u=Value.bool b
 |.int i,u=>∃ t,u=Value.int i t
 |.str x,u=>∃ t,u=Value.str x t
 |.byt b,u=>∃ t,u=Value.bytes b t
 |.flt b,u=>∃ t,u=Value.float b t
 |.ref a,u=>u=Value.ref a
 |.ty n,u=>u=Value.type n
abbrev Vals:List V->List Value->Prop:=Paired RelV
theorem Vals.length {xs:List V} {us:List Value} (r:Vals xs us):xs.length=us.length:=Paired.length r
theorem Vals.get:∀ {xs:List V} {us:List Value} {i:Nat} {x:V},Vals xs us->xs[i]?=some x->∃ u,us[i]?=some u/\RelV x u
 |_,_,_,_,.nil,e=>by simp at e
 |_,_,0,_,.cons r _,e=>by simp at e;subst e;exact⟨_,rfl,r⟩
 |_,_,i+1,x,.cons _ t,e=>by
  obtain⟨u,h1,h2⟩:=Vals.get (i:=i) (x:=x) t (by simpa using e)
  exact⟨u,by simpa using h1,h2⟩
theorem Vals.set {x:V} {u:Value} (r:RelV x u):∀ {xs:List V} {us:List Value} (i:Nat),Vals xs us->Vals (xs.set i x) (us.set i u)
 |_,_,_,.nil=>.nil
 |_,_,0,.cons _ t=>.cons r t
 |_,_,i+1,.cons q t=>.cons q (Vals.set r i t)
theorem Vals.append:∀ {xs ys:List V} {us ws:List Value},Vals xs us->Vals ys ws->Vals (xs++ys) (us++ws)
 |_,_,_,_,.nil,s=>s
 |_,_,_,_,.cons r t,s=>.cons r (Vals.append t s)
theorem Vals.take:∀ {xs:List V} {us:List Value} (n:Nat),Vals xs us->Vals (xs.take n) (us.take n)
 |_,_,0,_=>.nil
 |_,_,_+1,.nil=>.nil
 |_,_,n+1,.cons r t=>.cons r (Vals.take n t)
theorem Vals.drop:∀ {xs:List V} {us:List Value} (n:Nat),Vals xs us->Vals (xs.drop n) (us.drop n)
 |_,_,0,r=>r
 |_,_,_+1,.nil=>.nil
 |_,_,n+1,.cons _ t=>Vals.drop n t
def zW:Option V->Option Value->Prop
 |some v,some u=>RelV v u
 |none,none=>True
 |_,_=>False
def KV {κ:Type}:List (κ×V)->List (κ×Value)->Prop:=Paired fun (p:κ×V) (q:κ×Value)=>p.1=q.1/\RelV p.2 q.2
def kV:Key->V
 |.inl i=>.int i
 |.inr x=>.str x
inductive HO where
 |lst (xs:List V)
 |tup (xs:List V)
 |dK (kvs:List (Key×V))|dT (kvs:List (List Key×V))
 |set (S:Int->Bool) (n:Nat)
 |ins (C dx:Addr) (fs:List (Str×V))
 |own (x:Addr)
 |xd (fs:List (Str×V))
 |met (f x:Addr)
 |rng (lo hi:Int)
 |n8 (o:Obj) (u:HO)
 |tbl (ps:Array Value)
 |ext (φ:Heap->Prop)
abbrev Hp:=Addr->Option HO
def upd (H:Hp) (a:Addr) (o:HO):Hp:=fun b=>if b=a then some o else H b
theorem aU {H:Hp} {a:Addr} {o:HO}:upd H a o a=some o:=by unfold upd;rw[zo rfl]
theorem aG {H:Hp} {a b:Addr} {o:HO} (h:b≠a):upd H a o b=H b:=by unfold upd;rw[zv h]
def sZ (h:Heap) (a:Addr) (items:Array Value):Prop:=∃ o,h.get? a=some o/\o.cls=.type "tuple" ∧ (∃ n,o.data=.seq items n)/\o.dict=none
theorem sZ.weak {h:Heap} {a:Addr} {items:Array Value} (x:sZ h a items):IsTup h a items:=let ⟨o,e,c,d,_⟩:=x;⟨o,e,c,d⟩
theorem sZ.new (h:Heap) (items:Array Value):sZ (h.push { cls:=.type "tuple", data:=.seq items }) h.objs.size items:=⟨_,zt _ rfl,rfl,⟨_,rfl⟩,rfl⟩
theorem oh {H:Hp} {a b:Addr} {o u:HO} (h:H a=some o) (h':H b=some u) (d:o≠u):a≠b:=by
 intro e;subst e;rw[h] at h';exact d (JP h')
theorem cL {H:Hp} {a b:Addr} {o:HO} (h:H a=some o) (h':H b=none):a≠b:=by
 intro e;subst e;rw[h] at h';cases h'
section
variable (P:Program) (w:World)
def fu (H:Hp) (h:Heap) (a:Addr):HO->Prop
 |.lst xs=>xs.length<=sizeLine/\∃ (its:List Value) (n:Nat),Vals xs its/\h.get? a=some { cls:=.type "list", data:=.seq its.toArray n }
 |.tup xs=>xs.length<=sizeLine/\∃ its:List Value,Vals xs its/\sZ h a its.toArray
 |.dK kvs=>kvs.length<=sizeLine/\(a==sysModules)=false/\∃ vs,KV kvs vs/\h.DictOf (bh P w) a vs
 |.dT kvs=>kvs.length<=sizeLine/\(a==sysModules)=false/\∃ xs:List (List Key×Addr×Value),
   Paired (fun (p:List Key×V) (q:List Key×Addr×Value)=>p.1=q.1/\H q.2.1=some (.tup (p.1.map kV))/\RelV p.2 q.2.2) kvs xs ∧
   ∃ o es ep,h.get? a=some o/\o.ExactDict/\o.data=.dict es ep/\es.toList=xs.map (entryOfKey (tupleKind (bh P w)))/\(xs.map (·.1)).Nodup
 |.set S n=>h.SetOf (intKind P w) a S n
 |.ins C dx fs=>H dx=some (.own a)/\fs.length<=1000/\dx≠a/\h.get? a=some (PySem.W.instObj C dx) ∧
   ∃ mA,h.Ns1 dx mA/\(∀ f,zW (fs.lookup f) (mA f))/\PySem.Within mA (fs.map (·.1))
 |.own _=>∃ o,h.get? a=some o
 |.xd fs=>∃ mA,h.Ns1 a mA/\∀ f,zW (fs.lookup f) (mA f)
 |.rng lo hi=>∃ t u v,h.get? a=some { cls:=.type "range", data:=.fields #[.int lo t,.int hi u,.int 1 v] }
 |.n8 o u=>h.get? a=some o/\fu H h a u
 |.tbl ps=>h.get? a=some { cls:=.none,data:=.fields ps }
 |.met f x=>h.get? a=some (PySem.W.methodObj (.ref f) (.ref x))
 |.ext φ=>φ h/\(∃ o,h.get? a=some o)/\∀ h1 h2:Heap,φ h1->(∀ o,h1.get? a=some o->h2.get? a=some o)->φ h2
def xM (H:Hp) (h:Heap):Prop:=∀ a o,H a=some o->fu P w H h a o
end
section
variable {P:Program} {w:World} {H H':Hp} {h h':Heap} {a:Addr} {o:HO}
theorem fu.lt (x:fu P w H h a o):a < h.objs.size:=by
 cases o with
 |lst xs=>obtain⟨_,_,_,_,e⟩:=x;exact zz e
 |tup xs=>obtain⟨_,_,_,p⟩:=x;exact p.weak.lt
 |dK kvs=>obtain⟨_,_,_,_,o,_,_,e,_⟩:=x;exact zz e
 |dT kvs=>obtain⟨_,_,_,_,o,_,_,e,_⟩:=x;exact zz e
 |set S n=>obtain⟨o,_,_,_,e,_⟩:=x;exact zz e
 |ins C dx fs=>obtain⟨_,_,_,e,_⟩:=x;exact zz e
 |own y=>obtain⟨_,e⟩:=x;exact zz e
 |xd fs=>obtain⟨_,⟨_,_,_,e,_⟩,_⟩:=x;exact zz e
 |rng lo hi=>obtain⟨_,_,_,e⟩:=x;exact zz e
 |n8 ob u=>obtain⟨e,_⟩:=x;exact zz e
 |tbl ps=>exact zz (show h.get? a=some _ from x)
 |met f y=>exact zz (show h.get? a=some _ from x)
 |ext φ=>obtain⟨_,⟨_,e⟩,_⟩:=x;exact zz e
theorem Paired.Y0 {α β:Type} {F G:α->β->Prop}:∀ {l₁:List α} {l₂:List β},Paired F l₁ l₂->(∀ a b,F a b->G a b)->Paired G l₁ l₂
 |_,_,.nil,_=>.nil
 |_,_,.cons r t,f=>.cons (f _ _ r) (Paired.Y0 t f)
theorem Paired.imp' {α β:Type} {F G:α->β->Prop} (f:∀ a b,F a b->G a b) {l₁:List α} {l₂:List β} (r:Paired F l₁ l₂):Paired G l₁ l₂:=Paired.Y0 r f
theorem fu.stay (x:fu P w H h a o) (k:∀ b u,(b=a\/H b=some (.own a))->h.get? b=some u->h'.get? b=some u)
  (ho:∀ b,H b=some (.own a)->H' b=some (.own a)) (ht:∀ b xs,H b=some (.tup xs)->H' b=some (.tup xs)):fu P w H' h' a o:=by
 induction o with
 |lst xs=>obtain⟨z,its,n,r,e⟩:=x;exact⟨z,its,n,r,k _ _ (.inl rfl) e⟩
 |tup xs=>obtain⟨z,its,r,ob,e,c⟩:=x;exact⟨z,its,r,ob,k _ _ (.inl rfl) e,c⟩
 |dK kvs=>obtain⟨z,y,vs,r,ob,es,ep,e,c⟩:=x;exact⟨z,y,vs,r,ob,es,ep,k _ _ (.inl rfl) e,c⟩
 |dT kvs=>
  obtain⟨z,y,xs,r,ob,es,ep,e,c⟩:=x
  exact⟨z,y,xs,Paired.Y0 r fun p q z=>⟨z.1,ht _ _ z.2.1,z.2.2⟩,ob,es,ep,k _ _ (.inl rfl) e,c⟩
 |set S n=>obtain⟨ob,es,ep,t,e,c⟩:=x;exact⟨ob,es,ep,t,k _ _ (.inl rfl) e,c⟩
 |ins C dx fs=>
  obtain⟨d,z,ne,e,mA,⟨od,es,ep,e2,c⟩,r⟩:=x
  exact⟨ho _ d,z,ne,k _ _ (.inl rfl) e,mA,⟨od,es,ep,k _ _ (.inr d) e2,c⟩,r⟩
 |own y=>obtain⟨ob,e⟩:=x;exact⟨ob,k _ _ (.inl rfl) e⟩
 |xd fs=>obtain⟨mA,⟨od,es,ep,e,c⟩,r⟩:=x;exact⟨mA,⟨od,es,ep,k _ _ (.inl rfl) e,c⟩,r⟩
 |rng lo hi=>obtain⟨t,u,v,e⟩:=x;exact⟨t,u,v,k _ _ (.inl rfl) e⟩
 |n8 ob u ih=>obtain⟨e,q⟩:=x;exact⟨k _ _ (.inl rfl) e,ih q⟩
 |tbl ps=>
  have e:h.get? a=some { cls:=.none,data:=.fields ps }:=x
  show h'.get? a=some { cls:=.none,data:=.fields ps }
  exact k a _ (.inl rfl) e
 |met f y=>
  have e:h.get? a=some (PySem.W.methodObj (.ref f) (.ref y)):=x
  show h'.get? a=some (PySem.W.methodObj (.ref f) (.ref y))
  exact k a _ (.inl rfl) e
 |ext φ=>obtain⟨p,⟨o,e⟩,st⟩:=x;exact⟨st _ _ p fun o q=>k _ _ (.inl rfl) q,⟨o,k _ _ (.inl rfl) e⟩,st⟩
theorem xM.lt (x:xM P w H h) (e:H a=some o):a < h.objs.size:=(x a o e).lt
theorem xM.fresh (x:xM P w H h) (e:h.objs.size<=a):H a=none:=by
 cases q:H a with
 |none=>rfl
 |some u=>exact absurd (Zs (x.lt q) e) (JA _)
theorem xM.kept (x:xM P w H h) (k:∀ b u,h.get? b=some u->h'.get? b=some u):xM P w H h':=fun a o e=>
 (x a o e).stay (fun b u _ q=>k b u q) (fun _ q=>q) fun _ _ q=>q
theorem xM.laid (x:xM P w H h) (k:∀ b u,h.get? b=some u->h'.get? b=some u) (hp:h.objs.size<=a) (new:fu P w (upd H a o) h' a o):xM P w (upd H a o) h':=fun b u e=>by
 have hn:=x.fresh hp
 by_cases hb:b=a
 ·subst hb;rw[aU] at e;cases e;exact new
 ·rw[aG hb] at e
  exact (x b u e).stay (fun c v _ q=>k c v q) (fun c q=>by rw[aG (cL q hn)];exact q) fun c xs q=>by rw[aG (cL q hn)];exact q
end
def Rd (H:Hp) (a:Addr) (u:HO):Prop:=H a=some u\/∃ o,H a=some (.n8 o u)
theorem Rd.of {H:Hp} {a:Addr} {u:HO} (h:H a=some u):Rd H a u:=.inl h
theorem Rd.ok {P:Program} {w:World} {H:Hp} {h:Heap} {a:Addr} {u:HO} (r:Rd H a u) (x:xM P w H h):fu P w H h a u:=by
 rcases r with r|⟨o,r⟩
 ·exact x a u r
 ·obtain⟨_,q⟩:=x a _ r
  exact q
def Mut:Option HO->Prop
 |some (.lst _)=>True
 |some (.dK _)=>True
 |some (.dT _)=>True
 |some (.set _ _)=>True
 |some (.ins _ _ _)=>True
 |some (.ext _)=>True
 |_=>False
section
variable {P:Program} {w:World} {H:Hp} {h h':Heap} {x e:Addr} {o':HO}
theorem xM.write (ok:xM P w H h) (mu:Mut (H x)) (he:e=x\/H e=some (.own x)) (k:∀ b u,b≠e->h.get? b=some u->h'.get? b=some u) (heo:∃ u,h'.get? e=some u)
  (new:fu P w (upd H x o') h' x o'):xM P w (upd H x o') h':=fun b u q=>by
 have aeF:∀ c y,H c=some (.own y)->c≠x:=fun c y r z=>by subst z;rw[r] at mu;exact mu
 have agP:∀ c xs,H c=some (.tup xs)->c≠x:=fun c xs r z=>by subst z;rw[r] at mu;exact mu
 by_cases hb:b=x
 ·subst hb;rw[aU] at q;cases q;exact new
 ·rw[aG hb] at q
  by_cases hbe:b=e
  ·have q':H b=some (.own x):=by
    rcases he with z|z
    ·exact absurd (hbe.trans z) hb
    ·rw[hbe];exact z
   rw[q] at q';cases q'
   obtain⟨v,hv⟩:=heo
   exact⟨v,by rw[hbe];exact hv⟩
  ·refine (ok b u q).stay (fun c v hc r=>k c v ?_ r) (fun c r=>by rw[aG (aeF c b r)];exact r) fun c xs r=>by rw[aG (agP c xs r)];exact r
   rcases hc with rfl|hc
   ·exact hbe
   ·rintro rfl
    rcases he with z|z
    ·exact aeF c b hc z
    ·rw[hc] at z;cases z;exact hb rfl
end
structure Un (fs ex:List Addr) (H H':Hp) (h h':Heap):Prop where
 keep:∀ b o,h.get? b=some o->H b=none->b∉fs->b∉ex->h'.get? b=some o
 slot:∀ b o,h.get? b=some o->H b=none->b∈fs->b∉ex->∃ sl,h'.get? b=some { o with slots:=sl }
 free:∀ b o,h.get? b=some o->H b=none->b∉ex->H' b=none
 there:∀ b o,h.get? b=some o->b∉ex->∃ o',h'.get? b=some o'
 tups:∀ b xs,H b=some (.tup xs)->H' b=some (.tup xs)
 wM:∀ b o u,H b=some (.n8 o u)->H' b=some (.n8 o u)
 yx:∀ b ps,H b=some (.tbl ps)->∃ more,H' b=some (.tbl (ps++more))
section
variable {fs fs' ex ex':List Addr} {H H1 H2:Hp} {h h1 h2 h':Heap} {a x e:Addr} {o:HO}
theorem Un.any (u:Un fs ex H H1 h h1) {b:Addr} {ob:Obj} (q:h.get? b=some ob) (n:H b=none) (hx:b∉ex):∃ sl,h1.get? b=some { ob with slots:=sl }:=by
 by_cases hb:b∈fs
 ·exact u.slot b ob q n hb hx
 ·exact⟨ob.slots,u.keep b ob q n hb hx⟩
theorem Un.trans (a:Un fs ex H H1 h h1) (b:Un fs ex H1 H2 h1 h2):Un fs ex H H2 h h2 where
 keep:=fun c ob q n hc hx=>b.keep c ob (a.keep c ob q n hc hx) (a.free c ob q n hx) hc hx
 slot:=fun c ob q n hc hx=>by
  obtain⟨sl,e1⟩:=a.slot c ob q n hc hx
  obtain⟨sl',e2⟩:=b.slot c _ e1 (a.free c ob q n hx) hc hx
  exact⟨sl',e2⟩
 free:=fun c ob q n hx=>by
  obtain⟨o',e1⟩:=a.there c ob q hx
  exact b.free c o' e1 (a.free c ob q n hx) hx
 there:=fun c ob q hx=>by
  obtain⟨o',e1⟩:=a.there c ob q hx
  exact b.there c o' e1 hx
 tups:=fun c xs q=>b.tups c xs (a.tups c xs q)
 wM:=fun c ob xs q=>b.wM c ob xs (a.wM c ob xs q)
 yx:=fun c ps q=>by
  obtain⟨m1,e1⟩:=a.yx c ps q
  obtain⟨m2,e2⟩:=b.yx c _ e1
  exact⟨m1++m2,by rw[e2,Array.append_assoc]⟩
theorem Un.kept (k:∀ b u,h.get? b=some u->h'.get? b=some u):Un fs ex H H h h':=
 ⟨fun b ob q _ _ _=>k b ob q,fun b ob q _ _ _=>⟨ob.slots,k b ob q⟩,fun _ _ _ n _=>n,fun b ob q _=>⟨ob,k b ob q⟩,fun _ _ q=>q,fun _ _ _ q=>q,fun _ ps q=>⟨#[],by rw[q];simp⟩⟩
theorem Un.refl:Un fs ex H H h h:=Un.kept fun _ _ q=>q
theorem Un.laid (k:∀ b u,h.get? b=some u->h'.get? b=some u) (hp:h.objs.size<=a) (hn:H a=none):Un fs ex H (upd H a o) h h' where
 keep:=fun b u q _ _ _=>k b u q
 slot:=fun b u q _ _ _=>⟨u.slots,k b u q⟩
 free:=fun b u q n _=>by rw[aG (zI (Zs (zz q) hp))];exact n
 there:=fun b u q _=>⟨u,k b u q⟩
 tups:=fun b xs q=>by rw[aG (cL q hn)];exact q
 wM:=fun b u xs q=>by rw[aG (cL q hn)];exact q
 yx:=fun b ps q=>⟨#[],by rw[aG (cL q hn),q];simp⟩
theorem Un.write (mu:Mut (H x)) (he:e=x\/H e=some (.own x)) (k:∀ b u,b≠e->h.get? b=some u->h'.get? b=some u) (heo:∃ u,h'.get? e=some u):Un fs ex H (upd H x o) h h':=by
 have hx:∀ b,H b=none->b≠x:=fun b n z=>by subst z;rw[n] at mu;exact mu
 have hb:∀ b,H b=none->b≠e:=fun b n z=>by
  subst z
  rcases he with r|r
  ·exact hx b n r
  ·rw[n] at r;cases r
 have hm:∀ b u,H b=some u->¬ Mut (some u)->b≠x:=fun b u q nm z=>by subst z;rw[q] at mu;exact nm mu
 refine⟨fun b u q n _ _=>k b u (hb b n) q,fun b u q n _ _=>⟨u.slots,k b u (hb b n) q⟩,fun b u q n _=>by rw[aG (hx b n)];exact n,fun b u q _=>?_,
  fun b xs q=>by rw[aG (hm b _ q fun z=>z)];exact q,fun b u xs q=>by rw[aG (hm b _ q fun z=>z)];exact q,fun b ps q=>⟨#[],by rw[aG (hm b _ q fun z=>z),q];simp⟩⟩
 by_cases hbe:b=e
 ·subst hbe;exact heo
 ·exact⟨u,k b u hbe q⟩
theorem Un.mono (u:Un fs ex H H1 h h1) (hs:∀ b∈fs,b∈fs') (hx:∀ b∈ex,b∈ex'):Un fs' ex' H H1 h h1:=
 ⟨fun b ob q n hb he=>u.keep b ob q n (fun z=>hb (hs b z)) fun z=>he (hx b z),fun _ _ q n _ he=>u.any q n fun z=>he (hx _ z),fun b ob q n he=>u.free b ob q n fun z=>he (hx b z),fun b ob q he=>u.there b ob q fun z=>he (hx b z),u.tups,u.wM,u.yx⟩
end
def trk (h:Heap) (H:Hp):List Addr:=(List.range h.objs.size).filter fun a=>(H a).isSome
def JV (h:Heap) (H:Hp):Heap:=PySem.W.hideAll h (trk h H)
theorem TX (h:Heap) (H:Hp):(JV h H).objs.size=h.objs.size:=PySem.W.hideAll_size _ _
theorem VB {h:Heap} {H:Hp} {b:Addr} {o:Obj} (e:h.get? b=some o) (n:H b=none):(JV h H).get? b=some o:=
 PySem.W.hideAll_get _ e fun hm=>by
  have q:(H b).isSome=true:=(List.mem_filter.mp hm).2
  rw[n] at q;simp at q
theorem Y4 {h:Heap} {H:Hp} {b:Addr} {o:Obj} (e:(JV h H).get? b=some o):h.get? b=some o/\H b=none:=by
 have e':h.get? b=some o:=PySem.W.of_hideAll (trk h H) e
 refine⟨e',?_⟩
 cases q:H b with
 |none=>rfl
 |some x=>
  have hm:b∈trk h H:=List.mem_filter.mpr ⟨List.mem_range.mpr (zz e'),by simp[q]⟩
  have z:(JV h H).get? b=none:=PySem.W.hideAll_none (trk h H) hm
  rw[z] at e;cases e
def Y5 (g h:Heap) (L:Addr):List (Addr×Obj):=(List.range h.objs.size).filterMap fun a=>if a=L\/(g.get? a).isSome=true then none else (h.get? a).map fun o=>(a,o)
def rest (g h:Heap) (L d:Addr):List (Addr×Obj):=(Y5 g h L).filter fun p=>decide (p.1≠d)
end L2
namespace L2
open PySem PySem.Spec PyProof.Rows
structure Mod (K:FG_) (mg:Str->Option Value) (base:Heap):Prop where
 kin:K.In base
 glob:base.Ns mainGlobals mg
 blt:∃ mb,base.Ns builtinsNs mb/\∀ x:Str,x ≠ "__name__" → mb x=bootBuiltins x
 nolimit:base.NoLimit
structure Cx where
 prog:Program
 w:World
 K:FG_
 mg:Str->Option Value
 base:Heap
 A:Around
 N:LS_
 s₀:Shared
 H₀:Hp
 env:Env
 outer:List Env
 stack:List Env
 ex:List Addr
 fn:Str->Bool
 calm:Bool
 pn:List (Addr×Obj)
 xe:VP_
def frs (l:List Env):List Addr:=l.filterMap (·.frame)
abbrev Cx.fs (X:Cx):List Addr:=frs X.outer
def Vr (sc:Scope) (x:Str):Prop:=sc.names.lookup x=some .local\/sc.names.lookup x=some .cell\/sc.names.lookup x=some .free
def Loc (sc:Scope) (x:Str):Prop:=sc.names.lookup x=some .local\/sc.names.lookup x=some .cell
def Look (env:Env) (h:Heap) (m:Str->Option Value) (x:Str) (u:Value):Prop:=
 (env.kindOf x=some .local/\m x=some u)\/((env.kindOf x=some .cell\/env.kindOf x=some .free)/\∃ c,env.cells.lookup x=some c/\h.IsCell c (some u))
structure Cx.Ok (X:Cx):Prop where
 mod:Mod X.K X.mg X.base
 kind:X.env.scope.kind=.function
 glob:X.env.globals=mainGlobals
 blt:X.env.builtins=builtinsNs
 above:X.s₀.heap.objs.size<=X.env.locals
 inj:∀ x y c,X.env.cells.lookup x=some c->X.env.cells.lookup y=some c->x=y
 has:∀ x,(X.env.kindOf x=some .cell\/X.env.kindOf x=some .free)->∃ c,X.env.cells.lookup x=some c
 cab:∀ x c,X.fn x=true->X.env.cells.lookup x=some c->X.s₀.heap.objs.size<=c
 hd:X.calm=true->X.A.handled=none
 frames:X.A.frames=some X.stack
 stk:X.stack=X.outer\/(X.stack=X.env::X.outer/\X.env.frame=some X.env.locals)
 exf:∀ b∈X.ex,b≠X.env.locals/\∀ x c,X.env.cells.lookup x=some c->c≠b
 bs:∀ b o,X.base.get? b=some o->X.s₀.heap.get? b=some o/\X.H₀ b=none
 YT:X.base.objs.size<=X.s₀.heap.objs.size
 VD:∀ b o,X.base.get? b=some o->b∉X.ex
 Y6:∀ b∈X.ex,b∉X.fs
 Cd:X.s₀.heap.FunFrames X.base X.outer
 frf:∀ b∈X.fs,X.H₀ b=none
structure Inv (X:Cx) (pins:List (Addr×Obj)) (σ:List (Option V)) (H:Hp) (s:Shared):Prop where
 ok:X.Ok
 os:s.os=X.s₀.os
 bare:AllBare s.gens
 base:Un X.fs X.ex X.H₀ H X.s₀.heap s.heap
 loc:∃ m,s.heap.Ns X.env.locals m/\∀ (i:Nat) (x:Str) (v:V),X.N[i]?=some x->σ[i]?=some (some v)->Vr X.env.scope x->∃ u,RelV v u/\Look X.env s.heap m x u
 cell:∀ x c,X.env.cells.lookup x=some c->∃ v,s.heap.IsCell c v
 free:H X.env.locals=none
 qb:∀ x c,X.env.cells.lookup x=some c->H c=none
 pin:∀ p∈X.pn++pins,s.heap.get? p.1=some p.2/\H p.1=none/\p.1≠X.env.locals/\p.1∉X.fs/\∀ v,p.2.data≠.cell v
 hok:xM X.prog X.w H s.heap
 len:σ.length=X.N.length
section
variable {X:Cx} {pins:List (Addr×Obj)} {σ:List (Option V)} {H H':Hp} {s:Shared} {h':Heap}
theorem Cx.Ok.agR (ok:X.Ok) {b:Addr} {o:Obj} (e:X.base.get? b=some o):b∉X.fs:=fun hb=>by
 have:=(ok.Cd.mem hb).1
 rw[e] at this;cases this
theorem Inv.bs (I:Inv X pins σ H s):∀ b o,X.base.get? b=some o->s.heap.get? b=some o/\H b=none:=fun b o e=>
 ⟨I.base.keep b o (I.ok.bs b o e).1 (I.ok.bs b o e).2 (I.ok.agR e) (I.ok.VD b o e),I.base.free b o (I.ok.bs b o e).1 (I.ok.bs b o e).2 (I.ok.VD b o e)⟩
theorem Inv.bk (I:Inv X pins σ H s):∀ b o,X.base.get? b=some o->s.heap.get? b=some o:=fun b o e=>(I.bs b o e).1
theorem Inv.mod (I:Inv X pins σ H s):Mod X.K X.mg X.base:=I.ok.mod
theorem Inv.kIn (I:Inv X pins σ H s):X.K.In s.heap:=I.ok.mod.kin.keeps I.bk
theorem Inv.nolimit (I:Inv X pins σ H s):s.heap.NoLimit:=I.ok.mod.nolimit.keeps I.bk
theorem Inv.fr (I:Inv X pins σ H s):∃ m,Fr X.base X.env.locals s.heap m:=
 let ⟨m,hn,_⟩:=I.loc
 ⟨m,hn,I.bk,Zl I.ok.YT I.ok.above⟩
theorem Inv.lt (I:Inv X pins σ H s):X.env.locals < s.heap.objs.size:=let ⟨_,hn,_⟩:=I.loc;hn.lt
theorem Inv.sz (I:Inv X pins σ H s):X.s₀.heap.objs.size<=s.heap.objs.size:=Zl I.ok.above (Q4 I.lt)
theorem Inv.agS (I:Inv X pins σ H s) {a:Addr} (h:s.heap.objs.size<=a):a∉X.fs:=fun hb=>by
 obtain⟨_,o,ho,_⟩:=I.ok.Cd.mem hb
 exact absurd (Zs (zz ho) (Zl I.sz h)) (JA _)
theorem Inv.cne (I:Inv X pins σ H s):∀ x c,X.env.cells.lookup x=some c->c≠X.env.locals:=fun x c e z=>by
 obtain⟨v,o,ho,hd⟩:=I.cell x c e
 obtain⟨m,⟨o',es,ep,ho',hd',_⟩,_⟩:=I.loc
 rw[z,ho'] at ho;cases ho;rw[hd'] at hd;cases hd
theorem Inv.Cd (I:Inv X pins σ H s):s.heap.FunFrames X.base X.outer:=by
 have all:∀ (l:List Env),(∀ b∈frs l,b∈X.fs)->X.s₀.heap.FunFrames X.base l->s.heap.FunFrames X.base l:=by
  intro l
  induction l with
  |nil=>intro _ _;trivial
  |cons env r ih=>
   intro hs hl
   obtain⟨hk,⟨L,o,hf,hn,ho,hd⟩,hr⟩:=hl
   have hL:L∈X.fs:=hs L (by unfold frs;rw[kB,hf];exact ze)
   obtain⟨sl,e⟩:=I.base.slot L o ho (I.ok.frf L hL) hL fun z=>I.ok.Y6 L z hL
   exact⟨hk,⟨L,_,hf,hn,e,hd⟩,ih (fun b hb=>hs b (by unfold frs;rw[kB,hf];exact zh _ hb)) hr⟩
 exact all X.outer (fun _ hb=>hb) I.ok.Cd
theorem Inv.stack (I:Inv X pins σ H s):s.heap.FunFrames X.base X.stack:=by
 rcases I.ok.stk with e|⟨e,hf⟩
 ·rw[e];exact I.Cd
 ·rw[e]
  obtain⟨m,hn,_⟩:=I.loc
  refine .cons (by rw[I.ok.kind];decide) hf hn ?_ I.Cd
  exact Heap.get?_none_of_le (Zl I.ok.YT I.ok.above)
theorem Inv.JW (I:Inv X pins σ H s):∀ b∈frs X.stack,b∈X.env.locals::X.fs:=fun b hb=>by
 rcases I.ok.stk with e|⟨e,hf⟩
 ·rw[e] at hb;exact zh _ hb
 ·rw[e] at hb
  unfold frs at hb
  rw[kB,hf] at hb
  exact hb
theorem Inv.RD (I:Inv X pins σ H s):∀ b∈frs X.stack,H b=none:=fun b hb=>by
 rcases List.mem_cons.mp (I.JW b hb) with e|hb
 ·rw[e];exact I.free
 ·obtain⟨_,o,ho,_⟩:=I.ok.Cd.mem hb
  exact I.base.free b o ho (I.ok.frf b hb) fun z=>I.ok.Y6 b z hb
theorem Inv.step {g':Array GenState} {t':Nat} {d':Drawn} {ch:List Addr} (I:Inv X pins σ H s)
  (hch:∀ b∈ch,(b∈X.ex\/X.s₀.heap.objs.size<=b)/\b≠X.env.locals/\(∀ x c,X.env.cells.lookup x=some c->c≠b)/\∀ p∈X.pn++pins,p.1≠b)
  (keep:∀ b o,b≠X.env.locals->b∉X.fs->b∉ch->s.heap.get? b=some o->H b=none->h'.get? b=some o)
  (slot:∀ b o,b≠X.env.locals->b∈X.fs->b∉ch->s.heap.get? b=some o->H b=none->∃ sl,h'.get? b=some { o with slots:=sl }) (free:∀ b o,b∉ch->s.heap.get? b=some o->H b=none->H' b=none)
  (there:∀ b o,b∉ch->s.heap.get? b=some o->∃ o',h'.get? b=some o')
  (tups:∀ b xs,H b=some (.tup xs)->H' b=some (.tup xs)) (wM:∀ b o u,H b=some (.n8 o u)->H' b=some (.n8 o u)) (yx:∀ b ps,H b=some (.tbl ps)->∃ more,H' b=some (.tbl (ps++more)))
  (ns:∀ m,s.heap.Ns X.env.locals m->h'.Ns X.env.locals m) (hok:xM X.prog X.w H' h') (hg:AllBare g') :
  Inv X pins σ H' { s with heap:=h',gens:=g',drawn:=d',toks:=t' }:=by
 have neL:∀ b o,X.s₀.heap.get? b=some o->b≠X.env.locals:=fun b o e=>zI (Zs (zz e) I.ok.above)
 have neC:∀ b o,X.s₀.heap.get? b=some o->b∉X.ex->b∉ch:=fun b o e hx hb=>by
  rcases (hch b hb).1 with z|z
  ·exact hx z
  ·exact absurd (Zs (zz e) z) (JA _)
 have cellK:∀ x c,X.env.cells.lookup x=some c->∀ v,s.heap.IsCell c v->h'.IsCell c v:=fun x c e v ⟨o,ho,hd⟩=>by
  have nch:c∉ch:=fun z=>(hch c z).2.2.1 x c e rfl
  by_cases hc:c∈X.fs
  ·obtain⟨sl,q⟩:=slot c o (I.cne x c e) hc nch ho (I.qb x c e)
   exact⟨_,q,hd⟩
  ·exact⟨o,keep c o (I.cne x c e) hc nch ho (I.qb x c e),hd⟩
 refine⟨I.ok,I.os,hg,⟨fun b o e n hb hx=>?_,fun b o e n hb hx=>?_,fun b o e n hx=>?_,fun b o e hx=>?_,fun b xs e=>tups b xs (I.base.tups b xs e),fun b o xs e=>wM b o xs (I.base.wM b o xs e),fun b ps e=>?_⟩,?_,fun x c e=>?_,?_,fun x c e=>?_,fun p hp=>?_,hok,I.len⟩
 ·exact keep b o (neL b o e) hb (neC b o e hx) (I.base.keep b o e n hb hx) (I.base.free b o e n hx)
 ·obtain⟨sl,e1⟩:=I.base.slot b o e n hb hx
  obtain⟨sl',e2⟩:=slot b _ (neL b o e) hb (neC b o e hx) e1 (I.base.free b o e n hx)
  exact⟨sl',e2⟩
 ·obtain⟨o',e1⟩:=I.base.there b o e hx
  exact free b o' (neC b o e hx) e1 (I.base.free b o e n hx)
 ·obtain⟨o',e1⟩:=I.base.there b o e hx
  exact there b o' (neC b o e hx) e1
 ·obtain⟨m1,e1⟩:=I.base.yx b ps e
  obtain⟨m2,e2⟩:=yx b _ e1
  exact⟨m1++m2,by rw[e2,Array.append_assoc]⟩
 ·obtain⟨m,hn,hl⟩:=I.loc
  refine⟨m,ns m hn,fun i x v e1 e2 e3=>?_⟩
  obtain⟨u,r,l⟩:=hl i x v e1 e2 e3
  refine⟨u,r,?_⟩
  rcases l with l|⟨k,c,e,z⟩
  ·exact .inl l
  ·exact .inr ⟨k,c,e,cellK x c e _ z⟩
 ·obtain⟨v,z⟩:=I.cell x c e
  exact⟨v,cellK x c e v z⟩
 ·obtain⟨m,⟨o,_,_,ho,_⟩,_⟩:=I.loc
  exact free _ o (fun z=>(hch _ z).2.1 rfl) ho I.free
 ·obtain⟨v,o,ho,hd⟩:=I.cell x c e
  exact free c o (fun z=>(hch c z).2.2.1 x c e rfl) ho (I.qb x c e)
 ·obtain⟨e,n,ne,nf,d⟩:=I.pin p hp
  have nch:p.1∉ch:=fun z=>(hch p.1 z).2.2.2 p hp rfl
  exact⟨keep p.1 p.2 ne nf nch e n,free p.1 p.2 nch e n,ne,nf,d⟩
theorem Inv.un {t':Nat} (I:Inv X pins σ H s) (u:Un X.fs [] H H' s.heap h') (hok:xM X.prog X.w H' h'):Inv X pins σ H' { s with heap:=h',toks:=t' }:=by
 obtain⟨m,⟨o,es,ep,ho,r⟩,_⟩:=id I.loc
 obtain⟨sl,hL⟩:=u.any ho I.free (by simp)
 exact I.step (g':=s.gens) (d':=s.drawn) (ch:=[]) (fun _ z=>nomatch z) (fun b o _ hb _ e n=>u.keep b o e n hb (by simp)) (fun b o _ hb _ e n=>u.slot b o e n hb (by simp)) (fun b o _ e n=>u.free b o e n (by simp)) (fun b o _ e=>u.there b o e (by simp)) u.tups u.wM u.yx (fun m' hm=>by
  obtain⟨o',es',ep',ho',r'⟩:=hm
  rw[ho] at ho';cases ho'
  exact⟨_,es',ep',hL,r'⟩) hok I.bare
theorem Inv.call {g':Array GenState} {t':Nat} {d':Drawn} {ch:List Addr} (I:Inv X pins σ H s) (u:Un (frs X.stack) ch H H' s.heap h') (hok:xM X.prog X.w H' h') (hg:AllBare g')
  (hch:∀ b∈ch,(b∈X.ex\/X.s₀.heap.objs.size<=b)/\b≠X.env.locals/\(∀ x c,X.env.cells.lookup x=some c->c≠b)/\∀ p∈X.pn++pins,p.1≠b) :
  Inv X pins σ H' { s with heap:=h',gens:=g',drawn:=d',toks:=t' }:=by
 obtain⟨m,⟨o,es,ep,ho,r⟩,_⟩:=id I.loc
 obtain⟨sl,hL⟩:=u.any ho I.free fun z=>(hch _ z).2.1 rfl
 exact I.step (ch:=ch) hch (fun b o hL hb hc e n=>u.keep b o e n (fun z=>(List.mem_cons.mp (I.JW b z)).elim hL hb) hc) (fun b o _ _ hc e n=>u.any e n hc) (fun b o hc e n=>u.free b o e n hc) (fun b o hc e=>u.there b o e hc) u.tups u.wM u.yx (fun m' hm=>by
  obtain⟨o',es',ep',ho',r'⟩:=hm
  rw[ho] at ho';cases ho'
  exact⟨_,es',ep',hL,r'⟩) hok hg
theorem Inv.turned {t':Nat} {it:Addr} (I:Inv X pins σ H s) (k:∀ b o,b≠it->s.heap.get? b=some o->h'.get? b=some o) (hn:H it=none) (hL:it≠X.env.locals)
  (h1:it∈X.ex\/X.s₀.heap.objs.size<=it) (h2:∀ x c,X.env.cells.lookup x=some c->c≠it) (h3:∀ p∈X.pn++pins,p.1≠it):Inv X pins σ H { s with heap:=h',toks:=t' }:=by
 have nit:∀ b u,H b=some u->b≠it:=fun b u e z=>by rw[z,hn] at e;cases e
 refine I.step (g':=s.gens) (d':=s.drawn) (ch:=[it]) (fun b hb=>?_) (fun b o _ _ hc e _=>k b o (fun z=>hc (by simp[z])) e) (fun b o _ _ hc e _=>⟨o.slots,k b o (fun z=>hc (by simp[z])) e⟩) (fun _ _ _ _ n=>n)
  (fun b o hc e=>⟨o,k b o (fun z=>hc (by simp[z])) e⟩) (fun _ _ e=>e) (fun _ _ _ e=>e) (fun b ps e=>⟨#[],by rw[e];simp⟩) (fun m hm=>?_) (fun b u e=>?_) I.bare
 ·have e:b=it:=by simpa using hb
  subst e
  exact⟨h1,hL,h2,h3⟩
 ·obtain⟨o,es,ep,ho,r⟩:=hm
  exact⟨o,es,ep,k _ o (kM hL) ho,r⟩
 ·refine (I.hok b u e).stay (fun c v hc q=>k c v ?_ q) (fun _ q=>q) fun _ _ q=>q
  rcases hc with z|z
  ·rw[z];exact nit b u e
  ·exact nit c _ z
theorem Inv.tok (I:Inv X pins σ H s) (t:Nat):Inv X pins σ H { s with toks:=t }:=I.un (h':=s.heap) (t':=t) Un.refl I.hok
theorem Inv.kept {t':Nat} (I:Inv X pins σ H s) (k:∀ b u,s.heap.get? b=some u->h'.get? b=some u):Inv X pins σ H { s with heap:=h',toks:=t' }:=I.un (Un.kept k) (I.hok.kept k)
theorem Inv.laid {a:Addr} {o:HO} {t':Nat} (I:Inv X pins σ H s) (k:∀ b u,s.heap.get? b=some u->h'.get? b=some u) (hp:s.heap.objs.size<=a) (new:fu X.prog X.w (upd H a o) h' a o) :
  Inv X pins σ (upd H a o) { s with heap:=h',toks:=t' }:=I.un (Un.laid k hp (I.hok.fresh hp)) (I.hok.laid k hp new)
theorem Inv.write {x e:Addr} {o:HO} {t':Nat} (I:Inv X pins σ H s) (mu:Mut (H x)) (he:e=x\/H e=some (.own x)) (k:∀ b u,b≠e->s.heap.get? b=some u->h'.get? b=some u) (heo:∃ u,h'.get? e=some u)
  (new:fu X.prog X.w (upd H x o) h' x o):Inv X pins σ (upd H x o) { s with heap:=h',toks:=t' }:=I.un (Un.write mu he k heo) (I.hok.write mu he k heo new)
theorem Inv.weak {σ':List (Option V)} (I:Inv X pins σ H s) (hl:σ'.length=σ.length) (w:∀ (i:Nat) v,σ'[i]?=some (some v)->σ[i]?=some (some v)):Inv X pins σ' H s:=
 ⟨I.ok,I.os,I.bare,I.base,let ⟨m,hn,hl'⟩:=I.loc;⟨m,hn,fun i x v e1 e2 e3=>hl' i x v e1 (w i v e2) e3⟩,I.cell,I.free,I.qb,I.pin,I.hok,hl.trans I.len⟩
theorem Inv.JX {abg:List (Addr×Obj)} (I:Inv X pins σ H s) (h:∀ p∈abg,s.heap.get? p.1=some p.2/\H p.1=none/\p.1≠X.env.locals/\p.1∉X.fs/\∀ v,p.2.data≠.cell v):Inv X abg σ H s:=
 ⟨I.ok,I.os,I.bare,I.base,I.loc,I.cell,I.free,I.qb,fun p hp=>(List.mem_append.mp hp).elim (fun z=>I.pin p (ku _ z)) (h p),I.hok,I.len⟩
theorem Ml {N:LS_} (hN:N.Nodup) {i j:Nat} {x:Str} (a:N[i]?=some x) (b:N[j]?=some x):i=j:=by
 obtain⟨h1,e1⟩:=List.getElem?_eq_some_iff.mp a
 obtain⟨h2,e2⟩:=List.getElem?_eq_some_iff.mp b
 exact (List.getElem_inj hN).mp (e1.trans e2.symm)
theorem TY {M:Model} {A:Around} {E:VP_} {i:Nat} {x:Str} {v:V} {u:Value} {Q:Unit->Shared->Prop} (I:Inv X pins σ H s) (hN:X.N.Nodup) (hi:X.N[i]?=some x) (hx:Loc X.env.scope x) (r:RelV v u)
  (h:∀ s',Inv X pins (σ.set i (some v)) H s'->(∃ a,Heap.SameBut a s.heap s'.heap/\(a=X.env.locals\/X.env.cells.lookup x=some a))->Q () s') (hf:X.fn x=true\/X.env.scope.names.lookup x=some .local:=by first|exact .inl rfl|exact .inr rfl|assumption):wpAny M A (storeName X.env x u) Q E s:=by
 obtain⟨m,hn,hl⟩:=id I.loc
 have hcls:(X.env.scope.kind==.class||(X.env.scope.kind==.module&&X.env.locals != X.env.globals))=false:=by rw[I.ok.kind];rfl
 have hiσ:i < σ.length:=by rw[I.len];exact (List.getElem?_eq_some_iff.mp hi).1
 have cne:=I.cne
 have tracked:∀ {a:Addr} {h':Heap},(∃ o,s.heap.get? a=some o/\H a=none)->Heap.SameBut a s.heap h'->xM X.prog X.w H h':=fun {a h'} ha hs b ob e=>by
  obtain⟨_,_,hfree⟩:=ha
  refine (I.hok b ob e).stay (fun c w' hc q=>(hs.2 c ?_).trans q) (fun _ q=>q) fun _ _ q=>q
  rintro rfl
  rcases hc with rfl|hc
  ·rw[hfree] at e;cases e
  ·rw[hfree] at hc;cases hc
 rcases hx with hk|hk
 ·refine wpAny_storeName_local hk hn (fun h' hn' hs=>?_) hcls
  obtain⟨oL,_,_,hoL,_⟩:=id hn
  refine h _ ⟨I.ok,I.os,I.bare,⟨fun b o e n hb hx=>?_,fun b o e n hb hx=>?_,I.base.free,fun b o e hx=>?_,I.base.tups,I.base.wM,I.base.yx⟩,⟨_,hn',fun j y v' e1 e2 e3=>?_⟩,fun y c e=>?_,I.free,I.qb,fun p hp=>?_,tracked ⟨oL,hoL,I.free⟩ hs,by simpa using I.len⟩ ⟨_,hs,.inl rfl⟩
  ·exact (hs.2 b (zI (Zs (zz e) I.ok.above))).trans (I.base.keep b o e n hb hx)
  ·obtain⟨sl,e1⟩:=I.base.slot b o e n hb hx
   exact⟨sl,(hs.2 b (zI (Zs (zz e) I.ok.above))).trans e1⟩
  ·obtain⟨o',e1⟩:=I.base.there b o e hx
   exact⟨o',(hs.2 b (zI (Zs (zz e) I.ok.above))).trans e1⟩
  ·by_cases hj:j=i
   ·subst hj
    rw[hi] at e1;cases e1
    rw[List.getElem?_set_self hiσ] at e2
    cases e2
    exact⟨u,r,.inl ⟨hk,by simp⟩⟩
   ·rw[List.getElem?_set_ne (kM hj)] at e2
    obtain⟨u',r',q⟩:=hl j y v' e1 e2 e3
    refine⟨u',r',?_⟩
    rcases q with⟨k,e⟩|⟨k,c,e,z⟩
    ·refine .inl ⟨k,?_⟩
     have:y≠x:=fun e=>hj (Ml hN e1 (e▸hi))
     simp[this,e]
    ·exact .inr ⟨k,c,e,z.sameBut hs (cne y c e)⟩
  ·obtain⟨w',z⟩:=I.cell y c e
   exact⟨w',z.sameBut hs (cne y c e)⟩
  ·obtain⟨e,n,ne,nf,d⟩:=I.pin p hp
   exact⟨(hs.2 p.1 ne).trans e,n,ne,nf,d⟩
 ·have hfn:X.fn x=true:=by
   rcases hf with z|z
   ·exact z
   ·rw[z] at hk;cases hk
  obtain⟨c,hc⟩:=I.ok.has x (.inl hk)
  obtain⟨w',z⟩:=I.cell x c hc
  refine wpAny_storeName_cell I.ok.kind hk hc z (fun h' hc' hs=>?_)
  obtain⟨oc,hoc,agT⟩:=id z
  refine h { s with heap:=h' } ⟨I.ok,I.os,I.bare,⟨fun b o e n hb hx=>?_,fun b o e n hb hx=>?_,I.base.free,fun b o e hx=>?_,I.base.tups,I.base.wM,I.base.yx⟩,⟨m,hn.sameBut hs (kM (cne x c hc)),fun j y v' e1 e2 e3=>?_⟩,fun y c' e=>?_,I.free,I.qb,fun p hp=>?_,tracked ⟨oc,hoc,I.qb x c hc⟩ hs,by simpa using I.len⟩ ⟨c,hs,.inr hc⟩
  ·exact (hs.2 b (zI (Zs (zz e) (I.ok.cab x c hfn hc)))).trans (I.base.keep b o e n hb hx)
  ·obtain⟨sl,e1⟩:=I.base.slot b o e n hb hx
   exact⟨sl,(hs.2 b (zI (Zs (zz e) (I.ok.cab x c hfn hc)))).trans e1⟩
  ·obtain⟨o',e1⟩:=I.base.there b o e hx
   exact⟨o',(hs.2 b (zI (Zs (zz e) (I.ok.cab x c hfn hc)))).trans e1⟩
  ·by_cases hj:j=i
   ·subst hj
    rw[hi] at e1;cases e1
    rw[List.getElem?_set_self hiσ] at e2
    cases e2
    exact⟨u,r,.inr ⟨.inl hk,c,hc,hc'⟩⟩
   ·rw[List.getElem?_set_ne (kM hj)] at e2
    obtain⟨u',r',q⟩:=hl j y v' e1 e2 e3
    refine⟨u',r',?_⟩
    rcases q with q|⟨k,c',e,z'⟩
    ·exact .inl q
    ·refine .inr ⟨k,c',e,z'.sameBut hs ?_⟩
     rintro rfl
     exact hj (Ml hN e1 (I.ok.inj _ _ _ e hc▸hi))
  ·by_cases hcc:c'=c
   ·subst hcc;exact⟨_,hc'⟩
   ·obtain⟨w2,z2⟩:=I.cell y c' e
    exact⟨w2,z2.sameBut hs hcc⟩
  ·obtain⟨e,n,ne,nf,d⟩:=I.pin p hp
   refine⟨(hs.2 p.1 ?_).trans e,n,ne,nf,d⟩
   intro q
   rw[q,hoc] at e
   have q':oc=p.2:=JP e
   exact d w' (by rw[<-q'];exact agT)
theorem yC {M:Model} {A:Around} {E:VP_} {i:Nat} {x:Str} {v:V} {u:Value} {Q:Unit->Shared->Prop} (I:Inv X pins σ H s) (hN:X.N.Nodup) (hi:X.N[i]?=some x) (hx:Loc X.env.scope x) (r:RelV v u)
  (h:∀ s',Inv X pins (σ.set i (some v)) H s'->Q () s') (hf:X.fn x=true\/X.env.scope.names.lookup x=some .local:=by first|exact .inl rfl|exact .inr rfl|assumption):wpAny M A (storeName X.env x u) Q E s:=
 TY I hN hi hx r (fun s' I' _=>h s' I') hf
theorem Inv.call' {s':Shared} {ch:List Addr} (I:Inv X pins σ H s) (ho:s'.os=s.os) (u:Un (frs X.stack) ch H H' s.heap s'.heap) (hok:xM X.prog X.w H' s'.heap) (hg:AllBare s'.gens)
  (hch:∀ b∈ch,(b∈X.ex\/X.s₀.heap.objs.size<=b)/\b≠X.env.locals/\(∀ x c,X.env.cells.lookup x=some c->c≠b)/\∀ p∈X.pn++pins,p.1≠b):Inv X pins σ H' s':=by
 obtain⟨h',g',d',t',o'⟩:=s'
 have e:o'=s.os:=ho
 subst e
 exact I.call (g':=g') (t':=t') (d':=d') u hok hg hch
end
abbrev XK:=Value->Option Addr->Hp->Prop
abbrev St:=List (Option V)
abbrev VK:=V->Hp->Prop
abbrev TE:=St->Hp->VK->Prop
abbrev TT:=St->Hp->(Bool->Hp->Prop)->Prop
abbrev TA:=St->Hp->(List V->Hp->Prop)->Prop
structure Ends where
 nx:St->Hp->Prop
 rt:VK
 bk:St->Hp->Prop:=fun _ _=>False
 ct:St->Hp->Prop:=fun _ _=>False
abbrev TS:=Ends->St->Hp->Prop
def EP (X:Cx) (pins:List (Addr×Obj)) (σ:St) (Q:VK) (u:Value) (s':Shared):Prop:=∃ v H',Inv X pins σ H' s'/\RelV v u/\Q v H'
def TP (X:Cx) (pins:List (Addr×Obj)) (σ:St) (Q:Bool->Hp->Prop) (b:Bool) (s':Shared):Prop:=∃ H',Inv X pins σ H' s'/\Q b H'
def AP (X:Cx) (pins:List (Addr×Obj)) (σ:St) (Q:List V->Hp->Prop) (us:List Value) (s':Shared):Prop:=∃ vs H',Inv X pins σ H' s'/\Vals vs us/\Q vs H'
def SP (X:Cx) (pins:List (Addr×Obj)) (D:Ends) (f:Flow) (s':Shared):Prop:=
 match f with
 |.next=>∃ σ' H',Inv X pins σ' H' s'/\D.nx σ' H'
 |.brk=>∃ σ' H',Inv X pins σ' H' s'/\D.bk σ' H'
 |.cont=>∃ σ' H',Inv X pins σ' H' s'/\D.ct σ' H'
 |.ret u=>∃ v σ' H',Inv X pins σ' H' s'/\RelV v u/\D.rt v H'
def PE (X:Cx) (e:Expr) (t:TE):Prop:=
 ∀ (pins:List (Addr×Obj)) (s:Shared) (σ:St) (H:Hp) (Q:VK),Inv X pins σ H s->t σ H Q->wpAny (model X.prog X.w) X.A (eval e X.env) (EP X pins σ Q) X.xe s
def PT (X:Cx) (e:Expr) (t:TT):Prop:=
 ∀ (pins:List (Addr×Obj)) (s:Shared) (σ:St) (H:Hp) (Q:Bool->Hp->Prop),Inv X pins σ H s->t σ H Q->wpAny (model X.prog X.w) X.A (isTrue e X.env (eval e X.env)) (TP X pins σ Q) X.xe s
def PW (X:Cx) (e:Expr) (t:TT):Prop:=
 ∀ (whole:Sem Value) (pins:List (Addr×Obj)) (s:Shared) (σ:St) (H:Hp) (Q:Bool->Hp->Prop),Inv X pins σ H s->t σ H Q->wpAny (model X.prog X.w) X.A (isTrue e X.env whole) (TP X pins σ Q) X.xe s
theorem PW.pt {X:Cx} {e:Expr} {t:TT} (h:PW X e t):PT X e t:=h _
def PA (X:Cx) (es:List Expr) (t:TA):Prop:=
 ∀ (pos:Pos) (pins:List (Addr×Obj)) (s:Shared) (σ:St) (H:Hp) (Q:List V->Hp->Prop),Inv X pins σ H s->t σ H Q->wpAny (model X.prog X.w) X.A (spliced (backTo pos (starEach es X.env))) (AP X pins σ Q) X.xe s
def PS (X:Cx) (st:Stmt) (t:TS):Prop:=
 ∀ (pins:List (Addr×Obj)) (s:Shared) (σ:St) (H:Hp) (D:Ends),Inv X pins σ H s->t D σ H->wpAny (model X.prog X.w) X.A (exec st X.env) (SP X pins D) X.xe s
def Pr (X:Cx) (st:List Stmt) (t:TS):Prop:=
 ∀ (pins:List (Addr×Obj)) (s:Shared) (σ:St) (H:Hp) (D:Ends),Inv X pins σ H s->t D σ H->wpAny (model X.prog X.w) X.A (execs st X.env) (SP X pins D) X.xe s
theorem j9 {α:Type} {t:Sem α} {Q Q':α->Shared->Prop} {M:Model} {A:Around} {E:VP_} {s:Shared} (h:wpAny M A t Q E s) (hQ:∀ a s,Q a s->Q' a s):wpAny M A t Q' E s:=qo h hQ fun _ _ x=>x
end L2
namespace L2
open PySem PySem.Spec PyProof.Rows
section
variable {X:Cx}
def Y7 (i:Nat):TE:=fun σ H Q=>∃ v,σ[i]?=some (some v)/\Q v H
def tC (v:V):TE:=fun _ H Q=>Q v H
theorem tu {i:Nat} {x:Str} {pos:Pos} (hN:X.N[i]?=some x) (hv:Vr X.env.scope x) (hd:(x==("__debug__" : Str))=false:=by decide) (hcd:(x==("__classdict__" : Str))=false:=by decide):PE X (.Name x pos) (Y7 i):=by
 intro pins s σ H Q I h
 obtain⟨v,e,h⟩:=h
 obtain⟨m,hn,hl⟩:=I.loc
 obtain⟨u,r,l⟩:=hl i x v hN e hv
 have fin:EP X pins σ Q u s:=⟨v,H,I,r,h⟩
 rcases l with⟨hk,hm⟩|⟨hk,c,hc,hcell⟩
 ·exact wpAny_Name (wpAny_loadName_local I.ok.kind hk hn hm fin) hd
 ·rcases hk with hk|hk
  ·exact wpAny_Name (wpAny_loadName_cell I.ok.kind hk hc hcell fin) hd
  ·exact wpAny_Name (wpAny_loadName_free I.ok.kind hk hc hcell fin hcd) hd
theorem ab4 {i j pos}:PE X (.Constant (.int i) j pos) (tC (.int i)):=fun _ _ _ H _ I h=>wpAny_Constant_int ⟨.int i,H,I.tok _,⟨_,rfl⟩,h⟩
theorem aeH {b j pos}:PE X (.Constant (.bool b) j pos) (tC (.bl b)):=fun _ _ _ H _ I h=>Constant_bool ⟨.bl b,H,I,rfl,h⟩
theorem ab5 {x j pos}:PE X (.Constant (.str x) j pos) (tC (.str x)):=fun _ _ _ H _ I h=>Calls.Constant_str ⟨.str x,H,I.tok _,⟨_,rfl⟩,h⟩
def Gl (X:Cx) (x:Str):Prop:=X.env.kindOf x=some .globalImplicit
theorem Y8 {E:VP_} {pins:List (Addr×Obj)} {s:Shared} {σ:St} {H:Hp} {x:Str} {u:Value} {pos:Pos} {Q:VP_} (I:Inv X pins σ H s) (hg:Gl X x) (hm:X.mg x=some u) (h:Q u s)
  (hd:(x==("__debug__" : Str))=false:=by decide):wpAny (model X.prog X.w) X.A (eval (.Name x pos) X.env) Q E s:=
 Calls.Name_function_global I.ok.kind hg (Calls.loadGlobal_global (by rw[I.ok.glob];exact I.mod.glob.keeps I.bk) hm h) hd
theorem Dp {E:VP_} {pins:List (Addr×Obj)} {s:Shared} {σ:St} {H:Hp} {x:Str} {u:Value} {pos:Pos} {Q:VP_} (I:Inv X pins σ H s) (hg:Gl X x) (hm:X.mg x=none) (hv:bootBuiltins x=some u) (h:Q u s)
  (hn:x ≠ "__name__" := by decide) (hd:(x==("__debug__" : Str))=false:=by decide):wpAny (model X.prog X.w) X.A (eval (.Name x pos) X.env) Q E s:=by
 obtain⟨mb,h1,h2⟩:=I.mod.blt
 exact Calls.Name_function_global I.ok.kind hg (Calls.loadGlobal_builtin (by rw[I.ok.glob];exact I.mod.glob.keeps I.bk) hm (by rw[I.ok.blt];exact h1.keeps I.bk) ((h2 x hn).trans hv) h) hd
theorem Y9 {x:Str} {v:V} {u:Value} {pos:Pos} (hg:Gl X x) (hm:X.mg x=none) (hv:bootBuiltins x=some u) (r:RelV v u) (hn:x ≠ "__name__" := by decide) (hd:(x==("__debug__" : Str))=false:=by decide):PE X (.Name x pos) (tC v):=
 fun _ _ _ H _ I h=>Dp I hg hm hv ⟨v,H,I,r,h⟩ hn hd
variable {a b:Expr} {ta tb:TE} {pos:Pos}
variable {tA tB':TT} {rest:List Expr}
def aeI (t u:TT):TT:=fun σ H Q=>t σ H fun c H1=>if c=true then u σ H1 Q else Q false H1
def tOr (t u:TT):TT:=fun σ H Q=>t σ H fun c H1=>if c=true then Q true H1 else u σ H1 Q
def agU (t:TT):TT:=fun σ H Q=>t σ H fun c H1=>Q (!c) H1
theorem Za (ha:PT X a tA):PW X (.BoolOp .And [a] pos) tA:=by
 intro wh pins s σ H Q I h
 refine isTrue_and (j9 (ha pins s σ H Q I h) fun c s1 e=>?_)
 cases c with
 |true=>exact isTrue_and_nil e
 |false=>exact e
theorem ab6 (ha:PT X a tA):PW X (.BoolOp .Or [a] pos) tA:=by
 intro wh pins s σ H Q I h
 refine isTrue_or (j9 (ha pins s σ H Q I h) fun c s1 e=>?_)
 cases c with
 |false=>exact isTrue_or_nil e
 |true=>exact e
theorem ab7 (ha:PT X a tA) (hb:PW X (.BoolOp .And (b::rest) pos) tB'):PW X (.BoolOp .And (a::b::rest) pos) (aeI tA tB'):=by
 intro wh pins s σ H Q I h
 refine isTrue_and (j9 (ha pins s σ H _ I h) fun c s1 ⟨H1,I1,q1⟩=>?_)
 cases c with
 |true=>exact hb wh pins s1 σ H1 Q I1 q1
 |false=>exact⟨H1,I1,q1⟩
theorem aeJ (ha:PT X a tA) (hb:PW X (.BoolOp .Or (b::rest) pos) tB'):PW X (.BoolOp .Or (a::b::rest) pos) (tOr tA tB'):=by
 intro wh pins s σ H Q I h
 refine isTrue_or (j9 (ha pins s σ H _ I h) fun c s1 ⟨H1,I1,q1⟩=>?_)
 cases c with
 |true=>exact⟨H1,I1,q1⟩
 |false=>exact hb wh pins s1 σ H1 Q I1 q1
theorem ab8 (ha:PT X a tA):PT X (.UnaryOp .Not a pos) (agU tA):=by
 intro pins s σ H Q I h
 exact isTrue_not (ha pins s σ H (fun c H1=>Q (!c) H1) I h)
def aeK (ta tb:TE):TE:=fun σ H Q=>ta σ H fun x H1=>∃ c,x=.bl c/\if c=true then tb σ H1 Q else Q (.bl false) H1
theorem ab9 {op} {t:TE} (h:PE X a t):PE X (.BoolOp op [a] pos) t:=fun pins s σ H Q I hw=>BoolOp_one (h pins s σ H Q I hw)
theorem acd (ha:PE X a ta) (hb:PE X (.BoolOp .And (b::rest) pos) tb):PE X (.BoolOp .And (a::b::rest) pos) (aeK ta tb):=by
 intro pins s σ H Q I h
 refine BoolOp_and (j9 (ha pins s σ H _ I h) fun v s1 ⟨x,H1,I1,r1,q1⟩=>?_)
 obtain⟨c,rfl,q1⟩:=q1
 cases r1
 refine kQ ?_
 cases c with
 |true=>exact hb pins s1 σ H1 Q I1 q1
 |false=>exact⟨.bl false,H1,I1,rfl,q1⟩
end
end L2
namespace L2
open PySem PySem.Spec PyProof.Rows
def rE (K:FG_) (H:Hp) (a:Addr) (xs:List V):Prop:=
 Rd H a (.lst xs) ∨
  ∃ (o:Obj) (its:Array Value) (n:Nat),K.lookup a=some o/\o.cls=.type "list" ∧ o.dict=none/\o.data=.seq its n/\its.size<=sizeLine/\Vals xs its.toList
def xO (K:FG_) (H:Hp) (a:Addr) (xs:List V):Prop:=
 Rd H a (.tup xs) ∨
  ∃ (o:Obj) (its:Array Value) (n:Nat),K.lookup a=some o/\(o.cls=.type "tuple" ∧ o.dict=none)/\o.data=.seq its n/\its.size<=sizeLine/\Vals xs its.toList
def ace:Value->Option V
 |.none=>some .non
 |.bool b=>some (.bl b)
 |.int i _=>some (.int i)
 |.str x _=>some (.str x)
 |.bytes b _=>some (.byt b)
 |.float b _=>some (.flt b)
 |.ref a=>some (.ref a)
 |.type n=>some (.ty n)
 |_=>none
theorem RelV.abs {x:V} {u:Value} (r:RelV x u):ace u=some x:=by
 cases x with
 |non=>cases r;rfl
 |bl _=>cases r;rfl
 |int _=>obtain⟨t,rfl⟩:=r;rfl
 |str _=>obtain⟨t,rfl⟩:=r;rfl
 |byt _=>obtain⟨t,rfl⟩:=r;rfl
 |flt _=>obtain⟨t,rfl⟩:=r;rfl
 |ref _=>cases r;rfl
 |ty _=>cases r;rfl
theorem RelV.inj {x y:V} {u:Value} (r:RelV x u) (q:RelV y u):x=y:=JP (r.abs.symm.trans q.abs)
theorem Vals.inj:∀ {xs ys:List V} {us:List Value},Vals xs us->Vals ys us->xs=ys
 |_,_,_,.nil,.nil=>rfl
 |_,_,_,.cons r t,.cons r' t'=>by rw[r.inj r',Vals.inj t t']
section
variable {X:Cx} {pins:List (Addr×Obj)} {σ:St} {H:Hp} {s:Shared} {a:Addr} {xs ys:List V}
theorem rE.of {K:FG_} (h:H a=some (.lst xs)):rE K H a xs:=.inl (.inl h)
theorem xO.of {K:FG_} (h:H a=some (.tup xs)):xO K H a xs:=.inl (.inl h)
theorem Inv.list (I:Inv X pins σ H s) (h:rE X.K H a xs):∃ its:List Value,Vals xs its/\PlainL s.heap a its.toArray/\xs.length<=sizeLine:=by
 rcases h with h|⟨o,its,n,hk,hc,hd,hs,hz,r⟩
 ·obtain⟨z,its,n,r,e⟩:=h.ok I.hok
  exact⟨its,r,⟨_,n,e,rfl,rfl,rfl⟩,z⟩
 ·refine⟨its.toList,r,⟨o,n,I.kIn a o hk,hc,hd,by simpa using hs⟩,?_⟩
  have e:=r.length
  simp only[ZZ] at e
  omega
theorem Inv.tuple (I:Inv X pins σ H s) (h:xO X.K H a xs):∃ its:List Value,Vals xs its/\IsTup s.heap a its.toArray/\xs.length<=sizeLine:=by
 rcases h with h|⟨o,its,n,hk,hc,hs,hz,r⟩
 ·obtain⟨z,its,r,p⟩:=h.ok I.hok
  exact⟨its,r,p.weak,z⟩
 ·refine⟨its.toList,r,⟨o,I.kIn a o hk,hc.1,n,by simpa using hs⟩,?_⟩
  have e:=r.length
  simp only[ZZ] at e
  omega
theorem Inv.Dq (I:Inv X pins σ H s) (h:rE X.K H a xs) (h':rE X.K H a ys):xs=ys:=by
 obtain⟨its,r,⟨o,n,e,_,_,d⟩,_⟩:=I.list h
 obtain⟨its',r',⟨o',n',e',_,_,d'⟩,_⟩:=I.list h'
 rw[e] at e';cases e'
 rw[d] at d'
 injection d' with d1 _
 have:its=its':=by simpa using congrArg Array.toList d1
 subst this
 exact r.inj r'
theorem Inv.IK (I:Inv X pins σ H s) (h:xO X.K H a xs) (h':xO X.K H a ys):xs=ys:=by
 obtain⟨its,r,⟨o,e,_,n,d⟩,_⟩:=I.tuple h
 obtain⟨its',r',⟨o',e',_,n',d'⟩,_⟩:=I.tuple h'
 rw[e] at e';cases e'
 rw[d] at d'
 injection d' with d1 _
 have:its=its':=by simpa using congrArg Array.toList d1
 subst this
 exact r.inj r'
end
abbrev Cx.wish (X:Cx) (E:VP_):Cx:={ X with xe:=E }
abbrev Cx.Vs (X:Cx):Cx:=X.wish fun _ _=>False
theorem Cx.Ok.wish {X:Cx} (ok:X.Ok) (E:VP_):(X.wish E).Ok:=
 ⟨ok.mod,ok.kind,ok.glob,ok.blt,ok.above,ok.inj,ok.has,ok.cab,ok.hd,ok.frames,ok.stk,ok.exf,ok.bs,ok.YT,ok.VD,ok.Y6,ok.Cd,ok.frf⟩
theorem Cx.Ok.rG {X:Cx} {E:VP_} (ok:(X.wish E).Ok):X.Ok:=
 ⟨ok.mod,ok.kind,ok.glob,ok.blt,ok.above,ok.inj,ok.has,ok.cab,ok.hd,ok.frames,ok.stk,ok.exf,ok.bs,ok.YT,ok.VD,ok.Y6,ok.Cd,ok.frf⟩
section
variable {X:Cx} {pins:List (Addr×Obj)} {σ:St} {H:Hp} {s:Shared} {E:VP_}
theorem Inv.wish (I:Inv X pins σ H s) (E:VP_):Inv (X.wish E) pins σ H s:=⟨I.ok.wish E,I.os,I.bare,I.base,I.loc,I.cell,I.free,I.qb,I.pin,I.hok,I.len⟩
theorem Inv.rG (I:Inv (X.wish E) pins σ H s):Inv X pins σ H s:=⟨I.ok.rG,I.os,I.bare,I.base,I.loc,I.cell,I.free,I.qb,I.pin,I.hok,I.len⟩
theorem SP.rG {D:Ends} {f:Flow} {s':Shared} (h:SP (X.wish E) pins D f s'):SP X pins D f s':=by
 cases f with
 |next=>obtain⟨σ',H',I,q⟩:=h;exact⟨σ',H',I.rG,q⟩
 |brk=>obtain⟨σ',H',I,q⟩:=h;exact⟨σ',H',I.rG,q⟩
 |cont=>obtain⟨σ',H',I,q⟩:=h;exact⟨σ',H',I.rG,q⟩
 |ret u=>obtain⟨v,σ',H',I,r,q⟩:=h;exact⟨v,σ',H',I.rG,r,q⟩
theorem PE.Vs {e:Expr} {t:TE} (h:PE X.Vs e t):PE X e t:=fun pins s σ H Q I hw=>
 qo (h pins s σ H Q (I.wish _) hw) (fun _ _ ⟨v,H',I',r,q⟩=>⟨v,H',I'.rG,r,q⟩) fun _ _ z=>False.elim z
theorem PT.Vs {e:Expr} {t:TT} (h:PT X.Vs e t):PT X e t:=fun pins s σ H Q I hw=>
 qo (h pins s σ H Q (I.wish _) hw) (fun _ _ ⟨H',I',q⟩=>⟨H',I'.rG,q⟩) fun _ _ z=>False.elim z
theorem Pr.Vs {st:List Stmt} {t:TS} (h:Pr X.Vs st t):Pr X st t:=fun pins s σ H D I hw=>
 qo (h pins s σ H D (I.wish _) hw) (fun _ _ q=>q.rG) fun _ _ z=>False.elim z
end
section
variable {X:Cx} {st:Stmt} {rest:List Stmt} {t u:TS} {e:Expr} {te:TE} {pos:Pos}
def aeL:TS:=fun D σ H=>D.nx σ H
def agV (t u:TS):TS:=fun D σ H=>t { D with nx:=u D } σ H
theorem RG:Pr X [] aeL:=fun _ _ σ H _ I h=>wpAny_execs_nil ⟨σ,H,I,h⟩
theorem Dr (h1:PS X st t) (h2:Pr X rest u):Pr X (st::rest) (agV t u):=by
 intro pins s σ H D I h
 refine wpAny_execs_cons (j9 (h1 pins s σ H { D with nx:=u D } I h) fun f s1 q=>?_)
 cases f with
 |next=>
  obtain⟨σ',H',I',q⟩:=q
  exact h2 pins s1 σ' H' D I' q
 |ret v=>exact q
 |brk=>exact q
 |cont=>exact q
theorem RJ (h1:PS X st t):Pr X [st] t:=by
 intro pins s σ H D I h
 refine wpAny_execs_cons (j9 (h1 pins s σ H D I h) fun f s1 q=>?_)
 cases f with
 |next=>exact wpAny_execs_nil q
 |ret v=>exact q
 |brk=>exact q
 |cont=>exact q
theorem Inv.quiet {pins:List (Addr×Obj)} {σ:St} {H:Hp} {s:Shared} (I:Inv X pins σ H s):interactive X.env=false:=by simp[interactive,I.ok.kind]
def aeM (te:TE):TS:=fun D σ H=>te σ H fun _ H1=>D.nx σ H1
theorem JZ (he:PE X e te) (hs:swapsWith e none pos.line X.env=pure false:=by rfl):PS X (.Expr e pos) (aeM te):=by
 intro pins s σ H D I h
 exact wpAny_Expr_any (j9 (he pins s σ H _ I h) fun v s1 ⟨x,H1,I1,r1,q1⟩=>⟨σ,H1,I1,q1⟩) I.quiet hs
def agW (te:TE):TS:=fun D σ H=>te σ H D.rt
theorem VF (he:PE X e te):PS X (.Return (some e) pos) (agW te):=by
 intro pins s σ H D I h
 exact wpAny_Return_some (j9 (he pins s σ H _ I h) fun v s1 ⟨x,H1,I1,r1,q1⟩=>⟨x,σ,H1,I1,r1,q1⟩)
def agX (c:TT) (t u:TS):TS:=fun D σ H=>c σ H fun b H1=>if b=true then t D σ H1 else u D σ H1
theorem abh {c:Expr} {a b:List Stmt} {tc:TT} (hc:PT X c tc) (ha:Pr X a t) (hb:Pr X b u):PS X (.If c a b pos) (agX tc t u):=by
 intro pins s σ H D I h
 refine wpAny_If (j9 (hc pins s σ H _ I h) fun d s1 ⟨H1,I1,q1⟩=>?_)
 cases d with
 |true=>exact ha pins s1 σ H1 D I1 q1
 |false=>exact hb pins s1 σ H1 D I1 q1
end
abbrev TG:=V->St->Hp->(St->Hp->Prop)->Prop
abbrev TGs:=List V->St->Hp->(St->Hp->Prop)->Prop
def PG (X:Cx) (target:Expr) (t:TG):Prop:=
 ∀ (pins:List (Addr×Obj)) (s:Shared) (σ:St) (H:Hp) (v:V) (u:Value) (Q:St->Hp->Prop),Inv X pins σ H s->RelV v u->t v σ H Q →
  wpAny (model X.prog X.w) X.A (assign target X.env u) (fun _ s'=>∃ σ' H',Inv X pins σ' H' s'/\Q σ' H') X.xe s
def T3 (X:Cx) (ts:List Expr) (t:TGs):Prop:=
 ∀ (pins:List (Addr×Obj)) (s:Shared) (σ:St) (H:Hp) (vs:List V) (us:List Value) (Q:St->Hp->Prop),Inv X pins σ H s->Vals vs us->t vs σ H Q →
  wpAny (model X.prog X.w) X.A (assignInOrder ((assignEach ts X.env).map (·.2)) us) (fun _ s'=>∃ σ' H',Inv X pins σ' H' s'/\Q σ' H') X.xe s
section
variable {X:Cx} {pos:Pos}
def abk (i:Nat):TG:=fun v σ H Q=>Q (σ.set i (some v)) H
theorem J0 {i:Nat} {x:Str} (hN:X.N.Nodup) (hi:X.N[i]?=some x) (hx:Loc X.env.scope x) (hf:X.fn x=true\/X.env.scope.names.lookup x=some .local:=by first|exact .inl rfl|exact .inr rfl|assumption):PG X (.Name x pos) (abk i):=by
 intro pins s σ H v u Q I r h
 exact wpAny_assign_Name (yC I hN hi hx r (fun s' I'=>⟨_,H,I',h⟩) hf)
def agY:TGs:=fun vs σ H Q=>vs=[]/\Q σ H
def aeN (t:TG) (u:TGs):TGs:=fun vs σ H Q=>∃ v r,vs=v::r/\t v σ H fun σ' H'=>u r σ' H' Q
theorem Zb:T3 X [] agY:=by
 intro pins s σ H vs us Q I r h
 obtain⟨e,h⟩:=h
 subst e
 cases r
 exact assignInOrder_nil ⟨σ,H,I,h⟩
theorem VG {e:Expr} {es:List Expr} {t:TG} {u:TGs} (h1:PG X e t) (h2:T3 X es u)
  (hs:(assignEach (e::es) X.env).map (·.2)=assign e X.env::(assignEach es X.env).map (·.2):=by rfl):T3 X (e::es) (aeN t u):=by
 intro pins s σ H vs us Q I r h
 obtain⟨v,vr,e1,h⟩:=h
 subst e1
 cases r with
 |cons r rr=>
  rw[hs]
  refine assignInOrder_cons (j9 (h1 pins s σ H _ _ _ I r h) fun _ s1 ⟨σ1,H1,I1,q1⟩=>?_)
  exact h2 pins s1 σ1 H1 _ _ Q I1 rr q1
def agZ (K:FG_) (n:Nat) (t:TGs):TG:=fun v σ H Q=>∃ a xs,v=.ref a/\xO K H a xs/\xs.length=n/\t xs σ H Q
theorem acf {es:List Expr} {k:Nat} {t:TGs} {n:Nat} (hc:X.calm=true) (h:T3 X es t)
  (hn:(assignEach es X.env).length=n:=by rfl) (hst:(assignEach es X.env).findIdx? (·.1)=none:=by rfl):PG X (.Tuple es k pos) (agZ X.K n t):=by
 intro pins s σ H v u Q I r hw
 obtain⟨a,xs,e1,hq,hl,hw⟩:=hw
 subst e1
 cases r
 obtain⟨its,rv,ht,hz⟩:=I.tuple hq
 refine assign_Tuple_tuple (I.ok.hd hc) ht (by simp[hn,<-hl,rv.length]) hst fun h' hx=>?_
 have I1:Inv X pins σ H { s with heap:=h' }:=I.kept (t':=s.toks) fun b o e=>hx b o (zI (zz e)) e
 exact h pins _ σ H xs _ Q I1 (by simpa using rv) hw
def aeO (te:TE) (g:TG):TS:=fun D σ H=>te σ H fun x H1=>g x σ H1 D.nx
theorem acg {tg e:Expr} {te:TE} {g:TG} (he:PE X e te) (hg:PG X tg g) (hs:swapsWithSole [tg] e pos.line X.env=pure false:=by rfl) (hw:swappedStores [tg] e X.env=pure none:=by rfl)
  (h1:(assignEach [tg] X.env).map (·.2)=[assign tg X.env]:=by rfl):PS X (.Assign [tg] e pos) (aeO te g):=by
 intro pins s σ H D I h
 refine wpAny_Assign_stores (j9 (he pins s σ H _ I h) fun v s1 ⟨x,H1,I1,r1,q1⟩=>?_) hs hw
 rw[h1]
 exact j9 (hg pins s1 σ H1 x v _ I1 r1 q1) fun _ s2 q=>q
theorem Pu {i:Nat} {x:Str} {e:Expr} {te:TE} {pos':Pos} (hN:X.N.Nodup) (hi:X.N[i]?=some x) (hx:Loc X.env.scope x) (he:PE X e te) (hs:swapsWith e (some (.Name x pos')) pos.line X.env=pure false:=by rfl) (hf:X.fn x=true\/X.env.scope.names.lookup x=some .local:=by first|exact .inl rfl|exact .inr rfl|assumption) :
  PS X (.Assign [.Name x pos'] e pos) (aeO te (abk i)):=by
 intro pins s σ H D I h
 refine wpAny_Assign_Name (j9 (he pins s σ H _ I h) fun v s1 ⟨y,H1,I1,r1,q1⟩=>?_) hs
 exact yC I1 hN hi hx r1 (fun s2 I2=>⟨_,H1,I2,q1⟩) hf
def ag0 (i j:Nat) (ta:TA):TS:=fun D σ H=>ta σ H fun vs H1=>∃ v w,vs=[v,w]/\D.nx ((σ.set i (some v)).set j (some w)) H1
theorem ach {i j:Nat} {x y:Str} {a b:Expr} {ta:TA} {px py pt:Pos} {kt k2 pt2} (hc:X.calm=true) (hN:X.N.Nodup) (hi:X.N[i]?=some x) (hj:X.N[j]?=some y) (hij:i≠j)
  (hx:X.env.scope.names.lookup x=some .local) (hy:X.env.scope.names.lookup y=some .local) (ha:PA X [a,b] ta)
  (hw:swappedStores [.Tuple [.Name x px,.Name y py] kt pt] (.Tuple [a,b] k2 pt2) X.env=pure (some [x,y]))
  (hs:swapsWithSole [.Tuple [.Name x px,.Name y py] kt pt] (.Tuple [a,b] k2 pt2) pos.line X.env=pure false:=by rfl) :
  PS X (.Assign [.Tuple [.Name x px,.Name y py] kt pt] (.Tuple [a,b] k2 pt2) pos) (ag0 i j ta):=by
 intro pins s σ H D I h
 rw[exec_Assign_arm]
 refine zb (kC ?_)
 rw[hs]
 refine zb (zg ?_)
 rw[zv (by decide)]
 refine zb (Tuple_ (j9 (ha _ pins s σ H _ I h) fun us s1 ⟨vs,H1,I1,r1,q1⟩=>?_))
 obtain⟨v,w,e1,q1⟩:=q1
 subst e1
 obtain⟨u1,u2,rfl,rv,Pn⟩:∃ u1 u2,us=[u1,u2]/\RelV v u1/\RelV w u2:=by
  cases r1 with
  |cons p q=>
   cases q with
   |cons p' q'=>
    cases q'
    exact⟨_,_,rfl,p,p'⟩
 refine qq ?_ (by show 2<=sizeLine;decide)
 have I2:Inv X pins σ H1 { s1 with heap:=s1.heap.push { cls:=.type "tuple", data:=.seq [u1,u2].toArray } }:=I1.kept (t':=s1.toks) fun b o e=>zd _ e
 rw[hw]
 refine zb (zg ?_)
 show wpAny (model X.prog X.w) X.A (do rule "assign.swapped-stores"; let items <-unpackItems (.ref s1.heap.objs.size) 2 none;assignInOrder [fun v=>bindName X.env y v,fun v=>bindName X.env x v] items.reverse;pure Flow.next) _ _ _
 refine zb (KP (zb (unpackItems_tuple (items:=#[u1,u2]) (I.ok.hd hc) (IsTup.new s1.heap _) fun h' hx'=>?_)))
 have I3:=I2.kept (h':=h') (t':=s1.toks) fun b o e=>hx' b o (zI (zz e)) e
 show wpAny _ _ (assignInOrder [fun v=>bindName X.env y v,fun v=>bindName X.env x v] [u2,u1] >>= fun _=>pure Flow.next) _ _ _
 refine zb (assignInOrder_cons (wpAny_bindName (yC I3 hN hj (.inl hy) Pn (fun s2 I4=>?_) (.inr hy))))
 refine assignInOrder_cons (wpAny_bindName (yC I4 hN hi (.inl hx) rv (fun s3 I5=>assignInOrder_nil (zg ?_)) (.inr hx)))
 rw[List.set_comm _ _ (kM hij)] at I5
 exact⟨_,H1,I5,q1⟩
end
section
variable {X:Cx} {pos:Pos}
end
structure It where
 go:Nat->Hp->Prop
 yld:Nat->Hp->V->Hp->Prop
 stop:Nat->Hp->Prop
def tB (X:Cx) (pins:List (Addr×Obj)) (H:Hp) (b:Addr):Prop:=
 H b=none/\b≠X.env.locals/\b∉X.fs/\(b∈X.ex\/X.s₀.heap.objs.size<=b)/\(∀ x c,X.env.cells.lookup x=some c->c≠b)/\∀ p∈X.pn++pins,p.1≠b
theorem Inv.T4 {X:Cx} {pins:List (Addr×Obj)} {σ:St} {H H':Hp} {s:Shared} {b:Addr} (I:Inv X pins σ H s) (hb:s.heap.objs.size<=b) (hn:H' b=none):tB X pins H' b:=by
 refine⟨hn,kA (Zs I.lt hb),I.agS hb,.inr (Zl I.sz hb),fun x c e z=>?_,fun p hp z=>?_⟩
 ·obtain⟨v,q⟩:=I.cell x c e
  exact absurd (Zs q.lt (by rw[z];exact hb)) (JA _)
 ·exact absurd (Zs (zz (I.pin p hp).1) (by rw[z];exact hb)) (JA _)
structure Turn (P:Program) (w:World) (K:FG_) (tg:Expr) (J:It) (fp:List Addr) (it:Addr) (tn:Nat->Heap->Prop):Prop where
 mem:it∈fp
 obj:∀ i h,tn i h->∀ b∈fp,∃ o,h.get? b=some o/\∀ v,o.data≠.cell v
 keep:∀ i h h',tn i h->(∀ b∈fp,∀ o,h.get? b=some o->h'.get? b=some o)->tn i h'
 item:∀ (X:Cx),X.prog=P->X.w=w->X.K=K->X.calm=true->∀ (i:Nat) (pins:List (Addr×Obj)) (s:Shared) (σ:St) (H:Hp) (E:VP_),Inv X pins σ H s->(∀ b∈fp,tB X pins H b)->tn i s.heap->J.go i H →
  wpAny (model P w) X.A (pyNext (.ref it)) (fun r s1=>∃ u,r=some u ∧
   wpAny (model P w) X.A (letOwnedTupleGo tg (.ref it) u) (fun _ s2=>∃ x H',Inv X pins σ H' s2/\RelV x u/\J.yld i H x H'/\tn (i+1) s2.heap/\∀ b∈fp,H' b=none) E s1) E s
 done:∀ (X:Cx),X.prog=P->X.w=w->X.K=K->X.calm=true->∀ (i:Nat) (pins:List (Addr×Obj)) (s:Shared) (σ:St) (H:Hp) (E:VP_),Inv X pins σ H s->(∀ b∈fp,tB X pins H b)->tn i s.heap->J.stop i H →
  wpAny (model P w) X.A (pyNext (.ref it)) (fun r s1=>r=none/\Inv X pins σ H s1) E s
 self:∀ (A:Around) (i:Nat) (s:Shared) (Q:VP_) (E:VP_),tn i s.heap->Q (.ref it) s->wpAny (model P w) A (pyIter (.ref it)) Q E s
abbrev TI:=St->Hp->(It->Hp->Prop)->Prop
def PIE (X:Cx) (pins:List (Addr×Obj)) (σ:St) (tg:Expr) (R:It->Hp->Prop) (itv:Value) (s2:Shared):Prop:=
 ∃ (it:Addr) (fp:List Addr) (tn:Nat->Heap->Prop) (J:It) (H':Hp),itv=.ref it/\Inv X pins σ H' s2/\Turn X.prog X.w X.K tg J fp it tn/\tn 0 s2.heap/\(∀ b∈fp,tB X pins H' b)/\R J H'
def PI (X:Cx) (tg iter:Expr) (wi:TI):Prop:=
 ∀ (pins:List (Addr×Obj)) (s:Shared) (σ:St) (H:Hp) (R:It->Hp->Prop),Inv X pins σ H s->wi σ H R →
  wpAny (model X.prog X.w) X.A (eval iter X.env) (fun v s1=>wpAny (model X.prog X.w) X.A (pyIter v) (PIE X pins σ tg R) X.xe s1) X.xe s
theorem IV {M:Model} {A:Around} {E:VP_} {s:Shared} {tg:Expr} {it:Addr} {u:Value} {o:Obj} {n:String} {vs:Array Value} {Q:Unit->Shared->Prop} (ho:s.heap.get? it=some o) (hc:o.cls=.type n) (hd:o.data=.fields vs)
  (hn:["enumerate", "zip", "dict_itemiterator", "dict_reverseitemiterator", "odict_iterator", "itertools.zip_longest", "itertools.pairwise"].contains n=false) (hQ:Q () s):wpAny M A (letOwnedTupleGo tg (.ref it) u) Q E s:=by
 unfold letOwnedTupleGo
 cases tg<;>first
  |exact zg hQ
  |(cases u<;>first
    |exact zg hQ
    |(refine zb (wpAny_load ho ?_)
      rw[hc,hd]
      show wpAny M A (if (["enumerate", "zip", "dict_itemiterator", "dict_reverseitemiterator", "odict_iterator", "itertools.zip_longest", "itertools.pairwise"].contains n&&vs[0]?==some (rawInt _))=true then _ else _) Q E s
      rw[zv (by intro h;rw[hn,Bool.false_and] at h;cases h)]
      exact zg hQ))
def Itl (K:FG_) (a:Addr):It:=
 ⟨fun i H=>∃ xs x,rE K H a xs/\xs[i]?=some x,fun i H x H'=>H'=H/\∀ xs,rE K H a xs->xs[i]?=some x,fun i H=>∃ xs,rE K H a xs/\xs.length<=i⟩
def Itt (K:FG_) (a:Addr):It:=
 ⟨fun i H=>∃ xs x,xO K H a xs/\xs[i]?=some x,fun i H x H'=>H'=H/\∀ xs,xO K H a xs->xs[i]?=some x,fun i H=>∃ xs,xO K H a xs/\xs.length<=i⟩
def Itr (lo:Int) (n:Nat):It:=⟨fun i _=>i < n,fun i H x H'=>H'=H/\x=.int (lo+i),fun i _=>n<=i⟩
theorem T5 {P:Program} {w:World} {K:FG_} {tg:Expr} (a it:Addr):Turn P w K tg (Itl K a) [it] it (fun i h=>h.IsListIter it a i) where
 mem:=by simp
 obj:=fun i h st b hb=>by
  have e:b=it:=by simpa using hb
  subst e
  obtain⟨o,e,c,d⟩:=st
  exact⟨o,e,fun v z=>by rw[d] at z;cases z⟩
 keep:=fun i h h' st k=>st.at fun o e=>k it (by simp) o e
 item:=by
  intro X hP hw hK hc i pins s σ H E I hf st hg
  subst hP hw hK
  obtain⟨xs,x,hq,hx⟩:=hg
  obtain⟨its,rv,p,hz⟩:=I.list hq
  obtain⟨u,hu,ru⟩:=rv.get hx
  obtain⟨f0,f1,f2,f3,f4,f5⟩:=hf it (by simp)
  refine wpAny_pyNext_list_item st p.isList (x:=u) (by simpa using hu) fun h' st' sb=>?_
  have I1:Inv X pins σ H { s with heap:=h' }:=I.turned (t':=s.toks) (fun b o hb e=>(sb.2 b hb).trans e) f0 f1 f3 f4 f5
  obtain⟨o,e,c,d⟩:=id st'
  exact⟨u,rfl,IV (s:={ s with heap:=h' }) e c d (by decide) ⟨x,H,I1,ru,⟨rfl,fun ys hy=>by rw[I.Dq hy hq];exact hx⟩,st',fun b hb=>(hf b hb).1⟩⟩
 done:=by
  intro X hP hw hK hc i pins s σ H E I hf st hg
  subst hP hw hK
  obtain⟨xs,hq,hx⟩:=hg
  obtain⟨its,rv,p,hz⟩:=I.list hq
  obtain⟨f0,f1,f2,f3,f4,f5⟩:=hf it (by simp)
  have hl:=rv.length
  exact wpAny_pyNext_list_end (I.ok.hd hc) st p.isList (by simp;omega) fun h' eb=>⟨rfl,I.turned (t':=s.toks) (fun b o hb e=>eb b o hb e) f0 f1 f3 f4 f5⟩
 self:=fun _ _ _ _ _ st h=>wpAny_pyIter_listiter st h
theorem Px {P:Program} {w:World} {K:FG_} {tg:Expr} (a it:Addr):Turn P w K tg (Itt K a) [it] it (fun i h=>h.IsTupleIter it a i) where
 mem:=by simp
 obj:=fun i h st b hb=>by
  have e:b=it:=by simpa using hb
  subst e
  obtain⟨o,e,c,d⟩:=st
  exact⟨o,e,fun v z=>by rw[d] at z;cases z⟩
 keep:=fun i h h' st k=>st.at fun o e=>k it (by simp) o e
 item:=by
  intro X hP hw hK hc i pins s σ H E I hf st hg
  subst hP hw hK
  obtain⟨xs,x,hq,hx⟩:=hg
  obtain⟨its,rv,p,hz⟩:=I.tuple hq
  obtain⟨u,hu,ru⟩:=rv.get hx
  obtain⟨f0,f1,f2,f3,f4,f5⟩:=hf it (by simp)
  refine wpAny_pyNext_tuple_item st (show s.heap.IsTuple a its.toArray from p) (x:=u) (by simpa using hu) fun h' st' sb=>?_
  have I1:Inv X pins σ H { s with heap:=h' }:=I.turned (t':=s.toks) (fun b o hb e=>(sb.2 b hb).trans e) f0 f1 f3 f4 f5
  obtain⟨o,e,c,d⟩:=id st'
  exact⟨u,rfl,IV (s:={ s with heap:=h' }) e c d (by decide) ⟨x,H,I1,ru,⟨rfl,fun ys hy=>by rw[I.IK hy hq];exact hx⟩,st',fun b hb=>(hf b hb).1⟩⟩
 done:=by
  intro X hP hw hK hc i pins s σ H E I hf st hg
  subst hP hw hK
  obtain⟨xs,hq,hx⟩:=hg
  obtain⟨its,rv,p,hz⟩:=I.tuple hq
  obtain⟨f0,f1,f2,f3,f4,f5⟩:=hf it (by simp)
  have hl:=rv.length
  exact wpAny_pyNext_tuple_end (I.ok.hd hc) st (show s.heap.IsTuple a its.toArray from p) (by simp;omega) fun h' eb=>⟨rfl,I.turned (t':=s.toks) (fun b o hb e=>eb b o hb e) f0 f1 f3 f4 f5⟩
 self:=fun _ _ _ _ _ st h=>wpAny_pyIter_tupleiter st h
theorem Py {P:Program} {w:World} {K:FG_} {tg:Expr} (it:Addr) (lo:Int) (n:Nat):Turn P w K tg (Itr lo n) [it] it (fun i h=>IsRangeIter h it (lo+(i:Nat) * 1) ((n:Int) - (i:Nat)) 1) where
 mem:=by simp
 obj:=fun i h st b hb=>by
  have e:b=it:=by simpa using hb
  subst e
  exact⟨_,st,fun v z=>by
   have z':Data.fields _=Data.cell v:=z
   cases z'⟩
 keep:=fun i h h' st k=>k it (by simp) _ st
 item:=by
  intro X hP hw hK hc i pins s σ H E I hf st hg
  subst hP hw hK
  obtain⟨f0,f1,f2,f3,f4,f5⟩:=hf it (by simp)
  have W:=Walks.range (prog:=X.prog) (w:=X.w) (I.ok.hd hc) it lo 1 n
  refine W.item i s _ _ hg st fun v h' tk hv st' kk=>?_
  obtain⟨t,rfl⟩:=hv
  have I1:Inv X pins σ H { s with heap:=h',toks:=tk }:=I.turned (fun b o hb e=>kk b o (by simpa using hb) e) f0 f1 f3 f4 f5
  refine⟨_,rfl,IV (s:={ s with heap:=h',toks:=tk }) (n := "range_iterator") st' rfl rfl (by decide) ⟨.int (lo+i),H,I1,⟨t,?_⟩,⟨rfl,rfl⟩,st',fun b hb=>(hf b hb).1⟩⟩
  rw[Int.mul_one]
 done:=by
  intro X hP hw hK hc i pins s σ H E I hf st hg
  subst hP hw hK
  obtain⟨f0,f1,f2,f3,f4,f5⟩:=hf it (by simp)
  exact wpAny_pyNext_range_end (I.ok.hd hc) st (by have:n<=i:=hg;omega) fun h' eb=>⟨rfl,I.turned (t':=s.toks) (fun b o hb e=>eb b o hb e) f0 f1 f3 f4 f5⟩
 self:=fun _ _ _ _ _ st h=>wpAny_pyIter_rangeiter st h
end L2
namespace L2
open PySem PySem.Spec PyProof.Rows
section
variable {X:Cx} {tg:Expr}
theorem VH {pins:List (Addr×Obj)} {σ:St} {H:Hp} {s:Shared} {R:It->Hp->Prop} {E:VP_} {lo hi:Int} {t u v:Tok} {tk:Nat} (I:Inv X pins σ H s) (h1 : -(2 ^ 62)<=lo) (h2:lo < 2 ^ 62) (h3 : -(2 ^ 62)<=hi) (h4:hi < 2 ^ 62)
  (q:R (Itr lo (hi - lo).toNat) H):wpAny (model X.prog X.w) X.A (pyIter (.ref s.heap.objs.size)) (PIE X pins σ tg R) E { s with heap:=s.heap.push { cls:=.type "range", data:=.fields #[.int lo t,.int hi u,.int 1 v] },toks:=tk }:=by
 refine wpAny_pyIter_range (IsRange.new ..) (small_one h1 h2 h3 h4) ?_
 have I1:Inv X pins σ H { s with heap:=s.heap.push { cls:=.type "range", data:=.fields #[.int lo t,.int hi u,.int 1 v] },toks:=tk }:=I.kept fun b o e=>zd _ e
 refine⟨(s.heap.push { cls:=.type "range", data:=.fields #[.int lo t,.int hi u,.int 1 v] }).objs.size,[(s.heap.push { cls:=.type "range", data:=.fields #[.int lo t,.int hi u,.int 1 v] }).objs.size],_,_,H,rfl,
  I1.kept (t':=tk) fun b o e=>zd _ e,Py _ lo (hi - lo).toNat,?_,fun b hb=>?_,q⟩
 ·have e1:lo+((0:Nat):Int) * 1=lo:=by simp
  have e2:(((hi - lo).toNat:Nat):Int) - ((0:Nat):Int)=Builtin.Range.rangeSize lo hi 1:=by rw[rangeSize_one];split<;>omega
  show IsRangeIter _ _ (lo+((0:Nat):Int) * 1) ((((hi - lo).toNat:Nat):Int) - ((0:Nat):Int)) 1
  rw[e1,e2]
  exact zt _ rfl
 ·have e:b=(s.heap.push { cls:=.type "range", data:=.fields #[.int lo t,.int hi u,.int 1 v] }).objs.size:=by simpa using hb
  subst e
  exact I1.T4 (zk _) (I1.hok.fresh (zk _))
def aeQ (ta:TA):TI:=fun σ H R=>ta σ H fun vs H1=>∃ j:Int,vs=[.int j] ∧ -(2 ^ 62)<=j/\j < 2 ^ 62/\R (Itr 0 j.toNat) H1
theorem T6 {a:Expr} {ta:TA} {p pos:Pos} (hg:Gl X "range") (hm:X.mg "range" = none) (ha:PA X [a] ta) (hs:starEach [a] X.env=[(false,eval a X.env)]:=by rfl):PI X tg (.Call (.Name "range" p) [a] [] pos) (aeQ ta):=by
 intro pins s σ H R I h
 refine Call_ (Dp I hg hm boot_range (PyProof.Rows.callWith_type1 (j9 (ha pos pins s σ H _ I h) fun us s1 ⟨vs,H1,I1,r1,q1⟩=>?_) hs rfl))
 obtain⟨j,e,q1,q2,q⟩:=q1
 subst e
 cases r1 with
 |cons r rr=>
  cases rr
  obtain⟨t,rfl⟩:=r
  exact call_range_1 (VH I1 (by omega) (by omega) q1 q2 (by simpa using q))
def ag2 (wi:TI) (g:TG) (tb:TS):TS:=fun D σ H=>wi σ H fun J H1=>∃ W:Nat->Nat->St->Hp->Prop,(∃ m,W 0 m σ H1)/\∀ i m σ H,W i m σ H →
 (J.stop i H/\D.nx σ H)\/(J.go i H/\∃ N:St->Hp->Prop,(∀ σ' H',N σ' H'->∃ m',m' < m/\W (i+1) m' σ' H')/\∀ x H',J.yld i H x H'->g x σ H' fun σ2 H2=>tb { D with nx:=N,ct:=N,bk:=D.nx } σ2 H2)
def zX (fp:List Addr) (h:Heap):List (Addr×Obj):=fp.filterMap fun b=>(h.get? b).map fun o=>(b,o)
theorem tD {fp:List Addr} {h:Heap} {b:Addr} {o:Obj} (hb:b∈fp) (e:h.get? b=some o):(b,o)∈zX fp h:=List.mem_filterMap.mpr ⟨b,hb,by rw[e];rfl⟩
theorem T7 {fp:List Addr} {h:Heap} {p:Addr×Obj} (hp:p∈zX fp h):p.1∈fp/\h.get? p.1=some p.2:=by
 obtain⟨b,hb,e⟩:=List.mem_filterMap.mp hp
 cases q:h.get? b with
 |none=>rw[q] at e;cases e
 |some o=>
  rw[q] at e
  have e':(b,o)=p:=JP e
  subst e'
  exact⟨hb,q⟩
theorem Inv.pinned {pins:List (Addr×Obj)} {σ:St} {H:Hp} {s:Shared} {fp:List Addr} (I:Inv X pins σ H s) (hf:∀ b∈fp,tB X pins H b) (ho:∀ b∈fp,∃ o,s.heap.get? b=some o/\∀ v,o.data≠.cell v):Inv X (pins++zX fp s.heap) σ H s:=
 I.JX fun p hp=>(List.mem_append.mp hp).elim (fun z=>I.pin p (ZI _ z)) fun z=>by
  obtain⟨hb,e⟩:=T7 z
  obtain⟨f0,f1,f2,_⟩:=hf p.1 hb
  obtain⟨o,e',d⟩:=ho p.1 hb
  rw[e] at e';cases e'
  exact⟨e,f0,f1,f2,d⟩
theorem Inv.uT {pins pl:List (Addr×Obj)} {σ:St} {H:Hp} {s:Shared} (I:Inv X (pins++pl) σ H s):Inv X pins σ H s:=I.JX fun p hp=>I.pin p (ZI _ (ku _ hp))
theorem Pz {iter:Expr} {body:List Stmt} {wi:TI} {g:TG} {tb:TS} {pos:Pos} (hp:PassesOwn (model X.prog X.w) X.A X.env X.xe) (hc:X.calm=true) (hi:PI X tg iter wi) (hg:PG X tg g) (hb:Pr X body tb)
  (hs:∀ x,foldedSetIterable iter X.env x=pure x:=by intro _;rfl):PS X (.For tg iter body [] pos) (ag2 wi g tb):=by
 intro pins s σ H D I h
 refine wpAny_For (j9 (hi pins s σ H _ I h) fun v s1 h1=>j9 h1 fun itv s2 h2=>?_) hs
 obtain⟨it,fp,tn,J,H2,e,I2,T,st2,f2,W,⟨m0,w0⟩,turn⟩:=h2
 subst e
 have stat:∀ {H':Hp},(∀ b∈fp,H' b=none)->∀ b∈fp,tB X pins H' b:=fun hn b hb=>⟨hn b hb,(f2 b hb).2⟩
 refine codeAny_forLoop_any (fun n s'=>∃ i σ' H',Inv X pins σ' H' s'/\tn i s'.heap/\(∀ b∈fp,H' b=none)/\W i n σ' H') ?_ m0 ⟨0,σ,H2,I2,st2,fun b hb=>(f2 b hb).1,w0⟩
 rintro n s3 ⟨i,σ3,H3,I3,st3,fr3,w3⟩
 rcases turn i n σ3 H3 w3 with⟨stop,qn⟩|⟨go,N,hN,step⟩
 ·refine KF hp (j9 (T.done X rfl rfl rfl hc i pins s3 σ3 H3 X.xe I3 (stat fr3) st3 stop) fun r s4 ⟨hr,I4⟩=>?_)
  subst hr
  exact wpAny_execs_nil ⟨σ3,H3,I4,qn⟩
 ·refine KF hp (j9 (T.item X rfl rfl rfl hc i pins s3 σ3 H3 X.xe I3 (stat fr3) st3 go) fun r s4 ⟨u,hr,h4⟩=>?_)
  subst hr
  refine KF hp (j9 h4 fun _ s5 ⟨x,H5,I5,r5,y5,st5,fr5⟩=>?_)
  have I5':=I5.pinned (stat fr5) (T.obj _ _ st5)
  refine KF hp (j9 (hg _ s5 σ3 H5 x u _ I5' r5 (step x H5 y5)) fun _ s6 ⟨σ6,H6,I6,q6⟩=>?_)
  refine KF hp (j9 (hb _ s6 σ6 H6 _ I6 q6) fun f s7 q7=>?_)
  have again:∀ {σ7:St} {H7:Hp},Inv X (pins++zX fp s5.heap) σ7 H7 s7->N σ7 H7->∃ m,m < n/\∃ i σ' H',Inv X pins σ' H' s7/\tn i s7.heap/\(∀ b∈fp,H' b=none)/\W i m σ' H':=fun {σ7 H7} I7 n7=>by
   obtain⟨m',hm,w7⟩:=hN σ7 H7 n7
   refine⟨m',hm,i+1,σ7,H7,I7.uT,T.keep _ _ _ st5 fun b hb o e=>(I7.pin (b,o) (ZI _ (ZI _ (tD hb e)))).1,fun b hb=>?_,w7⟩
   obtain⟨o,e,d⟩:=T.obj _ _ st5 b hb
   exact (I7.pin (b,o) (ZI _ (ZI _ (tD hb e)))).2.1
  cases f with
  |next=>obtain⟨σ7,H7,I7,n7⟩:=q7;exact again I7 n7
  |cont=>obtain⟨σ7,H7,I7,n7⟩:=q7;exact again I7 n7
  |brk=>obtain⟨σ7,H7,I7,q7⟩:=q7;exact⟨σ7,H7,I7.uT,q7⟩
  |ret v=>obtain⟨x7,σ7,H7,I7,r7,q7⟩:=q7;exact⟨x7,σ7,H7,I7.uT,r7,q7⟩
end
end L2
namespace L2
open PySem PySem.Spec PyProof.Rows
abbrev R2:=V->V->Hp->VK->Prop
def yD (X:Cx) (f:Value->Value->Sem Value) (r:R2):Prop:=
 ∀ (pins:List (Addr×Obj)) (s:Shared) (σ:St) (H:Hp) (x y:V) (v u:Value) (Q:VK),Inv X pins σ H s->RelV x v->RelV y u->r x y H Q →
  wpAny (model X.prog X.w) X.A (f v u) (EP X pins σ Q) X.xe s
def UnR (X:Cx) (f:Value->Sem Value) (r:V->Hp->VK->Prop):Prop:=
 ∀ (pins:List (Addr×Obj)) (s:Shared) (σ:St) (H:Hp) (x:V) (v:Value) (Q:VK),Inv X pins σ H s->RelV x v->r x H Q →
  wpAny (model X.prog X.w) X.A (f v) (EP X pins σ Q) X.xe s
def gP (X:Cx) (f:Value) (r:List V->Hp->VK->Prop):Prop:=
 ∀ (pins:List (Addr×Obj)) (s:Shared) (σ:St) (H:Hp) (xs:List V) (us:List Value) (Q:VK),Inv X pins σ H s->Vals xs us->r xs H Q →
  wpAny (model X.prog X.w) X.A (call f us) (EP X pins σ Q) X.xe s
def ag4 (X:Cx) (r:V->Hp->(Bool->Hp->Prop)->Prop):Prop:=
 ∀ (pins:List (Addr×Obj)) (s:Shared) (σ:St) (H:Hp) (x:V) (v:Value) (Q:Bool->Hp->Prop),Inv X pins σ H s->RelV x v->r x H Q →
  wpAny (model X.prog X.w) X.A (truthy v) (TP X pins σ Q) X.xe s
def tOp (r:R2) (ta tb:TE):TE:=fun σ H Q=>ta σ H fun x H1=>tb σ H1 fun y H2=>r x y H2 Q
def tUn (r:V->Hp->VK->Prop) (ta:TE):TE:=fun σ H Q=>ta σ H fun x H1=>r x H1 Q
def rI (C:Int->Int->Prop) (g:Int->Int->V):R2:=fun x y H Q=>∃ i j,x=.int i/\y=.int j/\C i j/\Q (g i j) H
def rI0 (g:Int->Int->V):R2:=fun x y H Q=>∃ i j,x=.int i/\y=.int j/\Q (g i j) H
def rU (g:Int->V):V->Hp->VK->Prop:=fun x H Q=>∃ i,x=.int i/\Q (g i) H
section
variable {X:Cx} {a b c:Expr} {ta tb tc:TE} {pos:Pos}
theorem acn (ha:PE X a ta) (hb:PE X b tb) {pins:List (Addr×Obj)} {s:Shared} {σ:St} {H:Hp} {R:V->V->Hp->Prop} (I:Inv X pins σ H s)
  (h:ta σ H fun x H1=>tb σ H1 fun y H2=>R x y H2) {Q:VP_} {f:Value->Value->Sem Value}
  (hf:∀ v u s2 x y H2,Inv X pins σ H2 s2->RelV x v->RelV y u->R x y H2->wpAny (model X.prog X.w) X.A (f v u) Q X.xe s2) :
  wpAny (model X.prog X.w) X.A (eval a X.env) (fun v s₁=>wpAny (model X.prog X.w) X.A (eval b X.env) (fun u s₂=>wpAny (model X.prog X.w) X.A (f v u) Q X.xe s₂) X.xe s₁) X.xe s:=by
 refine j9 (ha pins s σ H _ I h) fun v s1 ⟨x,H1,I1,r1,q1⟩=>?_
 refine j9 (hb pins s1 σ H1 _ I1 q1) fun u s2 ⟨y,H2,I2,r2,q2⟩=>?_
 exact hf v u s2 x y H2 I2 r1 r2 q2
theorem aeS {op:Operator} {r:R2} (ho:yD X (binaryOp op) r) (ha:PE X a ta) (hb:PE X b tb):PE X (.BinOp a op b pos) (tOp r ta tb):=by
 intro pins s σ H Q I h
 exact wpAny_BinOp (acn ha hb I h fun v u s2 x y H2 I2 rx ry q=>ho pins s2 σ H2 x y v u Q I2 rx ry q)
theorem aeT {op:UnaryOp} {r:V->Hp->VK->Prop} (ho:UnR X (unaryOp op) r) (ha:PE X a ta):PE X (.UnaryOp op a pos) (tUn r ta):=by
 intro pins s σ H Q I h
 exact UnaryOp_ (j9 (ha pins s σ H _ I h) fun v s1 ⟨x,H1,I1,r1,q1⟩=>ho pins s1 σ H1 x v Q I1 r1 q1)
theorem opI {f:Value->Value->Sem Value} {C:Int->Int->Prop} {g:Int->Int->Int}
  (rule:∀ (i j:Int) (t u:Tok) (s:Shared) (Q:VP_) (E:VP_),C i j->Q (.int (g i j) s.toks) { s with toks:=s.toks+1 }->wpAny (model X.prog X.w) X.A (f (.int i t) (.int j u)) Q E s) :
  yD X f (rI C fun i j=>.int (g i j)):=by
 intro pins s σ H x y v u Q I rx ry h
 obtain⟨i,j,rfl,rfl,hc,q⟩:=h
 obtain⟨t,rfl⟩:=rx
 obtain⟨t',rfl⟩:=ry
 exact rule i j t t' s _ _ hc ⟨.int (g i j),H,I.tok _,⟨_,rfl⟩,q⟩
theorem aeU {f:Value->Value->Sem Value} {g:Int->Int->Int}
  (rule:∀ (i j:Int) (t u:Tok) (s:Shared) (Q:VP_) (E:VP_),Q (.int (g i j) s.toks) { s with toks:=s.toks+1 }->wpAny (model X.prog X.w) X.A (f (.int i t) (.int j u)) Q E s) :
  yD X f (rI0 fun i j=>.int (g i j)):=by
 intro pins s σ H x y v u Q I rx ry h
 obtain⟨i,j,rfl,rfl,q⟩:=h
 obtain⟨t,rfl⟩:=rx
 obtain⟨t',rfl⟩:=ry
 exact rule i j t t' s _ _ ⟨.int (g i j),H,I.tok _,⟨_,rfl⟩,q⟩
theorem aco {f:Value->Value->Sem Value} {g:Int->Int->Bool}
  (rule:∀ (i j:Int) (t u:Tok) (s:Shared) (Q:VP_) (E:VP_),Q (.bool (g i j)) s->wpAny (model X.prog X.w) X.A (f (.int i t) (.int j u)) Q E s) :
  yD X f (rI0 fun i j=>.bl (g i j)):=by
 intro pins s σ H x y v u Q I rx ry h
 obtain⟨i,j,rfl,rfl,q⟩:=h
 obtain⟨t,rfl⟩:=rx
 obtain⟨t',rfl⟩:=ry
 exact rule i j t t' s _ _ ⟨.bl (g i j),H,I,rfl,q⟩
def ag5 (i j:Int):Prop:=0 < j/\j < 1073741824
def ag6 (i j:Int):Prop:=0<=j/\j<=1000000/\i.natAbs < 2 ^ 64
def acp (i j:Int):Prop:=(-(2 ^ 64) < i/\i < 2 ^ 64)\/(-(2 ^ 64) < j/\j < 2 ^ 64)
theorem acp.ok {i j:Int} (h:acp i j):IntMulOk i j:=by
 rcases h with⟨h1,h2⟩|⟨h1,h2⟩
 ·exact .of_left (intBits_le_64 h1 h2)
 ·exact .of_right (intBits_le_64 h1 h2)
theorem acq:yD X (binaryOp .Add) (rI0 fun i j=>.int (i+j)):=aeU fun _ _ _ _ _ _ _ q=>add_int q
theorem acr:yD X (binaryOp .Sub) (rI0 fun i j=>.int (i - j)):=aeU fun _ _ _ _ _ _ _ q=>sub_int q
theorem acs:yD X (binaryOp .Mult) (rI acp fun i j=>.int (i * j)):=opI fun _ _ _ _ _ _ _ hc q=>mul_int q hc.ok
theorem Zc:yD X (binaryOp .FloorDiv) (rI ag5 fun i j=>.int (i / j)):=opI fun i j _ _ _ _ _ hc q=>by
 have h1:(0:Int) < j:=hc.1
 have h2:j < 1073741824:=hc.2
 exact floordiv_int (by omega) (by rw[Int.fdiv_eq_ediv_of_nonneg i (by omega)];exact q) (.inl (PyProof.noPylong_small (by omega)))
theorem acu:yD X (binaryOp .Mod) (rI (fun _ j=>0 < j) fun i j=>.int (i % j)):=opI fun i j _ _ _ _ _ hc q=>by
 have h1:(0:Int) < j:=hc
 exact mod_int' (by omega) (by rw[Int.fmod_eq_emod_of_nonneg i (by omega)];exact q)
theorem acv:yD X (binaryOp .Pow) (rI ag6 fun i j=>.int (i ^ j.toNat)):=opI fun _ _ _ _ _ _ _ hc q=>pow_int_small hc.1 hc.2.1 hc.2.2 q
theorem unI {f:Value->Sem Value} {g:Int->Int}
  (rule:∀ (i:Int) (t:Tok) (s:Shared) (Q:VP_) (E:VP_),Q (.int (g i) s.toks) { s with toks:=s.toks+1 }->wpAny (model X.prog X.w) X.A (f (.int i t)) Q E s) :
  UnR X f (rU fun i=>.int (g i)):=by
 intro pins s σ H x v Q I rx h
 obtain⟨i,rfl,q⟩:=h
 obtain⟨t,rfl⟩:=rx
 exact rule i t s _ _ ⟨.int (g i),H,I.tok _,⟨_,rfl⟩,q⟩
theorem acw:UnR X (unaryOp .USub) (rU fun i=>.int (-i)):=unI fun _ _ _ _ _ q=>neg_int q
end
section
variable {X:Cx} {a b c:Expr} {ta tb tc:TE} {pos:Pos}
theorem acy {pins:List (Addr×Obj)} {σ:St} {H:Hp} {s:Shared} {Q:VK} {k k':Bool} (I:Inv X pins σ H s) (q:Q (.bl k) H) (e:k=k'):EP X pins σ Q (.bool k') s:=by
 subst e
 exact⟨.bl k,H,I,rfl,q⟩
theorem aeV:yD X (compareOp .Lt) (rI0 fun i j=>.bl (decide (i < j))):=aco fun _ _ _ _ _ _ _ q=>lt_int q
theorem aeW:yD X (compareOp .Gt) (rI0 fun i j=>.bl (decide (j < i))):=aco fun _ _ _ _ _ _ _ q=>gt_int q
theorem aeX:yD X (compareOp .GtE) (rI0 fun i j=>.bl (decide (j<=i))):=aco fun _ _ _ _ _ _ _ q=>ge_int q
theorem T8:yD X (compareOp .In) (fun x y H Q=>∃ i j,x=.str i/\y=.str j/\Q (.bl (!(Builtin.Str.occurrences j i 0 j.length 1).isEmpty)) H):=by
 intro pins s σ H x y v u Q I rx ry h
 obtain⟨i,j,rfl,rfl,q⟩:=h
 obtain⟨t,rfl⟩:=rx
 obtain⟨t',rfl⟩:=ry
 exact in_str (acy I q rfl)
theorem yD.or {f:Value->Value->Sem Value} {r r':R2} (h:yD X f r) (h':yD X f r'):yD X f (fun x y H Q=>r x y H Q\/r' x y H Q):=by
 intro pins s σ H x y v u Q I rx ry q
 rcases q with q|q
 ·exact h pins s σ H x y v u Q I rx ry q
 ·exact h' pins s σ H x y v u Q I rx ry q
theorem gA (b:Expr) {op:CmpOp} (h:op≠.In:=by decide) (h2:op≠.NotIn:=by decide):behindInMarks op b=false:=by
 have e1:(op==CmpOp.In)=false:=by cases op<;>first|rfl|exact absurd rfl h
 have e2:(op==CmpOp.NotIn)=false:=by cases op<;>first|rfl|exact absurd rfl h2
 cases b<;>simp[behindInMarks,e1,e2]
theorem Zd {op:CmpOp} {r:R2} (ho:yD X (compareOp op) r) (ha:PE X a ta) (hb:PE X b tb) (hm:behindInMarks op b=false):PE X (.Compare a [op] [b] pos) (tOp r ta tb):=by
 intro pins s σ H Q I h
 exact wpAny_Compare1 (acn ha hb I h fun v u s2 x y H2 I2 rx ry q=>ho pins s2 σ H2 x y v u Q I2 rx ry q) hm
def aeY (t:TE):TT:=fun σ H Q=>t σ H fun x H'=>∃ k,x=.bl k/\Q k H'
theorem Ze {op:CmpOp} {r:R2} (ho:yD X (compareOp op) r) (ha:PE X a ta) (hb:PE X b tb) (hm:behindInMarks op b=false):PT X (.Compare a [op] [b] pos) (aeY (tOp r ta tb)):=by
 intro pins s σ H Q I h
 refine wpAny_isTrue_Compare1 (j9 (ha pins s σ H _ I h) fun v s1 ⟨x,H1,I1,r1,q1⟩=>j9 (hb pins s1 σ H1 _ I1 q1) fun u s2 ⟨y,H2,I2,r2,q2⟩=>
  j9 (ho pins s2 σ H2 x y v u _ I2 r1 r2 q2) fun c s3 ⟨z,H3,I3,r3,k,e,q3⟩=>?_) hm
 subst e
 cases r3
 exact kQ ⟨H3,I3,q3⟩
def acz (K:FG_) (x:V) (H:Hp) (k:Bool):Prop:=
 match x with
 |.non=>k=false
 |.bl b=>k=b
 |.int i=>k=(i != 0)
 |.str y=>y.length<=sizeLine/\k=((y.length:Int) != 0)
 |.byt y=>y.size<=sizeLine/\k=((y.size:Int) != 0)
 |.ref p=>(∃ xs,rE K H p xs/\k=!xs.isEmpty)\/(∃ xs,xO K H p xs/\k=!xs.isEmpty)\/∃ kvs,H p=some (.dK kvs)/\k=!kvs.isEmpty
 |_=>False
theorem PJ {κ:Type} {kvs:List (κ×V)} {vs:List (κ×Value)} (r:KV kvs vs):(!vs.isEmpty)=!kvs.isEmpty:=by
 cases r<;>rfl
theorem Ds {xs:List V} {its:List Value} (r:Vals xs its):(!its.toArray.isEmpty)=!xs.isEmpty:=by
 cases r<;>simp
theorem zY:(sizeLine:Nat) < 2 ^ 63:=by rw[sizeLine_eq];decide
theorem VJ:ag4 X (fun x H Q=>∃ k,acz X.K x H k/\Q k H):=by
 intro pins s σ H x v Q I rx h
 obtain⟨k,e,q⟩:=h
 have hl:=zY
 have hs:sizeLine=16777216:=sizeLine_eq
 cases x with
 |non=>
  cases rx
  have e':k=false:=e
  subst e'
  exact truthy_none ⟨H,I,q⟩
 |bl b=>
  cases rx
  have e':k=b:=e
  subst e'
  exact kQ ⟨H,I,q⟩
 |int i=>
  obtain⟨t,rfl⟩:=rx
  have e':k=(i != 0):=e
  subst e'
  exact PySem.P.truthy_int ⟨H,I,q⟩
 |str y=>
  obtain⟨t,rfl⟩:=rx
  obtain⟨hy,e'⟩:y.length<=sizeLine/\k=((y.length:Int) != 0):=e
  subst e'
  exact PySem.P.truthy_str (by omega) ⟨H,I.tok _,q⟩
 |byt y=>
  obtain⟨t,rfl⟩:=rx
  obtain⟨hy,e'⟩:y.size<=sizeLine/\k=((y.size:Int) != 0):=e
  subst e'
  exact PySem.W.truthy_bytes (by omega) ⟨H,I.tok _,q⟩
 |ref p=>
  cases rx
  have e':(∃ xs,rE X.K H p xs/\k=!xs.isEmpty)\/(∃ xs,xO X.K H p xs/\k=!xs.isEmpty)\/∃ kvs,H p=some (.dK kvs)/\k=!kvs.isEmpty:=e
  rcases e' with⟨xs,hx,e'⟩|⟨xs,hx,e'⟩|⟨kvs,hx,e'⟩
  ·subst e'
   obtain⟨its,r,pl,hz⟩:=I.list hx
   have hlen:=r.length
   exact wpAny_truthy_list pl.isList (by simp only[zC];omega) ⟨H,I.tok _,by rw[Ds r];exact q⟩
  ·subst e'
   obtain⟨its,r,pl,hz⟩:=I.tuple hx
   have hlen:=r.length
   exact truthy_tuple pl (by simp only[zC];omega) ⟨H,I.tok _,by rw[Ds r];exact q⟩
  ·subst e'
   obtain⟨hz,hS,vs,r,m⟩:kvs.length<=sizeLine/\(p==sysModules)=false/\∃ vs,KV kvs vs/\s.heap.DictOf (bh X.prog X.w) p vs:=I.hok p _ hx
   have hlen:kvs.length=vs.length:=Paired.length r
   exact wpAny_truthy_dict hS m (by omega) ⟨H,I.tok _,by rw[PJ r];exact q⟩
 |_=>exact (show False from e).elim
theorem VL (ha:PE X a ta) (he:∀ whole,isTrue a X.env whole=(do let v <-whole;standAt a.pos;holding [v] (truthy v))) :
  PT X a (fun σ H Q=>ta σ H fun x H'=>∃ k,acz X.K x H' k/\Q k H'):=by
 intro pins s σ H Q I h
 exact isTrue_plain (j9 (ha pins s σ H _ I h) fun v s1 ⟨x,H1,I1,r1,q1⟩=>VJ pins s1 σ H1 x v Q I1 r1 q1) (he _)
theorem PK:yD X (binaryOp .Add) (fun x y H Q=>∃ i j,x=.str i/\y=.str j/\i.length+j.length<=sizeLine/\Q (.str (i++j)) H):=by
 intro pins s σ H x y v u Q I rx ry h
 obtain⟨i,j,rfl,rfl,hz,q⟩:=h
 obtain⟨t,rfl⟩:=rx
 obtain⟨t',rfl⟩:=ry
 exact add_str (fun t' tk=>⟨.str (i++j),H,I.tok _,⟨_,rfl⟩,q⟩) hz
theorem vals1 {x:V} {us:List Value} (r:Vals [x] us):∃ u,us=[u]/\RelV x u:=by
 cases r with
 |cons r1 r2=>cases r2;exact⟨_,rfl,r1⟩
theorem vals2 {x y:V} {us:List Value} (r:Vals [x,y] us):∃ u w',us=[u,w']/\RelV x u/\RelV y w':=by
 cases r with
 |cons r1 r2=>
  cases r2 with
  |cons r3 r4=>cases r4;exact⟨_,_,rfl,r1,r3⟩
theorem VN:gP X (.builtin "abs") (fun xs H Q=>∃ i,xs=[.int i]/\Q (.int (if i < 0 then -i else i)) H):=by
 intro pins s σ H xs us Q I r h
 obtain⟨i,rfl,q⟩:=h
 obtain⟨u,rfl,t,rfl⟩:=vals1 r
 exact call_abs_int fun u tk=>⟨.int (if i < 0 then -i else i),H,I.tok _,⟨_,rfl⟩,q⟩
theorem T9:gP X (.type "int") (fun xs H Q=>(∃ i,xs=[.int i]/\Q (.int i) H)\/∃ k,xs=[.bl k]/\Q (.int (if k then 1 else 0)) H):=by
 intro pins s σ H xs us Q I r h
 rcases h with⟨i,rfl,q⟩|⟨k,rfl,q⟩
 ·obtain⟨u,rfl,t,rfl⟩:=vals1 r
  exact call_int_int ⟨.int i,H,I,⟨_,rfl⟩,q⟩
 ·obtain⟨u,rfl,r1⟩:=vals1 r
  cases r1
  exact call_int_bool ⟨.int (if k then 1 else 0),H,I.tok _,⟨_,rfl⟩,q⟩
end
end L2
namespace L2
open PySem PySem.Spec PyProof.Rows
structure acA (h:Heap) (x dx C:Addr) (mA:Str->Option Value):Prop where
 obj:h.get? x=some (PySem.W.instObj C dx)
 ns:h.Ns1 dx mA
 ne:dx≠x
theorem Ua {h:Heap} {dx:Addr} {mA:Str->Option Value} (n:h.Ns1 dx mA):∃ od,h.get? dx=some od/\∀ name,PySem.W.lookIn name od=some (mA name):=by
 obtain⟨o,es,ep,ho,hd,hk,_,hm⟩:=n
 refine⟨o,ho,fun name=>?_⟩
 have e:=hm name
 unfold nsFind findBy at e
 rw[<-Array.find?_toList] at e
 unfold PySem.W.lookIn
 rw[hd]
 dsimp only
 split
 ·rename_i y q
  rw[q] at e
  exact congrArg some e
 ·rename_i q
  rw[q] at e
  have a:es.toList.any (·.refKey)=false:=by
   rw[List.any_eq_false]
   intro y hy
   obtain⟨z,t,hkey⟩:=hk y (Array.mem_toList_iff.mp hy)
   simp[DictEntry.refKey,hkey]
  have a':¬ es.toList.any (·.refKey)=true:=by rw[a];exact z4
  rw[zv a']
  exact congrArg some e
theorem acA.look {h:Heap} {x dx C:Addr} {mA:Str->Option Value} (I:acA h x dx C mA):∃ od,PySem.W.InstAt h x (PySem.W.instObj C dx) C (some od)/\∀ name,PySem.W.lookIn name od=some (mA name):=
 let ⟨od,ho,hl⟩:=Ua I.ns
 ⟨od,⟨I.obj,rfl,rfl,ho⟩,hl⟩
section
variable {prog:Program} {w:World} {A:Around} {E:VP_} {s:Shared} {K:FG_} {x dx C f:Addr} {mA:Str->Option Value} {name:Str} {v:Value}
end
theorem zW.some_of {v:V} {o:Option Value} (r:zW (some v) o):∃ u,o=some u/\RelV v u:=by
 cases o with
 |none=>exact (show False from r).elim
 |some u=>exact⟨u,rfl,r⟩
section
variable {P:Program} {w:World} {H H':Hp} {h h':Heap} {a C dx:Addr} {fs fs':List (Str×V)}
theorem Cz (hok:xM P w H h) (e:H a=some (.ins C dx fs)):∃ mA,acA h a dx C mA/\(∀ f,zW (fs.lookup f) (mA f))/\PySem.Within mA (fs.map (·.1))/\fs.length<=1000/\H dx=some (.own a):=by
 obtain⟨d,z,ne,ob,mA,n,r,q⟩:=(show fu P w H h a (.ins C dx fs) from hok a _ e)
 exact⟨mA,⟨ob,n,ne⟩,r,q,z,d⟩
end
structure Cls (K:FG_) (C:Addr):Prop where
 pg:PySem.W.plainGet K C Str.empty=true
 hd:PySem.W.hasDictIn K C=true
 po:PySem.W.plainOver K C=true
 sa:PySem.W.findIn K (.ref C) "__setattr__" = some (some (.builtin "object.__setattr__"))
theorem Cls.get {K:FG_} {C:Addr} (c:Cls K C) (f:Str):PySem.W.plainGet K C f=true:=c.pg
section
variable {X:Cx} {pins:List (Addr×Obj)} {σ:St} {H:Hp} {s:Shared} {a C dx:Addr} {fs:List (Str×V)} {f:Str} {v:V} {A:Around} {E:VP_}
theorem Inv.made (I:Inv X pins σ H s):Inv X pins σ (upd (upd H s.heap.objs.size (.own (s.heap.objs.size+1))) (s.heap.objs.size+1) (.ins C s.heap.objs.size []))
  { s with heap:=(s.heap.push PySem.W.emptyDict).push (PySem.W.instObj C s.heap.objs.size) }:=by
 have e1:(s.heap.push PySem.W.emptyDict).get? s.heap.objs.size=some PySem.W.emptyDict:=zt s.heap rfl
 have e2:((s.heap.push PySem.W.emptyDict).push (PySem.W.instObj C s.heap.objs.size)).get? (s.heap.objs.size+1)=some (PySem.W.instObj C s.heap.objs.size):=by
  have:=zt (s.heap.push PySem.W.emptyDict) (o:=PySem.W.instObj C s.heap.objs.size) rfl
  rwa [qc] at this
 have e3:(s.heap.push PySem.W.emptyDict).Ns s.heap.objs.size (fun _=>none):=⟨PySem.W.emptyDict,#[],_,e1,rfl,(fun e he=>absurd he (by simp)),fun _=>rfl⟩
 have I1:=I.laid (a:=s.heap.objs.size) (o:=.own (s.heap.objs.size+1)) (h':=s.heap.push PySem.W.emptyDict) (t':=s.toks) (fun b u q=>zd _ q) (zk _) ⟨_,e1⟩
 refine I1.laid (a:=s.heap.objs.size+1) (o:=.ins C s.heap.objs.size []) (t':=s.toks) (fun b u q=>zd _ q) (Nat.le_of_eq (qc _ _)) ?_
 have ne:s.heap.objs.size≠s.heap.objs.size+1:=zI (qf _)
 refine⟨by rw[aG ne,aU],qE _,ne,e2,fun _=>none,(Heap.Ns1.of_empty e3).at fun o q=>zd _ q,fun _=>True.intro,fun y hy=>absurd rfl hy⟩
end
section
variable {X:Cx} {o e value:Expr} {f:Str} {pos pos' tpos:Pos} {ta tv:TE}
end
section
variable {X:Cx} {pins:List (Addr×Obj)} {σ:St} {H:Hp} {s:Shared} {A:Around} {E:VP_} {Q:VP_} {c:Value} {b:Bool}
end
end L2
namespace L2
open PySem PySem.Spec PyProof.Rows
structure mV (k:Nat) (A:Around):Prop where
 hd:A.handled=none
 dp:A.depth+3 * k+5 < recursionLimit
 un:A.units+16 * k+200 < cLine
theorem mV.mono {j k:Nat} {A:Around} (r:mV k A) (h:j<=k):mV j A:=⟨r.hd,by have:=r.dp;omega,by have:=r.un;omega⟩
theorem mV.deeper {k:Nat} {A:Around} (r:mV (k+1) A) (env:Env):mV k (A.deeper env):=
 ⟨r.hd,by have:=r.dp;show A.depth+1+3 * k+5 < _;omega,by have:=r.un;show A.units+3+16 * k+200 < _;omega⟩
theorem mV.in1 {k:Nat} {A:Around} (r:mV (k+1) A):mV k A.in1:=
 ⟨r.hd,by have:=r.dp;show A.depth+3 * k+5 < _;omega,by have:=r.un;show A.units+1+16 * k+200 < _;omega⟩
theorem mV.depth {k:Nat} {A:Around} (r:mV k A):A.depth < recursionLimit:=by have:=r.dp;omega
theorem mV.units {k:Nat} {A:Around} (r:mV k A):A.units+64 < cLine:=by have:=r.un;omega
def VP:TA:=fun _ H Q=>Q [] H
def IW (ta:TE) (tr:TA):TA:=fun σ H Q=>ta σ H fun x H1=>tr σ H1 fun xs H2=>Q (x::xs) H2
section
variable {X:Cx} {e:Expr} {es:List Expr} {te:TE} {t:TA} {pos:Pos}
theorem uU:PA X [] VP:=fun _ _ _ _ H Q I h=>Calls.spliced_nil ⟨[],H,I,.nil,h⟩
theorem nR (ha:PE X e te) (hr:PA X es t) (hs:starEach (e::es) X.env=(false,eval e X.env)::starEach es X.env:=by rfl):PA X (e::es) (IW te t):=by
 intro pos pins s σ H Q I h
 rw[hs]
 show wpAny _ _ (spliced ((false,eval e X.env)::backTo pos (starEach es X.env))) _ _ s
 refine Calls.spliced_cons (j9 (ha pins s σ H _ I h) fun u s1 ⟨x,H1,I1,r1,q1⟩=>?_)
 exact j9 (hr pos pins s1 σ H1 _ I1 q1) fun us s2 ⟨xs,H2,I2,r2,q2⟩=>⟨x::xs,H2,I2,.cons r1 r2,q2⟩
def ag7 (t:TA):TE:=fun σ H Q=>t σ H fun xs H1=>xs.length<=sizeLine/\∀ p,H1 p=none->Q (.ref p) (upd H1 p (.tup xs))
def aeZ (t:TA):TE:=fun σ H Q=>t σ H fun xs H1=>xs.length<=sizeLine/\∀ p,H1 p=none->Q (.ref p) (upd H1 p (.lst xs))
theorem acB {x1} (h:PA X es t):PE X (.Tuple es x1 pos) (ag7 t):=by
 intro pins s σ H Q I hq
 refine wpAny_Tuple_spliced (j9 (h pos pins s σ H _ I hq) fun us s1 ⟨xs,H1,I1,r,z,q⟩=>⟨by rw[<-r.length];exact z,?_⟩)
 have hf:H1 s1.heap.objs.size=none:=I1.hok.fresh (zk _)
 refine⟨.ref s1.heap.objs.size,upd H1 s1.heap.objs.size (.tup xs),I1.laid (t':=s1.toks) (fun b u e=>zd _ e) (zk _) ?_,rfl,q _ hf⟩
 exact⟨z,us,r,⟨_,zt _ rfl,rfl,⟨_,rfl⟩,rfl⟩⟩
theorem VR (h:PA X es t):PE X (.List es pos) (aeZ t):=by
 intro pins s σ H Q I hq
 refine wpAny_List_spliced (j9 (h pos pins s σ H _ I hq) fun us s1 ⟨xs,H1,I1,r,z,q⟩=>⟨by rw[<-r.length];exact z,?_⟩)
 have hf:H1 s1.heap.objs.size=none:=I1.hok.fresh (zk _)
 refine⟨.ref s1.heap.objs.size,upd H1 s1.heap.objs.size (.lst xs),I1.laid (t':=s1.toks) (fun b u e=>zd _ e) (zk _) ?_,rfl,q _ hf⟩
 exact⟨z,us,0,r,zt _ rfl⟩
end
abbrev Sp:=List V->Hp->VK->XK->Prop
abbrev RK:=List Env->Hp->Shared->XK->Value->Shared->Prop
structure PL (P:Program) (w:World) (K:FG_) (mg:Str->Option Value) (base:Heap) (A:Around) (outer:List Env) (s:Shared) (H:Hp):Prop where
 frames:A.frames=some outer
 mod:Mod K mg base
 bs:∀ b o,base.get? b=some o->s.heap.get? b=some o/\H b=none
 YT:base.objs.size<=s.heap.objs.size
 Cd:s.heap.FunFrames base outer
 frf:∀ b∈frs outer,H b=none
 hok:xM P w H s.heap
 bare:AllBare s.gens
def CE (outer:List Env) (P:Program) (w:World) (H:Hp) (s:Shared) (Q:VK) (u:Value) (s':Shared):Prop:=
 ∃ v H',s'.os=s.os/\AllBare s'.gens/\Un (frs outer) [] H H' s.heap s'.heap/\xM P w H' s'.heap/\RelV v u/\Q v H'
def CR (CX:RK) (outer:List Env) (P:Program) (w:World) (H:Hp) (s:Shared) (Q:VK) (E:XK) (r:Result) (s':Shared):Prop:=
 match r with
 |.ok (.ret u)=>CE outer P w H s Q u s'
 |.ok _=>False
 |.error e=>CX outer H s E e s'
structure cF (P:Program) (w:World) (K:FG_) (mg:Str->Option Value) (base:Heap) (CX:RK) (k:Nat) (f:Addr) (fd:FuncData) (ps:LS_) (sp:Sp):Prop where
 len:∀ vs H Q E,sp vs H Q E->vs.length=ps.length
 run:∀ (A:Around) (outer:List Env) (s:Shared) (H:Hp) (args:Args) (us:List Value) (vs:List V) (Q:VK) (E:XK),mV k A->PL P w K mg base A outer s H->BindsTo s fd args (ps.zip us)->Vals vs us->sp vs H Q E →
  codeAny (model P w) A (.call (.ref f) args) (CR CX outer P w H s Q E) s
theorem cF.mono {P:Program} {w:World} {K:FG_} {mg:Str->Option Value} {base:Heap} {CX:RK} {j k:Nat} {f:Addr} {fd:FuncData} {ps:LS_} {sp:Sp} (F:cF P w K mg base CX j f fd ps sp) (h:j<=k) :
  cF P w K mg base CX k f fd ps sp:=⟨F.len,fun A outer s H args us vs Q E hr=>F.run A outer s H args us vs Q E (hr.mono h)⟩
theorem cF.imp {P:Program} {w:World} {K:FG_} {mg:Str->Option Value} {base:Heap} {CX:RK} {k:Nat} {f:Addr} {fd:FuncData} {ps:LS_} {sp sp':Sp} (F:cF P w K mg base CX k f fd ps sp)
  (h:∀ vs H Q E,sp' vs H Q E->sp vs H Q E):cF P w K mg base CX k f fd ps sp':=
 ⟨fun vs H Q E q=>F.len vs H Q E (h _ _ _ _ q),fun A outer s H args us vs Q E hr he hb hv hs=>F.run A outer s H args us vs Q E hr he hb hv (h _ _ _ _ hs)⟩
theorem PL.in1 {P:Program} {w:World} {K:FG_} {mg:Str->Option Value} {base:Heap} {A:Around} {outer:List Env} {s:Shared} {H:Hp} (e:PL P w K mg base A outer s H) :
  PL P w K mg base A.in1 outer s H:=⟨e.frames,e.mod,e.bs,e.YT,e.Cd,e.frf,e.hok,e.bare⟩
section
variable {X:Cx} {pins:List (Addr×Obj)} {σ:St} {H:Hp} {s s':Shared}
theorem Inv.env0 (I:Inv X pins σ H s):PL X.prog X.w X.K X.mg X.base X.A X.stack s H:=
 ⟨I.ok.frames,I.ok.mod,I.bs,Zl I.ok.YT I.sz,I.stack,I.RD,I.hok,I.bare⟩
theorem Inv.after {Q:VK} {u:Value} (I:Inv X pins σ H s) (h:CE X.stack X.prog X.w H s Q u s'):EP X pins σ Q u s':=by
 obtain⟨v,H',os,bare,un,hok,r,q⟩:=h
 obtain⟨hh,g,d,t,os'⟩:=s'
 obtain rfl:os'=s.os:=os
 exact⟨v,H',I.call (h':=hh) (g':=g) (d':=d) (t':=t) (ch:=[]) un hok bare (fun b z=>absurd z (by simp)),r,q⟩
end
def ae0 (sp:Sp) (dvs:List V) (E:XK) (t:TA):TE:=fun σ H Q=>t σ H fun vs H1=>sp (vs++dvs) H1 Q E
def Binds (K:FG_) (fd:FuncData) (ps:LS_) (ds:List Value):Prop:=
 ∀ (s:Shared) (us:List Value),K.In s.heap->(us++ds).length=ps.length->BindsTo s fd ⟨us,[]⟩ (ps.zip (us++ds))
theorem Binds.all {K:FG_} {fd:FuncData} {ps:LS_} (h:∀ us:List Value,us.length=ps.length->bindArgs fd ⟨us,[]⟩=pure (ps.zip us)):Binds K fd ps []:=fun s us _ hl=>by
 rw[km] at hl ⊢
 exact .of_eq (h us hl)
def Passes (CX:RK) (X:Cx) (E:XK):Prop:=∀ (pins:List (Addr×Obj)) (σ:St) (H:Hp) (s:Shared) (e:Value) (s':Shared),Inv X pins σ H s->CX X.stack H s E e s'->X.xe e s'
section
variable {X:Cx} {CX:RK} {k:Nat} {f C:Addr} {fd:FuncData} {ps:LS_} {sp:Sp} {dvs:List V} {ds:List Value} {E:XK} {x m:Str} {p pos apos:Pos} {e o:Expr} {es:List Expr} {ta:TE} {t:TA}
theorem acC {pins:List (Addr×Obj)} {σ:St} {H:Hp} {s:Shared} {Q:VK} {us:List Value} {vs:List V} (F:cF X.prog X.w X.K X.mg X.base CX k f fd ps sp) (hr:mV k X.A) (hb:Binds X.K fd ps ds) (hd:Vals dvs ds) (hx:Passes CX X E)
  (I:Inv X pins σ H s) (r:Vals vs us) (h:sp (vs++dvs) H Q E):wpAny (model X.prog X.w) X.A (call (.ref f) us) (EP X pins σ Q) X.xe s:=by
 have r2:Vals (vs++dvs) (us++ds):=r.append hd
 have hl:(us++ds).length=ps.length:=by rw[<-r2.length];exact F.len _ _ _ _ h
 refine wpAny_call (codeAny_mono (F.run X.A X.stack s H ⟨us,[]⟩ (us++ds) (vs++dvs) Q E hr I.env0 (hb s us I.kIn hl) r2 h) fun r s' hq=>?_)
 cases r with
 |error e=>exact hx pins σ H s e s' I hq
 |ok fl=>
  cases fl with
  |ret u=>exact I.after hq
  |next=>exact False.elim hq
  |brk=>exact False.elim hq
  |cont=>exact False.elim hq
theorem RM (F:cF X.prog X.w X.K X.mg X.base CX k f fd ps sp) (hr:mV k X.A) (hg:Gl X x) (hm:X.mg x=some (.ref f)) (hk:PySem.W.keepIn X.K (.ref f)=true) (hb:Binds X.K fd ps ds) (hd:Vals dvs ds) (hx:Passes CX X E)
  (ha:PA X (e::es) t) (hdb:(x==("__debug__" : Str))=false:=by decide) (he:starEach (e::es) X.env=(false,eval e X.env)::starEach es X.env:=by rfl) (hpl:(backTo pos (starEach es X.env)).any (·.1)=false:=by rfl) :
  PE X (.Call (.Name x p) (e::es) [] pos) (ae0 sp dvs E t):=by
 intro pins s σ H Q I h
 refine wpAny_Call_Name_kw (Y8 I hg hm ?_ hdb)
 refine PySem.W.callWith_K (h₀:=X.base) I.ok.mod.kin hk (j9 (ha pos pins s σ H _ I h) fun us s1 ⟨vs,H1,I1,r,q⟩=>⟨I1.kIn,?_⟩) he hpl
 exact acC F hr hb hd hx I1 r q
end
section
variable {X:Cx} {CX:RK} {k:Nat} {f C:Addr} {fd:FuncData} {ps ks:LS_} {sp:Sp} {E:XK} {x m:Str} {p pos apos kpos:Pos} {e o:Expr} {es:List Expr} {kws:List Keyword} {te ta:TE} {t tk:TA} {nm:Option Str}
variable {g:List Value->List Value->List Value} {gV:List V->List V->List V}
end
structure bU (N P:LS_) (sc:Scope):Prop where
 kind:sc.kind=.function
 co:sc.isCoroutine=false
 gen:sc.isGenerator=false
 nd:N.Nodup
 pre:N.take P.length=P
 par:∀ x∈P,sc.names.lookup x=some .local\/sc.names.lookup x=some .cell
 acD:∀ y∈sc.names,y.2≠.free
theorem Ja {kindOf:Str->Option NameKind} {x:Str}:∀ {binds:List (Str×Value)} {m:Str->Option Value},(∀ v,(x,v)∉binds)->bindL kindOf binds m x=m x
 |[],_,_=>rfl
 |(n,v)::r,m,h=>by
  unfold bindL
  rw[Ja fun w hw=>h w (zh _ hw)]
  split
  ·have:x≠n:=by rintro rfl;exact h v ze
   simp[this]
  ·rfl
theorem Jb {kindOf:Str->Option NameKind} {x:Str}:∀ {binds:List (Str×Value)} {m:Str->Option Value},(∀ v,(x,v)∉binds)->bindC kindOf binds m x=m x
 |[],_,_=>rfl
 |(n,v)::r,m,h=>by
  unfold bindC
  rw[Jb fun w hw=>h w (zh _ hw)]
  split
  ·rfl
  ·have:x≠n:=by rintro rfl;exact h v ze
   simp[this]
theorem Jc {kindOf:Str->Option NameKind} {x:Str} {v:Value}:∀ {P:LS_} {vs:List Value} {i:Nat} {m:Str->Option Value},P.Nodup->P[i]?=some x->vs[i]?=some v->kindOf x=some .local →
  bindL kindOf (P.zip vs) m x=some v
 |[],_,_,_,_,h,_,_=>by simp at h
 |_::_,[],_,_,_,_,h,_=>by simp at h
 |p::P,w::vs,0,m,nd,h1,h2,hk=>by
  simp at h1 h2;subst h1;subst h2
  show bindL kindOf ((p,w)::P.zip vs) m p=_
  unfold bindL
  rw[Ja fun v hv=>(List.nodup_cons.mp nd).1 (List.of_mem_zip hv).1,zo hk]
  simp
 |p::P,w::vs,i+1,m,nd,h1,h2,hk=>by
  show bindL kindOf ((p,w)::P.zip vs) m x=_
  unfold bindL
  exact Jc (i:=i) (List.nodup_cons.mp nd).2 (by simpa using h1) (by simpa using h2) hk
theorem Jd {kindOf:Str->Option NameKind} {x:Str} {v:Value}:∀ {P:LS_} {vs:List Value} {i:Nat} {m:Str->Option Value},P.Nodup->P[i]?=some x->vs[i]?=some v->kindOf x≠some .local →
  bindC kindOf (P.zip vs) m x=some v
 |[],_,_,_,_,h,_,_=>by simp at h
 |_::_,[],_,_,_,_,h,_=>by simp at h
 |p::P,w::vs,0,m,nd,h1,h2,hk=>by
  simp at h1 h2;subst h1;subst h2
  show bindC kindOf ((p,w)::P.zip vs) m p=_
  unfold bindC
  rw[Jb fun v hv=>(List.nodup_cons.mp nd).1 (List.of_mem_zip hv).1,zv hk]
  simp
 |p::P,w::vs,i+1,m,nd,h1,h2,hk=>by
  show bindC kindOf ((p,w)::P.zip vs) m x=_
  unfold bindC
  exact Jd (i:=i) (List.nodup_cons.mp nd).2 (by simpa using h1) (by simpa using h2) hk
def start (N:LS_) (vs:List V):St:=vs.map some++List.replicate (N.length - vs.length) none
def Hh (CX:RK) (P:Program) (w:World) (K:FG_) (mg:Str->Option Value) (base:Heap) (N:LS_) (qual:Str) (scope:Scope) (f:Addr) (cd:Value) (A:Around) (outer:List Env) (s:Shared) (H:Hp) (E:XK):Cx where
 prog:=P
 w:=w
 K:=K
 mg:=mg
 base:=base
 A:=A.deeper (envOfC qual scope s.heap.objs.size f cd)
 N:=N
 s₀:=s
 H₀:=H
 env:=envOfC qual scope s.heap.objs.size f cd
 outer:=outer
 stack:=envOfC qual scope s.heap.objs.size f cd::outer
 ex:=[]
 calm:=true
 fn:=fun _=>true
 pn:=[]
 xe:=fun e s'=>wpAny (model P w) (A.deeper (envOfC qual scope s.heap.objs.size f cd)) (leaving (envOfC qual scope s.heap.objs.size f cd) e) (fun _ s''=>CX outer H s E e s'') (fun e' s''=>CX outer H s E e' s'') s'
theorem Mp {sc:Scope} {n:Nat} {x:Str} (h:sc.names.lookup x=some .cell):∃ c,(cellsFrom n sc.names []).lookup x=some c:=by
 have q:=PySem.W.cellsFrom_some sc.names n [] (.inl h)
 exact Option.isSome_iff_exists.mp q
theorem Ub {CX:RK} {P:Program} {w:World} {K:FG_} {mg:Str->Option Value} {base:Heap} {N ps:LS_} {qual:Str} {scope:Scope} {f:Addr} {cd:Value} {A:Around} {outer:List Env} {s s1:Shared} {H:Hp} {E:XK} {us:List Value} {vs:List V}
  (S:bU N ps scope) (hd:A.handled=none) (e0:PL P w K mg base A outer s H) (hl:vs.length=ps.length) (r:Vals vs us)
  (x:InCallC s s.heap.objs.size (bindL (envOfC qual scope s.heap.objs.size f cd).kindOf (ps.zip us) fun _=>none) (cellsFrom (s.heap.objs.size+1) scope.names []) (bindC (envOfC qual scope s.heap.objs.size f cd).kindOf (ps.zip us) fun _=>none) s1) :
  Inv (Hh CX P w K mg base N qual scope f cd A outer s H E) [] (start N vs) H s1:=by
 have hpl:ps.length<=N.length:=by have:=congrArg List.length S.pre;rw[kf] at this;omega
 obtain⟨h1,tk,rfl,hk⟩:=x.done
 have noA:∀ b:Addr,b∉(Hh CX P w K mg base N qual scope f cd A outer s H E).ex:=fun b z=>absurd (show b∈([]:List Addr) from z) (by simp)
 refine⟨⟨e0.mod,S.kind,rfl,rfl,zk _,fun y z c h1 h2=>?_,fun y hy=>?_,fun y c _ h=>?_,fun _=>hd,Around.frames_deeper e0.frames,.inr ⟨rfl,rfl⟩,fun b z=>absurd z (noA b),e0.bs,e0.YT,fun b _ _=>noA b,fun b z=>absurd z (noA b),e0.Cd,e0.frf⟩,
  rfl,e0.bare,Un.kept hk,⟨_,x.toInCall.ns,fun i y v h1 h2 h3=>?_⟩,fun y c h=>⟨_,x.cell y c h⟩,e0.hok.fresh (zk _),fun y c h=>?_,fun p hp=>absurd (show p∈([]:List (Addr×Obj)) from hp) (by simp),e0.hok.kept hk,?_⟩
 ·exact name_of_addr x.apart (ke h1) (ke h2)
 ·have hy:scope.names.lookup y=some .cell\/scope.names.lookup y=some .free:=hy
  rcases hy with hy|hy
  ·exact Mp hy
  ·exact absurd rfl (S.acD _ (ke hy))
 ·exact Q4 (x.above y c (ke h))
 ·have hi:i < vs.length:=by
   unfold start at h2
   by_cases hi:i < vs.length
   ·exact hi
   ·rw[qA (by simpa using hi)] at h2
    rw[QQ] at h2
    split at h2<;>cases h2
  have ha:vs[i]?=some v:=by
   unfold start at h2
   rw[ZH (by simpa using hi),zS] at h2
   cases e:vs[i]? with
   |none=>rw[e] at h2;cases h2
   |some a=>rw[e] at h2;cases h2;rfl
  obtain⟨u,hu,rv⟩:=r.get ha
  have hp:ps[i]?=some y:=by
   rw[<-S.pre,List.getElem?_take_of_lt (by omega)];exact h1
  have ndP:ps.Nodup:=by rw[<-S.pre];exact S.nd.sublist (List.take_sublist _ _)
  refine⟨u,rv,?_⟩
  rcases S.par y (QE hp) with k|k
  ·exact .inl ⟨k,Jc ndP hp hu k⟩
  ·obtain⟨c,e⟩:=Mp (n:=s.heap.objs.size+1) k
   refine .inr ⟨.inl k,c,e,?_⟩
   have q:=x.cell y c e
   rw[Jd ndP hp hu (by show scope.names.lookup y≠_;rw[k];decide)] at q
   exact q
 ·exact e0.hok.fresh (Q4 (x.above y c (ke h)))
 ·unfold start
  show _=N.length
  rw[ZA,zi,List.length_replicate]
  omega
theorem ae2 {CX:RK} {P:Program} {w:World} {K:FG_} {mg:Str->Option Value} {base:Heap} {k:Nat} {f:Addr} {name qual:Str} {params:Arguments} {body:List Stmt} {scope:Scope} {dV kV doc pm cdv ct oc:Value} {an od:Option Addr}
  {osl:Array (Option Value)} {N ps:LS_} {sp:Sp} (lk:K.lookup f=some ⟨oc,od,.func (PySem.W.fnOf name qual params body scope dV kV doc pm an cdv ct),osl⟩) (hcd:PySem.W.codeIn K cdv qual=true) (S:bU N ps scope)
  (len:∀ vs H Q E,sp vs H Q E->vs.length=ps.length)
  (hbody:∀ (A:Around) (outer:List Env) (s:Shared) (H:Hp) (vs:List V) (Q:VK) (E:XK),mV k (A.deeper (envOfC qual scope s.heap.objs.size f cdv))->sp vs H Q E →
   ∃ t,Pr (Hh CX P w K mg base N qual scope f cdv A outer s H E) body t/\t { nx:=fun _ H'=>Q .non H',rt:=Q } (start N vs) H) :
  cF P w K mg base CX (k+1) f (PySem.W.fnOf name qual params body scope dV kV doc pm an cdv ct) ps sp:=by
 refine⟨len,fun A outer s H args us vs Q E hr e0 hb r hsp=>?_⟩
 have hl:=len _ _ _ _ hsp
 have KX:K.In s.heap:=e0.mod.kin.keeps fun b o e=>(e0.bs b o e).1
 have lim:s.heap.NoLimit:=e0.mod.nolimit.keeps fun b o e=>(e0.bs b o e).1
 have hkind:∀ y∈ps.zip us,scope.names.lookup y.1=some .local\/(scope.names.lookup y.1=some .cell/\((cellsFrom (s.heap.objs.size+1) scope.names []).lookup y.1).isSome=true):=fun ⟨n,v⟩ hy=>by
  rcases S.par n (List.of_mem_zip hy).1 with q|q
  ·exact .inl q
  ·exact .inr ⟨q,PySem.W.cellsFrom_some _ _ _ (.inl q)⟩
 refine codeAny_call_function hr.depth (KX _ _ lk) rfl S.co S.gen rfl (PySem.W.codeRec_of KX hcd) (hb _ _ _ _ ?_)
 refine wpAny_newFunctionEnv_cells S.kind hkind fun env he s1 x=>?_
 subst he
 refine⟨lim.keeps x.toInCall.keep,codeAny_func ?_⟩
 obtain⟨t,ht,hq⟩:=hbody A outer s H vs Q E (hr.deeper _) hsp
 have I:Inv (Hh CX P w K mg base N qual scope f cdv A outer s H E) [] (start N vs) H s1:=Ub S hr.hd e0 hl r x
 refine qo (ht [] s1 (start N vs) H _ I hq) (fun fl s' hs=>?_) fun e s' hs=>hs
 have fin:∀ {σ':St} {H':Hp} {v:V} {u:Value},Inv (Hh CX P w K mg base N qual scope f cdv A outer s H E) [] σ' H' s'->RelV v u->Q v H'->CE outer P w H s Q u s':=
  fun {σ' H' v u} J rv q=>⟨v,H',J.os,J.bare,J.base,J.hok,rv,q⟩
 cases fl with
 |ret u=>
  obtain⟨v,σ',H',J,rv,q⟩:=hs
  exact fin J rv q
 |next=>
  obtain⟨σ',H',J,q⟩:=hs
  exact fin (v:=V.non) (u:=Value.none) J rfl q
 |brk=>
  obtain⟨_,_,_,q⟩:=hs
  exact False.elim q
 |cont=>
  obtain⟨_,_,_,q⟩:=hs
  exact False.elim q
end L2
namespace L2
open PySem PySem.Spec PyProof.Rows
section
variable {X:Cx} {x:Str} {p pos:Pos} {e:Expr} {es:List Expr} {t:TA} {id T:String} {r:List V->Hp->VK->Prop}
def tCB (r:List V->Hp->VK->Prop) (t:TA):TE:=fun σ H Q=>t σ H fun vs H1=>r vs H1 Q
theorem Du (hc:gP X (.builtin id) r) (hg:Gl X x) (hm:X.mg x=none) (hv:bootBuiltins x=some (.builtin id)) (ha:PA X (e::es) t) (hn:x ≠ "__name__" := by decide) (hdb:(x==("__debug__" : Str))=false:=by decide)
  (he:starEach (e::es) X.env=(false,eval e X.env)::starEach es X.env:=by rfl) (hpl:(backTo pos (starEach es X.env)).any (·.1)=false:=by rfl):PE X (.Call (.Name x p) (e::es) [] pos) (tCB r t):=by
 intro pins s σ H Q I h
 refine wpAny_Call_Name_kw (Dp I hg hm hv ?_ hn hdb)
 exact PyProof.Rows.callWith_builtin1 (j9 (ha pos pins s σ H _ I h) fun us s1 ⟨vs,H1,I1,r1,q1⟩=>hc pins s1 σ H1 vs us Q I1 r1 q1) he hpl
theorem Je (hc:gP X (.type T) r) (hg:Gl X x) (hm:X.mg x=none) (hv:bootBuiltins x=some (.type T)) (ha:PA X (e::es) t) (hn:x ≠ "__name__" := by decide) (hdb:(x==("__debug__" : Str))=false:=by decide)
  (he:starEach (e::es) X.env=(false,eval e X.env)::starEach es X.env:=by rfl) (hpl:(backTo pos (starEach es X.env)).any (·.1)=false:=by rfl):PE X (.Call (.Name x p) (e::es) [] pos) (tCB r t):=by
 intro pins s σ H Q I h
 refine wpAny_Call_Name_kw (Dp I hg hm hv ?_ hn hdb)
 exact PyProof.Rows.callWith_type1 (j9 (ha pos pins s σ H _ I h) fun us s1 ⟨vs,H1,I1,r1,q1⟩=>hc pins s1 σ H1 vs us Q I1 r1 q1) he hpl
end
end L2
namespace HT
open PySem PyProof.Rows
section
open PySem.SeqAt
open PySem.AutoSeq1 (wpAny_loadPart')
open PySem.MeetsSeq PySem.MeetsSeq2 PySem.MeetsSeq3
end
section
variable {prog:Program} {w:World} {A:Around} {E:VP_} {s:Shared}
theorem Zf {t b:Addr} {vs ws:List Value} {Q:VP_} (ht:IsTup s.heap t vs.toArray) (hb:IsTup s.heap b ws.toArray) (hv:vs≠[])
  (h1:ws=[]->Q (.ref t) s) (h2:ws≠[]->Q (.ref s.heap.objs.size) { s with heap:=s.heap.push { cls:=.type "tuple", data:=.seq (vs++ws).toArray } })
  (hsz:vs.length+ws.length<=sizeLine):wpAny (model prog w) A (binaryOp .Add (.ref t) (.ref b)) Q E s:=by
 obtain⟨⟨cls,dd,data,sl⟩,ho,hc,n,hd⟩:=id ht
 obtain⟨⟨cls2,dd2,data2,sl2⟩,ho2,hc2,n2,hd2⟩:=id hb
 simp only at hc hd hc2 hd2
 subst hc hd hc2 hd2
 have e:vs.toArray++ws.toArray=(vs++ws).toArray:=by simp
 by_cases hw:ws=[]
 ·exact concat_meets ⟨_,ho,rfl⟩ ⟨_,ho2,rfl⟩ noFill_tuple_add seq_tuple_add PySem.F.slot_tuple_add yz (ye _ _)
   (tuple_addW1 t b vs.toArray ws.toArray n n2 dd dd2 sl sl2 (by simpa using hv) (by simp[hw])) ⟨ho,ho2,h1 hw⟩
 ·refine concat_meets ⟨_,ho,rfl⟩ ⟨_,ho2,rfl⟩ noFill_tuple_add seq_tuple_add PySem.F.slot_tuple_add yz (ye _ _)
   (tuple_addW2 t b vs.toArray ws.toArray n n2 dd dd2 sl sl2 (by simpa using hv) (by simpa using hw) (by rw[zC,zC];exact hsz)) ⟨ho,ho2,?_⟩
  rw[e]
  exact h2 hw
def jw (n d:Nat):Option Int->Nat
 |none=>d
 |some v=>if v < 0 then (v+(n:Int)).toNat else min v.toNat n
theorem acE (n d:Nat) (hd:d<=n) (o:Option Int):jw n d o<=n:=by
 cases o with
 |none=>exact hd
 |some v=>
  show (if v < 0 then (v+(n:Int)).toNat else min v.toNat n)<=n
  by_cases hv:v < 0
  ·rw[zo hv];omega
  ·rw[zv hv];exact Nat.min_le_right _ _
theorem RN (v:Int) (n d:Nat):(if v < 0 then max (v+(n:Int)) 0 else min v (n:Int))=((jw n d (some v):Nat):Int):=by
 show (if v < 0 then max (v+(n:Int)) 0 else min v (n:Int))=(((if v < 0 then (v+(n:Int)).toNat else min v.toNat n):Nat):Int)
 by_cases hv:v < 0
 ·simp only[zo hv];omega
 ·simp only[zv hv];omega
theorem PN (lo hi:Option Int) (n:Nat):Builtin.Slice.sliceAdjust lo hi 1 (n:Int)=(((jw n 0 lo:Nat):Int),((jw n n hi:Nat):Int)):=by
 have h1:¬ ((1:Int) < 0):=by omega
 unfold Builtin.Slice.sliceAdjust
 simp only[h1,ZN]
 refine Prod.ext ?_ ?_
 ·cases lo with
  |none=>rfl
  |some v=>exact RN v n 0
 ·cases hi with
  |none=>rfl
  |some v=>exact RN v n n
theorem PX (i j:Nat):Builtin.Slice.slicePlaces (i:Int) (j:Int) 1=j - i:=by
 unfold Builtin.Slice.slicePlaces
 have h1:(1:Int) > 0:=by omega
 simp only[h1,QN,Int.ediv_one]
 split<;>omega
theorem Dv {v:Value} {o:Option Int} {Q:Option Int->Shared->Prop} (p:IsPart v o) (h:Q o s):wpAny (model prog w) A (Builtin.Slice.slicePartIndex v) Q E s:=by
 cases p with
 |none=>exact slicePart_none h
 |int i t=>exact slicePart_int h
theorem rT {sl:Addr} {vl vu:Value} {lo hi:Option Int} {n:Nat} {Q:Int×Int×Nat->Shared->Prop} (hs:s.heap.IsSliceOf sl vl vu .none) (pl:IsPart vl lo) (pu:IsPart vu hi)
  (h:Q (((jw n 0 lo:Nat):Int),1,jw n n hi - jw n 0 lo) s):wpAny (model prog w) A (Builtin.Slice.sliceApplied (.ref sl) (pure (n:Int))) Q E s:=by
 obtain⟨os,hos,hcs,hds⟩:=id hs
 unfold Builtin.Slice.sliceApplied Builtin.Slice.sliceFields
 refine zb (zb (wpAny_field hos hds (x:=vl) rfl (zb (wpAny_field hos hds (x:=vu) rfl (zb (wpAny_field hos hds (x:=.none) rfl (zg ?_)))))))
 refine zb (slicePart_none ?_)
 show wpAny _ _ (if ((1:Int)==0)=true then _ else _) _ _ s
 rw[zv (by decide)]
 refine zb (Dv pl (zb (Dv pu (zb (zg ?_)))))
 show wpAny _ _ (match Builtin.Slice.sliceAdjust lo hi 1 (n:Int) with|(lo,hi)=>pure (lo,(1:Int),Builtin.Slice.slicePlaces lo hi 1)) _ _ s
 rw[PN lo hi n]
 show wpAny _ _ (pure (((jw n 0 lo:Nat):Int),(1:Int),Builtin.Slice.slicePlaces ((jw n 0 lo:Nat):Int) ((jw n n hi:Nat):Int) 1)) _ _ s
 rw[PX]
 exact zg h
theorem V0 (xs:Array Value) (i k:Nat):((List.range k).filterMap fun (m:Nat)=>xs[((i:Int)+(m:Int) * 1).toNat]?).toArray=((xs.toList.drop i).take k).toArray:=by
 have e:(fun (m:Nat)=>xs[((i:Int)+(m:Int) * 1).toNat]?)=fun m=>xs[i+m]?:=by
  funext m
  have:((i:Int)+(m:Int) * 1).toNat=i+m:=by omega
  rw[this]
 rw[e]
 have:=pick_run xs i k
 rw[List.filterMap_map] at this
 have e2:((fun x=>xs[x]?) ∘ fun x=>i+x)=fun m=>xs[i+m]?:=rfl
 rw[e2] at this
 rw[this]
theorem yE {t sl:Addr} {items:Array Value} {vl vu:Value} {lo hi:Option Int} {Q:VP_} (ht:IsTup s.heap t items) (hs:s.heap.IsSliceOf sl vl vu .none) (pl:IsPart vl lo) (pu:IsPart vu hi)
  (hw:¬ (jw items.size 0 lo=0/\jw items.size items.size hi=items.size))
  (h:Q (.ref s.heap.objs.size) { s with heap:=s.heap.push { cls:=.type "tuple", data:=.seq ((items.toList.drop (jw items.size 0 lo)).take (jw items.size items.size hi - jw items.size 0 lo)).toArray } })
  (hsz:items.size<=sizeLine):wpAny (model prog w) A (getItem (.ref t) (.ref sl)) Q E s:=by
 have RQ:sizeOk (.seq ((items.toList.drop (jw items.size 0 lo)).take (jw items.size items.size hi - jw items.size 0 lo)).toArray):=by
  show ((items.toList.drop (jw items.size 0 lo)).take (jw items.size items.size hi - jw items.size 0 lo)).toArray.size<=sizeLine
  rw[zC,kf,Kt,ZZ]
  omega
 have hj:jw items.size items.size hi<=items.size:=acE _ _ (zk _) hi
 obtain⟨os,hos,hcs,hds⟩:=id hs
 have hTs:s.TypeIs (.ref sl) "slice" := ⟨os,hos,hcs⟩
 unfold getItem
 try with_reducible refine QR ?_
 first|refine zb (zg ?_)|skip
 refine zb (wpAny_sequenceKey ht.typeIs (by decide) ?_)
 refine zb (yv (name:=Str.ofString "__getitem__") ht.typeIs PyProof.Rows.slot_tuple_getitem
  (JE PyProof.Rows.slot_tuple_getitem ht.typeIs entry_tuple_getitem ?_ (args_tuple_getitem _ _)))
 show wpAny _ _ (Builtin.Tuple.tupleItemsOf (.ref t) >>= _) _ _ s
 refine zb (tupleItemsOf_ ht ?_)
 refine zb (QU hTs ?_)
 rw[zo (by decide)]
 refine zb (rT hs pl pu ?_)
 have hno:¬ ((((jw items.size 0 lo:Nat):Int)==0&&(1:Int)==1&&(jw items.size items.size hi - jw items.size 0 lo)==items.size)=true):=by
  intro q
  rw[ZU,ZU] at q
  have q1:((jw items.size 0 lo:Nat):Int)=0:=eq_of_beq q.1.1
  have q2:jw items.size items.size hi - jw items.size 0 lo=items.size:=eq_of_beq q.2
  exact hw ⟨by omega,by omega⟩
 show wpAny _ _ (if (((jw items.size 0 lo:Nat):Int)==0&&(1:Int)==1&&(jw items.size items.size hi - jw items.size 0 lo)==items.size)=true then _ else _) _ _ s
 rw[zv hno,V0]
 first
  |exact zb (m:=Builtin.Tuple.tupleExact _) (qq (zg ⟨_,rfl,zg h⟩) RQ)
  |exact zb (m:=Builtin.Tuple.tupleExact _) (qq (zb (zg (zg ⟨_,rfl,zg h⟩))) RQ)
  |exact zb (zb (m:=Builtin.Tuple.tupleExact _) (qq (zg (zg ⟨_,rfl,zg h⟩)) RQ))
  |exact zb (zb (m:=Builtin.Tuple.tupleExact _) (qq (zg ⟨_,rfl,zg h⟩) RQ))
end
end HT
namespace L2
open PySem PySem.Spec PyProof.Rows
abbrev TO:=St->Hp->(Option Int->Hp->Prop)->Prop
def PO (X:Cx) (e:Option Expr) (t:TO):Prop:=
 ∀ (pins:List (Addr×Obj)) (s:Shared) (σ:St) (H:Hp) (Q:Option Int->Hp->Prop),Inv X pins σ H s->t σ H Q →
  wpAny (model X.prog X.w) X.A (evalPart e X.env) (fun u s'=>∃ o H',Inv X pins σ H' s'/\IsPart u o/\Q o H') X.xe s
def Zg:TO:=fun _ H Q=>Q none H
def ae3 (t:TE):TO:=fun σ H Q=>t σ H fun x H1=>∃ i,x=.int i/\Q (some i) H1
section
variable {X:Cx} {e:Expr} {te:TE} {lo hi:Option Expr} {tl th:TO} {pos p2:Pos}
theorem Zh:PO X none Zg:=by
 intro pins s σ H Q I h
 rw[evalPart_none]
 exact zg ⟨none,H,I,.none,h⟩
theorem Zi (h:PE X e te):PO X (some e) (ae3 te):=by
 intro pins s σ H Q I hw
 rw[evalPart_some]
 refine j9 (h pins s σ H _ I hw) fun u s1 ⟨x,H1,I1,r1,q1⟩=>?_
 obtain⟨i,rfl,q⟩:=q1
 obtain⟨t,rfl⟩:=r1
 exact⟨some i,H1,I1,.int i t,q⟩
def SlR (X:Cx) (r:V->Option Int->Option Int->Hp->VK->Prop):Prop:=
 ∀ (pins:List (Addr×Obj)) (s:Shared) (σ:St) (H:Hp) (x:V) (v vl vu:Value) (lo hi:Option Int) (sl:Addr) (Q:VK),Inv X pins σ H s->RelV x v->s.heap.IsSliceOf sl vl vu .none->IsPart vl lo->IsPart vu hi->r x lo hi H Q →
  ∃ T id,typeLookup (.type T) "__getitem__" = pure (some (.builtin id))/\s.TypeIs v T/\wpAny (model X.prog X.w) X.A (getItem v (.ref sl)) (EP X pins σ Q) X.xe s
theorem SlR.or {r r':V->Option Int->Option Int->Hp->VK->Prop} (h:SlR X r) (h':SlR X r'):SlR X (fun x lo hi H Q=>r x lo hi H Q\/r' x lo hi H Q):=by
 intro pins s σ H x v vl vu lo hi sl Q I rx hs pl pu q
 rcases q with q|q
 ·exact h pins s σ H x v vl vu lo hi sl Q I rx hs pl pu q
 ·exact h' pins s σ H x v vl vu lo hi sl Q I rx hs pl pu q
def tSl (r:V->Option Int->Option Int->Hp->VK->Prop) (te:TE) (tl th:TO):TE:=fun σ H Q=>te σ H fun x H1=>tl σ H1 fun l H2=>th σ H2 fun u H3=>r x l u H3 Q
theorem V1 {r:V->Option Int->Option Int->Hp->VK->Prop} (hr:SlR X r) (he:PE X e te) (hl:PO X lo tl) (hu:PO X hi th):PE X (.Subscript e (.Slice lo hi none p2) pos) (tSl r te tl th):=by
 intro pins s σ H Q I h
 refine Subscript_ (j9 (he pins s σ H _ I h) fun v s1 ⟨x,H1,I1,r1,q1⟩=>?_)
 refine wpAny_Slice (j9 (hl pins s1 σ H1 _ I1 q1) fun vl s2 ⟨l,H2,I2,pl,q2⟩=>j9 (hu pins s2 σ H2 _ I2 q2) fun vu s3 ⟨u,H3,I3,pu,q3⟩=>?_)
 rw[evalPart_none]
 refine zg ?_
 have I4:Inv X pins σ H3 { s3 with heap:=s3.heap.push { cls:=.type "slice", data:=.fields #[vl,vu,.none] } }:=I3.kept (t':=s3.toks) fun b ob q=>zd _ q
 obtain⟨T,id,hT,ht,hg⟩:=hr pins { s3 with heap:=s3.heap.push { cls:=.type "slice", data:=.fields #[vl,vu,.none] } } σ H3 x v vl vu l u s3.heap.objs.size Q I4 r1 (Heap.IsSliceOf.new ..) pl pu q3
 show wpAny (model X.prog X.w) X.A (subscriptTail e (.Slice lo hi none p2) v (.ref s3.heap.objs.size)) (EP X pins σ Q) X.xe { s3 with heap:=s3.heap.push { cls:=.type "slice", data:=.fields #[vl,vu,.none] } }
 exact tail_any (ops:=[.ref s3.heap.objs.size,v]) ht hT hg (by with_unfolding_all rfl)
def Mq (xs:List V) (lo hi:Option Int):List V:=(xs.drop (HT.jw xs.length 0 lo)).take (HT.jw xs.length xs.length hi - HT.jw xs.length 0 lo)
theorem Bj (xs:List V) (lo hi:Option Int):(Mq xs lo hi).length<=xs.length:=by
 unfold Mq
 rw[kf,Kt]
 omega
def ag9 (K:FG_):V->Option Int->Option Int->Hp->VK->Prop:=fun x lo hi H Q=>∃ a xs,x=.ref a/\xO K H a xs ∧
 ¬ (HT.jw xs.length 0 lo=0/\HT.jw xs.length xs.length hi=xs.length)/\∀ p,H p=none->Q (.ref p) (upd H p (.tup (Mq xs lo hi)))
theorem acF:SlR X (ag9 X.K):=by
 intro pins s σ H x v vl vu lo hi sl Q I rx hs pl pu h
 obtain⟨a,xs,rfl,hx,hw,q⟩:=h
 cases rx
 obtain⟨its,r,ht,hz⟩:=I.tuple hx
 have hlen:its.toArray.size=xs.length:=by rw[zC];exact r.length.symm
 refine⟨"tuple", _,PyProof.Rows.slot_tuple_getitem.lookup,ht.typeIs,?_⟩
 refine HT.yE ht hs pl pu (by rw[hlen];exact hw) ?_ (by rw[hlen];exact hz)
 rw[hlen]
 refine⟨.ref s.heap.objs.size,_,I.laid (t':=s.toks) (o:=.tup (Mq xs lo hi)) (fun b ob q=>zd _ q) (zk _) ?_,rfl,q _ (I.hok.fresh (zk _))⟩
 exact⟨Zl (Bj xs lo hi) hz,_,(r.drop (HT.jw xs.length 0 lo)).take (HT.jw xs.length xs.length hi - HT.jw xs.length 0 lo),sZ.new _ _⟩
def ae4 (K:FG_):R2:=fun x y H Q=>∃ a b xs ys,x=.ref a/\y=.ref b/\xO K H a xs/\xO K H b ys/\xs≠[]/\xs.length+ys.length<=sizeLine ∧
 (ys=[]->Q (.ref a) H)/\(ys≠[]->∀ p,H p=none->Q (.ref p) (upd H p (.tup (xs++ys))))
theorem Vals.CG {xs:List V} {us:List Value} (r:Vals xs us):us=[]↔xs=[]:=by
 cases r with
 |nil=>simp
 |cons _ _=>simp
theorem Zj:yD X (binaryOp .Add) (ae4 X.K):=by
 intro pins s σ H x y v u Q I rx ry h
 obtain⟨a,b,xs,ys,rfl,rfl,ha,hb,hx,hz,q1,q2⟩:=h
 cases rx
 cases ry
 obtain⟨its,r1,p1,_⟩:=I.tuple ha
 obtain⟨its2,r2,p2,_⟩:=I.tuple hb
 refine HT.Zf p1 p2 (fun z=>hx (r1.CG.mp z)) (fun z=>⟨.ref a,H,I,rfl,q1 (r2.CG.mp z)⟩) (fun z=>?_) (by rw[<-r1.length,<-r2.length];exact hz)
 refine⟨.ref s.heap.objs.size,_,I.laid (t':=s.toks) (o:=.tup (xs++ys)) (fun b ob q=>zd _ q) (zk _) ?_,rfl,q2 (fun w=>z (r2.CG.mpr w)) _ (I.hok.fresh (zk _))⟩
 exact⟨by rw[ZA];exact hz,_,r1.append r2,sZ.new _ _⟩
end
end L2
namespace L2
open PySem PySem.Spec PyProof.Rows
def ixN (n:Nat) (i:Int):Option Nat:=if 0<=i then (if i < n then some i.toNat else none) else if -(n:Int)<=i then some (i+n).toNat else none
def Hi {α:Type} (xs:List α) (i:Int):Option α:=(ixN xs.length i).bind fun j=>xs[j]?
theorem Zk {n:Nat} {i:Int} {j:Nat} (h:ixN n i=some j):seqIndex? i n=some j/\j < n ∧ -(n:Int)<=i/\i < n:=by
 unfold ixN at h
 by_cases h0:0<=i
 ·rw[zo h0] at h
  by_cases h1:i < n
  ·rw[zo h1] at h
   have e:i.toNat=j:=JP h
   exact⟨by rw[seqIndex_of h0 h1,e],by omega,by omega,h1⟩
  ·rw[zv h1] at h;cases h
 ·rw[zv h0] at h
  by_cases h1 : -(n:Int)<=i
  ·rw[zo h1] at h
   have e:(i+n).toNat=j:=JP h
   exact⟨by rw[seqIndex_neg (by omega) h1,e],by omega,h1,by omega⟩
  ·rw[zv h1] at h;cases h
theorem J1 {α:Type} {xs:List α} {i:Int} {v:α} (h:Hi xs i=some v):∃ j,seqIndex? i xs.length=some j/\xs[j]?=some v/\j < xs.length ∧ -(xs.length:Int)<=i/\i < xs.length:=by
 unfold Hi at h
 cases e:ixN xs.length i with
 |none=>rw[e] at h;cases h
 |some j=>
  rw[e] at h
  obtain⟨h1,h2,h3,h4⟩:=Zk e
  exact⟨j,h1,h,h2,h3,h4⟩
def RT (b:Expr):Prop:=∀ o i,subscripted b false o i=operate [o,i] (getItem o i)
def Zm (X:Cx) (r:R2):Prop:=
 ∀ (value slice:Expr) (pins:List (Addr×Obj)) (s:Shared) (σ:St) (H:Hp) (x y:V) (v u:Value) (Q:VK),Inv X pins σ H s->RelV x v->RelV y u->r x y H Q →
  subscripted slice false v u=operate [v,u] (getItem v u)->wpAny (model X.prog X.w) X.A (subscriptTail value slice v u) (EP X pins σ Q) X.xe s
def MtR (X:Cx) (id:String) (r:V->List V->Hp->VK->Prop):Prop:=
 ∀ (pins:List (Addr×Obj)) (s:Shared) (σ:St) (H:Hp) (x:V) (xs:List V) (v:Value) (us:List Value) (Q:VK),Inv X pins σ H s->RelV x v->Vals xs us->r x xs H Q →
  wpAny (model X.prog X.w) X.A (call (.builtin id) (v::us)) (EP X pins σ Q) X.xe s
section
variable {X:Cx} {a b:Expr} {ta tb:TE} {pos:Pos}
theorem Zm.or {r r':R2} (h:Zm X r) (h':Zm X r'):Zm X (fun x y H Q=>r x y H Q\/r' x y H Q):=by
 intro value slice pins s σ H x y v u Q I rx ry q hs
 rcases q with q|q
 ·exact h value slice pins s σ H x y v u Q I rx ry q hs
 ·exact h' value slice pins s σ H x y v u Q I rx ry q hs
theorem MtR.or {id:String} {r r':V->List V->Hp->VK->Prop} (h:MtR X id r) (h':MtR X id r'):MtR X id (fun x xs H Q=>r x xs H Q\/r' x xs H Q):=by
 intro pins s σ H x xs v us Q I rx rs q
 rcases q with q|q
 ·exact h pins s σ H x xs v us Q I rx rs q
 ·exact h' pins s σ H x xs v us Q I rx rs q
theorem ae5 {r:R2} (hr:Zm X r) (ha:PE X a ta) (hb:PE X b tb) (hs:RT b):PE X (.Subscript a b pos) (tOp r ta tb):=by
 intro pins s σ H Q I h
 exact Subscript_ (acn ha hb I h fun v u s2 x y H2 I2 rx ry q=>hr a b pins s2 σ H2 x y v u Q I2 rx ry q (hs _ _))
def ae6 (K:FG_):R2:=fun x y H Q=>∃ p xs i v,x=.ref p/\y=.int i/\rE K H p xs/\Hi xs i=some v/\Q v H
def ae7 (K:FG_):R2:=fun x y H Q=>∃ p xs i v,x=.ref p/\y=.int i/\xO K H p xs/\Hi xs i=some v/\Q v H
def ae8:R2:=fun x y H Q=>∃ z i c,x=.str z/\y=.int i/\z.length<=sizeLine/\Hi z.cps.toList i=some c/\Q (.str ⟨#[c]⟩) H
theorem Zn:Zm X (ae6 X.K):=by
 intro value slice pins s σ H x y v u Q I rx ry h hs
 obtain⟨p,xs,i,z,rfl,rfl,hq,he,q⟩:=h
 cases rx
 obtain⟨t,rfl⟩:=ry
 obtain⟨its,r,pl,hz⟩:=I.list hq
 obtain⟨j,h1,h2,h3,h4,h5⟩:=J1 he
 obtain⟨w,ew,Pn⟩:=r.get h2
 have hl:=r.length
 have hn:=zY
 have fin:EP X pins σ Q w s:=⟨z,H,I,Pn,q⟩
 by_cases h0:0<=i
 ·have hj:i.toNat=j:=by
   rw[seqIndex_of h0 h5] at h1
   exact JP h1
  exact item_listR pl.isList h0 (by omega) (by rw[hj];simpa using ew) fin hs
 ·have hj:(i+(its.toArray.size:Int)).toNat=j:=by
   rw[seqIndex_neg (by omega) h4] at h1
   rw[zC,<-hl]
   exact JP h1
  exact subscriptTail_builtinR (x:=w) pl.isList.typeIs slot_list_getitem.lookup
   (wpAny_getItem_list_neg (Q:=fun r s'=>r=w/\EP X pins σ Q r s') pl.isList (by omega) (by rw[zC]<;>omega) (by omega) (by rw[hj];simpa using ew) ⟨rfl,fin⟩) hs
theorem acG:Zm X (ae7 X.K):=by
 intro value slice pins s σ H x y v u Q I rx ry h hs
 obtain⟨p,xs,i,z,rfl,rfl,hq,he,q⟩:=h
 cases rx
 obtain⟨t,rfl⟩:=ry
 obtain⟨its,r,pl,hz⟩:=I.tuple hq
 obtain⟨j,h1,h2,h3,h4,h5⟩:=J1 he
 obtain⟨w,ew,Pn⟩:=r.get h2
 have hl:=r.length
 have hn:=zY
 have fin:EP X pins σ Q w s:=⟨z,H,I,Pn,q⟩
 exact subscriptTail_builtinR (x:=w) pl.typeIs slot_tuple_getitem.lookup
  (getItem_tuple (j:=j) (Q:=fun r s'=>r=w/\EP X pins σ Q r s') pl (by omega) (by omega) (by rw[zC,<-hl];exact h1) (by simpa using ew) ⟨rfl,fin⟩) hs
theorem acH:Zm X ae8:=by
 intro value slice pins s σ H x y v u Q I rx ry h hs
 obtain⟨z,i,c,rfl,rfl,hz,he,q⟩:=h
 obtain⟨t,rfl⟩:=rx
 obtain⟨t',rfl⟩:=ry
 obtain⟨j,h1,h2,h3,h4,h5⟩:=J1 he
 have hl:z.cps.toList.length=z.length:=by simp[Str.length]
 rw[hl] at h1 h4 h5
 have hn:=zY
 exact tail_any (typeIs_str s z t) slot_str_getitem.lookup (getItem_str (c:=c) (by
  have e1:decide (i < -(2 ^ 63:Int))=false:=qk (by omega)
  have e2:decide (i>=2 ^ 63)=false:=qk (by omega)
  rw[e1,e2,Bool.or_false]) (by rw[h1];simpa using h2) ⟨.str ⟨#[c]⟩,H,I.tok _,⟨_,rfl⟩,q⟩) hs
def rIx (K:FG_):R2:=fun x y H Q=>ae6 K x y H Q\/ae7 K x y H Q\/ae8 x y H Q
theorem acI:Zm X (rIx X.K):=Zn.or (acG.or acH)
theorem Inv.lst {pins:List (Addr×Obj)} {σ:St} {H:Hp} {s:Shared} {p:Addr} {xs:List V} (I:Inv X pins σ H s) (h:H p=some (.lst xs)) :
  ∃ (its:List Value) (n:Nat),Vals xs its/\s.heap.get? p=some { cls:=.type "list", data:=.seq its.toArray n }/\xs.length<=sizeLine:=by
 obtain⟨z,its,n,r,e⟩:=I.hok p _ h
 exact⟨its,n,r,e,z⟩
theorem J2 (lo hi:Option Int) (n:Nat):(sliceBounds lo hi none n).1=((HT.jw n 0 lo:Nat):Int)/\(sliceBounds lo hi none n).2.1=((HT.jw n n hi:Nat):Int)/\(sliceBounds lo hi none n).2.2=1:=by
 refine⟨?_,?_,rfl⟩
 ·cases lo with
  |none=>simp[sliceBounds,HT.jw]
  |some i=>
   simp only[sliceBounds,HT.jw,Option.getD_none,show (1:Int) > 0 by decide,QN]
   by_cases h:i < 0
   ·simp only[h,QN]<;>omega
   ·simp only[h,ZN]<;>omega
 ·cases hi with
  |none=>simp[sliceBounds,HT.jw]
  |some i=>
   simp only[sliceBounds,HT.jw,Option.getD_none,show (1:Int) > 0 by decide,QN]
   by_cases h:i < 0
   ·simp only[h,QN]<;>omega
   ·simp only[h,ZN]<;>omega
theorem Hj (its:List Value) (lo hi:Option Int):slicePick its.toArray lo hi none=((its.drop (HT.jw its.length 0 lo)).take (HT.jw its.length its.length hi - HT.jw its.length 0 lo)).toArray:=by
 obtain⟨h1,h2,h3⟩:=J2 lo hi its.toArray.size
 unfold slicePick
 rw[h1,h2,h3]
 simp only[sliceRange_one,pick_run,zC]<;>rfl
def aha (K:FG_):V->Option Int->Option Int->Hp->VK->Prop:=fun x lo hi H Q=>∃ a xs,x=.ref a/\rE K H a xs/\∀ p,H p=none->Q (.ref p) (upd H p (.lst (Mq xs lo hi)))
theorem Zo:SlR X (aha X.K):=by
 intro pins s σ H x v vl vu lo hi sl Q I rx hs pl pu h
 obtain⟨a,xs,rfl,hx,q⟩:=h
 cases rx
 obtain⟨its,r,ht,hz⟩:=I.list hx
 have hlen:=r.length
 refine⟨"list", _,slot_list_getitem.lookup,ht.isList.typeIs,?_⟩
 refine wpAny_getItem_list_slice ht.isList hs pl pu .none (by simp) ?_ (by rw[zC]<;>omega)
 rw[Hj,<-hlen]
 refine⟨.ref s.heap.objs.size,_,I.laid (t':=s.toks) (o:=.lst (Mq xs lo hi)) (fun b ob q=>zd _ q) (zk _) ?_,rfl,q _ (I.hok.fresh (zk _))⟩
 exact⟨Zl (Bj xs lo hi) hz,_,0,(r.drop (HT.jw xs.length 0 lo)).take (HT.jw xs.length xs.length hi - HT.jw xs.length 0 lo),zt _ rfl⟩
def uH:V->Bool
 |.non=>true
 |.bl _=>true
 |.int _=>true
 |.str _=>true
 |_=>false
def Uc:V->V->Bool
 |.non,.non=>true
 |.bl a,.bl b=>a==b
 |.bl a,.int b=>(if a then 1 else 0)==b
 |.int a,.bl b=>a==(if b then 1 else 0)
 |.int a,.int b=>a==b
 |.str a,.str b=>a==b
 |_,_=>false
theorem acJ {A:Around} {s:Shared} {y x:V} {u v:Value} (ry:RelV y u) (rx:RelV x v) (fy:uH y=true) (fx:uH x=true):SeqAt.EqAt A s u v (Uc y x):=by
 cases y with
 |non=>
  cases ry
  cases x with
  |non=>cases rx;exact SeqAt.EqAt.same _
  |bl b=>cases rx;exact SeqAt.EqAt.none_bool b
  |int b=>obtain⟨t,rfl⟩:=rx;exact SeqAt.EqAt.none_int b t
  |str b=>obtain⟨t,rfl⟩:=rx;exact SeqAt.EqAt.none_str b t
  |_=>exact absurd (show false=true from fx) z4
 |bl a=>
  cases ry
  cases x with
  |non=>cases rx;exact SeqAt.EqAt.bool_none a
  |bl b=>cases rx;exact SeqAt.EqAt.bool_bool a b
  |int b=>obtain⟨t,rfl⟩:=rx;exact SeqAt.EqAt.bool_int a b t
  |str b=>obtain⟨t,rfl⟩:=rx;exact SeqAt.EqAt.bool_str a b t
  |_=>exact absurd (show false=true from fx) z4
 |int a=>
  obtain⟨t',rfl⟩:=ry
  cases x with
  |non=>cases rx;exact SeqAt.EqAt.int_none a t'
  |bl b=>cases rx;exact SeqAt.EqAt.int_bool a t' b
  |int b=>obtain⟨t,rfl⟩:=rx;exact SeqAt.EqAt.int_int a t' b t
  |str b=>obtain⟨t,rfl⟩:=rx;exact SeqAt.EqAt.int_str a t' b t
  |_=>exact absurd (show false=true from fx) z4
 |str a=>
  obtain⟨t',rfl⟩:=ry
  cases x with
  |non=>cases rx;exact SeqAt.EqAt.str_none a t'
  |bl b=>cases rx;exact SeqAt.EqAt.str_bool a t' b
  |int b=>obtain⟨t,rfl⟩:=rx;exact SeqAt.EqAt.str_int a t' b t
  |str b=>obtain⟨t,rfl⟩:=rx;exact SeqAt.EqAt.str_str a t' b t
  |_=>exact absurd (show false=true from fx) z4
 |_=>exact absurd (show false=true from fy) z4
def Zq (x:V) (u:Value):Bool:=match u with
 |.none=>Uc .non x
 |.bool b=>Uc (.bl b) x
 |.int i _=>Uc (.int i) x
 |.str z _=>Uc (.str z) x
 |_=>false
theorem V2 {x y:V} {u:Value} (r:RelV y u) (f:uH y=true):Zq x u=Uc y x:=by
 cases y with
 |non=>cases r;rfl
 |bl b=>cases r;rfl
 |int i=>obtain⟨t,rfl⟩:=r;rfl
 |str z=>obtain⟨t,rfl⟩:=r;rfl
 |_=>exact absurd (show false=true from f) z4
theorem J3 {x:V}:∀ {xs:List V} {us:List Value},Vals xs us->xs.all uH=true->us.any (Zq x)=xs.any fun y=>Uc y x
 |_,_,.nil,_=>rfl
 |y::xs,u::us,.cons r t,f=>by
  rw[ko,ZU] at f
  rw[ka,ka,V2 r f.1,J3 t f.2]
theorem Dw {A:Around} {s:Shared} {x:V} {v:Value} (rx:RelV x v) (fx:uH x=true):∀ {xs:List V} {us:List Value},Vals xs us->xs.all uH=true->∀ u∈us,SeqAt.EqAt A s u v (Zq x u)
 |_,_,.nil,_=>fun u hu=>by cases hu
 |y::xs,u::us,.cons r t,f=>fun u' hu=>by
  rw[ko,ZU] at f
  rcases List.mem_cons.mp hu with rfl|hu
  ·rw[V2 r f.1];exact acJ r rx f.1 fx
  ·exact Dw rx fx t f.2 u' hu
def inV (x:V) (xs:List V):Bool:=xs.any fun y=>Uc y x
def rIn (K:FG_) (neg:Bool):R2:=fun x y H Q=>∃ p xs,y=.ref p/\(rE K H p xs\/xO K H p xs)/\uH x=true/\xs.all uH=true/\Q (.bl (if neg then !inV x xs else inV x xs)) H
theorem Ud:yD X (compareOp .In) (rIn X.K false):=by
 intro pins s σ H x y v u Q I rx ry h
 obtain⟨p,xs,rfl,hq,fx,fs,q⟩:=h
 cases ry
 rcases hq with hq|hq
 ·obtain⟨its,r,pl,hz⟩:=I.list hq
  refine SeqAt.in_listAt (Zq x) pl.isList (fun w hw=>Dw rx fx r fs w (by simpa using hw)) ⟨.bl _,H,I,rfl,?_⟩
  rw[show its.toArray.any (Zq x)=its.any (Zq x) by simp,J3 r fs]
  exact q
 ·obtain⟨its,r,pl,hz⟩:=I.tuple hq
  refine SeqAt.in_tupleAt (Zq x) pl (fun w hw=>Dw rx fx r fs w (by simpa using hw)) ⟨.bl _,H,I,rfl,?_⟩
  rw[show its.toArray.any (Zq x)=its.any (Zq x) by simp,J3 r fs]
  exact q
theorem J4:gP X (.builtin "len") (fun xs H Q=>∃ p ys,xs=[.ref p]/\(rE X.K H p ys\/xO X.K H p ys)/\Q (.int ys.length) H):=by
 intro pins s σ H xs us Q I r h
 obtain⟨p,ys,rfl,hq,q⟩:=h
 obtain⟨u,rfl,rx⟩:=vals1 r
 cases rx
 have hn:=zY
 rcases hq with hq|hq
 ·obtain⟨its,r',pl,hz⟩:=I.list hq
  have hlen:=r'.length
  exact Calls.call_len_list pl.isList (by simp only[zC]<;>omega) ⟨.int ys.length,H,I.tok _,⟨s.toks+1,by rw[zC,hlen]⟩,q⟩
 ·obtain⟨its,r',pl,hz⟩:=I.tuple hq
  have hlen:=r'.length
  exact len_tuple pl (by simp only[zC]<;>omega) ⟨.int ys.length,H,I.tok _,⟨s.toks+1,by rw[zC,hlen]⟩,q⟩
theorem J5:gP X (.builtin "len") (fun xs H Q=>∃ z,xs=[.str z]/\z.length<=sizeLine/\Q (.int z.length) H):=by
 intro pins s σ H xs us Q I r h
 obtain⟨z,rfl,hz,q⟩:=h
 obtain⟨u,rfl,t,rfl⟩:=vals1 r
 have hn:=zY
 exact len_str (by omega) ⟨.int z.length,H,I.tok _,⟨_,rfl⟩,q⟩
theorem gP.or {f:Value} {r r':List V->Hp->VK->Prop} (h:gP X f r) (h':gP X f r'):gP X f (fun xs H Q=>r xs H Q\/r' xs H Q):=by
 intro pins s σ H xs us Q I rs q
 rcases q with q|q
 ·exact h pins s σ H xs us Q I rs q
 ·exact h' pins s σ H xs us Q I rs q
theorem J6:gP X (.type "list") (fun xs H Q=>∃ p ys,xs=[.ref p]/\(rE X.K H p ys\/xO X.K H p ys)/\∀ l,H l=none->Q (.ref l) (upd H l (.lst ys))):=by
 intro pins s σ H xs us Q I r h
 obtain⟨p,ys,rfl,hq,q⟩:=h
 obtain⟨u,rfl,rx⟩:=vals1 r
 cases rx
 have fin:∀ (its:List Value),Vals ys its->ys.length<=sizeLine->∀ (h':Heap) (c':Nat),(∀ b o',s.heap.get? b=some o'->h'.get? b=some o') →
   h'.get? s.heap.objs.size=some { cls:=.type "list", dict:=none,data:=.seq its.toArray c',slots:=#[] }->EP X pins σ Q (.ref s.heap.objs.size) { s with heap:=h' }:=fun its r' hz h' c' kp e=>
  ⟨.ref s.heap.objs.size,_,I.laid (t':=s.toks) kp (zk _) (show fu X.prog X.w _ h' _ (.lst ys) from⟨hz,its,c',r',e⟩),rfl,q _ (I.hok.fresh (zk _))⟩
 rcases hq with hq|hq
 ·obtain⟨its,r',pl,hz⟩:=I.list hq
  have hlen:=r'.length
  obtain⟨o,ho,hc,n,hd⟩:=pl.isList
  exact call_list_seq p (.inl rfl) ho hc hd (fun h' c' kp e=>fin its r' hz h' c' kp e) (by simp only[zC]<;>omega)
 ·obtain⟨its,r',pl,hz⟩:=I.tuple hq
  have hlen:=r'.length
  obtain⟨o,ho,hc,n,hd⟩:=pl
  exact call_list_seq p (.inr rfl) ho hc hd (fun h' c' kp e=>fin its r' hz h' c' kp e) (by simp only[zC]<;>omega)
theorem Hl:gP X (.type "tuple") (fun xs H Q=>∃ p ys,xs=[.ref p]/\((rE X.K H p ys/\∀ l,H l=none->Q (.ref l) (upd H l (.tup ys)))\/(xO X.K H p ys/\Q (.ref p) H))):=by
 intro pins s σ H xs us Q I r h
 obtain⟨p,ys,rfl,h⟩:=h
 obtain⟨u,rfl,rx⟩:=vals1 r
 cases rx
 rcases h with⟨hq,q⟩|⟨hq,q⟩
 ·obtain⟨its,r',pl,hz⟩:=I.list hq
  have hlen:=r'.length
  refine call_tuple_list pl.isList (fun h' kp=>?_) (by simp only[zC]<;>omega)
  have I1:Inv X pins σ H { s with heap:=h' }:=I.kept (t':=s.toks) kp
  have I2:Inv X pins σ (upd H h'.objs.size (.tup ys)) { s with heap:=h'.push { cls:=.type "tuple", data:=.seq its.toArray } }:=
   I1.laid (t':=s.toks) (fun b o e=>zd _ e) (zk _) (show fu X.prog X.w _ _ _ (.tup ys) from⟨hz,its,r',sZ.new _ _⟩)
  exact⟨.ref h'.objs.size,_,I2,rfl,q _ (I1.hok.fresh (zk _))⟩
 ·obtain⟨its,r',pl,hz⟩:=I.tuple hq
  exact call_tuple_same pl ⟨.ref p,H,I,rfl,q⟩
def tyV (K:FG_) (T:String) (x:V) (H:Hp):Prop:=match x with
 |.str _=>T = "str"
 |.int _=>T = "int"
 |.ref p=>(T = "list" ∧ ∃ xs,rE K H p xs)\/(T = "tuple" ∧ ∃ o,K.lookup p=some o/\o.cls=.type "tuple" ∧ o.dict=none) ∨
   (T = "dict" ∧ ((∃ kvs,H p=some (.dK kvs))\/∃ kvs,H p=some (.dT kvs)))\/(T = "set" ∧ ∃ S n,H p=some (.set S n))
 |_=>False
theorem acK {pins:List (Addr×Obj)} {σ:St} {H:Hp} {s:Shared} {T:String} {x:V} {v:Value} (I:Inv X pins σ H s) (r:RelV x v) (ty:tyV X.K T x H) :
  s.TypeIs v T/\∀ a,v=.ref a->∃ ob,s.heap.get? a=some ob/\ob.dict=none:=by
 cases x with
 |str z=>
  obtain⟨t,rfl⟩:=r
  cases (show T = "str" from ty)
  exact⟨typeIs_str s z t,fun _ e=>nomatch e⟩
 |int i=>
  obtain⟨t,rfl⟩:=r
  cases (show T = "int" from ty)
  exact⟨typeIs_int s i t,fun _ e=>nomatch e⟩
 |ref p=>
  cases r
  rcases ty with⟨rfl,xs,hq⟩|⟨rfl,o,hk,hc,hd⟩|⟨rfl,hk⟩|⟨rfl,S,n,hk⟩
  ·obtain⟨its,_,pl,_⟩:=I.list hq
   refine⟨pl.isList.typeIs,fun a e=>?_⟩
   cases e
   obtain⟨o,n,e,c,hd,_⟩:=pl
   exact⟨o,e,hd⟩
  ·refine⟨⟨o,I.kIn p o hk,hc⟩,fun a e=>?_⟩
   cases e
   exact⟨o,I.kIn _ o hk,hd⟩
  ·have z:∃ o,s.heap.get? p=some o/\o.ExactDict:=by
    rcases hk with⟨kvs,hk⟩|⟨kvs,hk⟩
    ·obtain⟨_,_,_,_,o,_,_,e,ex,_⟩:=I.hok p _ hk
     exact⟨o,e,ex⟩
    ·obtain⟨_,_,_,_,o,_,_,e,ex,_⟩:=I.hok p _ hk
     exact⟨o,e,ex⟩
   obtain⟨o,e,ex⟩:=z
   refine⟨⟨o,e,ex.1⟩,fun a e2=>?_⟩
   cases e2
   exact⟨o,e,ex.2.1⟩
  ·obtain⟨o,_,_,_,e,ex,_⟩:=I.hok p _ hk
   refine⟨⟨o,e,ex.1⟩,fun a e2=>?_⟩
   cases e2
   exact⟨o,e,ex.2.1⟩
 |_=>exact False.elim ty
def tBM (K:FG_) (T:String) (r:V->List V->Hp->VK->Prop) (to:TE) (t:TA):TE:=fun σ H Q=>to σ H fun x H1=>tyV K T x H1/\t σ H1 fun xs H2=>r x xs H2 Q
variable {o e:Expr} {es:List Expr} {to:TE} {t:TA} {name:Str} {apos cpos:Pos} {T id:String} {r:V->List V->Hp->VK->Prop}
theorem RV (pa:PlainAttrs T) (slot:Slot T name id) (hty:typeOf (.builtin id)=pure (.type "method_descriptor")) (hm:MtR X id r) (ho:PE X o to) (ha:PA X (e::es) t)
  (hbase:attributeBase o name X.env (eval o X.env)=eval o X.env:=by rfl)
  (hfew:((backTo cpos (starEach (e::es) X.env)).all (fun x=>!x.1)&&(backToKw cpos (keywordEach [] X.env)).all (fun x=>x.1.isSome)
   && decide ((e::es).length+([]:List Keyword).length+(if ([]:List Keyword).isEmpty then 0 else 1) < 30))=true:=by rfl)
  (hline:(apos.endLine==cpos.line)=true:=by rfl) (hs:starEach (e::es) X.env=(false,eval e X.env)::starEach es X.env:=by rfl) (hplain:(backTo cpos (starEach es X.env)).any (·.1)=false:=by rfl) :
  PE X (.Call (.Attribute o name apos) (e::es) [] cpos) (tBM X.K T r to t):=by
 intro pins s σ H Q I h
 refine wpAny_Call_method_late hbase hfew hline rfl (j9 (ho pins s σ H _ I h) fun v s1 ⟨x,H1,I1,r1,ty,q1⟩=>?_)
 obtain⟨h1,h2⟩:=acK I1 r1 ty
 refine⟨T,id,pa,slot,hty,h1,h2,?_⟩
 have hA:=ha cpos pins s1 σ H1 _ I1 q1
 rw[hs] at hA ⊢
 refine Calls.callWith_builtin (by show (false||(backTo cpos (starEach es X.env)).any (·.1))=false;rw[hplain]<;>rfl) (Calls.evalArgs_plain ?_)
 exact j9 hA fun us s2 ⟨vs,H2,I2,r2,q2⟩=>hm pins s2 σ H2 x vs v us Q I2 r1 r2 q2
end
end L2
namespace L2
open PySem PySem.Spec PyProof.Rows
def MtM (X:Cx) (id:String) (r:V->List V->Hp->VK->Prop):Prop:=
 ∀ (pins:List (Addr×Obj)) (s:Shared) (σ:St) (H:Hp) (x:V) (xs:List V) (v:Value) (us:List Value) (Q:VK),Inv X pins σ H s->RelV x v->Vals xs us->r x xs H Q →
  wpAny (model X.prog X.w) X.A (call (.builtin id) (v::us)) (EP X pins σ Q) X.xe s
theorem Vals.one:∀ {x:V} {us:List Value},Vals [x] us->∃ u,us=[u]/\RelV x u
 |_,_,.cons r .nil=>⟨_,rfl,r⟩
theorem Vals.two:∀ {x y:V} {us:List Value},Vals [x,y] us->∃ u v,us=[u,v]/\RelV x u/\RelV y v
 |_,_,_,.cons r (.cons q .nil)=>⟨_,_,rfl,r,q⟩
theorem Vals.zero:∀ {us:List Value},Vals [] us->us=[]
 |_,.nil=>rfl
theorem Vals.eraseIdx:∀ {xs:List V} {us:List Value} (i:Nat),Vals xs us->Vals (xs.eraseIdx i) (us.eraseIdx i)
 |_,_,_,.nil=>.nil
 |_,_,0,.cons _ t=>t
 |_,_,i+1,.cons r t=>.cons r (Vals.eraseIdx i t)
theorem Vals.reverse {xs:List V} {us:List Value} (h:Vals xs us):Vals xs.reverse us.reverse:=by
 induction h with
 |nil=>exact .nil
 |cons r t ih=>rw[List.reverse_cons,List.reverse_cons];exact Vals.append ih (.cons r .nil)
section
variable {X:Cx} {pins:List (Addr×Obj)} {σ:St} {H:Hp} {s:Shared} {l b:Addr} {xs ys zs:List V}
theorem Inv.acL {its its':List Value} {n:Nat} {f:Array Value->Array Value} {t':Nat} (I:Inv X pins σ H s) (hH:H l=some (.lst xs))
  (e:s.heap.get? l=some { cls:=.type "list", data:=.seq its.toArray n }) (hf:f its.toArray=its'.toArray) (hv:Vals ys its') (hz:ys.length<=sizeLine) :
  Inv X pins σ (upd H l (.lst ys)) { s with heap:=s.heap.update l (Obj.mapSeq f),toks:=t' }:=by
 have q:=PySem.IsL.update e f
 rw[hf] at q
 refine I.write (x:=l) (e:=l) (by rw[hH];exact trivial) (.inl rfl) (fun b' u hb hu=>(Heap.get?_update_other s.heap (Obj.mapSeq f) (kM hb)).trans hu) ⟨_,q⟩ ?_
 exact⟨hz,its',_,hv,q⟩
theorem Inv.fresh (I:Inv X pins σ H s):H s.heap.objs.size=none:=I.hok.fresh (zk _)
theorem Inv.ahc (I:Inv X pins σ H s) (hH:H l=some (.lst xs)):xs.length<=sizeLine/\∃ (its:List Value) (n:Nat),Vals xs its/\xs.length=its.length/\s.heap.get? l=some { cls:=.type "list", data:=.seq its.toArray n }:=by
 obtain⟨z,its,n,r,e⟩:=I.hok l _ hH
 exact⟨z,its,n,r,r.length,e⟩
end
section
variable {X:Cx}
def RW:V->List V->Hp->VK->Prop:=fun x vs H Q=>∃ l xs y,x=.ref l/\vs=[y]/\H l=some (.lst xs)/\xs.length < sizeLine/\Q .non (upd H l (.lst (xs++[y])))
theorem zZ:MtM X "list.append" RW:=by
 intro pins s σ H x vs v us Q I rx rv h
 obtain⟨l,xs,y,rfl,rfl,hH,hz,q⟩:=h
 cases rx
 obtain⟨u,rfl,ru⟩:=rv.one
 obtain⟨z,its,n,r,hl,e⟩:=I.ahc hH
 refine call_meets F.slot_list_append ⟨_,e,rfl⟩ F.entry_list_append (F.args_list_append_2 _ _) (PySem.list_append l its.toArray n u (by rw[zC];omega)) ⟨e,?_⟩
 refine⟨.non,_,I.acL (its':=its++[u]) hH e (by simp) (r.append (.cons ru .nil)) ?_,rfl,q⟩
 rw[ZA,List.length_singleton]
 omega
end
section
variable {prog:Program} {w:World} {A:Around} {E:VP_} {s:Shared}
end
section
variable {X:Cx}
end
end L2
namespace L2
open PySem PySem.Spec PyProof.Rows
section
variable {κ:Type} [DecidableEq κ]
def qP (kvs:List (κ×V)) (k:κ):Option V:=(kvs.find? fun kv=>decide (kv.1=k)).map (·.2)
def putK (kvs:List (κ×V)) (k:κ) (v:V):List (κ×V):=
 if (kvs.any fun kv=>decide (kv.1=k))=true then kvs.map (fun kv=>if kv.1=k then (kv.1,v) else kv) else kvs++[(k,v)]
def abo (kvs:List (κ×V)) (k:κ):List (κ×V):=kvs.filter fun kv=>decide (kv.1≠k)
theorem uV {p:κ×V} {r:List (κ×V)} {k:κ} (e:p.1=k):qP (p::r) k=some p.2:=by simp[qP,kl,e]
theorem uW {p:κ×V} {r:List (κ×V)} {k:κ} (e:¬ p.1=k):qP (p::r) k=qP r k:=by simp[qP,kl,e]
theorem yF (k:κ):∀ kvs:List (κ×V),(kvs.any fun kv=>decide (kv.1=k))=(qP kvs k).isSome
 |[]=>rfl
 |p::r=>by
  rw[ka]
  by_cases e:p.1=k
  ·simp only[uV e,qV e,Bool.true_or,Option.isSome_some]
  ·rw[uW e,qk e,Bool.false_or];exact yF k r
theorem ou (kvs:List (κ×V)) (k:κ) (v:V):(putK kvs k v).length<=kvs.length+1:=by
 unfold putK
 split
 ·rw[zi];omega
 ·rw[ZA,qh,List.length_nil];omega
theorem zW.Ue {o:Option V} {u:Option Value} (r:zW o u):o.isSome=u.isSome:=by
 cases o with
 |none=>cases u with
  |none=>rfl
  |some _=>exact (show False from r).elim
 |some _=>cases u with
  |none=>exact (show False from r).elim
  |some _=>rfl
theorem zW.getD {o:Option V} {u:Option Value} {d:V} {d':Value} (r:zW o u) (rd:RelV d d'):RelV (o.getD d) (u.getD d'):=by
 cases o with
 |none=>cases u with
  |none=>exact rd
  |some _=>exact (show False from r).elim
 |some _=>cases u with
  |none=>exact (show False from r).elim
  |some _=>exact r
theorem KV.val {kvs:List (κ×V)} {vs:List (κ×Value)} (r:KV kvs vs) (k:κ):zW (qP kvs k) (valueAt vs k):=by
 unfold KV at r
 induction r with
 |nil=>exact True.intro
 |@cons p q ps qs h t ih=>
  obtain⟨h1,h2⟩:=h
  by_cases e:p.1=k
  ·have e':q.1=k:=h1.symm.trans e
   have b:valueAt (q::qs) k=some q.2:=by simp[valueAt,kl,e']
   rw[uV e,b];exact h2
  ·have e':¬ q.1=k:=fun z=>e (h1.trans z)
   have b:valueAt (q::qs) k=valueAt qs k:=by simp[valueAt,kl,e']
   rw[uW e,b];exact ih
theorem KV.any {kvs:List (κ×V)} {vs:List (κ×Value)} (r:KV kvs vs) (k:κ):(kvs.any fun kv=>decide (kv.1=k))=vs.any fun kv=>decide (kv.1=k):=by
 unfold KV at r
 induction r with
 |nil=>rfl
 |cons h t ih=>rw[ka,ka,ih,h.1]
theorem KV.repl {kvs:List (κ×V)} {vs:List (κ×Value)} (r:KV kvs vs) (k:κ) {y:V} {u:Value} (ry:RelV y u) :
  KV (kvs.map fun kv=>if kv.1=k then (kv.1,y) else kv) (vs.map fun kv=>if kv.1=k then (kv.1,u) else kv):=by
 unfold KV at r ⊢
 induction r with
 |nil=>exact .nil
 |@cons p q ps qs h t ih=>
  rw[zl,zl]
  refine .cons ?_ ih
  obtain⟨h1,h2⟩:=h
  by_cases e:p.1=k
  ·rw[zo e,zo (h1.symm.trans e)];exact⟨h1,ry⟩
  ·rw[zv e,zv (fun z=>e (h1.trans z))];exact⟨h1,h2⟩
theorem KV.put {kvs:List (κ×V)} {vs:List (κ×Value)} (r:KV kvs vs) (k:κ) {y:V} {u:Value} (ry:RelV y u):KV (putK kvs k y) (stored vs k u):=by
 unfold putK stored
 rw[r.any k]
 by_cases e:(vs.any fun kv=>decide (kv.1=k))=true
 ·rw[zo e,zo e];exact r.repl k ry
 ·rw[zv e,zv e];exact Paired.snoc r ⟨rfl,ry⟩
theorem KV.drop {kvs:List (κ×V)} {vs:List (κ×Value)} (r:KV kvs vs) (k:κ):KV (abo kvs k) (without vs k):=by
 unfold KV at r ⊢
 unfold abo without
 induction r with
 |nil=>exact .nil
 |@cons p q ps qs h t ih=>
  obtain⟨h1,h2⟩:=h
  rw[yo,yo]
  by_cases e:p.1=k
  ·have a:¬ decide (p.1≠k)=true:=by simp[e]
   have b:¬ decide (q.1≠k)=true:=by simp[h1.symm.trans e]
   rw[zv a,zv b];exact ih
  ·have e':¬ q.1=k:=fun z=>e (h1.trans z)
   have a:decide (p.1≠k)=true:=by simp[e]
   have b:decide (q.1≠k)=true:=by simp[e']
   rw[zo a,zo b];exact .cons ⟨h1,h2⟩ ih
theorem KV.keys {kvs:List (κ×V)} {vs:List (κ×Value)} (r:KV kvs vs):kvs.map (·.1)=vs.map (·.1):=by
 unfold KV at r
 induction r with
 |nil=>rfl
 |cons h t ih=>rw[zl,zl,ih,h.1]
theorem KV.length {kvs:List (κ×V)} {vs:List (κ×Value)} (r:KV kvs vs):kvs.length=vs.length:=Paired.length r
end
theorem Jf {P:Program} {w:World} {k:Key} {u:Value} (r:RelV (kV k) u):(bh P w).is k u=true:=by
 cases k with
 |inl i=>obtain⟨t,e⟩:=(show ∃ t,u=Value.int i t from r);subst e;exact Mi P w i t
 |inr x=>obtain⟨t,e⟩:=(show ∃ t,u=Value.str x t from r);subst e;exact Mj P w x t
theorem Jg {P:Program} {w:World}:∀ {ks:List Key} {us:List Value},Vals (ks.map kV) us->ItemsAre (bh P w) ks us
 |[],_,r=>by rw[JU] at r;cases r;exact .nil
 |k::ks,_,r=>by
  rw[zl] at r
  cases r with
  |cons h t=>exact .cons (Jf h) (Jg t)
abbrev KT (H:Hp):List (List Key×V)->List (List Key×Addr×Value)->Prop:=Paired fun p q=>p.1=q.1/\H q.2.1=some (.tup (p.1.map kV))/\RelV p.2 q.2.2
theorem KT.val {H:Hp} {kvs:List (List Key×V)} {xs:List (List Key×Addr×Value)} (r:KT H kvs xs) (k:List Key):zW (qP kvs k) ((atKey xs k).map (·.2)):=by
 induction r with
 |nil=>exact True.intro
 |@cons p q ps qs h t ih=>
  obtain⟨h1,_,h2⟩:=h
  by_cases e:p.1=k
  ·have e':q.1=k:=h1.symm.trans e
   have b:atKey (q::qs) k=some q.2:=by simp[atKey,kl,e']
   rw[uV e,b];exact h2
  ·have e':¬ q.1=k:=fun z=>e (h1.trans z)
   have b:atKey (q::qs) k=atKey qs k:=by simp[atKey,kl,e']
   rw[uW e,b];exact ih
theorem KT.repl {H:Hp} {kvs:List (List Key×V)} {xs:List (List Key×Addr×Value)} (r:KT H kvs xs) (k:List Key) {y:V} {u:Value} (ry:RelV y u) :
  KT H (kvs.map fun kv=>if kv.1=k then (kv.1,y) else kv) (xs.map (putAt k u)):=by
 induction r with
 |nil=>exact .nil
 |@cons p q ps qs h t ih=>
  rw[zl,zl]
  refine .cons ?_ ih
  obtain⟨h1,h2,h3⟩:=h
  unfold putAt
  by_cases e:p.1=k
  ·rw[zo e,zo (h1.symm.trans e)];exact⟨h1,h2,ry⟩
  ·rw[zv e,zv (fun z=>e (h1.trans z))];exact⟨h1,h2,h3⟩
theorem KT.put {H:Hp} {kvs:List (List Key×V)} {xs:List (List Key×Addr×Value)} (r:KT H kvs xs) (k:List Key) {b:Addr} {y:V} {u:Value} (hb:H b=some (.tup (k.map kV))) (ry:RelV y u) :
  KT H (putK kvs k y) (storedH xs k b u):=by
 have e:(kvs.any fun kv=>decide (kv.1=k))=(atKey xs k).isSome:=by
  rw[yF,(r.val k).Ue,Option.isSome_map]
 unfold putK storedH
 rw[e]
 by_cases q:(atKey xs k).isSome=true
 ·rw[zo q,zo q];exact r.repl k ry
 ·rw[zv q,zv q];exact Paired.snoc r ⟨rfl,hb,ry⟩
theorem KT.keeps {H H':Hp} {kvs:List (List Key×V)} {xs:List (List Key×Addr×Value)} (r:KT H kvs xs) (ht:∀ b ys,H b=some (.tup ys)->H' b=some (.tup ys)):KT H' kvs xs:=
 Paired.Y0 r fun _ _ z=>⟨z.1,ht _ _ z.2.1,z.2.2⟩
section
variable {P:Program} {w:World} {H:Hp} {h:Heap} {a:Addr}
theorem abp {u:HO} (ok:xM P w H h) (e:Rd H a u):fu P w H h a u:=e.ok ok
theorem Mr {kvs:List (Key×V)} (ok:xM P w H h) (e:Rd H a (.dK kvs)):kvs.length<=sizeLine/\(a==sysModules)=false/\∃ vs,KV kvs vs/\h.DictOf (bh P w) a vs:=
 show fu P w H h a (.dK kvs) from abp ok e
theorem V3 {kvs:List (Key×V)} (ok:xM P w H h) (e:H a=some (.dK kvs)):kvs.length<=sizeLine/\(a==sysModules)=false/\∃ vs,KV kvs vs/\h.DictOf (bh P w) a vs:=Mr ok (.inl e)
theorem Qa {ks:List Key} (ok:xM P w H h) (e:H a=some (.tup (ks.map kV))):(tupleKind (bh P w)).is h ks a:=by
 obtain⟨_,its,r,o,h1,h2,⟨n,h3⟩,_⟩:=(show fu P w H h a (.tup (ks.map kV)) from ok a _ e)
 exact⟨o,its.toArray,n,h1,h2,h3,by simpa using Jg r⟩
theorem V4 {kvs:List (List Key×V)} (ok:xM P w H h) (e:Rd H a (.dT kvs)):kvs.length<=sizeLine/\(a==sysModules)=false ∧
  ∃ xs,KT H kvs xs/\h.DictOfH (tupleKind (bh P w)) a xs:=by
 obtain⟨z,y,xs,r,o,es,ep,h1,h2,h3,h4,h5⟩:=(show fu P w H h a (.dT kvs) from abp ok e)
 refine⟨z,y,xs,r,o,es,ep,h1,h2,h3,h4,fun x hx=>?_,h5⟩
 have all:∀ {l:List (List Key×V)} {m:List (List Key×Addr×Value)},KT H l m->∀ x∈m,(tupleKind (bh P w)).is h x.1 x.2.1:=by
  intro l m q
  induction q with
  |nil=>intro x hx;exact nomatch hx
  |@cons p q ps qs hq t ih=>
   intro x hx
   rcases List.mem_cons.mp hx with e|hx
   ·subst e
    exact Qa ok (by rw[<-hq.1];exact hq.2.1)
   ·exact ih x hx
 exact all r x hx
theorem ae9 {kvs:List (List Key×V)} (ok:xM P w H h) (e:H a=some (.dT kvs)):kvs.length<=sizeLine/\(a==sysModules)=false ∧
  ∃ xs,KT H kvs xs/\h.DictOfH (tupleKind (bh P w)) a xs:=V4 ok (.inl e)
end
def Qc (H:Hp) (a:Addr) (y:V) (r:Option V):Prop:=
 (∃ kvs k,Rd H a (.dK kvs)/\y=kV k/\r=qP kvs k)\/∃ kvs k b,Rd H a (.dT kvs)/\y=.ref b/\H b=some (.tup (k.map kV))/\r=qP kvs k
def Qd (H:Hp) (a:Addr) (y v:V) (H':Hp):Prop:=
 (∃ kvs k,H a=some (.dK kvs)/\y=kV k/\kvs.length < sizeLine/\H'=upd H a (.dK (putK kvs k v))) ∨
 ∃ kvs k b,H a=some (.dT kvs)/\y=.ref b/\H b=some (.tup (k.map kV))/\kvs.length < sizeLine/\H'=upd H a (.dT (putK kvs k v))
theorem Qc.k {H:Hp} {a:Addr} {kvs:List (Key×V)} {k:Key} (e:H a=some (.dK kvs)):Qc H a (kV k) (qP kvs k):=.inl ⟨kvs,k,.inl e,rfl,rfl⟩
theorem Qc.t {H:Hp} {a b:Addr} {kvs:List (List Key×V)} {k:List Key} (e:H a=some (.dT kvs)) (eb:H b=some (.tup (k.map kV))):Qc H a (.ref b) (qP kvs k):=.inr ⟨kvs,k,b,.inl e,rfl,eb,rfl⟩
theorem Qd.k {H:Hp} {a:Addr} {kvs:List (Key×V)} {k:Key} {v:V} (e:H a=some (.dK kvs)) (hl:kvs.length < sizeLine):Qd H a (kV k) v (upd H a (.dK (putK kvs k v))):=.inl ⟨kvs,k,e,rfl,hl,rfl⟩
theorem Qd.t {H:Hp} {a b:Addr} {kvs:List (List Key×V)} {k:List Key} {v:V} (e:H a=some (.dT kvs)) (eb:H b=some (.tup (k.map kV))) (hl:kvs.length < sizeLine) :
  Qd H a (.ref b) v (upd H a (.dT (putK kvs k v))):=.inr ⟨kvs,k,b,e,rfl,eb,hl,rfl⟩
section
variable {X:Cx} {pins:List (Addr×Obj)} {σ:St} {H:Hp} {s:Shared} {a:Addr} {y v:V} {u r:Value} {o:Option V} {A:Around} {E:VP_}
theorem Inv.big (I:Inv X pins σ H s):sysModules < s.heap.objs.size:=by
 have h:mainGlobals < s.heap.objs.size:=(I.mod.glob.keeps I.bk).lt
 exact Nat.lt_trans (by decide) h
theorem Ug {Q:VP_} (hu:A.units+1 < cLine) (I:Inv X pins σ H s) (g:Qc H a y (some v)) (ry:RelV y u) (h:∀ w' s',Inv X pins σ H s'->RelV v w'->Q w' s') :
  wpAny (model X.prog X.w) A (getItem (.ref a) u) Q E s:=by
 rcases g with⟨kvs,k,e,ey,l⟩|⟨kvs,k,b,e,ey,eb,l⟩
 ·subst ey
  obtain⟨z,hd,vs,rel,dd⟩:=Mr I.hok e
  obtain⟨w',hw,Pn⟩:=zW.some_of (v:=v) (o:=valueAt vs k) (by rw[l];exact rel.val k)
  exact wpAny_getItem_of (Jf ry) dd.mapOf hw (h w' _ (I.tok _) Pn)
 ·subst ey
  cases (show u=Value.ref b from ry)
  obtain⟨z,hd,xs,rel,dd⟩:=V4 I.hok e
  obtain⟨w',hw,Pn⟩:=zW.some_of (v:=v) (o:=(atKey xs k).map (·.2)) (by rw[l];exact rel.val k)
  obtain⟨p,hp,hp2⟩:=Option.map_eq_some_iff.mp hw
  refine wpAny_getItem_heap (tupleKind_room_in1 hu) (Qa I.hok eb) dd hp ?_
  rw[hp2]
  exact h w' _ (I.tok _) Pn
theorem CJ {h':Heap} {t':Nat} {ob:HO} (I:Inv X pins σ H s) (mu:Mut (H a)) (hs:Heap.SameBut a s.heap h') (he:∃ q,h'.get? a=some q) (new:fu X.prog X.w (upd H a ob) h' a ob) :
  Inv X pins σ (upd H a ob) { s with heap:=h',toks:=t' }:=
 I.write (x:=a) (e:=a) mu (.inl rfl) (fun b q hb z=>(hs.2 b hb).trans z) he new
theorem Qe {P:Program} {w:World} {H':Hp} {h':Heap} {kvs:List (Key×V)} {vs:List (Key×Value)} (z:kvs.length<=sizeLine) (hd:(a==sysModules)=false) (rel:KV kvs vs) (dd:h'.DictOf (bh P w) a vs) :
  fu P w H' h' a (.dK kvs):=⟨z,hd,vs,rel,dd⟩
theorem Uh {H':Hp} {Q:Unit->Shared->Prop} (hu:A.units+1 < cLine) (I:Inv X pins σ H s) (g:Qd H a y v H') (ry:RelV y u) (rv:RelV v r) (h:∀ s',Inv X pins σ H' s'->Q () s') :
  wpAny (model X.prog X.w) A (setItem (.ref a) u r) Q E s:=by
 rcases g with⟨kvs,k,e,ey,l,eH⟩|⟨kvs,k,b,e,ey,eb,l,eH⟩
 ·subst ey eH
  obtain⟨z,hd,vs,rel,dd⟩:=V3 I.hok e
  have hz:vs.length<=sizeLine:=by rw[<-rel.length];exact z
  have hl:(putK kvs k v).length<=sizeLine:=by have:=ou kvs k v;omega
  refine wpAny_setItem_pairs (hsz:=hz) (Jf ry) dd fun h' YW hs=>h _ ?_
  have he:∃ q,h'.get? a=some q:=let ⟨q,_,_,hq,_⟩:=YW;⟨q,hq⟩
  exact CJ I (by rw[e];exact True.intro) hs he (Qe hl hd (rel.put k rv) YW)
 ·subst ey eH
  cases (show u=Value.ref b from ry)
  obtain⟨z,hd,xs,rel,dd⟩:=ae9 I.hok e
  have hz:xs.length<=sizeLine:=by rw[<-Paired.length rel];exact z
  have hl:(putK kvs k v).length<=sizeLine:=by have:=ou kvs k v;omega
  refine wpAny_setItem_heap (hsz:=hz) (tupleKind_room_in1 hu) (Qa I.hok eb) dd fun h' YW hs=>h _ ?_
  obtain⟨q,es,ep,hq,h2,h3,h4,_,h5⟩:=YW
  refine CJ I (by rw[e];exact True.intro) hs ⟨q,hq⟩ ⟨hl,hd,_,(rel.put k eb rv).keeps fun c ys ec=>?_,q,es,ep,hq,h2,h3,h4,h5⟩
  rw[aG (oh ec e (fun z=>nomatch z))]
  exact ec
end
section
variable {X:Cx} {pins:List (Addr×Obj)} {σ:St} {H:Hp} {s:Shared} {a:Addr} {kvs:List (Key×V)} {k:Key} {u:Value} {A:Around} {E:VP_}
end
def acM (i:Expr):Prop:=∀ ov iv,subscripted i false ov iv=operate [ov,iv] (getItem ov iv)
theorem Zr {prog:Program} {w:World} {A:Around} {E:VP_} {s:Shared} {env:Env} {value slice:Expr} {pos:Pos} {T id:String} {Q:VP_}
  (hl:typeLookup (.type T) "__getitem__" = pure (some (.builtin id))) (hs:acM slice)
  (h:wpAny (model prog w) A (eval value env) (fun o s₁=>wpAny (model prog w) A (eval slice env) (fun i s₂=>s₂.TypeIs o T/\wpAny (model prog w) A (getItem o i) Q E s₂) E s₁) E s) :
  wpAny (model prog w) A (eval (.Subscript value slice pos) env) Q E s:=by
 refine Subscript_ (qo h (fun o s₁ h₁=>qo h₁ (fun i s₂ h₂=>?_) fun _ _ x=>x) fun _ _ x=>x)
 obtain⟨hT,h₂⟩:=h₂
 unfold subscriptTail
 refine zb ?_
 rw[getitemInPython_of_ne hT.not_modules]
 refine zb (wpAny_specialOf hT hl ?_)
 have fin:wpAny (model prog w) A (subscripted slice false o i) (fun r s₃=>wpAny (model prog w) A (letTemporaryGo value o r >>= fun _=>pure r) Q E s₃) E s₂:=by
  rw[hs o i]
  exact wpAny_operating (qo h₂ (fun r s₃ h₃=>zb (wpAny_letTemporaryGo (zg h₃))) fun _ _ x=>x)
 first
  |exact zg (zb fin)
  |exact zb (zg (zb fin))
  |exact zb fin
theorem Ms {X:Cx} {pins:List (Addr×Obj)} {σ:St} {H:Hp} {s:Shared} {a:Addr} {y:V} {o:Option V} (I:Inv X pins σ H s) (g:Qc H a y o):s.TypeIs (.ref a) "dict" := by
 rcases g with⟨kvs,k,e,_,_⟩|⟨kvs,k,b,e,_,_,_⟩
 ·obtain⟨_,_,vs,_,dd⟩:=Mr I.hok e
  exact dd.typeIs
 ·obtain⟨_,_,xs,_,dd⟩:=V4 I.hok e
  exact dd.typeIs
def afa (td ty:TE):TE:=fun σ H Q=>td σ H fun x H1=>ty σ H1 fun y H2=>∃ a v,x=.ref a/\Qc H2 a y (some v)/\Q v H2
def afb (td ty tv:TE):TS:=fun D σ H=>tv σ H fun v H1=>td σ H1 fun x H2=>ty σ H2 fun y H3=>∃ a H4,x=.ref a/\Qd H3 a y v H4/\D.nx σ H4
section
variable {X:Cx} {o i e value:Expr} {pos pos' tpos:Pos} {td ty tv:TE}
theorem Zt (hu:X.A.units+1 < cLine) (ho:PE X o td) (hi:PE X i ty) (hs:acM i):PE X (.Subscript o i pos) (afa td ty):=by
 intro pins s σ H Q I h
 refine Zr PySem.F.slot_dict_getitem.lookup hs (j9 (ho pins s σ H _ I h) fun u s1 ⟨x,H1,I1,rx,q1⟩=>j9 (hi pins s1 σ H1 _ I1 q1) fun iv s2 ⟨y,H2,I2,ry,a,v,ex,g,q2⟩=>?_)
 subst ex
 obtain rfl:u=Value.ref a:=rx
 exact⟨Ms I2 g,Ug hu I2 g ry fun w' s3 I3 Pn=>⟨v,H2,I3,Pn,q2⟩⟩
theorem Zu (hu:X.A.units+1 < cLine) (ho:PE X o td) (hi:PE X i ty) (hv:PE X value tv) (hs:swapsWith value (some (.Subscript o i pos')) pos.line X.env=pure false) :
  PS X (.Assign [.Subscript o i pos'] value pos) (afb td ty tv):=by
 intro pins s σ H D I h
 refine wpAny_Assign_Subscript (j9 (hv pins s σ H _ I h) fun r s1 ⟨v,H1,I1,rv,q1⟩=>j9 (ho pins s1 σ H1 _ I1 q1) fun u s2 ⟨x,H2,I2,rx,q2⟩=>j9 (hi pins s2 σ H2 _ I2 q2) fun iv s3 ⟨y,H3,I3,ry,a,H4,ex,g,q3⟩=>?_) hs
 subst ex
 obtain rfl:u=Value.ref a:=rx
 exact Uh hu I3 g ry rv fun s4 I4=>⟨σ,H4,I4,q3⟩
end
theorem Dy {P:Program} {w:World} {H:Hp} (h:Heap) (hb:sysModules < h.objs.size):fu P w H (h.push { cls:=.type "dict", data:=.dict #[] }) h.objs.size (.dK []):=
 ⟨qE _,beq_eq_false_iff_ne.mpr (kM (zI hb)),[],.nil,Heap.DictOf.new h⟩
def acN:TE:=fun _ H Q=>∀ p,H p=none->Q (.ref p) (upd H p (.dK []))
section
variable {X:Cx} {pos:Pos}
theorem V5:PE X (.Dict [] [] pos) acN:=fun pins s σ H Q I h=>
 wpAny_Dict_empty ⟨.ref s.heap.objs.size,_,I.laid (a:=s.heap.objs.size) (o:=.dK []) (t':=s.toks) (fun _ _ q=>zd _ q) (zk _) (Dy s.heap I.big),rfl,h _ (I.hok.fresh (zk _))⟩
end
structure M1 (X:Cx) (o:Expr) (m:Str) (apos:Pos) (e:Expr) (cpos:Pos):Prop where
 base:attributeBase o m X.env (eval o X.env)=eval o X.env
 few:((backTo cpos (starEach [e] X.env)).all (fun x=>!x.1)&&(backToKw cpos (keywordEach [] X.env)).all (fun x=>x.1.isSome)
  && decide (([e]:List Expr).length+([]:List Keyword).length+(if ([]:List Keyword).isEmpty then 0 else 1) < 30))=true
 line:(apos.endLine==cpos.line)=true
 trees:backTo cpos (starEach [e] X.env)=[(false,eval e X.env)]
structure M2 (X:Cx) (o:Expr) (m:Str) (apos:Pos) (e f:Expr) (cpos:Pos):Prop where
 base:attributeBase o m X.env (eval o X.env)=eval o X.env
 few:((backTo cpos (starEach [e,f] X.env)).all (fun x=>!x.1)&&(backToKw cpos (keywordEach [] X.env)).all (fun x=>x.1.isSome)
  && decide (([e,f]:List Expr).length+([]:List Keyword).length+(if ([]:List Keyword).isEmpty then 0 else 1) < 30))=true
 line:(apos.endLine==cpos.line)=true
 trees:backTo cpos (starEach [e,f] X.env)=[(false,eval e X.env),(false,eval f X.env)]
section
variable {X:Cx} {pins:List (Addr×Obj)} {σ:St} {H:Hp} {s:Shared} {a:Addr} {y d:V} {u r:Value} {o:Option V} {A:Around} {E:VP_}
end
section
variable {X:Cx} {o e f:Expr} {apos cpos:Pos} {td ty tx:TE}
end
section
variable {X:Cx} {pins:List (Addr×Obj)} {σ:St} {H:Hp} {s:Shared} {a:Addr} {kvs:List (Key×V)} {A:Around} {E:VP_}
end
section
variable {X:Cx} {pins:List (Addr×Obj)} {σ:St} {H:Hp} {s:Shared} {a:Addr} {y:V} {u:Value} {A:Around} {E:VP_}
end
end L2
namespace Att
open PySem PySem.W PySem.Calls PyProof.Rows
theorem Ce {P:Params} {h:Heap}:∀ (ns:List Int) (vs:List Value),WellAll P h vs (ns.map WData.int)->IntsAre vs ns:=by
 intro ns
 induction ns with
 |nil=>
  intro vs w
  rw[JU] at w
  cases w
  exact .nil
 |cons n ns ih=>
  intro vs w
  rw[zl] at w
  cases w with
  |cons a b=>
   cases a
   exact .cons _ _ (ih _ b)
theorem Ui {l:OpenLaw} {n:Nat} (hn:l.most=some n) {P:Params} {h:Heap} {args:List WData} {vals:List Value}
  (hpre:l.row.toRowW.claim.pre args=true) (hwl:WellAll P h vals args) :
  ∃ a vs ns,vals=[Value.ref a]/\args=[WData.list (ns.map WData.int)]/\h.get? a=some { cls:=.type "list", data:=.seq vs.toArray }/\IntsAre vs ns/\ns.length<=n:=by
 have hsh:WShape.hasAll [] args [.list .int]=true:=(pre_splitW hpre).1
 have hc:l.pre.holds [] { args:=args }=true:=(pre_splitW hpre).2
 obtain⟨d,r,rfl,h1,h2⟩:=hasAllW_cons hsh
 obtain rfl:=hasAllW_nil h2
 obtain⟨xs,rfl,h3⟩:=hasW_list h1
 obtain⟨ns,rfl⟩:=items_int h3
 have hlen:ns.length<=n:=by
  unfold OpenLaw.pre at hc
  have h4:(WTm.not (.lt (.lit (.int (n:Int))) (.len (.arg 0)))).holds [] { args:=[.list (ns.map .int)] }=true:=by
   have h4:=(holds_andW hc).1
   rw[hn] at h4
   exact h4
  have h5:=condW_of h4 (w_not (w_lt w_lit (w_len_list (w_arg rfl))))
  rw[zi] at h5
  refine Nat.le_of_not_lt fun q=>?_
  have q':(n:Int) < ((ns.length:Nat):Int):=by omega
  first
   |(rw[qV q'] at h5;exact absurd h5 (by decide))
   |(simp at h5;omega)
 cases hwl with
 |cons w1 w2=>
  cases w2
  cases w1 with
  |list ho hall=>exact⟨_,_,ns,rfl,rfl,ho,Ce ns _ hall,hlen⟩
theorem Uj (l:OpenLaw) (args:List WData):l.row.toRowW.claim.post args (.bool true) args=true:=
 postW_of (r:=l.row.toRowW) (X:=(true==true))
  (show WShape.has [] (.bool true) .bool=true by first|rfl|decide|simp[WShape.has,WShape.arms,WShape.armsAll])
  (show (WTm.eq .res (.lit (.bool true))).value [] { args:=args,res:=some (.bool true),after:=args }=some (.bool (true==true)) from w_eq_bool (w_res rfl) w_lit) rfl
theorem Mt {l:OpenLaw} {n:Nat} {q:Program} {loose:LS_} {XP:(Str->Option Value)->Heap->Prop} {YP:World->Heap->Prop} {d:DefRec}
  (hn:l.most=some n) (hdf:d.params.defaults=[])
  (call:∀ (w:World) (s₀ s₁:Shared) (mg mb:Str->Option Value) (fa:Addr) (o:Obj) (pm cd doc:Value) (a:Addr) (vs:List Value) (ns:List Int),
   Ground q loose [] XP w s₀ mg mb s₁.heap->YP w s₁.heap →
   s₁.heap.get? fa=some o->o.data=.func (docDef d.name d.params d.body d.scope pm cd doc)->s₁.heap.CodeRec cd d.name->mg d.name=some (.ref fa) →
   s₁.heap.get? a=some { cls:=.type "list", data:=.seq vs.toArray }->IntsAre vs ns->ns.length<=n->s₁.gens=#[] →
   codeAny (model l.prog w) callerA (.call (.ref fa) ⟨[.ref a],[]⟩) (fun r s'=>r=.ok (.ret (.bool true))/\OldK s₁.heap s'.heap/\s'.os=s₁.os/\AllBare s'.gens) s₁) :
  WalkO q loose XP YP l.row.toRowW d [] (fun f vs=>PySem.call f vs):=by
 intro w s₀ s₁ mg mb G Y fa o pm cd doc dV kV ho hd hcd hD hmg hg args vals as hpre hlay hrd hwl hlo
 obtain rfl:dV=.none:=Dflts.none hD hdf
 obtain rfl:kV=.none:=Dflts.noKw hD
 obtain⟨a,vs,ns,rfl,rfl,hobj,hints,hlen⟩:=Ui hn hpre hwl
 refine enter_call (codeAny_mono (call w s₀ s₁ mg mb fa o pm cd doc a vs ns G Y ho (fd_plain hd) hcd hmg hobj hints hlen hg) fun r s' hq=>?_)
 obtain⟨rfl,h2,h3,h4⟩:=hq
 exact⟨.inl ⟨.bool true,.bool true,[],rfl,fun _=>rfl,.bool true,Uj l _,fun _=>⟨List.Pairwise.nil,fun _ hm=>(nomatch hm)⟩⟩,h2,h3,h4⟩
section
variable {prog:Program} {w:World} {A:Around} {E:VP_} {s:Shared} {K:Frag}
end
end Att
namespace L2
open PySem PySem.Spec PyProof.Rows
theorem Jh:∀ {vs:List Value} {ns:List Int},IntsAre vs ns->Vals (ns.map V.int) vs
 |_,_,.nil=>.nil
 |_,_,.cons n t h=>.cons ⟨t,rfl⟩ (Jh h)
def Only (H:Hp):Prop:=∀ b,H b=none\/∃ o xs,H b=some (.n8 o (.lst xs))
theorem V6 {P:Program} {w:World} {K:FG_} {mg mb:Str->Option Value} {CX:RK} {k:Nat} {fa a:Addr} {fd:FuncData} {x:Str} {sp:Sp} {s₁:Shared} {vs:List Value} {ns:List Int}
  (KX:K.In s₁.heap) (hns:s₁.heap.Ns mainGlobals mg) (hb:s₁.heap.Ns builtinsNs mb) (hbb:∀ x:Str,x ≠ "__name__" → mb x=bootBuiltins x) (hlim:s₁.heap.NoLimit) (hg:s₁.gens=#[])
  (ha:s₁.heap.get? a=some { cls:=.type "list", data:=.seq vs.toArray }) (hi:IntsAre vs ns) (hl:ns.length<=sizeLine) (hr:mV k callerA)
  (F:∀ base:Heap,K.In base->base.Ns mainGlobals mg->cF P w K mg base CX k fa fd [x] sp) (hbind:∀ (s:Shared) (u:Value),BindsTo s fd ⟨[u],[]⟩ [(x,u)])
  (hsp:∀ H:Hp,Only H->rE K H a (ns.map V.int)->sp [.ref a] H (fun v _=>v=.bl true) fun _ _ _=>False)
  (hCX:∀ H e s',CX [] H s₁ (fun _ _ _=>False) e s'->False) :
  codeAny (model P w) callerA (.call (.ref fa) ⟨[.ref a],[]⟩) (fun r s'=>r=.ok (.ret (.bool true))/\OldK s₁.heap s'.heap/\s'.os=s₁.os/\AllBare s'.gens) s₁:=by
 have rv:=Jh hi
 have lenV:=hi.length
 have core:∀ H:Hp,Only H->rE K H a (ns.map V.int)->xM P w H s₁.heap->(∀ b,H b≠none->b=a)->(H a≠none->K.lookup a=none) →
   codeAny (model P w) callerA (.call (.ref fa) ⟨[.ref a],[]⟩) (fun r s'=>r=.ok (.ret (.bool true))/\OldK s₁.heap s'.heap/\s'.os=s₁.os/\AllBare s'.gens) s₁:=by
  intro H hO hS hok hA hK
  have RX:∀ {b:Addr} {o:Obj},s₁.heap.get? b=some o->H b=none->(JV s₁.heap H).get? b=some o:=fun e n=>VB e n
  have noA:∀ {b:Addr} {o:Obj} {es:Array DictEntry} {ep:Nat},s₁.heap.get? b=some o->o.data=.dict es ep->H b=none:=fun {b o es ep} e d=>by
   cases q:H b with
   |none=>rfl
   |some u=>
    have e':b=a:=hA b (by rw[q];simp)
    subst e'
    rw[ha] at e;cases e
    have d':Data.seq vs.toArray _=Data.dict es ep:=d
    cases d'
  have nsK:∀ {b:Addr} {m:Str->Option Value},s₁.heap.Ns b m->(JV s₁.heap H).Ns b m:=fun {b m} ⟨o,es,ep,e,d,r⟩=>⟨o,es,ep,RX e (noA e d),d,r⟩
  have hKb:K.In (JV s₁.heap H):=fun b o e=>RX (KX b o e) (by
   cases q:H b with
   |none=>rfl
   |some u=>
    have e':b=a:=hA b (by rw[q];simp)
    subst e'
    rw[hK (by rw[q];simp)] at e;cases e)
  have hM:Mod K mg (JV s₁.heap H):=⟨hKb,nsK hns,⟨mb,nsK hb,hbb⟩,let ⟨mc,h1,h2⟩:=hlim;⟨mc,nsK h1,h2⟩⟩
  have e0:PL P w K mg (JV s₁.heap H) callerA [] s₁ H:=⟨rfl,hM,fun b o e=>Y4 e,Nat.le_of_eq (TX _ _),trivial,fun b hb=>absurd (show b∈([]:List Addr) from hb) (by simp),hok,.of_eq hg⟩
  refine codeAny_mono ((F _ hKb (nsK hns)).run callerA [] s₁ H ⟨[.ref a],[]⟩ [.ref a] [.ref a] _ _ hr e0 (hbind s₁ (.ref a)) (.cons rfl .nil) (hsp H hO hS)) fun r s' h=>?_
  cases r with
  |error e=>exact (hCX H e s' h).elim
  |ok fl=>
   cases fl with
   |next=>exact False.elim h
   |brk=>exact False.elim h
   |cont=>exact False.elim h
   |ret u=>
    obtain⟨v,H',os,bare,un,hok',r',q⟩:=h
    have q':v=.bl true:=q
    subst q'
    obtain rfl:u=Value.bool true:=r'
    refine⟨rfl,OldK.of_keep fun b o e=>?_,os,bare⟩
    cases q:H b with
    |none=>exact un.keep b o e q (by intro z;exact absurd (show b∈([]:List Addr) from z) (by simp)) (by simp)
    |some u=>
     rcases hO b with z|⟨ob,xs,z⟩
     ·rw[q] at z;cases z
     ·have z2:=un.wM b ob _ z
      obtain⟨e1,_⟩:=hok b _ z
      obtain⟨e2,_⟩:=hok' b _ z2
      rw[e] at e1;cases e1
      exact e2
 cases hk:K.lookup a with
 |some o=>
  have e:=KX a o hk
  rw[ha] at e
  cases e
  refine core (fun _=>none) (fun _=>.inl rfl) (.inr ⟨_,vs.toArray,_,hk,rfl,rfl,rfl,by rw[zC,lenV];exact hl,by simpa using rv⟩) (fun b u z=>by have z':(none:Option HO)=some u:=z;cases z') (fun b z=>absurd rfl z) fun z=>absurd rfl z
 |none=>
  refine core (fun b=>if b=a then some (.n8 { cls:=.type "list", data:=.seq vs.toArray } (.lst (ns.map V.int))) else none) (fun b=>?_) (.inl (.inr ⟨{ cls:=.type "list", data:=.seq vs.toArray },zo rfl⟩)) (fun b u z=>?_) (fun b z=>?_) fun _=>hk
  ·by_cases hb:b=a
   ·exact .inr ⟨_,_,zo hb⟩
   ·exact .inl (zv hb)
  ·by_cases hb:b=a
   ·have z':=(zo hb).symm.trans z
    cases z'
    subst hb
    exact⟨ha,by rw[zi];exact hl,vs,_,rv,ha⟩
   ·have z':=(zv hb).symm.trans z
    cases z'
  ·by_cases hb:b=a
   ·exact hb
   ·exact absurd (zv hb) z
end L2
namespace L2
open PySem PySem.Spec PyProof.Rows
theorem Zv {l:PySem.W.OpenLaw} {n k:Nat} {q:Program} {loose:LS_} {XP:(Str->Option Value)->Heap->Prop} {YP:World->Heap->Prop} {d:DefRec} {K:Params->FG_} {CX:World->RK} {sp:World->Sp} {x:Str}
  (hn:l.most=some n) (hn2:n<=sizeLine) (hdf:d.params.defaults=[]) (hr:mV k callerA)
  (hY:∀ (w:World) (h:Heap),YP w h->(K w.params).In h)
  (F:∀ (w:World) (mg:Str->Option Value) (fa:Addr) (h:Heap),(K w.params).In h->h.Ns mainGlobals mg->mg d.name=some (.ref fa) →
   ∃ fd:FuncData,(∀ (s:Shared) (u:Value),BindsTo s fd ⟨[u],[]⟩ [(x,u)]) ∧
    ∀ base:Heap,(K w.params).In base->base.Ns mainGlobals mg->cF l.prog w (K w.params) mg base (CX w) k fa fd [x] (sp w))
  (hsp:∀ (w:World) (H:Hp) (a:Addr) (ns:List Int),ns.length<=n->Only H->rE (K w.params) H a (ns.map V.int)->sp w [.ref a] H (fun v _=>v=.bl true) fun _ _ _=>False)
  (hCX:∀ (w:World) (H:Hp) (s:Shared) (e:Value) (s':Shared),CX w [] H s (fun _ _ _=>False) e s'->False) :
  PySem.W.WalkO q loose XP YP l.row.toRowW d [] (fun f vs=>PySem.call f vs):=by
 refine Att.Mt hn hdf fun w s₀ s₁ mg mb fa o pm cd doc a vs ns G Y ho hd hcd hmg hobj hints hlen hg=>?_
 have KX:=hY w _ Y
 obtain⟨fd,hb,hF⟩:=F w mg fa _ KX G.T.g hmg
 exact V6 KX G.T.g G.T.b G.T.builtins G.T.nolimit hg hobj hints (Zl hlen hn2) hr hF hb (fun H hO hS=>hsp w H a ns hlen hO hS) fun H e s'=>hCX w H s₁ e s'
theorem V7 {l:PySem.W.OpenLaw} {n k:Nat} {q:Program} {loose:LS_} {XP:(Str->Option Value)->Heap->Prop} {YP:World->Heap->Prop} {d:DefRec} {K:Params->FG_} {CX:RK} {sp:FG_->Sp} {x:Str}
  (hn:l.most=some n) (hn2:n<=sizeLine) (hdf:d.params.defaults=[]) (hr:mV k callerA)
  (hY:∀ (w:World) (h:Heap),YP w h->(K w.params).In h)
  (F:∀ (w:World) (mg:Str->Option Value) (fa:Addr) (h:Heap),(K w.params).In h->h.Ns mainGlobals mg->mg d.name=some (.ref fa) →
   ∃ fd:FuncData,(∀ (s:Shared) (u:Value),BindsTo s fd ⟨[u],[]⟩ [(x,u)]) ∧
    ∀ base:Heap,(K w.params).In base->base.Ns mainGlobals mg->cF l.prog w (K w.params) mg base CX k fa fd [x] (sp (K w.params)))
  (hsp:∀ (K:FG_) (H:Hp) (a:Addr) (ns:List Int),ns.length<=n->Only H->rE K H a (ns.map V.int)->sp K [.ref a] H (fun v _=>v=.bl true) fun _ _ _=>False)
  (hCX:∀ (H:Hp) (s:Shared) (e:Value) (s':Shared),CX [] H s (fun _ _ _=>False) e s'->False) :
  PySem.W.WalkO q loose XP YP l.row.toRowW d [] (fun f vs=>PySem.call f vs):=
 Zv (K:=K) (CX:=fun _=>CX) (sp:=fun w=>sp (K w.params)) hn hn2 hdf hr hY F (fun w H a ns h1 h2 h3=>hsp (K w.params) H a ns h1 h2 h3) fun _ H s e s'=>hCX H s e s'
end L2
namespace L2
open PySem PySem.Spec PyProof.Rows
def cJ (s:Stmt):Arguments:=match s with
 |.FunctionDef _ a _ _ _ _ _ _ _ _=>a
 |_=>{ posonlyargs:=[],args:=[],vararg:=none,kwonlyargs:=[],kw_defaults:=[],kwarg:=none,defaults:=[] }
def bL (s:Stmt):List Stmt:=match s with
 |.FunctionDef _ _ b _ _ _ _ _ _ _=>b
 |_=>[]
def aH (s:Stmt):Scope:=match s with
 |.FunctionDef _ _ _ _ _ _ sc _ _ _=>sc
 |_=>{ kind:=.function,names:=[],isGenerator:=false,isCoroutine:=false }
abbrev mj:RK:=fun _ _ _ _ _ _=>False
abbrev E0:XK:=fun _ _ _=>False
theorem abq {X:Cx}:Passes mj X E0:=fun _ _ _ _ _ _ _ h=>h.elim
structure yG (K:FG_) (x qual:Str) (st:Stmt) (f:Addr) (fd:FuncData):Prop where
 ex:∃ (oc:Value) (od:Option Addr) (kV doc pm:Value) (an:Option Addr) (cdv ct:Value) (osl:Array (Option Value)),
  fd=PySem.W.fnOf x qual (cJ st) (bL st) (aH st) .none kV doc pm an cdv ct/\K.lookup f=some ⟨oc,od,.func fd,osl⟩/\PySem.W.codeIn K cdv qual=true
 kp:PySem.W.keepIn K (.ref f)=true
section
variable {P:Program} {w:World} {K:FG_} {mg:Str->Option Value} {base:Heap}
theorem yG.ok {x qual:Str} {st:Stmt} {f:Addr} {fd:FuncData} {N ps:LS_} {k:Nat} {sp:Sp} (F:yG K x qual st f fd) (S:bU N ps (aH st)) (len:∀ vs H Q E,sp vs H Q E->vs.length=ps.length)
  (hbody:∀ (cdv:Value) (A:Around) (outer:List Env) (s:Shared) (H:Hp) (vs:List V) (Q:VK) (E:XK),mV k (A.deeper (envOfC qual (aH st) s.heap.objs.size f cdv))->sp vs H Q E →
   ∃ t,Pr (Hh mj P w K mg base N qual (aH st) f cdv A outer s H E).Vs (bL st) t/\t { nx:=fun _ H'=>Q .non H',rt:=Q } (start N vs) H):cF P w K mg base mj (k+1) f fd ps sp:=by
 obtain⟨oc,od,kV,doc,pm,an,cdv,ct,osl,rfl,lk,hcd⟩:=F.ex
 refine ae2 lk hcd S len fun A outer s H vs Q E hr hsp=>?_
 obtain⟨t,h,q⟩:=hbody cdv A outer s H vs Q E hr hsp
 exact⟨t,h.Vs,q⟩
theorem yG.binds {x qual:Str} {st:Stmt} {f:Addr} {fd:FuncData} {ps:LS_} (F:yG K x qual st f fd)
  (h:∀ (kV doc pm:Value) (an:Option Addr) (cdv ct:Value) (us:List Value),us.length=ps.length->bindArgs (PySem.W.fnOf x qual (cJ st) (bL st) (aH st) .none kV doc pm an cdv ct) ⟨us,[]⟩=pure (ps.zip us)):Binds K fd ps []:=by
 obtain⟨oc,od,kV,doc,pm,an,cdv,ct,osl,rfl,lk,hcd⟩:=F.ex
 exact .all (h kV doc pm an cdv ct)
theorem gB {x qual:Str} {st:Stmt} {f:Addr} {oc:Value} {od an:Option Addr} {osl:Array (Option Value)} {kV doc pm cdv ct:Value} (l:K.lookup f=some ⟨oc,od,.func (PySem.W.fnOf x qual (cJ st) (bL st) (aH st) .none kV doc pm an cdv ct),osl⟩)
  (c:PySem.W.codeIn K cdv qual=true) (k:PySem.W.keepIn K (.ref f)=true):yG K x qual st f (PySem.W.fnOf x qual (cJ st) (bL st) (aH st) .none kV doc pm an cdv ct):=⟨⟨oc,od,kV,doc,pm,an,cdv,ct,osl,rfl,l,c⟩,k⟩
end
section
variable {X:Cx}
theorem pv (i:Nat) {x:Str} {pos:Pos} (hN:X.N[i]?=some x:=by rfl) (hv:Vr X.env.scope x:=by first|exact JY rfl|exact Q3 (JY rfl)|exact Q3 (Q3 rfl)) (hd:(x==("__debug__" : Str))=false:=by decide)
  (hcd:(x==("__classdict__" : Str))=false:=by decide):PE X (.Name x pos) (Y7 i):=tu hN hv hd hcd
end
def Same (H H':Hp):Prop:=∀ b o,H b=some o->H' b=some o
theorem Same.refl (H:Hp):Same H H:=fun _ _ h=>h
theorem Same.trans {H H1 H2:Hp} (a:Same H H1) (b:Same H1 H2):Same H H2:=fun c o h=>b c o (a c o h)
theorem Same.free {H H':Hp} (e:Same H H') {l:Addr} (h:H' l=Option.none):H l=Option.none:=by
 cases q:H l with
 |none=>rfl
 |some o=>
  rw[e l o q] at h
  cases h
theorem Same.seq {K:FG_} {H H':Hp} {a:Addr} {xs:List V} (e:Same H H') (h:rE K H a xs):rE K H' a xs:=by
 rcases h with (h|⟨o,h⟩)|h
 ·exact .inl (.inl (e _ _ h))
 ·exact .inl (.inr ⟨o,e _ _ h⟩)
 ·exact .inr h
end L2
end
section
namespace P1
open PySem PySem.Spec PyProof.Rows L2
inductive Dt where
 |non|bl (b:Bool)|int (i:Int)|str (x:Str)|tup (xs:List Dt)|lst (xs:List Dt)|emp
inductive Bx where
 |z (d:Dt)|l (ds:List Dt)|o (ds:List Dt)|n (kvs:List (Key×Dt))|m (kvs:List (Key×Dt)) (w:Option Addr)
abbrev Ev:=List (Option Bx)
def FzL (K:FG_) (H:Hp) (a:Addr) (xs:List V):Prop:=
 (∃ o,H a=some (.n8 o (.lst xs))) ∨
  ∃ (o:Obj) (its:Array Value) (n:Nat),K.lookup a=some o/\o.cls=.type "list" ∧ o.dict=none/\o.data=.seq its n/\its.size<=sizeLine/\Vals xs its.toList
theorem FzL.sq {K:FG_} {H:Hp} {a:Addr} {xs:List V} (h:FzL K H a xs):rE K H a xs:=by
 rcases h with h|h
 ·exact .inl (.inr h)
 ·exact .inr h
mutual
def Rep (K:FG_) (H:Hp):Dt->V->Prop
 |.non,v=>v=.non
 |.bl b,v=>v=.bl b
 |.int i,v=>v=.int i
 |.str x,v=>v=.str x/\x.length<=sizeLine
 |.tup ds,v=>∃ a vs,v=.ref a/\xO K H a vs/\aJ K H ds vs
 |.lst ds,v=>∃ a vs,v=.ref a/\FzL K H a vs/\aJ K H ds vs
 |.emp,v=>∃ a o,v=.ref a/\H a=some (.n8 o (.dK []))
def aJ (K:FG_) (H:Hp):List Dt->List V->Prop
 |[],vs=>vs=[]
 |d::ds,vs=>∃ v r,vs=v::r/\Rep K H d v/\aJ K H ds r
end
structure Kp (H H':Hp):Prop where
 t:∀ a xs,H a=some (.tup xs)->H' a=some (.tup xs)
 f:∀ a o u,H a=some (.n8 o u)->H' a=some (.n8 o u)
theorem Kp.of {H H':Hp} (s:Same H H'):Kp H H':=⟨fun a _ h=>s a _ h,fun a _ _ h=>s a _ h⟩
theorem Kp.sqT {K:FG_} {H H':Hp} {a:Addr} {xs:List V} (k:Kp H H') (h:xO K H a xs):xO K H' a xs:=by
 rcases h with (h|⟨o,h⟩)|h
 ·exact .inl (.inl (k.t _ _ h))
 ·exact .inl (.inr ⟨o,k.f _ _ _ h⟩)
 ·exact .inr h
theorem Kp.fzL {K:FG_} {H H':Hp} {a:Addr} {xs:List V} (k:Kp H H') (h:FzL K H a xs):FzL K H' a xs:=by
 rcases h with⟨o,h⟩|h
 ·exact .inl ⟨o,k.f _ _ _ h⟩
 ·exact .inr h
theorem Kp.lst {H:Hp} {a:Addr} {xs:List V} {o:HO} (h:H a=some (.lst xs)):Kp H (upd H a o):=by
 refine⟨fun b ys e=>?_,fun b ob u e=>?_⟩
 ·rw[aG (oh e h (by intro z;cases z))];exact e
 ·rw[aG (oh e h (by intro z;cases z))];exact e
theorem Kp.dk {H:Hp} {a:Addr} {xs:List (Key×V)} {o:HO} (h:H a=some (.dK xs)):Kp H (upd H a o):=by
 refine⟨fun b ys e=>?_,fun b ob u e=>?_⟩
 ·rw[aG (oh e h (by intro z;cases z))];exact e
 ·rw[aG (oh e h (by intro z;cases z))];exact e
mutual
theorem Rep.kp {K:FG_} {H H':Hp} (k:Kp H H'):∀ {d:Dt} {v:V},Rep K H d v->Rep K H' d v
 |.non,_,h=>by simpa only[Rep] using h
 |.bl _,_,h=>by simpa only[Rep] using h
 |.int _,_,h=>by simpa only[Rep] using h
 |.str _,_,h=>by simpa only[Rep] using h
 |.tup ds,_,h=>by
  simp only[Rep] at h ⊢
  obtain⟨a,vs,e,q,r⟩:=h
  exact⟨a,vs,e,k.sqT q,aJ.kp k r⟩
 |.lst ds,_,h=>by
  simp only[Rep] at h ⊢
  obtain⟨a,vs,e,q,r⟩:=h
  exact⟨a,vs,e,k.fzL q,aJ.kp k r⟩
 |.emp,_,h=>by
  simp only[Rep] at h ⊢
  obtain⟨a,o,e,q⟩:=h
  exact⟨a,o,e,k.f _ _ _ q⟩
theorem aJ.kp {K:FG_} {H H':Hp} (k:Kp H H'):∀ {ds:List Dt} {vs:List V},aJ K H ds vs->aJ K H' ds vs
 |[],_,h=>by simpa only[aJ] using h
 |d::ds,_,h=>by
  simp only[aJ] at h ⊢
  obtain⟨v,r,e,q,t⟩:=h
  exact⟨v,r,e,Rep.kp k q,aJ.kp k t⟩
end
theorem aJ.length {K:FG_} {H:Hp}:∀ {ds:List Dt} {vs:List V},aJ K H ds vs->vs.length=ds.length
 |[],_,h=>by simp only[aJ] at h;subst h;rfl
 |d::ds,_,h=>by
  simp only[aJ] at h
  obtain⟨v,r,rfl,_,t⟩:=h
  simp[aJ.length t]
theorem aJ.nil {K:FG_} {H:Hp}:aJ K H [] []:=by simp only[aJ]
theorem aJ.cons {K:FG_} {H:Hp} {d:Dt} {v:V} {ds:List Dt} {vs:List V} (h:Rep K H d v) (t:aJ K H ds vs):aJ K H (d::ds) (v::vs):=by
 simp only[aJ];exact⟨v,vs,rfl,h,t⟩
theorem aJ.append {K:FG_} {H:Hp}:∀ {ds es:List Dt} {vs us:List V},aJ K H ds vs->aJ K H es us->aJ K H (ds++es) (vs++us)
 |[],_,_,_,h,t=>by simp only[aJ] at h;subst h;exact t
 |d::ds,_,_,_,h,t=>by
  simp only[aJ] at h
  obtain⟨v,r,rfl,q,h⟩:=h
  exact aJ.cons q (aJ.append h t)
theorem aJ.drop {K:FG_} {H:Hp}:∀ (n:Nat) {ds:List Dt} {vs:List V},aJ K H ds vs->aJ K H (ds.drop n) (vs.drop n)
 |0,_,_,h=>h
 |n+1,[],_,h=>by simp only[aJ] at h;subst h;exact aJ.nil
 |n+1,d::ds,_,h=>by
  simp only[aJ] at h
  obtain⟨v,r,rfl,q,h⟩:=h
  exact aJ.drop n h
theorem aJ.take {K:FG_} {H:Hp}:∀ (n:Nat) {ds:List Dt} {vs:List V},aJ K H ds vs->aJ K H (ds.take n) (vs.take n)
 |0,_,_,_=>aJ.nil
 |n+1,[],_,h=>by simp only[aJ] at h;subst h;exact aJ.nil
 |n+1,d::ds,_,h=>by
  simp only[aJ] at h
  obtain⟨v,r,rfl,q,h⟩:=h
  exact aJ.cons q (aJ.take n h)
theorem aJ.get {K:FG_} {H:Hp}:∀ {ds:List Dt} {vs:List V} {i:Nat} {d:Dt},aJ K H ds vs->ds[i]?=some d->∃ v,vs[i]?=some v/\Rep K H d v
 |[],_,_,_,_,e=>by simp at e
 |d::ds,_,0,_,h,e=>by
  simp only[aJ] at h
  obtain⟨v,r,rfl,q,h⟩:=h
  simp at e;subst e;exact⟨v,rfl,q⟩
 |d::ds,_,i+1,_,h,e=>by
  simp only[aJ] at h
  obtain⟨v,r,rfl,q,h⟩:=h
  obtain⟨u,e1,e2⟩:=aJ.get h (i:=i) (by simpa using e)
  exact⟨u,by simpa using e1,e2⟩
def okK:Key->Prop
 |.inl _=>True
 |.inr x=>x.length<=sizeLine
def fD (K:FG_) (H:Hp) (kvs:List (Key×Dt)) (ks:List (Key×V)):Prop:=ks.map (·.1)=kvs.map (·.1)/\aJ K H (kvs.map (·.2)) (ks.map (·.2))/\∀ p∈kvs,okK p.1
theorem fD.kp {K:FG_} {H H':Hp} {kvs:List (Key×Dt)} {ks:List (Key×V)} (h:fD K H kvs ks) (k:Kp H H'):fD K H' kvs ks:=⟨h.1,h.2.1.kp k,h.2.2⟩
def bw (K:FG_) (H:Hp):Bx->V->Prop
 |.z d,v=>Rep K H d v
 |.l ds,v=>∃ a vs,v=.ref a/\Rd H a (.lst vs)/\aJ K H ds vs
 |.o ds,v=>∃ a vs,v=.ref a/\H a=some (.lst vs)/\aJ K H ds vs
 |.n kvs,v=>∃ a ks,v=.ref a/\Rd H a (.dK ks)/\fD K H kvs ks
 |.m kvs w,v=>∃ a ks,v=.ref a/\H a=some (.dK ks)/\fD K H kvs ks/\∀ b,w=some b->b=a
theorem bw.same {K:FG_} {H H':Hp} (s:Same H H') {b:Bx} {v:V} (h:bw K H b v):bw K H' b v:=by
 cases b with
 |z d=>exact Rep.kp (.of s) h
 |l ds=>
  obtain⟨a,vs,e,q,r⟩:=h
  refine⟨a,vs,e,?_,r.kp (.of s)⟩
  rcases q with q|⟨o,q⟩
  ·exact .inl (s _ _ q)
  ·exact .inr ⟨o,s _ _ q⟩
 |o ds=>
  obtain⟨a,vs,e,q,r⟩:=h
  exact⟨a,vs,e,s _ _ q,r.kp (.of s)⟩
 |n kvs=>
  obtain⟨a,vs,e,q,r⟩:=h
  refine⟨a,vs,e,?_,r.kp (.of s)⟩
  rcases q with q|⟨o,q⟩
  ·exact .inl (s _ _ q)
  ·exact .inr ⟨o,s _ _ q⟩
 |m kvs _=>
  obtain⟨a,vs,e,q,r⟩:=h
  exact⟨a,vs,e,s _ _ q,r.1.kp (.of s),r.2⟩
def rW:Bx->Option (List Dt)
 |.z (.lst ds)=>some ds
 |.l ds=>some ds
 |.o ds=>some ds
 |_=>none
theorem bw.Ji {K:FG_} {H:Hp} {b:Bx} {v:V} {ds:List Dt} (h:bw K H b v) (e:rW b=some ds):∃ a vs,v=.ref a/\rE K H a vs/\aJ K H ds vs:=by
 cases b with
 |z d=>
  cases d<;>first|(cases e;done)|skip
  cases e
  simp only[bw,Rep] at h
  obtain⟨a,vs,e,q,r⟩:=h
  exact⟨a,vs,e,q.sq,r⟩
 |l ds'=>
  cases e
  obtain⟨a,vs,e,q,r⟩:=h
  exact⟨a,vs,e,.inl q,r⟩
 |o ds'=>
  cases e
  obtain⟨a,vs,e,q,r⟩:=h
  exact⟨a,vs,e,.inl (.inl q),r⟩
 |n _=>cases e
 |m _ _=>cases e
abbrev qd (K:FG_) (H:Hp):List Bx->List V->Prop:=Paired (bw K H)
theorem qd.same {K:FG_} {H H':Hp} (s:Same H H') {bs:List Bx} {vs:List V} (h:qd K H bs vs):qd K H' bs vs:=Paired.imp' (fun _ _ q=>bw.same s q) h
def Nw (H:Hp):Bx->V->Prop
 |.o _,v=>∀ a,v=.ref a->H a=none
 |.m _ _,v=>∀ a,v=.ref a->H a=none
 |_,_=>True
theorem Nw.old {H H1:Hp} (s:Same H H1) {b:Bx} {v:V} (h:Nw H1 b v):Nw H b v:=by
 cases b with
 |o ds=>exact fun a e=>s.free (h a e)
 |m ds _=>exact fun a e=>s.free (h a e)
 |_=>trivial
def loose:Bx->Bool
 |.z _=>false
 |_=>true
def rY:Bx->Bool
 |.o _=>true
 |.m _ _=>true
 |_=>false
structure bf (K:FG_) (H0 H:Hp) (σ:L2.St) (ρ:Ev):Prop where
 len:σ.length=ρ.length
 val:∀ (i:Nat) b,ρ[i]?=some (some b)->∃ v,σ[i]?=some (some v)/\bw K H b v
 own:∀ (i j:Nat) c a b,ρ[i]?=some (some c)->rY c=true->σ[i]?=some (some (.ref a))->ρ[j]?=some (some b)->loose b=true->σ[j]?=some (some (.ref a))->i=j
 base:Same H0 H
 new:∀ (i:Nat) c a,ρ[i]?=some (some c)->rY c=true->σ[i]?=some (some (.ref a))->H0 a=none
theorem bf.grow {K:FG_} {H0 H H':Hp} {σ:L2.St} {ρ:Ev} (r:bf K H0 H σ ρ) (s:Same H H'):bf K H0 H' σ ρ:=
 ⟨r.len,fun i b e=>let ⟨v,e1,h⟩:=r.val i b e;⟨v,e1,h.same s⟩,r.own,r.base.trans s,r.new⟩
def tF (K:FG_) (f:Ev->Option Bx):TE:=fun σ H Q=>∃ H0 ρ b,bf K H0 H σ ρ/\f ρ=some b/\∀ v H',Same H H'->Nw H b v->bw K H' b v->Q v H'
def tFA (K:FG_) (f:Ev->Option (List Bx)):TA:=fun σ H Q=>∃ H0 ρ bs,bf K H0 H σ ρ/\f ρ=some bs/\∀ vs H',Same H H'->qd K H' bs vs->Q vs H'
def Zw (K:FG_) (f:Ev->Option Bool):TT:=fun σ H Q=>∃ H0 ρ b,bf K H0 H σ ρ/\f ρ=some b/\∀ H',Same H H'->Q b H'
def PV (X:Cx) (e:Expr) (f:Ev->Option Bx):Prop:=PE X e (tF X.K f)
structure QV (X:Cx) (e:Expr) (f:Ev->Option Bx):Prop where
 run:PV X e f
def PVs (X:Cx) (es:List Expr) (f:Ev->Option (List Bx)):Prop:=PA X es (tFA X.K f)
structure Vt (X:Cx) (es:List Expr) (f:Ev->Option (List Bx)):Prop where
 run:PVs X es f
def PB (X:Cx) (e:Expr) (f:Ev->Option Bool):Prop:=PT X e (Zw X.K f)
structure QB (X:Cx) (e:Expr) (f:Ev->Option Bool):Prop where
 run:PB X e f
theorem J7 {X:Cx} {e:Expr} {t t':TE} (h:PE X e t) (m:∀ σ H Q,t' σ H Q->t σ H Q):PE X e t':=fun pins s σ H Q I q=>h pins s σ H Q I (m σ H Q q)
theorem paM {X:Cx} {e:List Expr} {t t':TA} (h:PA X e t) (m:∀ σ H Q,t' σ H Q->t σ H Q):PA X e t':=fun pos pins s σ H Q I q=>h pos pins s σ H Q I (m σ H Q q)
theorem ptM {X:Cx} {e:Expr} {t t':TT} (h:PT X e t) (m:∀ σ H Q,t' σ H Q->t σ H Q):PT X e t':=fun pins s σ H Q I q=>h pins s σ H Q I (m σ H Q q)
theorem pwM {X:Cx} {e:Expr} {t t':TT} (h:PW X e t) (m:∀ σ H Q,t' σ H Q->t σ H Q):PW X e t':=fun wh pins s σ H Q I q=>h wh pins s σ H Q I (m σ H Q q)
theorem Vu {X:Cx} {e:Stmt} {t t':TS} (h:PS X e t) (m:∀ D σ H,t' D σ H->t D σ H):PS X e t':=fun pins s σ H D I q=>h pins s σ H D I (m D σ H q)
theorem acO {X:Cx} {e:List Stmt} {t t':TS} (h:Pr X e t) (m:∀ D σ H,t' D σ H->t D σ H):Pr X e t':=fun pins s σ H D I q=>h pins s σ H D I (m D σ H q)
def rF (K:FG_) (g:Bx->Bx->Option Bx):R2:=fun x y H Q=>∃ a b c,bw K H a x/\bw K H b y/\g a b=some c/\∀ w H',Same H H'->Nw H c w->bw K H' c w->Q w H'
def rF1 (K:FG_) (g:Bx->Option Bx):V->Hp->VK->Prop:=fun x H Q=>∃ a c,bw K H a x/\g a=some c/\∀ w H',Same H H'->Nw H c w->bw K H' c w->Q w H'
def rFs (K:FG_) (g:List Bx->Option Bx):List V->Hp->VK->Prop:=fun xs H Q=>∃ bs c,qd K H bs xs/\g bs=some c/\∀ w H',Same H H'->Nw H c w->bw K H' c w->Q w H'
abbrev Mu (X:Cx) (f:Value->Value->Sem Value) (g:Bx->Bx->Option Bx):Prop:=yD X f (rF X.K g)
abbrev UnF (X:Cx) (f:Value->Sem Value) (g:Bx->Option Bx):Prop:=UnR X f (rF1 X.K g)
abbrev qT (X:Cx) (f:Value) (g:List Bx->Option Bx):Prop:=gP X f (rFs X.K g)
theorem yD.imp {X:Cx} {f:Value->Value->Sem Value} {r r':R2} (h:yD X f r) (m:∀ x y H Q,r' x y H Q->r x y H Q):yD X f r':=fun pins s σ H x y v u Q I rx ry q=>h pins s σ H x y v u Q I rx ry (m x y H Q q)
theorem UnR.imp {X:Cx} {f:Value->Sem Value} {r r':V->Hp->VK->Prop} (h:UnR X f r) (m:∀ x H Q,r' x H Q->r x H Q):UnR X f r':=fun pins s σ H x v Q I rx q=>h pins s σ H x v Q I rx (m x H Q q)
theorem gP.imp {X:Cx} {f:Value} {r r':List V->Hp->VK->Prop} (h:gP X f r) (m:∀ x H Q,r' x H Q->r x H Q):gP X f r':=fun pins s σ H xs us Q I rx q=>h pins s σ H xs us Q I rx (m xs H Q q)
def b2 (g:Bx->Bx->Option Bx) (fa fb:Ev->Option Bx):Ev->Option Bx:=fun ρ=>(fa ρ).bind fun x=>(fb ρ).bind fun y=>g x y
def b1 (g:Bx->Option Bx) (fa:Ev->Option Bx):Ev->Option Bx:=fun ρ=>(fa ρ).bind g
def bM (g:List Bx->Option Bx) (fs:Ev->Option (List Bx)):Ev->Option Bx:=fun ρ=>(fs ρ).bind g
theorem bind_some {α β:Type} {o:Option α} {f:α->Option β} {b:β} (h:o.bind f=some b):∃ a,o=some a/\f a=some b:=by
 cases o with
 |none=>cases h
 |some a=>exact⟨a,rfl,h⟩
theorem V8 {K:FG_} {g:Bx->Bx->Option Bx} {fa fb:Ev->Option Bx} (σ:L2.St) (H:Hp) (Q:VK) (h:tF K (b2 g fa fb) σ H Q):tOp (rF K g) (tF K fa) (tF K fb) σ H Q:=by
 obtain⟨H0,ρ,c,E,e,q⟩:=h
 obtain⟨a,ea,e⟩:=bind_some e
 obtain⟨b,eb,e⟩:=bind_some e
 refine⟨H0,ρ,a,E,ea,fun v H1 s1 n1 r1=>⟨H0,ρ,b,E.grow s1,eb,fun u H2 s2 n2 r2=>?_⟩⟩
 exact⟨a,b,c,r1.same s2,r2,e,fun w H3 s3 n3 r3=>q w H3 ((s1.trans s2).trans s3) (n3.old (s1.trans s2)) r3⟩
theorem afg {K:FG_} {g:Bx->Option Bx} {fa:Ev->Option Bx} (σ:L2.St) (H:Hp) (Q:VK) (h:tF K (b1 g fa) σ H Q):tUn (rF1 K g) (tF K fa) σ H Q:=by
 obtain⟨H0,ρ,c,E,e,q⟩:=h
 obtain⟨a,ea,e⟩:=bind_some e
 exact⟨H0,ρ,a,E,ea,fun v H1 s1 n1 r1=>⟨a,c,r1,e,fun w H3 s3 n3 r3=>q w H3 (s1.trans s3) (n3.old s1) r3⟩⟩
theorem convs {K:FG_} {g:List Bx->Option Bx} {fs:Ev->Option (List Bx)} (σ:L2.St) (H:Hp) (Q:VK) (h:tF K (bM g fs) σ H Q):tCB (rFs K g) (tFA K fs) σ H Q:=by
 obtain⟨H0,ρ,c,E,e,q⟩:=h
 obtain⟨a,ea,e⟩:=bind_some e
 exact⟨H0,ρ,a,E,ea,fun v H1 s1 r1=>⟨a,c,r1,e,fun w H3 s3 n3 r3=>q w H3 (s1.trans s3) (n3.old s1) r3⟩⟩
section
variable {X:Cx} {a b c e:Expr} {es:List Expr} {fa fb fc f:Ev->Option Bx} {fs:Ev->Option (List Bx)} {pos:Pos}
theorem aQ {op:Operator} {g:Bx->Bx->Option Bx} (ho:Mu X (binaryOp op) g) (ha:QV X a fa) (hb:QV X b fb):QV X (.BinOp a op b pos) (b2 g fa fb):=⟨have ha:=ha.run;have hb:=hb.run;J7 (aeS ho ha hb) V8⟩
theorem abt {op:UnaryOp} {g:Bx->Option Bx} (ho:UnF X (unaryOp op) g) (ha:QV X a fa):QV X (.UnaryOp op a pos) (b1 g fa):=⟨have ha:=ha.run;J7 (aeT ho ha) afg⟩
theorem V9 {op:CmpOp} {g:Bx->Bx->Option Bx} (ho:Mu X (compareOp op) g) (ha:QV X a fa) (hb:QV X b fb) (hm:behindInMarks op b=false):QV X (.Compare a [op] [b] pos) (b2 g fa fb):=⟨have ha:=ha.run;have hb:=hb.run;J7 (Zd ho ha hb hm) V8⟩
def Qf:Bx->Option Bool
 |.z (.bl b)=>some b
 |_=>none
theorem Mv {K:FG_} {H:Hp} {b:Bx} {v:V} {k:Bool} (h:bw K H b v) (e:Qf b=some k):v=.bl k:=by
 cases b with
 |z d=>
  cases d<;>first|(cases e;done)|skip
  cases e
  simpa only[bw,Rep] using h
 |_=>cases e
theorem afh {K:FG_} {f:Ev->Option Bx} (σ:L2.St) (H:Hp) (Q:Bool->Hp->Prop) (h:Zw K (fun ρ=>(f ρ).bind Qf) σ H Q):tF K f σ H (fun x H'=>∃ k,x=.bl k/\Q k H'):=by
 obtain⟨H0,ρ,k,E,e,q⟩:=h
 obtain⟨b,eb,e⟩:=bind_some e
 exact⟨H0,ρ,b,E,eb,fun v H1 s1 n1 r1=>⟨k,Mv r1 e,q H1 s1⟩⟩
theorem eN {op:CmpOp} {g:Bx->Bx->Option Bx} (ho:Mu X (compareOp op) g) (ha:QV X a fa) (hb:QV X b fb) (hm:behindInMarks op b=false):QB X (.Compare a [op] [b] pos) (fun ρ=>(b2 g fa fb ρ).bind Qf):=⟨have ha:=ha.run;have hb:=hb.run;ptM (Ze ho ha hb hm) fun σ H Q h=>V8 σ H _ (afh σ H Q h)⟩
def z6 (ρ:Ev) (i:Nat):Option Bx:=match ρ[i]? with
 |some (some (.o ds))=>some (.l ds)
 |some (some (.m kvs _))=>some (.n kvs)
 |some (some b)=>some b
 |_=>none
theorem Mw {K:FG_} {H0 H:Hp} {σ:L2.St} {ρ:Ev} {i:Nat} {b:Bx} (E:bf K H0 H σ ρ) (e:z6 ρ i=some b):∃ v,σ[i]?=some (some v)/\bw K H b v:=by
 unfold z6 at e
 split at e
 ·rename_i ds h
  cases e
  obtain⟨v,e1,a,vs,e2,q,r⟩:=E.val i _ h
  exact⟨v,e1,a,vs,e2,.inl q,r⟩
 ·rename_i ds h
  cases e
  obtain⟨v,e1,a,vs,e2,q,r⟩:=E.val i _ h
  exact⟨v,e1,a,vs,e2,.inl q,r.1⟩
 ·rename_i b' h
  cases e
  exact E.val i _ h
 ·cases e
theorem yH {ρ:Ev} {i:Nat} {b:Bx} (e:z6 ρ i=some b):rY b=false:=by
 unfold z6 at e
 split at e
 ·cases e;rfl
 ·cases e;rfl
 ·rename_i b' h1 h2 h3
  cases e
  cases b with
  |o ds=>exact absurd rfl (h1 ds)
  |m ds _=>exact absurd rfl (h2 ds _)
  |_=>rfl
 ·cases e
theorem ak (i:Nat) {x:Str} (hN:X.N[i]?=some x:=by rfl) (hv:Vr X.env.scope x:=by first|exact JY rfl|exact Q3 (JY rfl)|exact Q3 (Q3 rfl)) (hd:(x==("__debug__" : Str))=false:=by decide) (hcd:(x==("__classdict__" : Str))=false:=by decide):QV X (.Name x pos) (fun ρ=>z6 ρ i):=⟨J7 (tu hN hv hd hcd) fun σ H Q h=>by
 obtain⟨H0,ρ,b,E,e,q⟩:=h
 obtain⟨v,e1,r⟩:=Mw E e
 refine⟨v,e1,q v H (Same.refl H) ?_ r⟩
 cases b with
 |o ds=>have:=yH e;cases this
 |m ds _=>have:=yH e;cases this
 |_=>trivial⟩
def cB (d:Dt):Ev->Option Bx:=fun _=>some (.z d)
theorem acP {v:V} {d:Dt} (h:PE X e (tC v)) (r:∀ H,Rep X.K H d v):PV X e (cB d):=J7 h fun σ H Q q=>by
 obtain⟨H0,ρ,b,E,e,q⟩:=q
 cases e
 exact q v H (Same.refl H) trivial (r H)
theorem aC {i j}:QV X (.Constant (.int i) j pos) (cB (.int i)):=⟨acP ab4 fun H=>by simp only[Rep]⟩
theorem Dz {i j}:QV X (.Constant (.bool i) j pos) (cB (.bl i)):=⟨acP aeH fun H=>by simp only[Rep]⟩
theorem Wa {x:Str} {j} (hx:x.length<=sizeLine:=by decide):PV X (.Constant (.str x) j pos) (cB (.str x)):=acP ab5 fun H=>by unfold Rep;exact⟨rfl,hx⟩
def Uk:Bx->Option Bool
 |.z .non=>some false
 |.z (.bl b)=>some b
 |.z (.int i)=>some (i != 0)
 |.z (.str x)=>some ((x.length:Int) != 0)
 |.z (.tup ds)=>some (!ds.isEmpty)
 |.z (.lst ds)=>some (!ds.isEmpty)
 |.l ds=>some (!ds.isEmpty)
 |.o ds=>some (!ds.isEmpty)
 |.z .emp=>none
 |.n _=>none
 |.m _ _=>none
theorem aJ.isEmpty {K:FG_} {H:Hp} {ds:List Dt} {vs:List V} (h:aJ K H ds vs):(!ds.isEmpty)=!vs.isEmpty:=by
 have:=h.length
 cases ds<;>cases vs<;>simp_all
theorem RZ {K:FG_} {H:Hp} {b:Bx} {v:V} {k:Bool} (r:bw K H b v) (e:Uk b=some k):acz K v H k:=by
 cases b with
 |z d=>
  cases d with
  |non=>cases e;simp only[bw,Rep] at r;subst r;rfl
  |bl b=>cases e;simp only[bw,Rep] at r;subst r;rfl
  |int b=>cases e;simp only[bw,Rep] at r;subst r;rfl
  |str x=>cases e;simp only[bw,Rep] at r;obtain⟨rfl,h⟩:=r;exact⟨h,rfl⟩
  |tup ds=>
   cases e;simp only[bw,Rep] at r
   obtain⟨a,vs,rfl,q,r⟩:=r
   exact .inr (.inl ⟨vs,q,r.isEmpty⟩)
  |lst ds=>
   cases e
   obtain⟨a,vs,rfl,q,r⟩:=r.Ji rfl
   exact .inl ⟨vs,q,r.isEmpty⟩
  |emp=>cases e
 |l ds=>
  cases e
  obtain⟨a,vs,rfl,q,r⟩:=r.Ji rfl
  exact .inl ⟨vs,q,r.isEmpty⟩
 |o ds=>
  cases e
  obtain⟨a,vs,rfl,q,r⟩:=r.Ji rfl
  exact .inl ⟨vs,q,r.isEmpty⟩
 |n _=>cases e
 |m _ _=>cases e
theorem Qg (h:QV X e f) (he:∀ whole,isTrue e X.env whole=(do let v <-whole;standAt e.pos;holding [v] (truthy v)):=by intro _;rfl):QB X e (fun ρ=>(f ρ).bind Uk):=⟨have h:=h.run;ptM (VL h he) fun σ H Q q=>by
 obtain⟨H0,ρ,k,E,e,q⟩:=q
 obtain⟨b,eb,e⟩:=bind_some e
 exact⟨H0,ρ,b,E,eb,fun v H1 s1 n1 r1=>⟨k,RZ r1 e,q H1 s1⟩⟩⟩
def Wb (p q:Ev->Option Bool):Ev->Option Bool:=fun ρ=>(p ρ).bind fun c=>if c=true then q ρ else some false
def Zx (p q:Ev->Option Bool):Ev->Option Bool:=fun ρ=>(p ρ).bind fun c=>if c=true then some true else q ρ
def Ul (p:Ev->Option Bool):Ev->Option Bool:=fun ρ=>(p ρ).bind fun c=>some (!c)
def PBW (X:Cx) (e:Expr) (f:Ev->Option Bool):Prop:=PW X e (Zw X.K f)
structure QBW (X:Cx) (e:Expr) (f:Ev->Option Bool):Prop where
 run:PBW X e f
variable {p q:Ev->Option Bool} {rest:List Expr}
theorem Wc (ha:QB X a p):QBW X (.BoolOp .And [a] pos) p:=⟨have ha:=ha.run;Za ha⟩
theorem yI (ha:QB X a p):QBW X (.BoolOp .Or [a] pos) p:=⟨have ha:=ha.run;ab6 ha⟩
theorem Zy {K:FG_} (σ:L2.St) (H:Hp) (Q:Bool->Hp->Prop) (h:Zw K (Wb p q) σ H Q):aeI (Zw K p) (Zw K q) σ H Q:=by
 obtain⟨H0,ρ,k,E,e,w⟩:=h
 obtain⟨c,ec,e⟩:=bind_some e
 refine⟨H0,ρ,c,E,ec,fun H1 s1=>?_⟩
 cases c with
 |true=>rw[zo rfl] at e ⊢;exact⟨H0,ρ,k,E.grow s1,e,fun H2 s2=>w H2 (s1.trans s2)⟩
 |false=>rw[zv z4] at e ⊢;cases e;exact w H1 s1
theorem acR {K:FG_} (σ:L2.St) (H:Hp) (Q:Bool->Hp->Prop) (h:Zw K (Zx p q) σ H Q):tOr (Zw K p) (Zw K q) σ H Q:=by
 obtain⟨H0,ρ,k,E,e,w⟩:=h
 obtain⟨c,ec,e⟩:=bind_some e
 refine⟨H0,ρ,c,E,ec,fun H1 s1=>?_⟩
 cases c with
 |true=>rw[zo rfl] at e ⊢;cases e;exact w H1 s1
 |false=>rw[zv z4] at e ⊢;exact⟨H0,ρ,k,E.grow s1,e,fun H2 s2=>w H2 (s1.trans s2)⟩
theorem Zz (ha:QB X a p) (hb:QBW X (.BoolOp .And (b::rest) pos) q):QBW X (.BoolOp .And (a::b::rest) pos) (Wb p q):=⟨have ha:=ha.run;have hb:=hb.run;pwM (ab7 ha hb) Zy⟩
theorem DG (ha:QB X a p) (hb:QBW X (.BoolOp .Or (b::rest) pos) q):QBW X (.BoolOp .Or (a::b::rest) pos) (Zx p q):=⟨have ha:=ha.run;have hb:=hb.run;pwM (aeJ ha hb) acR⟩
theorem Um (h:QBW X e p):QB X e p:=⟨have h:=h.run;h.pt⟩
theorem Qh (ha:QB X a p):QB X (.UnaryOp .Not a pos) (Ul p):=⟨have ha:=ha.run;ptM (ab8 ha) fun σ H Q h=>by
 obtain⟨H0,ρ,k,E,e,w⟩:=h
 obtain⟨c,ec,e⟩:=bind_some e
 cases e
 exact⟨H0,ρ,c,E,ec,fun H1 s1=>w H1 s1⟩⟩
def ZC (fa fb:Ev->Option Bx):Ev->Option Bx:=fun ρ=>((fa ρ).bind Qf).bind fun c=>if c=true then fb ρ else some (.z (.bl false))
theorem acS {op} (h:QV X a fa):QV X (.BoolOp op [a] pos) fa:=⟨have h:=h.run;ab9 h⟩
theorem acT (ha:QV X a fa) (hb:QV X (.BoolOp .And (b::rest) pos) fb):QV X (.BoolOp .And (a::b::rest) pos) (ZC fa fb):=⟨have ha:=ha.run;have hb:=hb.run;J7 (acd ha hb) fun σ H Q h=>by
 obtain⟨H0,ρ,k,E,e,w⟩:=h
 obtain⟨c,ec,e⟩:=bind_some e
 obtain⟨x,ex,ec⟩:=bind_some ec
 refine⟨H0,ρ,x,E,ex,fun v H1 s1 n1 r1=>⟨c,Mv r1 ec,?_⟩⟩
 cases c with
 |true=>rw[zo rfl] at e ⊢;exact⟨H0,ρ,k,E.grow s1,e,fun v H2 s2 n2 r2=>w v H2 (s1.trans s2) (n2.old s1) r2⟩
 |false=>rw[zv z4] at e ⊢;cases e;exact w _ H1 s1 trivial (by simp only[bw,Rep])⟩
theorem R0:PVs X [] (fun _=>some []):=paM uU fun σ H Q h=>by
 obtain⟨H0,ρ,bs,E,e,q⟩:=h
 cases e
 exact q [] H (Same.refl H) .nil
def ao (f:Ev->Option Bx) (fs:Ev->Option (List Bx)):Ev->Option (List Bx):=fun ρ=>(f ρ).bind fun b=>(fs ρ).bind fun bs=>some (b::bs)
theorem Mx (h1:PV X e f) (h2:PVs X es fs) (hs:starEach (e::es) X.env=(false,eval e X.env)::starEach es X.env:=by rfl):PVs X (e::es) (ao f fs):=paM (nR h1 h2 hs) fun σ H Q h=>by
 obtain⟨H0,ρ,bs,E,e,q⟩:=h
 obtain⟨b,eb,e⟩:=bind_some e
 obtain⟨bs',ebs,e⟩:=bind_some e
 cases e
 refine⟨H0,ρ,b,E,eb,fun v H1 s1 n1 r1=>⟨H0,ρ,bs',E.grow s1,ebs,fun vs H2 s2 r2=>?_⟩⟩
 exact q (v::vs) H2 (s1.trans s2) (.cons (r1.same s2) r2)
def uR:Bx->Option Bx
 |.z d=>some (.z d)
 |.o ds=>some (.z (.lst ds))
 |.l _=>none
 |.n _=>none
 |.m _ _=>none
theorem xP {pins:List (Addr×Obj)} {σ:L2.St} {H:Hp} {s:Shared} {a:Addr} {vs:List V} (I:L2.Inv X pins σ H s) (h:H a=some (.lst vs)):∃ o,L2.Inv X pins σ (upd H a (.n8 o (.lst vs))) s:=by
 obtain⟨z,its,n,r,e⟩:=I.hok a _ h
 refine⟨{ cls:=.type "list", data:=.seq its.toArray n },⟨I.ok,I.os,I.bare,⟨I.base.keep,I.base.slot,fun b ob q1 q2 q3=>?_,I.base.there,fun b xs q=>?_,fun b ob u q=>?_,fun b ps q=>?_⟩,I.loc,I.cell,?_,fun x c q=>?_,fun p hp=>?_,?_,I.len⟩⟩
 ·have:=I.base.free b ob q1 q2 q3
  rw[aG (cL h this).symm];exact this
 ·have:=I.base.tups b xs q
  rw[aG (oh this h (by intro z;cases z))];exact this
 ·have:=I.base.wM b ob u q
  rw[aG (oh this h (by intro z;cases z))];exact this
 ·obtain⟨m,this⟩:=I.base.yx b ps q
  rw[aG (oh this h (by intro z;cases z))];exact⟨m,this⟩
 ·rw[aG (cL h I.free).symm];exact I.free
 ·rw[aG (cL h (I.qb x c q)).symm];exact I.qb x c q
 ·obtain⟨q1,q2,q3⟩:=I.pin p hp
  refine⟨q1,?_,q3⟩
  rw[aG (cL h q2).symm];exact q2
 ·intro b u q
  by_cases hb:b=a
  ·subst hb
   rw[aU] at q;cases q
   exact⟨e,z,its,n,r,e⟩
  ·rw[aG hb] at q
   refine (I.hok b u q).stay (fun c v _ w=>w) (fun c w=>?_) fun c xs w=>?_
   ·rw[aG (oh w h (by intro z;cases z))];exact w
   ·rw[aG (oh w h (by intro z;cases z))];exact w
theorem jq (h:QV X e f):QV X e (b1 uR f):=⟨by
 have h:=h.run
 intro pins s σ H Q I q
 obtain⟨H0,ρ,b,E,e,q⟩:=q
 obtain⟨x,ex,e⟩:=bind_some e
 cases x with
 |z d=>
  cases e
  exact h pins s σ H Q I ⟨H0,ρ,_,E,ex,fun v H' s' n' r'=>q v H' s' trivial r'⟩
 |l ds=>cases e
 |n ds=>cases e
 |m ds _=>cases e
 |o ds=>
  cases e
  refine j9 (h pins s σ H (fun v H'=>Same H H'/\Nw H (.o ds) v/\bw X.K H' (.o ds) v) I ⟨H0,ρ,_,E,ex,fun v H' s' n' r'=>⟨s',n',r'⟩⟩) fun u s1 hq=>?_
  obtain⟨v,H1,I1,rv,s',n',r'⟩:=hq
  obtain⟨a,vs,rfl,ha,rs⟩:=r'
  obtain⟨o,I2⟩:=xP I1 ha
  refine⟨.ref a,_,I2,rv,q _ _ (fun c ob hc=>?_) trivial ?_⟩
  ·rw[aG (cL hc (n' a rfl))];exact s' c ob hc
  ·simp only[bw,Rep]
   exact⟨a,vs,rfl,.inl ⟨o,aU⟩,rs.kp (.lst ha)⟩⟩
def J8:List Bx->Option (List Dt)
 |[]=>some []
 |.z d::r=>(J8 r).bind fun ds=>some (d::ds)
 |_=>none
theorem DK {K:FG_} {H:Hp}:∀ {bs:List Bx} {vs:List V} {ds:List Dt},qd K H bs vs->J8 bs=some ds->aJ K H ds vs
 |_,_,_,.nil,e=>by cases e;exact aJ.nil
 |b::bs,_,_,.cons h t,e=>by
  cases b with
  |z d=>
   simp only[J8] at e
   obtain⟨ds',e1,e2⟩:=bind_some e
   cases e2
   exact aJ.cons h (DK t e1)
  |_=>cases e
theorem DN:∀ {bs:List Bx} {ds:List Dt},J8 bs=some ds->ds.length=bs.length
 |[],_,e=>by cases e;rfl
 |.z d::r,_,e=>by
  simp only[J8] at e
  obtain⟨ds',e1,e2⟩:=bind_some e
  cases e2
  simp[DN e1]
 |.l _::_,_,e=>by cases e
 |.o _::_,_,e=>by cases e
 |.n _::_,_,e=>by cases e
 |.m _ _::_,_,e=>by cases e
def kh (bs:List Bx):Option Bx:=if bs.length<=1000 then (J8 bs).bind fun ds=>some (.z (.tup ds)) else none
def jx (bs:List Bx):Option Bx:=if bs.length<=1000 then (J8 bs).bind fun ds=>some (.o ds) else none
theorem bF {H:Hp} {p:Addr} {o:HO} (h:H p=none):Same H (upd H p o):=fun b u e=>by rw[aG (cL e h)];exact e
theorem abu {n:Nat} (h:n<=1000):n<=sizeLine:=Zl h (by decide)
theorem lC {x1} (h:Vt X es fs):QV X (.Tuple es x1 pos) (bM kh fs):=⟨have h:=h.run;J7 (acB h) fun σ H Q q=>by
 obtain⟨H0,ρ,c,E,e,q⟩:=q
 obtain⟨bs,ebs,e⟩:=bind_some e
 refine⟨H0,ρ,bs,E,ebs,fun vs H1 s1 r1=>?_⟩
 unfold kh at e
 split at e
 ·rename_i hl
  obtain⟨ds,e1,e⟩:=bind_some e
  cases e
  have r2:=DK r1 e1
  refine⟨abu (by rw[r2.length,DN e1];exact hl),fun p hp=>q _ _ (s1.trans (bF hp)) trivial ?_⟩
  simp only[bw,Rep]
  exact⟨p,vs,rfl,.inl (.inl aU),r2.kp (.of (bF hp))⟩
 ·cases e⟩
theorem fQ (h:Vt X es fs):QV X (.List es pos) (bM jx fs):=⟨have h:=h.run;J7 (VR h) fun σ H Q q=>by
 obtain⟨H0,ρ,c,E,e,q⟩:=q
 obtain⟨bs,ebs,e⟩:=bind_some e
 refine⟨H0,ρ,bs,E,ebs,fun vs H1 s1 r1=>?_⟩
 unfold jx at e
 split at e
 ·rename_i hl
  obtain⟨ds,e1,e⟩:=bind_some e
  cases e
  have r2:=DK r1 e1
  refine⟨abu (by rw[r2.length,DN e1];exact hl),fun p hp=>q _ _ (s1.trans (bF hp)) (fun a ea=>by cases ea;exact s1.free hp) ?_⟩
  exact⟨p,vs,rfl,aU,r2.kp (.of (bF hp))⟩
 ·cases e⟩
theorem bG {x:Str} {id:String} {g:List Bx->Option Bx} {p:Pos} (hc:qT X (.builtin id) g) (hg:Gl X x) (hm:X.mg x=none) (hv:bootBuiltins x=some (.builtin id)) (ha:Vt X (e::es) fs) (hn:x ≠ "__name__" := by decide) (hdb:(x==("__debug__" : Str))=false:=by decide) (he:starEach (e::es) X.env=(false,eval e X.env)::starEach es X.env:=by rfl) (hpl:(backTo pos (starEach es X.env)).any (·.1)=false:=by rfl):QV X (.Call (.Name x p) (e::es) [] pos) (bM g fs):=⟨have ha:=ha.run;J7 (Du hc hg hm hv ha hn hdb he hpl) convs⟩
theorem cT {x:Str} {T:String} {g:List Bx->Option Bx} {p:Pos} (hc:qT X (.type T) g) (hg:Gl X x) (hm:X.mg x=none) (hv:bootBuiltins x=some (.type T)) (ha:Vt X (e::es) fs) (hn:x ≠ "__name__" := by decide) (hdb:(x==("__debug__" : Str))=false:=by decide) (he:starEach (e::es) X.env=(false,eval e X.env)::starEach es X.env:=by rfl) (hpl:(backTo pos (starEach es X.env)).any (·.1)=false:=by rfl):QV X (.Call (.Name x p) (e::es) [] pos) (bM g fs):=⟨have ha:=ha.run;J7 (Je hc hg hm hv ha hn hdb he hpl) convs⟩
end
inductive Out where
 |nx (ρ:Ev)|rt (b:Bx)|bk (ρ:Ev)|ct (ρ:Ev)
def Wf (K:FG_) (H0:Hp) (D:Ends):Out->Prop
 |.nx ρ=>∀ σ H,bf K H0 H σ ρ->D.nx σ H
 |.rt b=>∀ v H,Same H0 H->Nw H0 b v->bw K H b v->D.rt v H
 |.bk ρ=>∀ σ H,bf K H0 H σ ρ->D.bk σ H
 |.ct ρ=>∀ σ H,bf K H0 H σ ρ->D.ct σ H
def tG (K:FG_) (g:Ev->Option Out):TS:=fun D σ H=>∃ H0 ρ r,bf K H0 H σ ρ/\g ρ=some r/\Wf K H0 D r
def PG1 (X:Cx) (st:Stmt) (g:Ev->Option Out):Prop:=PS X st (tG X.K g)
structure R3 (X:Cx) (st:Stmt) (g:Ev->Option Out):Prop where
 run:PG1 X st g
def T3 (X:Cx) (st:List Stmt) (g:Ev->Option Out):Prop:=Pr X st (tG X.K g)
structure Uo (X:Cx) (st:List Stmt) (g:Ev->Option Out):Prop where
 run:T3 X st g
def aF (g1 g2:Ev->Option Out):Ev->Option Out:=fun ρ=>(g1 ρ).bind fun r=>match r with
 |.nx ρ'=>g2 ρ'
 |r=>some r
section
variable {X:Cx} {a b c e:Expr} {es:List Expr} {fa fb fc f:Ev->Option Bx} {fs:Ev->Option (List Bx)} {pos:Pos} {st:Stmt} {rest:List Stmt} {g g1 g2:Ev->Option Out}
theorem aX  : Uo X [] (fun ρ=>some (.nx ρ)):=⟨acO RG fun D σ H h=>by
 obtain⟨H0,ρ,r,E,e,q⟩:=h
 cases e
 exact q σ H E⟩
theorem aB (h1:R3 X st g1) (h2:Uo X rest g2):Uo X (st::rest) (aF g1 g2):=⟨have h1:=h1.run;have h2:=h2.run;acO (Dr h1 h2) fun D σ H h=>by
 obtain⟨H0,ρ,r,E,e,q⟩:=h
 obtain⟨r1,e1,e⟩:=bind_some e
 refine⟨H0,ρ,r1,E,e1,?_⟩
 cases r1 with
 |nx ρ'=>exact fun σ' H' E'=>⟨H0,ρ',r,E',e,q⟩
 |rt b=>cases e;exact q
 |bk ρ'=>cases e;exact q
 |ct ρ'=>cases e;exact q⟩
def Wg:Bx->Option Out
 |.l _=>none
 |.n _=>none
 |b=>some (.rt b)
theorem fU (h:QV X e f):R3 X (.Return (some e) pos) (fun ρ=>(f ρ).bind Wg):=⟨have h:=h.run;Vu (VF h) fun D σ H h=>by
 obtain⟨H0,ρ,r,E,e,q⟩:=h
 obtain⟨b,eb,e⟩:=bind_some e
 refine⟨H0,ρ,b,E,eb,fun v H1 s1 n1 r1=>?_⟩
 cases b with
 |l ds=>cases e
 |z d=>cases e;exact q v H1 (E.base.trans s1) trivial r1
 |o ds=>cases e;exact q v H1 (E.base.trans s1) (n1.old E.base) r1
 |n ds=>cases e
 |m ds _=>cases e;exact q v H1 (E.base.trans s1) (n1.old E.base) r1⟩
def Ho (i:Nat) (ρ:Ev):Option Out:=match ρ[i]? with
 |some (some b)=>Wg b
 |_=>none
theorem J9 (i:Nat) {x:Str} {p:Pos} (hN:X.N[i]?=some x:=by rfl) (hv:Vr X.env.scope x:=by first|exact JY rfl|exact Q3 (JY rfl)|exact Q3 (Q3 rfl)) (hd:(x==("__debug__" : Str))=false:=by decide) (hcd:(x==("__classdict__" : Str))=false:=by decide):R3 X (.Return (some (.Name x p)) pos) (Ho i):=⟨Vu (VF (tu hN hv hd hcd)) fun D σ H h=>by
 obtain⟨H0,ρ,r,E,e,q⟩:=h
 unfold Ho at e
 split at e
 ·rename_i b hb
  obtain⟨v,e1,r1⟩:=E.val i b hb
  refine⟨v,e1,?_⟩
  cases b with
  |l ds=>cases e
  |z d=>cases e;exact q v H E.base trivial r1
  |o ds=>cases e;exact q v H E.base (fun a ea=>E.new i _ a hb rfl (by rw[e1,ea])) r1
  |n ds=>cases e
  |m ds _=>cases e;exact q v H E.base (fun a ea=>E.new i _ a hb rfl (by rw[e1,ea])) r1
 ·cases e⟩
def Mz (p:Ev->Option Bool) (g1 g2:Ev->Option Out):Ev->Option Out:=fun ρ=>(p ρ).bind fun k=>if k=true then g1 ρ else g2 ρ
theorem uX {p:Ev->Option Bool} {u v:List Stmt} (hc:QB X c p) (ha:Uo X u g1) (hb:Uo X v g2):R3 X (.If c u v pos) (Mz p g1 g2):=⟨have hc:=hc.run;have ha:=ha.run;have hb:=hb.run;Vu (abh hc ha hb) fun D σ H h=>by
 obtain⟨H0,ρ,r,E,e,q⟩:=h
 obtain⟨k,ek,e⟩:=bind_some e
 refine⟨H0,ρ,k,E,ek,fun H1 s1=>?_⟩
 cases k with
 |true=>rw[zo rfl] at e ⊢;exact⟨H0,ρ,r,E.grow s1,e,q⟩
 |false=>rw[zv z4] at e ⊢;exact⟨H0,ρ,r,E.grow s1,e,q⟩⟩
theorem getset {α:Type} {l:List α} {i j:Nat} {x y:α} (h:(l.set i x)[j]?=some y):(j=i/\y=x/\i < l.length)\/(j≠i/\l[j]?=some y):=by
 rw[K2] at h
 by_cases e:i=j
 ·subst e
  rw[zo rfl] at h
  split at h
  ·cases h;exact .inl ⟨rfl,rfl,by assumption⟩
  ·cases h
 ·rw[zv e] at h
  exact .inr ⟨fun z=>e z.symm,h⟩
theorem z7 {α:Type} {l:List α} {i:Nat} (x:α) (h:i < l.length):(l.set i x)[i]?=some x:=by
 rw[K2,zo rfl,zo h]
theorem rZ {α:Type} {l:List α} {i j:Nat} (x:α) (h:j≠i):(l.set i x)[j]?=l[j]?:=by
 rw[K2,zv (kM h)]
theorem bf.set {K:FG_} {H0 H H1:Hp} {σ:L2.St} {ρ:Ev} {i:Nat} {b:Bx} {v:V} (E:bf K H0 H σ ρ) (s:Same H H1) (r:bw K H1 b v) (hl:rY b=true\/loose b=false) (n:Nw H b v):bf K H0 H1 (σ.set i (some v)) (ρ.set i (some b)):=by
 have E1:=E.grow s
 have apart:∀ (j:Nat) (b':Bx) (a:Addr),ρ[j]?=some (some b')->loose b'=true->σ[j]?=some (some (.ref a))->H a≠none:=fun j b' a e1 e2 e3 z=>by
  obtain⟨v',e4,r'⟩:=E.val j b' e1
  rw[e3] at e4;cases e4
  cases b' with
  |z d=>cases e2
  |l ds=>
   obtain⟨a',vs,e5,q,_⟩:=r'
   cases e5
   rcases q with q|⟨o,q⟩<;>(rw[z] at q;cases q)
  |o ds=>
   obtain⟨a',vs,e5,q,_⟩:=r'
   cases e5
   rw[z] at q;cases q
  |n ds=>
   obtain⟨a',vs,e5,q,_⟩:=r'
   cases e5
   rcases q with q|⟨o,q⟩<;>(rw[z] at q;cases q)
  |m ds _=>
   obtain⟨a',vs,e5,q,_⟩:=r'
   cases e5
   rw[z] at q;cases q
 have nw:rY b=true->∀ a,v=.ref a->H a=none:=fun ho=>by
  cases b with
  |o ds=>exact n
  |m ds _=>exact n
  |_=>cases ho
 refine⟨by rw[jS,jS];exact E.len,fun j b' e=>?_,fun j k c a b' e1 ec e2 e3 e4 e5=>?_,E1.base,fun j c a e1 ec e2=>?_⟩
 ·rcases getset e with⟨rfl,e',hi⟩|⟨hne,e'⟩
  ·cases e'
   exact⟨v,z7 _ (by rw[E.len];exact hi),r⟩
  ·rw[rZ _ hne]
   exact E1.val j b' e'
 ·rcases getset e1 with⟨rfl,e',hi⟩|⟨hne,e'⟩
  ·cases e'
   rw[z7 _ (by rw[E.len];exact hi)] at e2
   cases e2
   rcases getset e3 with⟨rfl,e3',_⟩|⟨ZD,e3'⟩
   ·rfl
   ·rw[rZ _ ZD] at e5
    exact absurd (nw ec a rfl) (apart k b' a e3' e4 e5)
  ·rw[rZ _ hne] at e2
   rcases getset e3 with⟨rfl,e3',hi⟩|⟨ZD,e3'⟩
   ·cases e3'
    rw[z7 _ (by rw[E.len];exact hi)] at e5
    cases e5
    have hlo:loose c=true:=by cases c<;>first|rfl|cases ec
    rcases hl with hl|hl
    ·exact absurd (nw hl a rfl) (apart j _ a e' hlo e2)
    ·rw[hl] at e4;cases e4
   ·rw[rZ _ ZD] at e5
    exact E.own j k c a b' e' ec e2 e3' e4 e5
 ·rcases getset e1 with⟨rfl,e',hi⟩|⟨hne,e'⟩
  ·cases e'
   rw[z7 _ (by rw[E.len];exact hi)] at e2
   cases e2
   exact E.base.free (nw ec a rfl)
  ·rw[rZ _ hne] at e2
   exact E.new j c a e' ec e2
def Wh (ρ:Ev) (i:Nat):Bx->Option Ev
 |.l _=>none
 |.n _=>none
 |b=>some (ρ.set i (some b))
theorem ZF {K:FG_} {H0 H H1:Hp} {σ:L2.St} {ρ ρ':Ev} {i:Nat} {b:Bx} {v:V} (E:bf K H0 H σ ρ) (s:Same H H1) (r:bw K H1 b v) (n:Nw H b v) (e:Wh ρ i b=some ρ'):bf K H0 H1 (σ.set i (some v)) ρ':=by
 cases b with
 |l ds=>cases e
 |z d=>cases e;exact E.set s r (.inr rfl) n
 |o d=>cases e;exact E.set s r (.inl rfl) n
 |n ds=>cases e
 |m d _=>cases e;exact E.set s r (.inl rfl) n
theorem bB (i:Nat) {x:Str} {p:Pos} (hN:X.N.Nodup) (he:QV X e f) (hi:X.N[i]?=some x:=by rfl) (hx:Loc X.env.scope x:=by first|exact JY rfl|exact Q3 rfl) (hs:swapsWith e (some (.Name x p)) pos.line X.env=pure false:=by rfl) (hf:X.fn x=true\/X.env.scope.names.lookup x=some .local:=by first|exact .inl rfl|exact .inr rfl):R3 X (.Assign [.Name x p] e pos) (fun ρ=>(f ρ).bind fun b=>(Wh ρ i b).bind fun ρ'=>some (.nx ρ')):=⟨have he:=he.run;Vu (Pu hN hi hx he hs hf) fun D σ H h=>by
 obtain⟨H0,ρ,r,E,e,q⟩:=h
 obtain⟨b,eb,e⟩:=bind_some e
 obtain⟨ρ',eρ,e⟩:=bind_some e
 cases e
 exact⟨H0,ρ,b,E,eb,fun v H1 s1 n1 r1=>q _ _ (ZF E s1 r1 n1 eρ)⟩⟩
def Lo (σ:L2.St) (ρ:Ev) (σ':L2.St) (ρ':Ev):Prop:=∀ (j:Nat) b,loose b=true->ρ'[j]?=some (some b)->ρ[j]?=some (some b)/\σ'[j]?=σ[j]?
theorem Lo.refl {σ:L2.St} {ρ:Ev}:Lo σ ρ σ ρ:=fun _ _ _ e=>⟨e,rfl⟩
theorem Lo.trans {σ σ1 σ2:L2.St} {ρ ρ1 ρ2:Ev} (a:Lo σ ρ σ1 ρ1) (b:Lo σ1 ρ1 σ2 ρ2):Lo σ ρ σ2 ρ2:=fun j c l e=>by
 obtain⟨e1,e2⟩:=b j c l e
 obtain⟨e3,e4⟩:=a j c l e1
 exact⟨e3,e2.trans e4⟩
theorem Lo.set {σ:L2.St} {ρ:Ev} (i:Nat) (v:V) (d:Dt):Lo σ ρ (σ.set i (some v)) (ρ.set i (some (.z d))):=fun j b l e=>by
 rcases getset e with⟨rfl,e',_⟩|⟨hne,e'⟩
 ·cases e';cases l
 ·exact⟨e',rZ _ hne⟩
def tgF (K:FG_) (g:Dt->Ev->Option Ev):TG:=fun v σ H Q=>∃ H0 ρ d ρ',bf K H0 H σ ρ/\Rep K H d v/\g d ρ=some ρ'/\∀ σ',bf K H0 H σ' ρ'->Lo σ ρ σ' ρ'->Q σ' H
def PTg (X:Cx) (t:Expr) (g:Dt->Ev->Option Ev):Prop:=PG X t (tgF X.K g)
structure Vv (X:Cx) (t:Expr) (g:Dt->Ev->Option Ev):Prop where
 run:PTg X t g
theorem aR (i:Nat) {x:Str} (hN:X.N.Nodup) (hi:X.N[i]?=some x:=by rfl) (hx:Loc X.env.scope x:=by first|exact JY rfl|exact Q3 rfl) (hf:X.fn x=true\/X.env.scope.names.lookup x=some .local:=by first|exact .inl rfl|exact .inr rfl):Vv X (.Name x pos) (fun d ρ=>some (ρ.set i (some (.z d)))):=⟨fun pins s σ H v u Q I r h=>by
 obtain⟨H0,ρ,d,ρ',E,rd,e,q⟩:=h
 cases e
 exact J0 hN hi hx hf pins s σ H v u Q I r (q _ (E.set (b:=.z d) (Same.refl H) rd (.inr rfl) trivial) (Lo.set i v d))⟩
def ahe (K:FG_) (g:List Dt->Ev->Option Ev):TGs:=fun vs σ H Q=>∃ H0 ρ ds ρ',bf K H0 H σ ρ/\aJ K H ds vs/\g ds ρ=some ρ'/\∀ σ',bf K H0 H σ' ρ'->Lo σ ρ σ' ρ'->Q σ' H
def ahf (X:Cx) (t:List Expr) (g:List Dt->Ev->Option Ev):Prop:=L2.T3 X t (ahe X.K g)
structure ZG (X:Cx) (t:List Expr) (g:List Dt->Ev->Option Ev):Prop where
 run:ahf X t g
def wQ:List Dt->Ev->Option Ev
 |[],ρ=>some ρ
 |_,_=>none
def cj (g:Dt->Ev->Option Ev) (gs:List Dt->Ev->Option Ev):List Dt->Ev->Option Ev
 |d::ds,ρ=>(g d ρ).bind (gs ds)
 |_,_=>none
theorem wA  : ZG X [] wQ:=⟨fun pins s σ H vs us Q I r h=>by
 obtain⟨H0,ρ,ds,ρ',E,rd,e,q⟩:=h
 cases ds with
 |nil=>cases e;unfold aJ at rd;exact Zb pins s σ H vs us Q I r ⟨rd,q _ E Lo.refl⟩
 |cons d ds=>cases e⟩
theorem cG {t:Expr} {ts:List Expr} {gt:Dt->Ev->Option Ev} {gs:List Dt->Ev->Option Ev} (h1:Vv X t gt) (h2:ZG X ts gs) (hs:(assignEach (t::ts) X.env).map (·.2)=assign t X.env::(assignEach ts X.env).map (·.2):=by rfl):ZG X (t::ts) (cj gt gs):=⟨have h1:=h1.run;have h2:=h2.run;fun pins s σ H vs us Q I r h=>by
 obtain⟨H0,ρ,ds,ρ',E,rd,e,q⟩:=h
 cases ds with
 |nil=>cases e
 |cons d ds=>
  unfold aJ at rd
  obtain⟨v,vr,rfl,r1,r2⟩:=rd
  simp only[cj] at e
  obtain⟨ρ1,e1,e⟩:=bind_some e
  exact VG h1 h2 hs pins s σ H _ us Q I r ⟨v,vr,rfl,H0,ρ,d,ρ1,E,r1,e1,fun σ1 E1 L1=>⟨H0,ρ1,ds,ρ',E1,r2,e,fun σ2 E2 L2=>q σ2 E2 (L1.trans L2)⟩⟩⟩
def uI (n:Nat) (gs:List Dt->Ev->Option Ev):Dt->Ev->Option Ev
 |.tup ds,ρ=>if ds.length=n then gs ds ρ else none
 |_,_=>none
theorem z8 {ts:List Expr} {k n:Nat} {gs:List Dt->Ev->Option Ev} (hc:X.calm=true) (h:ZG X ts gs) (hn:(assignEach ts X.env).length=n:=by rfl) (hst:(assignEach ts X.env).findIdx? (·.1)=none:=by rfl):Vv X (.Tuple ts k pos) (uI n gs):=⟨have h:=h.run;fun pins s σ H v u Q I r hw=>by
 obtain⟨H0,ρ,d,ρ',E,rd,e,q⟩:=hw
 cases d with
 |tup ds=>
  simp only[uI] at e
  split at e
  ·rename_i hl
   unfold Rep at rd
   obtain⟨a,vs,rfl,hq,rs⟩:=rd
   exact acf hc h hn hst pins s σ H _ u Q I r ⟨a,vs,rfl,hq,by rw[rs.length];exact hl,H0,ρ,ds,ρ',E,rs,e,q⟩
  ·cases e
 |_=>cases e⟩
theorem acU {tg:Expr} {gt:Dt->Ev->Option Ev} (he:QV X e f) (hg:Vv X tg gt) (hs:swapsWithSole [tg] e pos.line X.env=pure false:=by rfl) (hw:swappedStores [tg] e X.env=pure none:=by rfl) (h1:(assignEach [tg] X.env).map (·.2)=[assign tg X.env]:=by rfl):R3 X (.Assign [tg] e pos) (fun ρ=>(f ρ).bind fun b=>match b with|.z d=>(gt d ρ).bind fun ρ'=>some (.nx ρ')|_=>none):=⟨have he:=he.run;have hg:=hg.run;Vu (acg he hg hs hw h1) fun D σ H h=>by
 obtain⟨H0,ρ,r,E,e,q⟩:=h
 obtain⟨b,eb,e⟩:=bind_some e
 refine⟨H0,ρ,b,E,eb,fun v H1 s1 n1 r1=>?_⟩
 cases b with
 |z d=>
  obtain⟨ρ',eρ,e⟩:=bind_some e
  cases e
  exact⟨H0,ρ,d,ρ',E.grow s1,r1,eρ,fun σ' E' _=>q _ _ E'⟩
 |_=>cases e⟩
def ZJ (i j:Nat) (ρ:Ev):List Bx->Option Out
 |[.z d,.z d']=>some (.nx ((ρ.set i (some (.z d))).set j (some (.z d'))))
 |_=>none
theorem Wi (i j:Nat) {x y:Str} {px py pt:Pos} {kt k2 pt2} (hc:X.calm=true) (hN:X.N.Nodup) (ha:Vt X [a,b] fs) (hi:X.N[i]?=some x:=by rfl) (hj:X.N[j]?=some y:=by rfl) (hij:i≠j:=by decide) (hx:X.env.scope.names.lookup x=some .local:=by rfl) (hy:X.env.scope.names.lookup y=some .local:=by rfl) (hw:swappedStores [.Tuple [.Name x px,.Name y py] kt pt] (.Tuple [a,b] k2 pt2) X.env=pure (some [x,y]):=by rfl) (hs:swapsWithSole [.Tuple [.Name x px,.Name y py] kt pt] (.Tuple [a,b] k2 pt2) pos.line X.env=pure false:=by rfl):R3 X (.Assign [.Tuple [.Name x px,.Name y py] kt pt] (.Tuple [a,b] k2 pt2) pos) (fun ρ=>(fs ρ).bind (ZJ i j ρ)):=⟨have ha:=ha.run;Vu (ach hc hN hi hj hij hx hy ha hw hs) fun D σ H h=>by
 obtain⟨H0,ρ,r,E,e,q⟩:=h
 obtain⟨bs,eb,e⟩:=bind_some e
 refine⟨H0,ρ,bs,E,eb,fun vs H1 s1 r1=>?_⟩
 unfold ZJ at e
 split at e
 ·rename_i d d'
  cases e
  cases r1 with
  |cons p t=>
   cases t with
   |cons p' t'=>
    cases t'
    refine⟨_,_,rfl,q _ _ ?_⟩
    exact ((E.grow s1).set (b:=.z d) (Same.refl H1) p (.inr rfl) trivial).set (b:=.z d') (Same.refl H1) p' (.inr rfl) trivial
 ·cases e⟩
def ZK (ρ:Ev) (i:Nat):Bx->Option Out
 |.z d=>match ρ[i]? with
  |some (some (.o ds))=>if ds.length < sizeLine then some (.nx (ρ.set i (some (.o (ds++[d]))))) else none
  |_=>none
 |_=>none
theorem bf.acV {K:FG_} {H0 H:Hp} {σ:L2.St} {ρ:Ev} {i:Nat} {c0 c1:Bx} {a:Addr} {u:HO} (E:bf K H0 H σ ρ) (h:ρ[i]?=some (some c0)) (ho:rY c0=true) (hs:σ[i]?=some (some (.ref a))) (k:Kp H (upd H a u)) (r:bw K (upd H a u) c1 (.ref a)) :
  bf K H0 (upd H a u) σ (ρ.set i (some c1)):=by
 have hi:i < ρ.length:=(List.getElem?_eq_some_iff.mp h).1
 have hb:H0 a=none:=E.new i c0 a h ho hs
 have lo:∀ c,rY c=true->loose c=true:=fun c hc=>by cases c<;>first|rfl|cases hc
 refine⟨by rw[jS];exact E.len,fun j b' e=>?_,fun j k' c a' b' e1 ec e2 e3 e4 e5=>?_,fun c o e=>?_,fun j c a' e1 ec e2=>?_⟩
 ·rcases getset e with⟨rfl,e',_⟩|⟨hne,e'⟩
  ·cases e'
   exact⟨_,hs,r⟩
  ·obtain⟨v,e1,r'⟩:=E.val j b' e'
   refine⟨v,e1,?_⟩
   have away:∀ a',v=.ref a'->loose b'=true->a'≠a:=fun a' ev hl z=>by
    subst z
    exact hne (E.own i j c0 _ _ h ho hs e' hl (by rw[e1,ev])).symm
   cases b' with
   |z d=>exact Rep.kp k r'
   |l ds'=>
    obtain⟨a',vs',rfl,q,rr⟩:=r'
    refine⟨a',vs',rfl,?_,rr.kp k⟩
    have hn:=away a' rfl rfl
    rcases q with q|⟨o,q⟩
    ·exact .inl (by rw[aG hn];exact q)
    ·exact .inr ⟨o,by rw[aG hn];exact q⟩
   |o ds'=>
    obtain⟨a',vs',rfl,q,rr⟩:=r'
    have hn:=away a' rfl rfl
    exact⟨a',vs',rfl,by rw[aG hn];exact q,rr.kp k⟩
   |n ds'=>
    obtain⟨a',vs',rfl,q,rr⟩:=r'
    refine⟨a',vs',rfl,?_,rr.kp k⟩
    have hn:=away a' rfl rfl
    rcases q with q|⟨o,q⟩
    ·exact .inl (by rw[aG hn];exact q)
    ·exact .inr ⟨o,by rw[aG hn];exact q⟩
   |m ds'=>
    obtain⟨a',vs',rfl,q,rr⟩:=r'
    have hn:=away a' rfl rfl
    exact⟨a',vs',rfl,by rw[aG hn];exact q,rr.1.kp k,rr.2⟩
 ·have back:∀ (m:Nat) (b:Bx),(ρ.set i (some c1))[m]?=some (some b)->loose b=true->∃ b0,ρ[m]?=some (some b0)/\loose b0=true/\(rY b=true->rY b0=true):=fun m b e l=>by
   rcases getset e with⟨rfl,e',_⟩|⟨hne,e'⟩
   ·exact⟨_,h,lo _ ho,fun _=>ho⟩
   ·exact⟨b,e',l,fun z=>z⟩
  obtain⟨b0,q1,q2,q3⟩:=back j _ e1 (lo _ ec)
  obtain⟨b1,q4,q5,_⟩:=back k' _ e3 e4
  exact E.own j k' b0 a' b1 q1 (q3 ec) e2 q4 q5 e5
 ·rw[aG (cL e hb)];exact E.base c o e
 ·rcases getset e1 with⟨rfl,e',_⟩|⟨hne,e'⟩
  ·exact E.new _ c0 a' h ho e2
  ·exact E.new j c a' e' ec e2
theorem bf.acL {K:FG_} {H0 H:Hp} {σ:L2.St} {ρ:Ev} {i:Nat} {ds es:List Dt} {a:Addr} {vs us:List V} (E:bf K H0 H σ ρ) (h:ρ[i]?=some (some (.o ds))) (hs:σ[i]?=some (some (.ref a))) (ha:H a=some (.lst vs)) (r:aJ K H es us) :
  bf K H0 (upd H a (.lst us)) σ (ρ.set i (some (.o es))):=E.acV h rfl hs (.lst ha) ⟨a,us,rfl,aU,r.kp (.lst ha)⟩
theorem DP (i:Nat) {x:Str} {p apos cpos:Pos} (he:QV X e f) (hN:X.N[i]?=some x:=by rfl) (hv:Vr X.env.scope x:=by first|exact JY rfl|exact Q3 (JY rfl)|exact Q3 (Q3 rfl)) (hd:(x==("__debug__" : Str))=false:=by decide) (hcd:(x==("__classdict__" : Str))=false:=by decide) (hst:starEach [e] X.env=[(false,eval e X.env)]:=by rfl) (hbase:attributeBase (.Name x p) "append" X.env (eval (.Name x p) X.env)=eval (.Name x p) X.env:=by rfl) (hfew:((backTo cpos (starEach [e] X.env)).all (fun x=>!x.1)&&(backToKw cpos (keywordEach [] X.env)).all (fun x=>x.1.isSome)&&decide ([e].length+([]:List Keyword).length+(if ([]:List Keyword).isEmpty then 0 else 1) < 30))=true:=by rfl) (hline:(apos.endLine==cpos.line)=true:=by rfl) (hs:swapsWith (.Call (.Attribute (.Name x p) "append" apos) [e] [] cpos) none pos.line X.env=pure false:=by rfl):R3 X (.Expr (.Call (.Attribute (.Name x p) "append" apos) [e] [] cpos) pos) (fun ρ=>(f ρ).bind (ZK ρ i)):=⟨have he:=he.run;Vu (JZ (RV PySem.F.plainAttrs_list PySem.F.slot_list_append PySem.F.type_list_append zZ (tu (i:=i) hN hv hd hcd) (nR he uU (by rw[hst]<;>rfl)) hbase hfew hline (by rw[hst]<;>rfl) rfl) hs) fun D σ H h=>by
  obtain⟨H0,ρ,r,E,e,q⟩:=h
  obtain⟨b,eb,e⟩:=bind_some e
  cases b with
  |z d=>
   simp only[ZK] at e
   split at e
   ·rename_i ds hρ
    split at e
    ·rename_i hl
     cases e
     obtain⟨v,e1,a,vs,rfl,ha,rs⟩:=E.val i _ hρ
     refine⟨_,e1,.inl ⟨rfl,vs,.inl (.inl ha)⟩,H0,ρ,_,E,eb,fun u H1 s1 n1 r1=>?_⟩
     have E1:=E.grow s1
     refine⟨a,vs,u,rfl,rfl,s1 _ _ ha,by rw[rs.length];exact hl,q _ _ ?_⟩
     exact E1.acL hρ e1 (s1 _ _ ha) ((rs.kp (.of s1)).append (aJ.cons r1 aJ.nil))
    ·cases e
   ·cases e
  |_=>cases e⟩
end
def Its (x:Str):It:=⟨fun i _=>i < x.cps.size,fun i H v H'=>H'=H/\∃ c,x.cps[i]?=some c/\v=.str ⟨#[c]⟩,fun i _=>x.cps.size<=i⟩
def ahg (h:Heap) (it:Addr) (x:Str) (i:Nat):Prop:=∃ t,h.IsStrIter it "str_ascii_iterator" x t i\/h.IsStrIter it "str_iterator" x t i
theorem MF {P:Program} {w:World} {K:FG_} {tg:Expr} (it:Addr) (x:Str):Turn P w K tg (Its x) [it] it (fun i h=>ahg h it x i) where
 mem:=by simp
 obj:=fun i h st b hb=>by
  have e:b=it:=by simpa using hb
  subst e
  obtain⟨t,⟨o,e,c,d⟩|⟨o,e,c,d⟩⟩:=st
  ·exact⟨o,e,fun v z=>by rw[d] at z;cases z⟩
  ·exact⟨o,e,fun v z=>by rw[d] at z;cases z⟩
 keep:=fun i h h' st k=>by
  obtain⟨t,⟨o,e,c⟩|⟨o,e,c⟩⟩:=st
  ·exact⟨t,.inl ⟨o,k it (by simp) o e,c⟩⟩
  ·exact⟨t,.inr ⟨o,k it (by simp) o e,c⟩⟩
 item:=by
  intro X hP hw hK hc i pins s σ H E I hf st hg
  subst hP hw hK
  obtain⟨f0,f1,f2,f3,f4,f5⟩:=hf it (by simp)
  have hi:i < x.cps.size:=hg
  have hx:x.cps[i]?=some x.cps[i]:=by simp[hi]
  obtain⟨t,st|st⟩:=st
  ·refine wpAny_pyNext_ascii_item st hx fun h' st' sb=>?_
   have I1:L2.Inv X pins σ H { s with heap:=h',toks:=s.toks+1 }:=I.turned (fun b o hb e=>(sb.2 b hb).trans e) f0 f1 f3 f4 f5
   obtain⟨o,e,c,d⟩:=id st'
   exact⟨_,rfl,IV (s:={ s with heap:=h',toks:=s.toks+1 }) e c d (by decide) ⟨.str ⟨#[x.cps[i]]⟩,H,I1,⟨_,rfl⟩,⟨rfl,_,hx,rfl⟩,⟨t,.inl st'⟩,fun b hb=>(hf b hb).1⟩⟩
  ·refine wpAny_pyNext_wide_item st hx fun h' st' sb=>?_
   have I1:L2.Inv X pins σ H { s with heap:=h',toks:=s.toks+1 }:=I.turned (fun b o hb e=>(sb.2 b hb).trans e) f0 f1 f3 f4 f5
   obtain⟨o,e,c,d⟩:=id st'
   exact⟨_,rfl,IV (s:={ s with heap:=h',toks:=s.toks+1 }) e c d (by decide) ⟨.str ⟨#[x.cps[i]]⟩,H,I1,⟨_,rfl⟩,⟨rfl,_,hx,rfl⟩,⟨t,.inr st'⟩,fun b hb=>(hf b hb).1⟩⟩
 done:=by
  intro X hP hw hK hc i pins s σ H E I hf st hg
  subst hP hw hK
  obtain⟨f0,f1,f2,f3,f4,f5⟩:=hf it (by simp)
  have hx:x.cps[i]?=none:=by have:x.cps.size<=i:=hg;simp[this]
  obtain⟨t,st|st⟩:=st
  ·exact wpAny_pyNext_ascii_end (I.ok.hd hc) st hx fun h' eb=>⟨rfl,I.turned (t':=s.toks) (fun b o hb e=>eb b o hb e) f0 f1 f3 f4 f5⟩
  ·exact wpAny_pyNext_wide_end (I.ok.hd hc) st hx fun h' eb=>⟨rfl,I.turned (t':=s.toks) (fun b o hb e=>eb b o hb e) f0 f1 f3 f4 f5⟩
 self:=fun _ _ _ _ _ st h=>by
  obtain⟨t,st|st⟩:=st
  ·exact wpAny_pyIter_striter_ascii st h
  ·exact wpAny_pyIter_striter_wide st h
section
variable {X:Cx} {tg:Expr}
def ahh (K:FG_) (tl:TE):TI:=fun σ H R=>tl σ H fun x H1=>(∃ a,x=.ref a/\(∃ xs,rE K H1 a xs)/\R (Itl K a) H1)\/(∃ a,x=.ref a/\(∃ xs,xO K H1 a xs)/\R (Itt K a) H1)\/∃ y,x=.str y/\R (Its y) H1
theorem Qi {l:Expr} {tl:TE} (hl:PE X l tl):PI X tg l (ahh X.K tl):=by
 intro pins s σ H R I h
 refine j9 (hl pins s σ H _ I h) fun v s1 ⟨x,H1,I1,r1,q1⟩=>?_
 have fp1:∀ (o:Obj) (b:Addr),b∈[s1.heap.objs.size]->tB X pins H1 b:=fun o b hb=>by
  have e:b=s1.heap.objs.size:=by simpa using hb
  subst e
  exact I1.T4 (zk _) (I1.hok.fresh (zk _))
 rcases q1 with⟨a,e,⟨xs,hq⟩,q⟩|⟨a,e,⟨xs,hq⟩,q⟩|⟨y,e,q⟩
 ·subst e
  cases r1
  obtain⟨its,rv,p,hz⟩:=I1.list hq
  refine wpAny_pyIter_list p.isList ?_
  exact⟨s1.heap.objs.size,[s1.heap.objs.size],_,_,H1,rfl,I1.kept (t':=s1.toks) fun b o e=>zd _ e,T5 a _,⟨_,zt _ rfl,rfl,rfl⟩,fp1 default,q⟩
 ·subst e
  cases r1
  obtain⟨its,rv,p,hz⟩:=I1.tuple hq
  refine wpAny_pyIter_tuple (show s1.heap.IsTuple a its.toArray from p) ?_
  exact⟨s1.heap.objs.size,[s1.heap.objs.size],_,_,H1,rfl,I1.kept (t':=s1.toks) fun b o e=>zd _ e,Px a _,⟨_,zt _ rfl,rfl,rfl⟩,fp1 default,q⟩
 ·subst e
  obtain⟨t,rfl⟩:=r1
  cases ha:y.cps.all (· < 128) with
  |true=>
   refine wpAny_pyIter_ascii ha ?_
   exact⟨s1.heap.objs.size,[s1.heap.objs.size],_,_,H1,rfl,I1.kept (t':=s1.toks) fun b o e=>zd _ e,MF _ y,⟨t,.inl ⟨_,zt _ rfl,rfl,rfl⟩⟩,fp1 default,q⟩
  |false=>
   refine wpAny_pyIter_wide ha ?_
   exact⟨s1.heap.objs.size,[s1.heap.objs.size],_,_,H1,rfl,I1.kept (t':=s1.toks) fun b o e=>zd _ e,MF _ y,⟨t,.inr ⟨_,zt _ rfl,rfl,rfl⟩⟩,fp1 default,q⟩
end
def Yields (K:FG_) (J:It) (ds:List Dt) (Hs:Hp):Prop:=∀ (i:Nat) (H:Hp),Same Hs H →
 (∀ d,ds[i]?=some d->J.go i H/\∀ x H',J.yld i H x H'->Same H H'/\Rep K H' d x)/\(ds.length<=i->J.stop i H)
theorem Yields.of {K:FG_} {J:It} {ds:List Dt} {Hs:Hp} (h:∀ (i:Nat) (H:Hp),Same Hs H →
  (∀ d,ds[i]?=some d->J.go i H/\∀ x H',J.yld i H x H'->H'=H/\Rep K H d x)/\(ds.length<=i->J.stop i H)):Yields K J ds Hs:=fun i H s=>
 ⟨fun d e=>⟨((h i H s).1 d e).1,fun x H' y=>by
  obtain⟨rfl,r⟩:=((h i H s).1 d e).2 x H' y
  exact⟨Same.refl _,r⟩⟩,(h i H s).2⟩
def signs (x:Str):List Dt:=x.cps.toList.map fun c=>.str ⟨#[c]⟩
theorem Yields.list {K:FG_} {Hs:Hp} {a:Addr} {vs:List V} {ds:List Dt} (h:rE K Hs a vs) (r:aJ K Hs ds vs):Yields K (Itl K a) ds Hs:=.of fun i H s=>by
 have h':=s.seq h
 have r':=r.kp (.of s)
 refine⟨fun d e=>?_,fun e=>⟨vs,h',by rw[r.length];exact e⟩⟩
 obtain⟨v,ev,rv⟩:=r'.get e
 refine⟨⟨vs,v,h',ev⟩,fun x H' y=>?_⟩
 obtain⟨y1,y2⟩:=y
 have:=y2 vs h'
 rw[ev] at this;cases this
 exact⟨y1,rv⟩
theorem Yields.tup {K:FG_} {Hs:Hp} {a:Addr} {vs:List V} {ds:List Dt} (h:xO K Hs a vs) (r:aJ K Hs ds vs):Yields K (Itt K a) ds Hs:=.of fun i H s=>by
 have h':=(Kp.of s).sqT h
 have r':=r.kp (.of s)
 refine⟨fun d e=>?_,fun e=>⟨vs,h',by rw[r.length];exact e⟩⟩
 obtain⟨v,ev,rv⟩:=r'.get e
 refine⟨⟨vs,v,h',ev⟩,fun x H' y=>?_⟩
 obtain⟨y1,y2⟩:=y
 have:=y2 vs h'
 rw[ev] at this;cases this
 exact⟨y1,rv⟩
theorem Yields.str {K:FG_} {Hs:Hp} (x:Str):Yields K (Its x) (signs x) Hs:=.of fun i H s=>by
 refine⟨fun d e=>?_,fun e=>?_⟩
 ·unfold signs at e
  rw[zS] at e
  cases h:x.cps.toList[i]? with
  |none=>rw[h] at e;cases e
  |some c=>
   rw[h] at e;cases e
   have hc:x.cps[i]?=some c:=by simpa using h
   have hi:i < x.cps.size:=by
    have:=(List.getElem?_eq_some_iff.mp h).1
    simpa using this
   refine⟨hi,fun v H' y=>?_⟩
   obtain⟨y1,c',hc',rfl⟩:=y
   rw[hc] at hc';cases hc'
   refine⟨y1,?_⟩
   unfold Rep
   exact⟨rfl,by show (1:Nat)<=sizeLine;decide⟩
 ·have:(signs x).length=x.cps.size:=by simp[signs]
  show x.cps.size<=i
  omega
def Ka (lo:Int) (n:Nat):List Dt:=(List.range n).map fun k=>.int (lo+(k:Nat))
theorem Yields.rng {K:FG_} {Hs:Hp} (lo:Int) (n:Nat):Yields K (Itr lo n) (Ka lo n) Hs:=.of fun i H s=>by
 refine⟨fun d e=>?_,fun e=>?_⟩
 ·unfold Ka at e
  rw[zS] at e
  by_cases hi:i < n
  ·rw[j0 hi] at e
   cases e
   refine⟨hi,fun v H' y=>?_⟩
   obtain⟨y1,y2⟩:=y
   refine⟨y1,?_⟩
   unfold Rep
   exact y2
  ·rw[ZT (by simp;omega)] at e
   cases e
 ·have:(Ka lo n).length=n:=by simp[Ka]
  show n<=i
  omega
def iF (K:FG_) (f:Ev->Option (List Dt)):TI:=fun σ H R=>∃ H0 ρ ds,bf K H0 H σ ρ/\f ρ=some ds/\∀ J H',Same H H' →
 (∀ Hs,Same Hs H'->(∀ a,H a=none->Hs a=H' a)->(∀ a o u,H' a=some (.n8 o u)->Hs a=H' a)->(∀ a vs,H' a=some (.tup vs)->Hs a=H' a)->Yields K J ds Hs)->R J H'
def PIF (X:Cx) (tg iter:Expr) (f:Ev->Option (List Dt)):Prop:=PI X tg iter (iF X.K f)
structure QIF (X:Cx) (tg iter:Expr) (f:Ev->Option (List Dt)):Prop where
 run:PIF X tg iter f
def Wj:Bx->Option (List Dt)
 |.z (.lst ds)=>some ds
 |.z (.tup ds)=>some ds
 |.z (.str x)=>some (signs x)
 |.o ds=>some ds
 |_=>none
section
variable {X:Cx} {tg e:Expr} {es:List Expr} {f:Ev->Option Bx} {fs:Ev->Option (List Bx)}
mutual
theorem Rep.part {K:FG_} {H Hs:Hp} (hf:∀ a o u,H a=some (.n8 o u)->Hs a=H a) (ht:∀ a vs,H a=some (.tup vs)->Hs a=H a):∀ {d:Dt} {v:V},Rep K H d v->Rep K Hs d v
 |.non,_,h=>by simpa only[Rep] using h
 |.bl _,_,h=>by simpa only[Rep] using h
 |.int _,_,h=>by simpa only[Rep] using h
 |.str _,_,h=>by simpa only[Rep] using h
 |.tup ds,_,h=>by
  simp only[Rep] at h ⊢
  obtain⟨a,vs,e,q,r⟩:=h
  refine⟨a,vs,e,?_,aJ.part hf ht r⟩
  rcases q with (q|⟨o,q⟩)|q
  ·exact .inl (.inl ((ht _ _ q).trans q))
  ·exact .inl (.inr ⟨o,(hf _ _ _ q).trans q⟩)
  ·exact .inr q
 |.lst ds,_,h=>by
  simp only[Rep] at h ⊢
  obtain⟨a,vs,e,q,r⟩:=h
  refine⟨a,vs,e,?_,aJ.part hf ht r⟩
  rcases q with⟨o,q⟩|q
  ·exact .inl ⟨o,(hf _ _ _ q).trans q⟩
  ·exact .inr q
 |.emp,_,h=>by
  simp only[Rep] at h ⊢
  obtain⟨a,o,e,q⟩:=h
  exact⟨a,o,e,(hf _ _ _ q).trans q⟩
theorem aJ.part {K:FG_} {H Hs:Hp} (hf:∀ a o u,H a=some (.n8 o u)->Hs a=H a) (ht:∀ a vs,H a=some (.tup vs)->Hs a=H a):∀ {ds:List Dt} {vs:List V},aJ K H ds vs->aJ K Hs ds vs
 |[],_,h=>by simpa only[aJ] using h
 |d::ds,_,h=>by
  simp only[aJ] at h ⊢
  obtain⟨v,r,e,q,t⟩:=h
  exact⟨v,r,e,Rep.part hf ht q,aJ.part hf ht t⟩
end
theorem yJ (h:QV X e f):QIF X tg e (fun ρ=>(f ρ).bind Wj):=⟨have h:=h.run;fun pins s σ H R I q=>by
 refine Qi h pins s σ H R I ?_
 obtain⟨H0,ρ,ds,E,e,q⟩:=q
 obtain⟨b,eb,e⟩:=bind_some e
 refine⟨H0,ρ,b,E,eb,fun v H1 s1 n1 r1=>?_⟩
 cases b with
 |z d=>
  cases d with
  |tup ds'=>
   cases e
   simp only[bw,Rep] at r1
   obtain⟨a,vs,rfl,hq,rs⟩:=r1
   refine .inr (.inl ⟨a,rfl,⟨vs,hq⟩,q _ _ s1 fun Hs hs hn hf ht=>.tup ?_ (rs.part hf ht)⟩)
   rcases hq with (hq|⟨o,hq⟩)|hq
   ·exact .inl (.inl ((ht _ _ hq).trans hq))
   ·exact .inl (.inr ⟨o,(hf _ _ _ hq).trans hq⟩)
   ·exact .inr hq
  |lst ds'=>
   cases e
   simp only[bw,Rep] at r1
   obtain⟨a,vs,rfl,hq,rs⟩:=r1
   refine .inl ⟨a,rfl,⟨vs,hq.sq⟩,q _ _ s1 fun Hs hs hn hf ht=>.list ?_ (rs.part hf ht)⟩
   rcases hq with⟨o,hq⟩|hq
   ·exact .inl (.inr ⟨o,(hf _ _ _ hq).trans hq⟩)
   ·exact .inr hq
  |str x=>
   cases e
   simp only[bw,Rep] at r1
   obtain⟨rfl,_⟩:=r1
   exact .inr (.inr ⟨x,rfl,q _ _ s1 fun Hs hs hn hf ht=>.str x⟩)
  |_=>cases e
 |l ds'=>cases e
 |n ds'=>cases e
 |m ds'=>cases e
 |o ds'=>
  cases e
  obtain⟨a,vs,rfl,hq,rs⟩:=r1
  refine .inl ⟨a,rfl,⟨vs,.inl (.inl hq)⟩,q _ _ s1 fun Hs hs hn hf ht=>.list (.inl (.inl ((hn a (n1 a rfl)).trans hq))) (rs.part hf ht)⟩⟩
def acW:List Bx->Option (List Dt)
 |[.z (.int j)]=>if -(2 ^ 62)<=j/\j < 2 ^ 62 then some (Ka 0 j.toNat) else none
 |_=>none
theorem qe {p pos:Pos} (hg:Gl X "range") (hm:X.mg "range" = none) (ha:Vt X [e] fs) (hs:starEach [e] X.env=[(false,eval e X.env)]:=by rfl):QIF X tg (.Call (.Name "range" p) [e] [] pos) (fun ρ=>(fs ρ).bind acW):=⟨have ha:=ha.run;fun pins s σ H R I q=>by
 refine T6 hg hm ha hs pins s σ H R I ?_
 obtain⟨H0,ρ,ds,E,e,q⟩:=q
 obtain⟨bs,eb,e⟩:=bind_some e
 refine⟨H0,ρ,bs,E,eb,fun vs H1 s1 r1=>?_⟩
 unfold acW at e
 split at e
 ·rename_i j
  split at e
  ·rename_i hj
   cases e
   cases r1 with
   |cons p t=>
    cases t
    simp only[bw,Rep] at p
    subst p
    exact⟨j,rfl,hj.1,hj.2,q _ _ s1 fun Hs _ _ _ _=>.rng 0 _⟩
  ·cases e
 ·cases e⟩
def qQ (gt:Dt->Ev->Option Ev) (gb:Ev->Option Out):List Dt->Ev->Option Out
 |[],ρ=>some (.nx ρ)
 |d::ds,ρ=>(gt d ρ).bind fun ρ1=>(gb ρ1).bind fun r=>match r with
  |.nx ρ2=>qQ gt gb ds ρ2
  |.ct ρ2=>qQ gt gb ds ρ2
  |.bk ρ2=>some (.nx ρ2)
  |.rt b=>some (.rt b)
noncomputable def dF (H:Hp) (σ:L2.St) (ρ:Ev):Hp:=fun a=>@ite _ (∃ (i:Nat) (c:Bx),ρ[i]?=some (some c)/\rY c=true/\σ[i]?=some (some (.ref a))) (Classical.propDecidable _) none (H a)
theorem pH {H:Hp} {σ:L2.St} {ρ:Ev}:Same (dF H σ ρ) H:=fun a o e=>by
 unfold dF at e
 split at e
 ·cases e
 ·exact e
theorem bf.rebase {K:FG_} {H0 Hs H:Hp} {σ:L2.St} {ρ:Ev} (E:bf K Hs H σ ρ) (s:Same H0 Hs):bf K H0 H σ ρ:=⟨E.len,E.val,E.own,s.trans E.base,fun i c a e1 ec e2=>s.free (E.new i c a e1 ec e2)⟩
theorem bf.sans {K:FG_} {H0 H:Hp} {σ:L2.St} {ρ:Ev} (E:bf K H0 H σ ρ):bf K (dF H σ ρ) H σ ρ:=⟨E.len,E.val,E.own,pH,fun i c a e1 ec e2=>by
 unfold dF
 rw[zo ⟨i,c,e1,ec,e2⟩]⟩
theorem bf.sub {K:FG_} {H0 H:Hp} {σ:L2.St} {ρ:Ev} (E:bf K H0 H σ ρ):Same H0 (dF H σ ρ):=fun a o e=>by
 unfold dF
 split
 ·rename_i h
  obtain⟨i,c,e1,ec,e2⟩:=h
  rw[E.new i c a e1 ec e2] at e;cases e
 ·exact E.base a o e
theorem fG {K:FG_} {H0 H:Hp} {σ:L2.St} {ρ:Ev} (E:bf K H0 H σ ρ) {a:Addr} (h:∀ vs,H a≠some (.lst vs)) (h2:∀ vs,H a≠some (.dK vs)):dF H σ ρ a=H a:=by
 unfold dF
 split
 ·rename_i hh
  obtain⟨i,c,e1,ec,e2⟩:=hh
  obtain⟨v,e3,rc⟩:=E.val i _ e1
  rw[e2] at e3;cases e3
  cases c with
  |o ds=>obtain⟨a',vs,e4,q,_⟩:=rc;cases e4;exact absurd q (h vs)
  |m ds _=>obtain⟨a',vs,e4,q,_⟩:=rc;cases e4;exact absurd q (h2 vs)
  |_=>cases ec
 ·rfl
theorem Wf.rebase {K:FG_} {H0 Hs:Hp} {D:Ends} {r:Out} (s:Same H0 Hs) (h:Wf K H0 D r):Wf K Hs D r:=by
 cases r with
 |nx ρ=>exact fun σ H E=>h σ H (E.rebase s)
 |bk ρ=>exact fun σ H E=>h σ H (E.rebase s)
 |ct ρ=>exact fun σ H E=>h σ H (E.rebase s)
 |rt b=>exact fun v H s' n r=>h v H (s.trans s') (n.old s) r
theorem su {gt:Dt->Ev->Option Ev} {gb:Ev->Option Out} {J:It} {ds:List Dt} {H0 H1:Hp} {σ:L2.St} {ρ:Ev} {D:Ends} {r:Out} (E1:bf X.K H0 H1 σ ρ) (Y:Yields X.K J ds (dF H1 σ ρ)) (e:qQ gt gb ds ρ=some r) (q:Wf X.K H0 D r) :
  ∃ W:Nat->Nat->L2.St->Hp->Prop,(∃ m,W 0 m σ H1)/\∀ i m σ H,W i m σ H →
   (J.stop i H/\D.nx σ H)\/(J.go i H/\∃ N:L2.St->Hp->Prop,(∀ σ' H',N σ' H'->∃ m',m' < m/\W (i+1) m' σ' H')/\∀ x H',J.yld i H x H'->tgF X.K gt x σ H' fun σ2 H2=>tG X.K gb { D with nx:=N,ct:=N,bk:=D.nx } σ2 H2):=by
 have E2:=E1.sans
 have q2:=q.rebase E1.sub
 generalize dF H1 σ ρ=Hs at Y E2 q2
 refine⟨fun i m σ' H'=>m=ds.length - i/\i<=ds.length/\∃ ρ',bf X.K Hs H' σ' ρ'/\qQ gt gb (ds.drop i) ρ'=some r,⟨ds.length,by simp,qE _,ρ,E2,by simpa using e⟩,?_⟩
 rintro i m σ' H' ⟨rfl,hi',ρ',E',e'⟩
 obtain⟨y1,y2⟩:=Y i H' E'.base
 by_cases hlt:i < ds.length
 ·right
  have hd:ds[i]?=some ds[i]:=by simp[hlt]
  obtain⟨go,yl⟩:=y1 _ hd
  rw[KW hlt] at e'
  simp only[qQ] at e'
  obtain⟨ρ1,e1,e'⟩:=bind_some e'
  obtain⟨r1,e2,e'⟩:=bind_some e'
  refine⟨go,fun σ2 H2=>∃ ρ2,bf X.K Hs H2 σ2 ρ2/\qQ gt gb (ds.drop (i+1)) ρ2=some r,fun σ2 H2 ⟨ρ2,E3,e3⟩=>⟨ds.length - (i+1),by omega,rfl,hlt,ρ2,E3,e3⟩,fun x H2 yy=>?_⟩
  obtain⟨sm,rx⟩:=yl x H2 yy
  refine⟨Hs,ρ',ds[i],ρ1,E'.grow sm,rx,e1,fun σ1 E3 _=>⟨Hs,ρ1,r1,E3,e2,?_⟩⟩
  cases r1 with
  |nx ρ2=>exact fun σ2 H3 E4=>⟨ρ2,E4,e'⟩
  |ct ρ2=>exact fun σ2 H3 E4=>⟨ρ2,E4,e'⟩
  |bk ρ2=>cases e';exact q2
  |rt b=>cases e';exact q2
 ·left
  have hge:ds.length<=i:=by omega
  refine⟨y2 hge,?_⟩
  rw[List.drop_eq_nil_of_le hge] at e'
  cases e'
  exact q2 σ' H' E'
theorem tH {iter:Expr} {body:List Stmt} {fi:Ev->Option (List Dt)} {gt:Dt->Ev->Option Ev} {gb:Ev->Option Out} {pos:Pos} (hp:PassesOwn (model X.prog X.w) X.A X.env X.xe) (hc:X.calm=true) (hi:QIF X tg iter fi) (hg:Vv X tg gt) (hb:Uo X body gb) (hs:∀ x,foldedSetIterable iter X.env x=pure x:=by intro _;rfl):R3 X (.For tg iter body [] pos) (fun ρ=>(fi ρ).bind fun ds=>qQ gt gb ds ρ):=⟨have hi:=hi.run;have hg:=hg.run;have hb:=hb.run;Vu (Pz hp hc hi hg hb hs) fun D σ H h=>by
 obtain⟨H0,ρ,r,E,e,q⟩:=h
 obtain⟨ds,ed,e⟩:=bind_some e
 refine⟨H0,ρ,ds,E,ed,fun J H1 s1 y=>?_⟩
 have E1:=E.grow s1
 refine su E1 ?_ e q
 refine y _ pH (fun a ha=>?_) (fun a o u ha=>fG E1 (fun vs z=>by rw[ha] at z;cases z) (fun vs z=>by rw[ha] at z;cases z)) fun a vs ha=>fG E1 (fun vs z=>by rw[ha] at z;cases z) (fun vs z=>by rw[ha] at z;cases z)
 unfold dF
 split
 ·rename_i hh
  obtain⟨i,c,e1,ec,e2⟩:=hh
  obtain⟨v,e3,rc⟩:=E.val i _ e1
  rw[e2] at e3;cases e3
  cases c with
  |o ds=>obtain⟨a',vs,e4,q,_⟩:=rc;cases e4;rw[ha] at q;cases q
  |m ds _=>obtain⟨a',vs,e4,q,_⟩:=rc;cases e4;rw[ha] at q;cases q
  |_=>cases ec
 ·rfl⟩
theorem bf.lend {K:FG_} {H0 H:Hp} {σ:L2.St} {ρ:Ev} {i:Nat} {ds:List Dt} (E:bf K H0 H σ ρ) (h:ρ[i]?=some (some (.o ds))):bf K H0 H σ (ρ.set i (some (.l ds))):=by
 have back:∀ (j:Nat) (b:Bx),(ρ.set i (some (.l ds)))[j]?=some (some b)->(j=i/\b=.l ds)\/(j≠i/\ρ[j]?=some (some b)):=fun j b e=>by
  rcases getset e with⟨rfl,e',_⟩|⟨hne,e'⟩
  ·cases e';exact .inl ⟨rfl,rfl⟩
  ·exact .inr ⟨hne,e'⟩
 refine⟨by rw[jS];exact E.len,fun j b e=>?_,fun j k c a b e1 ec e2 e3 e4 e5=>?_,E.base,fun j c a e1 ec e2=>?_⟩
 ·rcases back j b e with⟨rfl,rfl⟩|⟨hne,e'⟩
  ·obtain⟨v,e1,a,vs,e2,q,r⟩:=E.val _ _ h
   exact⟨v,e1,a,vs,e2,.inl q,r⟩
  ·exact E.val j b e'
 ·rcases back j _ e1 with⟨rfl,z⟩|⟨hne,e'⟩
  ·subst z;cases ec
  ·rcases back k _ e3 with⟨rfl,z⟩|⟨ZD,e3'⟩
   ·exact E.own j _ c a _ e' ec e2 h rfl e5
   ·exact E.own j k c a b e' ec e2 e3' e4 e5
 ·rcases back j _ e1 with⟨rfl,z⟩|⟨hne,e'⟩
  ·subst z;cases ec
  ·exact E.new j c a e' ec e2
def qR (i:Nat) (gt:Dt->Ev->Option Ev) (gb:Ev->Option Out) (ρ:Ev):Option Out:=match ρ[i]? with
 |some (some (.o ds))=>qQ gt gb ds (ρ.set i (some (.l ds)))
 |some (some (.l ds))=>qQ gt gb ds ρ
 |some (some b)=>(Wj b).bind fun ds=>qQ gt gb ds ρ
 |_=>none
theorem Wm {H0 H:Hp} {σ:L2.St} {ρ:Ev} {i:Nat} {ds:List Dt} (E:bf X.K H0 H σ ρ) (h:ρ[i]?=some (some (.l ds))):∃ a vs,σ[i]?=some (some (.ref a))/\rE X.K H a vs/\Yields X.K (Itl X.K a) ds (dF H σ ρ):=by
 obtain⟨v,e1,a,vs,rfl,q,r⟩:=E.val i _ h
 have hk:dF H σ ρ a=H a:=by
  unfold dF
  split
  ·rename_i hh
   obtain⟨j,c,e2,ec,e3⟩:=hh
   have:=E.own j i c a _ e2 ec e3 h rfl e1
   subst this
   rw[h] at e2;cases e2;cases ec
  ·rfl
 refine⟨a,vs,e1,.inl q,.list (.inl ?_) (r.part (fun b o u hb=>fG E (fun vs z=>by rw[hb] at z;cases z) (fun vs z=>by rw[hb] at z;cases z)) fun b ws hb=>fG E (fun vs z=>by rw[hb] at z;cases z) (fun vs z=>by rw[hb] at z;cases z))⟩
 rcases q with q|⟨o,q⟩
 ·exact .inl (hk.trans q)
 ·exact .inr ⟨o,hk.trans q⟩
theorem CK (i:Nat) {x:Str} {p:Pos} {body:List Stmt} {gt:Dt->Ev->Option Ev} {gb:Ev->Option Out} {pos:Pos} (hp:PassesOwn (model X.prog X.w) X.A X.env X.xe) (hc:X.calm=true) (hg:Vv X tg gt) (hb:Uo X body gb) (hN:X.N[i]?=some x:=by rfl) (hv:Vr X.env.scope x:=by first|exact JY rfl|exact Q3 (JY rfl)|exact Q3 (Q3 rfl)) (hd:(x==("__debug__" : Str))=false:=by decide) (hcd:(x==("__classdict__" : Str))=false:=by decide) (hs:∀ y,foldedSetIterable (.Name x p) X.env y=pure y:=by intro _;rfl):R3 X (.For tg (.Name x p) body [] pos) (qR i gt gb):=⟨have hg:=hg.run;have hb:=hb.run;Vu (Pz hp hc (Qi (tu (i:=i) hN hv hd hcd)) hg hb hs) fun D σ H h=>by
 obtain⟨H0,ρ,r,E,e,q⟩:=h
 unfold qR at e
 split at e
 ·rename_i ds hρ
  have E1:=E.lend hρ
  have hi:i < ρ.length:=(List.getElem?_eq_some_iff.mp hρ).1
  obtain⟨a,vs,e1,sq,Y⟩:=Wm E1 (z7 _ hi)
  exact⟨_,e1,.inl ⟨a,rfl,⟨vs,sq⟩,su E1 Y e q⟩⟩
 ·rename_i ds hρ
  obtain⟨a,vs,e1,sq,Y⟩:=Wm E hρ
  exact⟨_,e1,.inl ⟨a,rfl,⟨vs,sq⟩,su E Y e q⟩⟩
 ·rename_i b n1 n2 hρ
  obtain⟨ds,ed,e⟩:=bind_some e
  obtain⟨v,e1,rb⟩:=E.val i _ hρ
  have hf:∀ b o u,H b=some (.n8 o u)->dF H σ ρ b=H b:=fun b o u hb=>fG E (fun vs z=>by rw[hb] at z;cases z) (fun vs z=>by rw[hb] at z;cases z)
  have ht:∀ b ws,H b=some (.tup ws)->dF H σ ρ b=H b:=fun b ws hb=>fG E (fun vs z=>by rw[hb] at z;cases z) (fun vs z=>by rw[hb] at z;cases z)
  cases b with
  |z d=>
   cases d with
   |tup ds'=>
    cases ed
    simp only[bw,Rep] at rb
    obtain⟨a,vs,rfl,hq,rs⟩:=rb
    refine⟨_,e1,.inr (.inl ⟨a,rfl,⟨vs,hq⟩,su E (.tup ?_ (rs.part hf ht)) e q⟩)⟩
    rcases hq with (hq|⟨o,hq⟩)|hq
    ·exact .inl (.inl ((ht _ _ hq).trans hq))
    ·exact .inl (.inr ⟨o,(hf _ _ _ hq).trans hq⟩)
    ·exact .inr hq
   |lst ds'=>
    cases ed
    simp only[bw,Rep] at rb
    obtain⟨a,vs,rfl,hq,rs⟩:=rb
    refine⟨_,e1,.inl ⟨a,rfl,⟨vs,hq.sq⟩,su E (.list ?_ (rs.part hf ht)) e q⟩⟩
    rcases hq with⟨o,hq⟩|hq
    ·exact .inl (.inr ⟨o,(hf _ _ _ hq).trans hq⟩)
    ·exact .inr hq
   |str x=>
    cases ed
    simp only[bw,Rep] at rb
    obtain⟨rfl,_⟩:=rb
    exact⟨_,e1,.inr (.inr ⟨x,rfl,su E (.str x) e q⟩)⟩
   |_=>cases ed
  |l ds'=>cases ed
  |o ds'=>exact absurd rfl (n1 ds')
  |n ds'=>cases ed
  |m ds'=>cases ed
 ·cases e⟩
end
def SubL (cells:List (Str×Addr)):List (Str×Addr)->Prop
 |[]=>True
 |(n,c)::r=>cells.lookup n=some c/\SubL cells r
theorem SubL.get {cells:List (Str×Addr)}:∀ {cl:List (Str×Addr)},SubL cells cl->∀ {x:Str} {c:Addr},cl.lookup x=some c->cells.lookup x=some c
 |[],_,_,_,e=>by cases e
 |(n,d)::r,h,x,c,e=>by
  rw[List.lookup_cons] at e
  by_cases hx:x==n
  ·simp only[hx] at e
   cases e
   have:x=n:=by simpa using hx
   rw[this];exact h.1
  ·have hx:(x==n)=false:=by simpa using hx
   simp only[hx] at e
   exact SubL.get h.2 e
structure Cap (X:Cx) (scope:Scope) (cl:List (Str×Addr)) (x:Str) (i:Nat):Prop where
 n:X.N[i]?=some x
 k:X.env.kindOf x=some .cell\/X.env.kindOf x=some .free
 k':(relabel scope X.env).names.lookup x=some .cell\/(relabel scope X.env).names.lookup x=some .free
 c:∃ c,cl.lookup x=some c
def Hq (X:Cx) (scope:Scope) (cl:List (Str×Addr)):LS_->List Nat->Prop
 |[],[]=>True
 |x::xs,i::is=>Cap X scope cl x i/\Hq X scope cl xs is
 |_,_=>False
theorem Hq.get {X:Cx} {scope:Scope} {cl:List (Str×Addr)}:∀ {xs:LS_} {is:List Nat},Hq X scope cl xs is->xs.length=is.length/\∀ (j:Nat) (x:Str),xs[j]?=some x->∃ i,is[j]?=some i/\Cap X scope cl x i
 |[],[],_=>⟨rfl,fun j x e=>by simp at e⟩
 |x::xs,i::is,h=>by
  obtain⟨h1,h2⟩:=h
  obtain⟨l,g⟩:=Hq.get h2
  refine⟨by simp[l],fun j y e=>?_⟩
  cases j with
  |zero=>simp at e;subst e;exact⟨i,rfl,h1⟩
  |succ j=>obtain⟨k,e1,e2⟩:=g j y (by simpa using e);exact⟨k,by simpa using e1,e2⟩
 |[],_::_,h=>h.elim
 |_::_,[],h=>h.elim
def acX (names:List (Str×NameKind)) (x:Str):Bool:=match names.lookup x with
 |some .cell=>true
 |_=>false
def yw (X:Cx) (N':LS_) (scope:Scope) (cl:List (Str×Addr)) (C:Addr) (s₀:Shared) (H₀:Hp) (fp:List Addr):Cx:=
 { X with N:=N',s₀:=s₀,H₀:=H₀,env:=compEnvC scope (cellsFrom (C+1) scope.names cl) C X.env,outer:=X.stack,ex:=fp,fn:=acX scope.names,pn:=[],xe:=fun _ _=>False }
structure acY (h:Heap) (cs:List (Str×Addr)):Prop where
 inj:∀ x y c,cs.lookup x=some c->cs.lookup y=some c->x=y
 cell:∀ x c,cs.lookup x=some c->∃ v,h.IsCell c v
theorem lQ {α:Type} {x n:Str} {a:α} {l:List (Str×α)} (h:x≠n):((n,a)::l).lookup x=l.lookup x:=by
 rw[List.lookup_cons,beq_eq_false_iff_ne.mpr h]
theorem Wn:∀ (names:List (Str×NameKind)) (h:Heap) (acc:List (Str×Addr)),acY h acc->acY (pushCells h names) (cellsFrom h.objs.size names acc)
 |[],_,_,x=>x
 |(n,k)::r,h,acc,x=>by
  unfold pushCells cellsFrom
  split
  ·have hlt:∀ y c,acc.lookup y=some c->c≠h.objs.size:=fun y c e=>let ⟨_,q⟩:=x.cell y c e;zI q.lt
   have:=Wn r (h.push { cls:=.type "cell", data:=.cell none }) ((n,h.objs.size)::acc) ⟨fun y z c e1 e2=>?_,fun y c e=>?_⟩
   ·rwa [qc] at this
   ·by_cases hy:y=n<;>by_cases hz:z=n
    ·rw[hy,hz]
    ·subst hy;rw[kr] at e1;rw[lQ hz] at e2;cases e1;exact absurd rfl (hlt _ _ e2)
    ·subst hz;rw[kr] at e2;rw[lQ hy] at e1;cases e2;exact absurd rfl (hlt _ _ e1)
    ·rw[lQ hy] at e1;rw[lQ hz] at e2;exact x.inj y z c e1 e2
   ·by_cases hy:y=n
    ·subst hy;rw[kr] at e;cases e;exact⟨none,_,zt _ rfl,rfl⟩
    ·rw[lQ hy] at e
     obtain⟨v,q⟩:=x.cell y c e
     exact⟨v,q.keeps fun b o e=>zd _ e⟩
  ·exact Wn r h acc x
theorem yK:∀ (names:List (Str×NameKind)) (n:Nat) (acc:List (Str×Addr)) (x:Str) (c:Addr),(cellsFrom n names acc).lookup x=some c->acc.lookup x=some c\/n<=c
 |[],_,_,_,_,e=>.inl e
 |(m,k)::r,n,acc,x,c,e=>by
  unfold cellsFrom at e
  split at e
  ·rcases yK r _ _ x c e with h|h
   ·by_cases hx:x=m
    ·subst hx;rw[kr] at h;cases h;exact .inr (zk _)
    ·rw[lQ hx] at h;exact .inl h
   ·exact .inr (by omega)
  ·exact yK r _ _ x c e
theorem Kc:∀ (names:List (Str×NameKind)) (n:Nat) (acc:List (Str×Addr)) (x:Str),(x,NameKind.cell)∉names->(cellsFrom n names acc).lookup x=acc.lookup x
 |[],_,_,_,_=>rfl
 |(m,k)::r,n,acc,x,h=>by
  unfold cellsFrom
  have hr:(x,NameKind.cell)∉r:=fun z=>h (zh _ z)
  split
  ·rename_i hk
   rw[Kc r _ _ x hr,lQ fun z=>h (by rw[z,<-beq_iff_eq.mp hk];exact ze ..)]
  ·exact Kc r _ _ x hr
theorem Qj:∀ (names:List (Str×NameKind)) (n:Nat) (acc:List (Str×Addr)) (x:Str),((x,NameKind.cell)∈names\/∃ c,acc.lookup x=some c)->∃ c,(cellsFrom n names acc).lookup x=some c
 |[],_,_,_,h=>h.elim (fun z=>by simp at z) fun z=>z
 |(m,k)::r,n,acc,x,h=>by
  unfold cellsFrom
  split
  ·refine Qj r _ _ x ?_
   by_cases hx:x=m
   ·exact .inr ⟨n,by rw[hx,kr]⟩
   ·rw[lQ hx]
    exact h.imp_left fun z=>(List.mem_cons.mp z).elim (fun z=>absurd (congrArg Prod.fst z) hx) fun z=>z
  ·rename_i hk
   exact Qj r _ _ x (h.imp_left fun z=>(List.mem_cons.mp z).elim (fun z=>by cases z;exact absurd rfl hk) fun z=>z)
theorem Uq {M:Model} {A:Around} {E:VP_} {s:Shared} {scope:Scope} {g:Addr} {cl:List (Str×Addr)} {qual:Str} {env:Env} {Q:Env->Shared->Prop}
  (h:Q (newEnv scope s.heap.objs.size g (cellsFrom (s.heap.objs.size+1) scope.names cl) qual none .none (some env) builtinsNs) { s with heap:=pushCells (s.heap.push { cls:=.type "dict", data:=.dict #[] }) scope.names }) :
  wpAny M A (newFunctionEnv scope g cl [] qual none .none (some env)) Q E s:=by
 simp only[newFunctionEnv,Option.isSome_some,QN]
 refine zb (wpAny_alloc ?_)
 refine zb (wpAny_layCells _ (fun name kind cells=>by cases kind==NameKind.cell<;>simp) _ _ _ _ ?_)
 rw[show ({ s with heap:=s.heap.push { cls:=.type "dict", data:=.dict #[] } }:Shared).heap.objs.size=s.heap.objs.size+1 from qc ..]
 rw[List.forIn_nil]
 exact zb (zg (zg h))
structure rH (X:Cx) (scope:Scope) (cl:List (Str×Addr)) (xs:LS_) (is:List Nat):Prop where
 clos:closureFor scope X.env=pure cl
 kind:scope.kind=.function
 cell:∀ y∈scope.names,y.2=.cell->cl.lookup y.1=none
 names:∀ y∈scope.names,y.2=.local->scope.names.lookup y.1=some .local
 sub:SubL X.env.cells cl
 has:∀ x,((relabel scope X.env).names.lookup x=some .cell\/(relabel scope X.env).names.lookup x=some .free)->(x,NameKind.cell)∈scope.names\/∃ c,cl.lookup x=some c
 cap:Hq X scope cl xs is
def xQ (is:List Nat) (σ:L2.St):L2.St:=is.map fun i=>(σ[i]?).bind fun v=>v
def kj (is:List Nat) (ρ:Ev):Ev:=is.map fun i=>z6 ρ i
def Ur (n m:Nat) (g:Dt->Ev->Option Ev):Prop:=∀ d ρ ρ',g d ρ=some ρ'->ρ'.length=ρ.length/\∀ j,j < n\/m<=j->ρ'[j]?=ρ[j]?
def ZL (n m:Nat) (g:List Dt->Ev->Option Ev):Prop:=∀ d ρ ρ',g d ρ=some ρ'->ρ'.length=ρ.length/\∀ j,j < n\/m<=j->ρ'[j]?=ρ[j]?
theorem cD {n i m:Nat} (h:n<=i:=by decide) (h':i < m:=by decide):Ur n m (fun d ρ=>some (ρ.set i (some (.z d)))):=fun d ρ ρ' e=>by
 cases e
 exact⟨by rw[jS],fun j hj=>rZ _ (by omega)⟩
theorem Kd {n m:Nat}:ZL n m wQ:=fun d ρ ρ' e=>by
 cases d with
 |nil=>cases e;exact⟨rfl,fun _ _=>rfl⟩
 |cons=>cases e
theorem kE {n m:Nat} {g:Dt->Ev->Option Ev} {gs:List Dt->Ev->Option Ev} (h:Ur n m g) (hs:ZL n m gs):ZL n m (cj g gs):=fun d ρ ρ' e=>by
 cases d with
 |nil=>cases e
 |cons d ds=>
  simp only[cj] at e
  obtain⟨ρ1,e1,e⟩:=bind_some e
  obtain⟨a,b⟩:=h _ _ _ e1
  obtain⟨a',b'⟩:=hs _ _ _ e
  exact⟨a'.trans a,fun j hj=>(b' j hj).trans (b j hj)⟩
theorem Qk {n m k:Nat} {gs:List Dt->Ev->Option Ev} (hs:ZL n m gs):Ur n m (uI k gs):=fun d ρ ρ' e=>by
 cases d with
 |tup ds=>
  simp only[uI] at e
  split at e
  ·exact hs _ _ _ e
  ·cases e
 |_=>cases e
def z9 (gt:Dt->Ev->Option Ev) (p:Ev->Option Bool) (fs:Ev->Option (List Dt)) (ρ:Ev):List Dt->Option (List Dt)
 |[]=>some []
 |d::ds=>(gt d ρ).bind fun ρ1=>(p ρ1).bind fun k=>if k=true then (fs ρ1).bind fun ys=>(z9 gt p fs ρ ds).bind fun zs=>some (ys++zs) else z9 gt p fs ρ ds
def acZ:Bx->Option (List Dt)
 |.z y=>some [y]
 |_=>none
def Bk (gt:Dt->Ev->Option Ev) (p:Ev->Option Bool) (fe:Ev->Option Bx) (ρ:Ev):List Dt->Option (List Dt):=z9 gt p (fun ρ=>(fe ρ).bind acZ) ρ
theorem Aa {b:Bx} {ys:List Dt} (h:acZ b=some ys):∃ y,b=.z y/\ys=[y]:=by
 cases b<;>cases h
 exact⟨_,rfl,rfl⟩
theorem wB {gt:Dt->Ev->Option Ev} {p:Ev->Option Bool} {fe:Ev->Option Bx} {ρ:Ev}:∀ {ds out:List Dt},Bk gt p fe ρ ds=some out->out.length<=ds.length
 |[],_,e=>by cases e;exact zk _
 |d::ds,out,e=>by
  simp only[Bk,z9] at e
  obtain⟨ρ1,_,e⟩:=bind_some e
  obtain⟨k,_,e⟩:=bind_some e
  cases k with
  |false=>
   rw[zv z4] at e
   exact Zl (wB (gt:=gt) (p:=p) (fe:=fe) e) (by simp)
  |true=>
   rw[zo rfl] at e
   obtain⟨ys,ey,e⟩:=bind_some e
   obtain⟨zs,ez,e⟩:=bind_some e
   obtain⟨b,_,ey⟩:=bind_some ey
   obtain⟨y,_,rfl⟩:=Aa ey
   cases e
   simpa using wB (gt:=gt) (p:=p) (fe:=fe) ez
def Tests (X:Cx) (ifs:List Expr) (p:Ev->Option Bool):Prop:=(ifs=[]/\p=fun _=>some true)\/∃ c,ifs=[c]/\PB X c p
structure uY (X:Cx) (ifs:List Expr) (p:Ev->Option Bool):Prop where
 run:Tests X ifs p
section
variable {X:Cx} {elt tgt iter:Expr} {ifs:List Expr} {scope:Scope} {cl:List (Str×Addr)} {pos:Pos} {xs ts:LS_} {is:List Nat} {gt:Dt->Ev->Option Ev} {p:Ev->Option Bool} {fe:Ev->Option Bx} {fi:Ev->Option (List Dt)}
theorem Wo {pins:List (Addr×Obj)} {σ:L2.St} {H3:Hp} {s3:Shared} {fp:List Addr} (I3:L2.Inv X pins σ H3 s3) (O:rH X scope cl xs is)
  (hf:∀ b∈fp,tB X pins H3 b) (hfl:∀ b∈fp,b < s3.heap.objs.size) :
  L2.Inv (yw X (xs++ts) scope cl s3.heap.objs.size s3 H3 fp) [] (xQ is σ++List.replicate ts.length none) H3 { s3 with heap:=pushCells (s3.heap.push { cls:=.type "dict", data:=.dict #[] }) scope.names }:=by
 obtain⟨hl,hc⟩:=O.cap.get
 have hsub:=O.sub
 have hsz:(s3.heap.push { cls:=.type "dict", data:=.dict #[] }).objs.size=s3.heap.objs.size+1:=qc ..
 have hk:∀ b o,s3.heap.get? b=some o->(pushCells (s3.heap.push { cls:=.type "dict", data:=.dict #[] }) scope.names).get? b=some o:=fun b o e=>pushCells_keeps _ _ b o (zd _ e)
 have cf:acY (pushCells (s3.heap.push { cls:=.type "dict", data:=.dict #[] }) scope.names) (cellsFrom (s3.heap.objs.size+1) scope.names cl):=by
  rw[<-hsz]
  refine Wn _ _ _ ⟨fun x y c e1 e2=>I3.ok.inj x y c (hsub.get e1) (hsub.get e2),fun x c e=>?_⟩
  obtain⟨v,q⟩:=I3.cell x c (hsub.get e)
  exact⟨v,q.keeps fun b o e=>zd _ e⟩
 have from':∀ x c,(cellsFrom (s3.heap.objs.size+1) scope.names cl).lookup x=some c->X.env.cells.lookup x=some c\/s3.heap.objs.size < c:=fun x c e=>(yK _ _ _ x c e).imp_left hsub.get
 refine⟨⟨I3.ok.mod,O.kind,I3.ok.glob,I3.ok.blt,zk _,cf.inj,fun x hx=>Qj _ _ _ x (O.has x hx),fun x c hx e=>?_,I3.ok.hd,I3.ok.frames,.inl rfl,fun b hb=>⟨zI (hfl b hb),fun x c e=>?_⟩,I3.bs,Zl I3.ok.YT I3.sz,fun b o e hb=>?_,fun b hb hb'=>?_,I3.stack,I3.RD⟩,
  rfl,I3.bare,Un.kept hk,⟨_,(Heap.Ns.new s3.heap (.type "dict")).keeps (pushCells_keeps _ _),fun j x v e1 e2 _=>?_⟩,cf.cell,I3.hok.fresh (zk _),fun x c e=>(from' x c e).elim (I3.qb x c) fun h=>I3.hok.fresh (Q4 h),fun q hq=>absurd (show q∈([]:List (Addr×Obj)) from hq) (by simp),I3.hok.kept hk,?_⟩
 ·refine (yK _ _ _ x c e).elim (fun h=>?_) fun h=>Q4 h
  have hx:(x,NameKind.cell)∈scope.names:=by
   have hx:acX scope.names x=true:=hx
   unfold acX at hx
   split at hx
   ·rename_i q;exact mem_of_lookup q
   ·cases hx
  rw[O.cell _ hx rfl] at h;cases h
 ·rcases from' x c e with h|h
  ·exact (hf b hb).2.2.2.2.1 x c h
  ·exact kA (Nat.lt_trans (hfl b hb) h)
 ·obtain⟨_,_,_,z,_⟩:=hf b hb
  rcases z with z|z
  ·exact I3.ok.VD b o e z
  ·exact absurd (Zs (zz e) (Zl I3.ok.YT z)) (JA _)
 ·obtain⟨_,n1,n2,_⟩:=hf b hb
  rcases List.mem_cons.mp (I3.JW b hb') with z|z
  ·exact n1 z
  ·exact n2 z
 ·have hj:j < is.length:=by
   by_cases hj:j < is.length
   ·exact hj
   ·rw[qA (by simp[xQ];omega)] at e2
    rw[QQ] at e2
    split at e2<;>cases e2
  have e1':xs[j]?=some x:=by
   have e1:(xs++ts)[j]?=some x:=e1
   rw[ZH (by omega)] at e1;exact e1
  obtain⟨i,ei,hcp⟩:=hc j x e1'
  have e3:σ[i]?=some (some v):=by
   rw[ZH (by simp[xQ];omega)] at e2
   unfold xQ at e2
   rw[zS,ei] at e2
   cases q:σ[i]? with
   |none=>rw[Option.map_some,q] at e2;cases e2
   |some o=>
    rw[Option.map_some,q] at e2
    have:o=some v:=by simpa using e2
    rw[this]
  have vis:Vr X.env.scope x:=by
   rcases hcp.k with k|k
   ·exact .inr (.inl k)
   ·exact .inr (.inr k)
  obtain⟨m',hn',hlk⟩:=I3.loc
  obtain⟨u,r,l⟩:=hlk i x v hcp.n e3 vis
  refine⟨u,r,?_⟩
  rcases l with⟨k,_⟩|⟨k,c,ec,ic⟩
  ·rcases hcp.k with k'|k'<;>(rw[k] at k';cases k')
  ·obtain⟨c',ec'⟩:=hcp.c
   have:=hsub.get ec'
   rw[ec] at this;cases this
   refine .inr ⟨hcp.k',c,(Kc _ _ _ x fun z=>by rw[O.cell _ z rfl] at ec';cases ec').trans ec',?_⟩
   obtain⟨o,ho,hd⟩:=ic
   exact⟨o,hk c o ho,hd⟩
 ·show (xQ is σ++List.replicate ts.length none).length=(xs++ts).length
  simp[xQ,hl]
theorem bf.caps {K:FG_} {H0 H:Hp} {σ:L2.St} {ρ:Ev} (E:bf K H0 H σ ρ) (is:List Nat) (n:Nat):bf K H H (xQ is σ++List.replicate n none) (kj is ρ++List.replicate n none):=by
 have YX:∀ (j:Nat) c,(kj is ρ++List.replicate n none)[j]?=some (some c)->rY c=false:=fun j c e=>by
  by_cases hj:j < is.length
  ·rw[ZH (by simp[kj];omega)] at e
   unfold kj at e
   rw[zS] at e
   cases q:is[j]? with
   |none=>rw[q] at e;cases e
   |some i=>
    rw[q] at e
    have:z6 ρ i=some c:=by simpa using e
    exact yH this
  ·rw[qA (by simp[kj];omega),QQ] at e
   split at e<;>cases e
 refine⟨by simp[xQ,kj],fun j b e=>?_,fun j k c a b e ec=>absurd ec (by rw[YX j c e];exact z4),Same.refl H,fun j c a e ec=>absurd ec (by rw[YX j c e];exact z4)⟩
 by_cases hj:j < is.length
 ·rw[ZH (by simp[kj];omega)] at e
  rw[ZH (by simp[xQ];omega)]
  unfold kj at e
  unfold xQ
  rw[zS] at e ⊢
  cases q:is[j]? with
  |none=>rw[q] at e;cases e
  |some i=>
   rw[q] at e
   have:z6 ρ i=some b:=by simpa using e
   obtain⟨v,e1,r⟩:=Mw E this
   exact⟨v,by simp[e1],r⟩
 ·rw[qA (by simp[kj];omega),QQ] at e
  split at e<;>cases e
theorem bf.forget {K:FG_} {H0 H:Hp} {σ:L2.St} {ρ ρ':Ev} (E:bf K H0 H σ ρ') (hl:ρ'.length=ρ.length) (h:∀ (j:Nat) b,ρ[j]?=some (some b)->ρ'[j]?=some (some b)):bf K H0 H σ ρ:=
 ⟨E.len.trans hl,fun j b e=>E.val j b (h j b e),fun i j c a b e1 ec e2 e3 e4 e5=>E.own i j c a b (h _ _ e1) ec e2 (h _ _ e3) e4 e5,E.base,fun i c a e1 ec e2=>E.new i c a (h _ _ e1) ec e2⟩
structure ZM (Hb:Hp) (σ:L2.St) (ρ:Ev) (n:Nat):Prop where
 own:∀ (j:Nat) c,ρ[j]?=some (some c)->rY c=false
 lt:∀ (j:Nat) b,ρ[j]?=some (some b)->j < n
 old:∀ (j:Nat) c a,ρ[j]?=some (some c)->loose c=true->σ[j]?=some (some (.ref a))->Hb a≠none
def Fx (σ σ':L2.St) (ρ:Ev):Prop:=∀ (j:Nat) c,loose c=true->ρ[j]?=some (some c)->σ'[j]?=σ[j]?
theorem ZM.fx {Hb:Hp} {σ σ':L2.St} {ρ:Ev} {n:Nat} (P:ZM Hb σ ρ n) (f:Fx σ σ' ρ):ZM Hb σ' ρ n:=⟨P.own,P.lt,fun j c a e hl ea=>P.old j c a e hl (by rw[<-f j c hl e];exact ea)⟩
theorem known {K:FG_} {H0 H:Hp} {σ:L2.St} {ρ:Ev} (E:bf K H0 H σ ρ) (j:Nat) (c:Bx) (a:Addr) (e:ρ[j]?=some (some c)) (hl:loose c=true) (ea:σ[j]?=some (some (.ref a))):H a≠none:=fun z=>by
 obtain⟨v,e1,rc⟩:=E.val j _ e
 rw[ea] at e1;cases e1
 cases c with
 |z d=>cases hl
 |l dz=>
  obtain⟨a',vs,e2,q,_⟩:=rc
  cases e2
  rcases q with q|⟨o,q⟩<;>(rw[z] at q;cases q)
 |n dz=>
  obtain⟨a',vs,e2,q,_⟩:=rc
  cases e2
  rcases q with q|⟨o,q⟩<;>(rw[z] at q;cases q)
 |o dz=>
  obtain⟨a',vs,e2,q,_⟩:=rc
  cases e2
  rw[z] at q;cases q
 |m dz _=>
  obtain⟨a',vs,e2,q,_⟩:=rc
  cases e2
  rw[z] at q;cases q
theorem bf.grown {K:FG_} {Hb H:Hp} {σ:L2.St} {ρ:Ev} {n:Nat} {D:Addr} {o:HO} (E:bf K Hb H σ ρ) (P:ZM Hb σ ρ n) (hD:Hb D=none) (kp:Kp H (upd H D o)):bf K Hb (upd H D o) σ ρ:=by
 refine⟨E.len,fun j b e=>?_,fun j k c a b e ec=>absurd ec (by rw[P.own j c e];exact z4),fun c o e=>?_,fun j c a e ec=>absurd ec (by rw[P.own j c e];exact z4)⟩
 ·obtain⟨v,ev,rb⟩:=E.val j b e
  refine⟨v,ev,?_⟩
  cases b with
  |z d=>exact Rep.kp kp rb
  |o dz=>have:=P.own j _ e;cases this
  |m dz _=>have:=P.own j _ e;cases this
  |n dz=>
   obtain⟨a,vs,rfl,q,rr⟩:=rb
   refine⟨a,vs,rfl,?_,rr.kp kp⟩
   have ha:a≠D:=fun z=>P.old j _ _ e rfl ev (by rw[z];exact hD)
   exact q.imp (fun q=>by rw[aG ha];exact q) fun ⟨o,q⟩=>⟨o,by rw[aG ha];exact q⟩
  |l dz=>
   obtain⟨a,vs,rfl,q,rr⟩:=rb
   refine⟨a,vs,rfl,?_,rr.kp kp⟩
   have ha:a≠D:=fun z=>P.old j _ _ e rfl ev (by rw[z];exact hD)
   exact q.imp (fun q=>by rw[aG ha];exact q) fun ⟨o,q⟩=>⟨o,by rw[aG ha];exact q⟩
 ·rw[aG (cL e hD)];exact E.base c o e
def Ql (X:Cx) (el:Addr->Env->Sem Unit) (fs:Ev->Option (List Dt)) (Ac:Addr->Hp->List Dt->HO->Prop) (N n:Nat):Prop:=∀ (pins:List (Addr×Obj)) (s:Shared) (σ:L2.St) (H Hb:Hp) (ρ:Ev) (D:Addr) (o:HO) (o1 ys:List Dt),L2.Inv X pins σ H s->bf X.K Hb H σ ρ->ZM Hb σ ρ n->Hb D=none->fs ρ=some ys->H D=some o->Ac D H o1 o->o1.length+ys.length<=N →
 wpAny (model X.prog X.w) X.A (el D X.env) (fun _ s'=>∃ σ' H' o',L2.Inv X pins σ' H' s'/\bf X.K Hb H' σ' ρ/\Fx σ σ' ρ/\H' D=some o'/\Ac D H' (o1++ys) o') X.xe s
theorem Wq {el:Addr->Env->Sem Unit} {fs:Ev->Option (List Dt)} {Ac:Addr->Hp->List Dt->HO->Prop} {N n:Nat} (h:∀ (pins:List (Addr×Obj)) (s:Shared) (σ:L2.St) (H Hb:Hp) (ρ:Ev) (D:Addr) (o:HO) (o1 ys:List Dt),L2.Inv X pins σ H s->bf X.K Hb H σ ρ->fs ρ=some ys->H D=some o->Ac D H o1 o->o1.length+ys.length<=N →
  wpAny (model X.prog X.w) X.A (el D X.env) (fun _ s'=>∃ H9 o',L2.Inv X pins σ (upd H9 D o') s'/\Same H H9/\Kp H9 (upd H9 D o')/\Ac D (upd H9 D o') (o1++ys) o') X.xe s):Ql X el fs Ac N n:=fun pins s σ H Hb ρ D o o1 ys I E P hD e1 e2 a1 l=>by
 refine qo (h pins s σ H Hb ρ D o o1 ys I E e1 e2 a1 l) (fun _ s' ⟨H9,o',I',s9,kp,a'⟩=>?_) fun _ _ z=>z
 exact⟨σ,_,o',I',(E.grow s9).grown P hD kp,fun _ _ _ _=>rfl,aU,a'⟩
theorem Jj {comp:Expr} {d:Nat} {ipos:Pos} {Ac:Addr->Hp->List Dt->HO->Prop} {el:Addr->Env->Sem Unit} {fs:Ev->Option (List Dt)} {N n m:Nat} {pins:List (Addr×Obj)} {σ:L2.St} {H Hb:Hp} {s:Shared} {it D:Addr} {fp:List Addr} {tn:Nat->Heap->Prop} {J:It} {ds o0 out:List Dt} {o:HO} {ρ:Ev} {R:Result->Shared->Prop}
  (hcalm:X.calm=true) (hx:X.xe=fun _ _=>False) (Jk:PTg X tgt gt) (hif:Tests X ifs p) (hel:Ql X el fs Ac N m) (htk:Ur n m gt) (hnm:n<=m)
  (I:L2.Inv X pins σ H s) (E:bf X.K Hb H σ ρ) (P:ZM Hb σ ρ n) (hD:Hb D=none) (hHD:H D=some o) (hA:Ac D H o0 o)
  (T:Turn X.prog X.w X.K tgt J fp it tn) (st:tn 0 s.heap) (hf:∀ b∈fp,tB X pins H b) (Y:Yields X.K J ds Hb)
  (hout:z9 gt p fs ρ ds=some out) (hN:o0.length+out.length<=N)
  (hAk:∀ {D:Addr} {H H':Hp} {o1:List Dt} {o:HO},Kp H H'->Ac D H o1 o->Ac D H' o1 o)
  (hturn:∀ (it:Value) (D:Addr) (env:Env),compTurn comp d it (.ref D) env=(standAt ipos >>= fun _=>pyNext it >>= fun r=>match r with
   |none=>pure (.done .next)
   |some v=>letOwnedTupleGo tgt it v >>= fun _=>assign tgt env v >>= fun _=>(forIn ifs true fun c r=>if r=true then isTrue c env (eval c env) >>= fun ok=>pure (ForInStep.yield ok) else pure (ForInStep.yield r)) >>= fun ok=>if ok=true then el D env >>= fun _=>again (.compLoop comp d it (.ref D) env) else again (.compLoop comp d it (.ref D) env)))
  (hsh:∀ {it acc:Value} {env:Env} {Q:Fin->Shared->Prop} {E:VP_} {s:Shared},wpAny (model X.prog X.w) X.A ((compTurn comp d it acc env).onRaise (fun x=>noteFrame x env >>= fun _=>theTreesLotGoes x)) Q E s->wpAny (model X.prog X.w) (X.A.under (.compLoop comp d it acc env)) ((model X.prog X.w).den (.compLoop comp d it acc env)) Q E s)
  (hR:∀ s' σ' H' o',L2.Inv X pins σ' H' s'->bf X.K Hb H' σ' ρ->Fx σ σ' ρ->H' D=some o'->Ac D H' (o0++out) o'->R (.ok .next) s') :
  codeAny (model X.prog X.w) X.A (.compLoop comp d (.ref it) (.ref D) X.env) R s:=by
 have hfC:∀ {H':Hp},(∀ b∈fp,H' b=none)->∀ b∈fp,tB X pins H' b:=fun {H'} hn b hb=>⟨hn b hb,(hf b hb).2⟩
 refine codeAny_loop rfl (fun k s'=>∃ (i:Nat) (σ':L2.St) (H':Hp) (o1 o2:List Dt) (o:HO),k=ds.length - i/\i<=ds.length/\L2.Inv X pins σ' H' s'/\tn i s'.heap/\(∀ b∈fp,H' b=none)/\bf X.K Hb H' σ' ρ/\Fx σ σ' ρ/\H' D=some o/\Ac D H' o1 o/\z9 gt p fs ρ (ds.drop i)=some o2/\o1++o2=o0++out) ?_ ds.length
  ⟨0,σ,H,o0,out,o,by simp,qE _,I,st,fun b hb=>(hf b hb).1,E,fun _ _ _ _=>rfl,hHD,hA,by simpa using hout,rfl⟩
 rintro k s4 ⟨i,σ4,H4,o1,o2,o,rfl,hi,I4,st4,fr4,E4,F4,hD4,r4,e4,ho⟩
 have P4:=P.fx F4
 refine hsh (wpAny_noted ?_)
 rw[hturn]
 obtain⟨y1,y2⟩:=Y i H4 E4.base
 by_cases hlt:i < ds.length
 ·have hd:ds[i]?=some ds[i]:=by simp[hlt]
  obtain⟨go,yl⟩:=y1 _ hd
  rw[KW hlt] at e4
  simp only[z9] at e4
  obtain⟨ρ1,e1,e4⟩:=bind_some e4
  obtain⟨k,ek,e4⟩:=bind_some e4
  obtain⟨hl1,hk1⟩:=htk _ _ _ e1
  have back:∀ {σ5:L2.St} {H5:Hp},bf X.K Hb H5 σ5 ρ1->bf X.K Hb H5 σ5 ρ:=fun E5=>E5.forget hl1 fun j b e=>by rw[hk1 j (.inl (P.lt j b e))];exact e
  refine zb (kC (zb ?_))
  refine j9 (T.item X rfl rfl rfl hcalm i pins s4 σ4 H4 _ I4 (hfC fr4) st4 go) fun r s5 ⟨u,hr,h5⟩=>?_
  subst hr
  refine zb (j9 h5 fun _ s6 ⟨x,H6,I6,r6,y6,st6,fr6⟩=>?_)
  obtain⟨sm,rx⟩:=yl x H6 y6
  have E4:=E4.grow sm
  have hD4:=sm _ _ hD4
  have r4:=hAk (.of sm) r4
  have I6':=I6.pinned (hfC fr6) (T.obj _ _ st6)
  have ha:=Jk _ s6 σ4 H6 x u (fun σ' H'=>H'=H6/\bf X.K Hb H6 σ' ρ1/\Lo σ4 ρ σ' ρ1) I6' r6 ⟨Hb,ρ,ds[i],ρ1,E4,rx,e1,fun σ' E' L'=>⟨rfl,E',L'⟩⟩
  rw[hx] at ha
  refine zb (qo ha (fun _ s7 h7=>?_) fun _ _ z=>z.elim)
  obtain⟨σ7,H7,I7,rfl,E7,L7⟩:=h7
  have P7:ZM Hb σ7 ρ1 m:=by
   refine⟨fun j c e=>?_,fun j c e=>?_,fun j c a e hl ea=>?_⟩
   ·cases c with
    |o ds=>exact P.own j _ (L7 j _ rfl e).1
    |m ds _=>exact P.own j _ (L7 j _ rfl e).1
    |_=>rfl
   ·refine Nat.lt_of_not_le fun h=>?_
    rw[hk1 j (.inr h)] at e
    exact absurd (Zs (P.lt j c e) hnm) (Nat.not_lt.mpr h)
   ·obtain⟨e',ee⟩:=L7 j c hl e
    exact P4.old j c a e' hl (by rw[<-ee];exact ea)
  have abw:∀ {σ5:L2.St},Fx σ7 σ5 ρ1->Fx σ σ5 ρ:=fun f j c hl e=>by
   have e':ρ1[j]?=some (some c):=by rw[hk1 j (.inl (P.lt j c e))];exact e
   exact (f j c hl e').trans ((L7 j c hl e').2.trans (F4 j c hl e))
  have ht:wpAny (model X.prog X.w) X.A (forIn ifs true fun c r=>if r=true then do let ok <-isTrue c X.env (eval c X.env);pure (ForInStep.yield ok) else pure (ForInStep.yield r))
    (fun ok s8=>ok=k/\∃ H8,L2.Inv X (pins++zX fp s6.heap) σ7 H8 s8/\Same H7 H8) (notedBy (model X.prog X.w) X.A X.env fun e s'=>R (.error e) s') s7:=by
   rcases hif with⟨rfl,rfl⟩|⟨c,rfl,hc⟩
   ·cases ek
    exact wpAny_tests_nil ⟨rfl,H7,I7,Same.refl H7⟩
   ·refine wpAny_tests_one ?_
    have:=hc _ s7 σ7 H7 (fun b H8=>b=k/\Same H7 H8) I7 ⟨Hb,ρ1,k,E7,ek,fun H8 s8=>⟨rfl,s8⟩⟩
    rw[hx] at this
    exact qo this (fun b s8 ⟨H8,I8,eb,s8'⟩=>⟨eb,H8,I8,s8'⟩) fun _ _ z=>z.elim
  refine zb (qo ht (fun ok s8 h8=>?_) fun _ _ z=>z)
  obtain⟨rfl,H8,I8,s78⟩:=h8
  have Wr:∀ {σ9:L2.St} {H9:Hp} {s9:Shared},L2.Inv X (pins++zX fp s6.heap) σ9 H9 s9->L2.Inv X pins σ9 H9 s9/\tn (i+1) s9.heap/\∀ b∈fp,H9 b=none:=fun {σ9 H9 s9} I9=>by
   refine⟨I9.uT,T.keep _ _ _ st6 fun b hb o e=>(I9.pin (b,o) (ZI _ (ZI _ (tD hb e)))).1,fun b hb=>?_⟩
   obtain⟨o,e,d⟩:=T.obj _ _ st6 b hb
   exact (I9.pin (b,o) (ZI _ (ZI _ (tD hb e)))).2.1
  cases ok with
  |false=>
   rw[zv z4] at e4
   obtain⟨I9,st9,fr9⟩:=Wr I8
   exact zg ⟨rfl,ds.length - (i+1),by omega,i+1,σ7,H8,o1,o2,o,rfl,hlt,I9,st9,fr9,back (E7.grow s78),abw (fun _ _ _ _=>rfl),s78 _ _ hD4,hAk (.of s78) r4,e4,ho⟩
  |true=>
   rw[zo rfl] at e4
   obtain⟨ys,eb,e4⟩:=bind_some e4
   obtain⟨zs,e5,e4⟩:=bind_some e4
   cases e4
   have hl:=congrArg List.length ho
   simp only[ZA] at hl
   have he:=hel _ s8 σ7 H8 Hb ρ1 D o o1 ys I8 (E7.grow s78) P7 hD eb (s78 _ _ hD4) (hAk (.of s78) r4) (by omega)
   rw[hx] at he
   refine zb (qo he (fun _ s10 h10=>?_) fun _ _ z=>z.elim)
   obtain⟨σ9,H9,o',I10,E9,F9,hD9,a5⟩:=h10
   obtain⟨I11,ahj,ahk⟩:=Wr I10
   exact zg ⟨rfl,ds.length - (i+1),by omega,i+1,σ9,H9,o1++ys,zs,o',rfl,hlt,I11,ahj,ahk,back E9,abw F9,hD9,a5,e5,by rw[QP];exact ho⟩
 ·have hge:ds.length<=i:=by omega
  rw[List.drop_eq_nil_of_le hge] at e4
  cases e4
  refine zb (kC (zb ?_))
  refine j9 (T.done X rfl rfl rfl hcalm i pins s4 σ4 H4 _ I4 (hfC fr4) st4 (y2 hge)) fun r s5 ⟨hr,I5⟩=>?_
  subst hr
  rw[km] at ho
  exact zg (hR s5 σ4 H4 o I5 E4 F4 hD4 (by rw[<-ho];exact r4))
theorem Us {prog:Program} {w:World} {A:Around} {R:Result->Shared->Prop} {s:Shared} {e:Expr} {d:Nat} {target iter:Expr} {ifs:List Expr} {it acc:Value} {env:Env} (hg:(clausesOf e)[d]?=some ⟨target,iter,ifs,0⟩)
  (hd:∀ {Q:Fin->Shared->Prop} {E:VP_},wpAny (model prog w) A ((compStart e d it acc env).onRaise (fun x=>do noteFrame x env;standAt theWindowsPlace)) Q E s->wpAny (model prog w) (A.under (.compStart e d it acc env)) ((model prog w).den (.compStart e d it acc env)) Q E s) (hq:Code.quiet (.compLoop e d it acc env)=true:=by rfl)
  (h0:codeAny (model prog w) A (.compLoop e d it acc env) R s)
  (h:wpAny (model prog w) A (pyIter it) (fun it' s'=>codeAny (model prog w) A (.compLoop e d it' acc env) R s') (notedBy (model prog w) A env fun x s'=>R (.error x) s') s) :
  codeAny (model prog w) A (.compStart e d it acc env) R s:=by
 refine codeAny_of_tree (hd ?_)
 refine wpAny_notedAt ?_
 unfold compStart
 rw[hg]
 show wpAny _ _ (ask >>= _) _ _ s
 refine zb (yi (wpAny_ite ?_))
 split
 ·exact zg (And.intro hq h0)
 ·refine zb (KP ?_)
  show wpAny _ _ (standAt iter.pos >>= _) _ _ s
  exact zb (kC (zb (qo h (fun it' s' h'=>zg (And.intro hq h')) fun _ _ x=>x)))
def sy (H:Hp) (D:Addr):Hp:=fun b=>if b=D then none else H b
theorem mF {H:Hp} {D b:Addr} (h:b≠D):sy H D b=H b:=zv h
theorem tK {H:Hp} {D:Addr}:Same (sy H D) H:=fun b o e=>by
 by_cases h:b=D
 ·rw[sy,zo h] at e;cases e
 ·rw[mF h] at e;exact e
theorem bf.onto {K:FG_} {Hb Hb' H:Hp} {σ:L2.St} {ρ:Ev} (E:bf K Hb H σ ρ) (P:∀ (j:Nat) c,ρ[j]?=some (some c)->rY c=false) (s:Same Hb' H):bf K Hb' H σ ρ:=
 ⟨E.len,E.val,E.own,s,fun j c a e ec=>absurd ec (by rw[P j c e];exact z4)⟩
def inC (fi:Ev->Option (List Dt)) (gt:Dt->Ev->Option Ev) (p:Ev->Option Bool) (fs:Ev->Option (List Dt)):Ev->Option (List Dt):=fun ρ=>(fi ρ).bind fun ds=>z9 gt p fs ρ ds
theorem Ws {comp:Expr} {d:Nat} {Ac:Addr->Hp->List Dt->HO->Prop} {el:Addr->Env->Sem Unit} {fs:Ev->Option (List Dt)} {N n m:Nat}
  (hcalm:X.calm=true) (hx:X.xe=fun _ _=>False) (hi:PIF X tgt iter fi) (Jk:PTg X tgt gt) (hif:Tests X ifs p) (hel:Ql X el fs Ac N m) (htk:Ur n m gt) (hnm:n<=m)
  (hAk:∀ {D:Addr} {H H':Hp} {o1:List Dt} {o:HO},Kp H H'->Ac D H o1 o->Ac D H' o1 o) (hAo:∀ {D:Addr} {H:Hp} {o1:List Dt} {o:HO},Ac D H o1 o->(∀ ob u,o≠.n8 ob u)/\∀ vs,o≠.tup vs)
  (hs:∀ x,foldedSetIterable iter X.env x=pure x)
  (hturn:∀ (it:Value) (D:Addr) (env:Env),compTurn comp d it (.ref D) env=(standAt iter.pos >>= fun _=>pyNext it >>= fun r=>match r with
   |none=>pure (.done .next)
   |some v=>letOwnedTupleGo tgt it v >>= fun _=>assign tgt env v >>= fun _=>(forIn ifs true fun c r=>if r=true then isTrue c env (eval c env) >>= fun ok=>pure (ForInStep.yield ok) else pure (ForInStep.yield r)) >>= fun ok=>if ok=true then el D env >>= fun _=>again (.compLoop comp d it (.ref D) env) else again (.compLoop comp d it (.ref D) env)))
  (hstart:∀ {it acc:Value} {env:Env} {R:Result->Shared->Prop} {s:Shared},codeAny (model X.prog X.w) X.A (.compLoop comp d it acc env) R s->wpAny (model X.prog X.w) X.A (pyIter it) (fun it' s'=>codeAny (model X.prog X.w) X.A (.compLoop comp d it' acc env) R s') (notedBy (model X.prog X.w) X.A env fun x s'=>R (.error x) s') s->codeAny (model X.prog X.w) X.A (.compStart comp d it acc env) R s)
  (hsh:∀ {it acc:Value} {env:Env} {Q:Fin->Shared->Prop} {E:VP_} {s:Shared},wpAny (model X.prog X.w) X.A ((compTurn comp d it acc env).onRaise (fun x=>noteFrame x env >>= fun _=>theTreesLotGoes x)) Q E s->wpAny (model X.prog X.w) (X.A.under (.compLoop comp d it acc env)) ((model X.prog X.w).den (.compLoop comp d it acc env)) Q E s) :
  Ql X (fun D env=>do let x <-eval iter env;standAt iter.pos;let x <-foldedSetIterable iter env x;let _ <-runOwn (.compStart comp d (<-holding [x] (pyIter x)) (.ref D) env) env) (inC fi gt p fs) Ac N n:=by
 intro pins s σ H Hb ρ D o o1 ys I E P hD e hHD hA hl
 obtain⟨ds,ed,e⟩:=bind_some e
 refine zb (qo (hi pins s σ H (fun J H'=>Same H H'/\∀ Hs,Same Hs H'->(∀ a,H a=none->Hs a=H' a)->(∀ a o u,H' a=some (.n8 o u)->Hs a=H' a)->(∀ a vs,H' a=some (.tup vs)->Hs a=H' a)->Yields X.K J ds Hs) I ⟨Hb,ρ,ds,E,ed,fun J H' s' y=>⟨s',y⟩⟩) (fun v s1 h1=>?_) fun _ _ z=>z)
 refine zb (kC (zb (wpAny_of_eq (hs v) (zb (QR (qo h1 (fun itv s2 h2=>?_) fun _ _ z=>z))))))
 obtain⟨it,fp,tn,J,H2,rfl,I2,T,st,hf,s12,Y⟩:=h2
 have hD2:=s12 _ _ hHD
 have hA2:=hAk (.of s12) hA
 have Yb:Yields X.K J ds (sy H2 D):=Y _ tK (fun a ha=>mF fun z=>by rw[z,hHD] at ha;cases ha) (fun a ob u ha=>mF fun z=>by rw[z,hD2] at ha;cases ha;exact (hAo hA).1 _ _ rfl) fun a vs ha=>mF fun z=>by rw[z,hD2] at ha;cases ha;exact (hAo hA).2 _ rfl
 have sb:Same Hb (sy H2 D):=fun a u ea=>by rw[mF (cL ea hD)];exact s12 _ _ (E.base _ _ ea)
 have E2:bf X.K (sy H2 D) H2 σ ρ:=(E.grow s12).onto P.own tK
 have P2:ZM (sy H2 D) σ ρ n:=⟨P.own,P.lt,fun j c a ec hl ea z=>P.old j c a ec hl ea (sb.free z)⟩
 have lp:∀ {R:Result->Shared->Prop},(∀ s' σ' H' o',L2.Inv X pins σ' H' s'->bf X.K (sy H2 D) H' σ' ρ->Fx σ σ' ρ->H' D=some o'->Ac D H' (o1++ys) o'->R (.ok .next) s')->codeAny (model X.prog X.w) X.A (.compStart comp d (.ref it) (.ref D) X.env) R s2:=fun hR=>
  have h:=Jj hcalm hx Jk hif hel htk hnm I2 E2 P2 (zo rfl) hD2 hA2 T st hf Yb e hl hAk hturn hsh hR
  hstart h (T.self _ 0 _ _ _ st h)
 exact zb (wpAny_runOwn (lp fun s' σ' H' o' I' E' F' hD' a'=>zg ⟨σ',H',o',I',E'.onto P.own (sb.trans E'.base),F',hD',a'⟩))
theorem Ab {comp:Expr} {mk:Sem Value} {o0:Obj} {O0:HO} {Ac:Addr->Hp->List Dt->HO->Prop} {el:Addr->Env->Sem Unit} {fs:Ev->Option (List Dt)} {N m:Nat} {pins:List (Addr×Obj)} {σ:L2.St} {H2:Hp} {s2:Shared} {it:Addr} {fp:List Addr} {tn:Nat->Heap->Prop} {J:It} {ds out:List Dt} {ρ:Ev} {RR:Value->Addr->Result->Shared->Prop} {E:VP_}
  (O:rH X scope cl xs is) (hcalm:X.calm=true)
  (Jk:∀ C s₀ H₀ fp,PTg (yw X (xs++ts) scope cl C s₀ H₀ fp) tgt gt) (hif:∀ C s₀ H₀ fp,Tests (yw X (xs++ts) scope cl C s₀ H₀ fp) ifs p) (helt:∀ C s₀ H₀ fp,Ql (yw X (xs++ts) scope cl C s₀ H₀ fp) el fs Ac N m) (htk:Ur is.length m gt) (hnm:is.length<=m)
  (I2:L2.Inv X pins σ H2 s2) (Ec:bf X.K H2 H2 (xQ is σ++List.replicate ts.length none) (kj is ρ++List.replicate ts.length none)) (T:Turn X.prog X.w X.K tgt J fp it tn) (st:tn 0 s2.heap) (hf:∀ b∈fp,tB X pins H2 b) (Y:Yields X.K J ds H2)
  (hout:z9 gt p fs (kj is ρ++List.replicate ts.length none) ds=some out) (hlen:out.length<=N)
  (hRR:∀ (D C:Addr) (s':Shared) (H':Hp) (o:HO),H2 D=none->L2.Inv X pins σ H' s'->tB X pins H' C->(∃ m,s'.heap.Ns C m)->Same H2 H'->H' D=some o->Ac D H' out o->RR (.ref D) C (.ok .next) s')
  (hmk:∀ {Q:VP_},Q (.ref s2.heap.objs.size) { s2 with heap:=s2.heap.push o0 }->wpAny (model X.prog X.w) X.A mk Q E s2) (hO0:∀ H,fu X.prog X.w H (s2.heap.push o0) s2.heap.objs.size O0) (hA0:∀ H,Ac s2.heap.objs.size H [] O0)
  (hAk:∀ {D:Addr} {H H':Hp} {o1:List Dt} {o:HO},Kp H H'->Ac D H o1 o->Ac D H' o1 o)
  (hturn:∀ (it:Value) (D:Addr) (env:Env),compTurn comp 0 it (.ref D) env=(standAt iter.pos >>= fun _=>pyNext it >>= fun r=>match r with
   |none=>pure (.done .next)
   |some v=>letOwnedTupleGo tgt it v >>= fun _=>assign tgt env v >>= fun _=>(forIn ifs true fun c r=>if r=true then isTrue c env (eval c env) >>= fun ok=>pure (ForInStep.yield ok) else pure (ForInStep.yield r)) >>= fun ok=>if ok=true then el D env >>= fun _=>again (.compLoop comp 0 it (.ref D) env) else again (.compLoop comp 0 it (.ref D) env)))
  (hstart:∀ {it acc:Value} {env:Env} {R:Result->Shared->Prop} {s:Shared},codeAny (model X.prog X.w) X.A (.compLoop comp 0 it acc env) R s->wpAny (model X.prog X.w) X.A (pyIter it) (fun it' s'=>codeAny (model X.prog X.w) X.A (.compLoop comp 0 it' acc env) R s') (notedBy (model X.prog X.w) X.A env fun x s'=>R (.error x) s') s->codeAny (model X.prog X.w) X.A (.compStart comp 0 it acc env) R s)
  (hsh:∀ {it acc:Value} {env:Env} {Q:Fin->Shared->Prop} {E:VP_} {s:Shared},wpAny (model X.prog X.w) X.A ((compTurn comp 0 it acc env).onRaise (fun x=>noteFrame x env >>= fun _=>theTreesLotGoes x)) Q E s->wpAny (model X.prog X.w) (X.A.under (.compLoop comp 0 it acc env)) ((model X.prog X.w).den (.compLoop comp 0 it acc env)) Q E s) :
  wpAny (model X.prog X.w) X.A mk (fun acc s₃=>wpAny (model X.prog X.w) X.A (newFunctionEnv scope X.env.globals cl [] X.env.qual none .none (some X.env)) (fun cenv s₄=>
   codeAny (model X.prog X.w) X.A (.compStart comp 0 (.ref it) acc { cenv with scope:=relabel scope X.env }) (RR acc cenv.locals) s₄) E s₃) E s2:=by
 refine hmk (Uq ?_)
 have hD:H2 s2.heap.objs.size=none:=I2.hok.fresh (zk _)
 have I3:L2.Inv X pins σ (upd H2 s2.heap.objs.size O0) { s2 with heap:=s2.heap.push o0 }:=
  I2.laid (t':=s2.toks) (fun b o e=>zd _ e) (zk _) (hO0 _)
 have afn:∀ b∈fp,b < s2.heap.objs.size:=fun b hb=>let ⟨o,e,_⟩:=T.obj 0 _ st b hb;zz e
 have hf3:∀ b∈fp,tB X pins (upd H2 s2.heap.objs.size O0) b:=fun b hb=>⟨by rw[aG (zI (afn b hb))];exact (hf b hb).1,(hf b hb).2⟩
 have st3:tn 0 (s2.heap.push o0):=T.keep 0 _ _ st fun b hb o e=>zd _ e
 have ZP:∀ b∈fp,b < (s2.heap.push o0).objs.size:=fun b hb=>by rw[qc];exact QA (afn b hb)
 generalize hs3:({ s2 with heap:=s2.heap.push o0 }:Shared)=s3 at *
 have ahm:s3.heap=s2.heap.push o0:=by rw[<-hs3]
 rw[<-ahm] at st3 ZP
 have IC:=Wo (ts:=ts) I3 O hf3 ZP
 have st1:tn 0 (pushCells (s3.heap.push { cls:=.type "dict", data:=.dict #[] }) scope.names):=T.keep 0 _ _ st3 fun b hb o e=>pushCells_keeps _ _ b o (zd _ e)
 have hfC:∀ b∈fp,tB (yw X (xs++ts) scope cl s3.heap.objs.size s3 (upd H2 s2.heap.objs.size O0) fp) [] (upd H2 s2.heap.objs.size O0) b:=fun b hb=>by
  obtain⟨f0,f1,f2,f3,f4,f5⟩:=hf3 b hb
  refine⟨f0,zI (ZP b hb),fun z=>?_,.inl hb,fun x c e z=>?_,fun q hq=>absurd (show q∈([]:List (Addr×Obj)) from hq) (by simp)⟩
  ·rcases List.mem_cons.mp (I3.JW b z) with q|q
   ·exact f1 q
   ·exact f2 q
  ·rcases yK _ _ _ x c e with h|h
   ·exact f4 x c (O.sub.get h) z
   ·rw[z] at h;exact absurd (Zs (ZP b hb) (Nat.le_of_succ_le h)) (JA _)
 have P0:ZM H2 (xQ is σ++List.replicate ts.length none) (kj is ρ++List.replicate ts.length none) is.length:=by
  have g:∀ (j:Nat) c,(kj is ρ++List.replicate ts.length none)[j]?=some (some c)->j < is.length/\rY c=false:=fun j c e=>by
   by_cases hj:j < is.length
   ·refine⟨hj,?_⟩
    rw[ZH (by simp[kj];omega)] at e
    unfold kj at e
    rw[zS] at e
    cases q:is[j]? with
    |none=>rw[q] at e;cases e
    |some i=>rw[q] at e;exact yH (by simpa using e)
   ·rw[qA (by simp[kj];omega),QQ] at e
    split at e<;>cases e
  exact⟨fun j c e=>(g j c e).2,fun j c e=>(g j c e).1,known Ec⟩
 have h:=Jj (X:=yw X (xs++ts) scope cl s3.heap.objs.size s3 (upd H2 s2.heap.objs.size O0) fp) (R:=RR (.ref s2.heap.objs.size) s3.heap.objs.size) (o0:=[]) hcalm rfl (Jk _ _ _ _) (hif _ _ _ _) (helt _ _ _ _) htk hnm IC (Ec.grow (bF hD)) P0 hD aU (hA0 _) T st1 hfC Y hout (by simpa using hlen) hAk hturn hsh fun s5 σ5 H5 o5 I5 E5 _ hD5 a5=>by
  have IB:L2.Inv X pins σ H5 s5:=I3.call' (ch:=fp) I5.os I5.base I5.hok I5.bare fun b hb=>by
   obtain⟨f0,f1,f2,f3,f4,f5⟩:=hf3 b hb
   exact⟨f3,f1,f4,f5⟩
  obtain⟨m,hn,_⟩:=I5.loc
  exact hRR _ _ s5 H5 o5 hD IB (I3.T4 (zk _) I5.free) ⟨m,hn⟩ E5.base hD5 a5
 exact hstart h (T.self _ 0 _ _ _ st1 h)
def AcL (K:FG_) (_:Addr) (H:Hp) (o1:List Dt) (o:HO):Prop:=∃ us,o=.lst us/\aJ K H o1 us
theorem AcL.kp {K:FG_} {D:Addr} {H H':Hp} {o1:List Dt} {o:HO} (k:Kp H H'):AcL K D H o1 o->AcL K D H' o1 o:=fun ⟨us,e,r⟩=>⟨us,e,r.kp k⟩
def Wt (fe:Ev->Option Bx):Ev->Option (List Dt):=fun ρ=>(fe ρ).bind acZ
theorem ZQ {n:Nat} (h:PV X elt fe):Ql X (fun D env=>do let _ <-call (.builtin "list.append") [.ref D,<-eval elt env]) (Wt fe) (AcL X.K) 100000 n:=by
 refine Wq fun pins s σ H Hb ρ D o o1 ys I En ee hD ⟨us,e,r4⟩ hl=>?_
 subst e
 obtain⟨b,eb,ee⟩:=bind_some ee
 obtain⟨y,rfl,rfl⟩:=Aa ee
 refine zb (qo (h pins s σ H (fun v H9=>Same H H9/\Rep X.K H9 y v) I ⟨Hb,ρ,_,En,eb,fun v H9 s9 _ r9=>⟨s9,r9⟩⟩) (fun v s9 h9=>?_) fun _ _ z=>z)
 obtain⟨v',H9,I9,rv,s89,r9⟩:=h9
 have hD9:=s89 _ _ hD
 refine zb (qo ((zZ (X:=X)) _ s9 σ H9 (.ref D) [v'] (.ref D) [v] (fun w H10=>H10=upd H9 D (.lst (us++[v']))) I9 rfl (.cons rv .nil) ⟨_,us,v',rfl,rfl,hD9,by rw[r4.length];have h0:(100000:Nat) < sizeLine:=(by decide);simp at hl;omega,rfl⟩) (fun w s10 h10=>?_) fun _ _ z=>z)
 obtain⟨w',H10,I10,_,rfl⟩:=h10
 have kp:Kp H9 (upd H9 D (.lst (us++[v']))):=.lst hD9
 exact zg ⟨H9,_,I10,s89,kp,us++[v'],rfl,((r4.kp (.of s89)).append (aJ.cons r9 aJ.nil)).kp kp⟩
theorem yL {pins:List (Addr×Obj)} {σ:L2.St} {H2:Hp} {s2:Shared} {it:Addr} {fp:List Addr} {tn:Nat->Heap->Prop} {J:It} {ds out:List Dt} {ρ:Ev} {RR:Value->Addr->Result->Shared->Prop} {E:VP_}
  (O:rH X scope cl xs is) (hcalm:X.calm=true)
  (Jk:∀ C s₀ H₀ fp,PTg (yw X (xs++ts) scope cl C s₀ H₀ fp) tgt gt) (hif:∀ C s₀ H₀ fp,Tests (yw X (xs++ts) scope cl C s₀ H₀ fp) ifs p) (helt:∀ C s₀ H₀ fp,PV (yw X (xs++ts) scope cl C s₀ H₀ fp) elt fe) (htk:Ur is.length (is.length+ts.length) gt)
  (I2:L2.Inv X pins σ H2 s2) (Ec:bf X.K H2 H2 (xQ is σ++List.replicate ts.length none) (kj is ρ++List.replicate ts.length none)) (T:Turn X.prog X.w X.K tgt J fp it tn) (st:tn 0 s2.heap) (hf:∀ b∈fp,tB X pins H2 b) (Y:Yields X.K J ds H2)
  (hlen:ds.length<=100000) (hout:Bk gt p fe (kj is ρ++List.replicate ts.length none) ds=some out)
  (hRR:∀ (D C:Addr) (s':Shared) (H':Hp) (us:List V),H2 D=none->L2.Inv X pins σ H' s'->tB X pins H' C->(∃ m,s'.heap.Ns C m)->Same H2 H'->H' D=some (.lst us)->aJ X.K H' out us->RR (.ref D) C (.ok .next) s') :
  wpAny (model X.prog X.w) X.A (newList []) (fun acc s₃=>wpAny (model X.prog X.w) X.A (newFunctionEnv scope X.env.globals cl [] X.env.qual none .none (some X.env)) (fun cenv s₄=>
   codeAny (model X.prog X.w) X.A (.compStart (.ListComp elt [⟨tgt,iter,ifs,0⟩] scope pos) 0 (.ref it) acc { cenv with scope:=relabel scope X.env }) (RR acc cenv.locals) s₄) E s₃) E s2:=
 Ab (Ac:=AcL X.K) (O0:=.lst []) (N:=100000) O hcalm Jk hif (fun C s₀ H₀ fp=>ZQ (helt C s₀ H₀ fp)) htk (Nat.le_add_right ..) I2 Ec T st hf Y hout (Zl (wB hout) hlen) (fun D C s' H' o a b c d e f g=>by obtain⟨us,rfl,r⟩:=g;exact hRR D C s' H' us a b c d e f r)
  qq (fun _=>⟨qE _,[],0,.nil,zt _ rfl⟩) (fun _=>⟨[],rfl,aJ.nil⟩) AcL.kp (fun _ _ _=>rfl) codeAny_compStart_list fun h=>h
end
def iC (K:FG_) (f:Ev->Option (List Dt)):TI:=fun σ H R=>∃ H0 ρ ds,bf K H0 H σ ρ/\f ρ=some ds/\∀ J H',Same H H'->Yields K J ds H'->R J H'
def PIC (X:Cx) (tg iter:Expr) (f:Ev->Option (List Dt)):Prop:=PI X tg iter (iC X.K f)
structure QIC (X:Cx) (tg iter:Expr) (f:Ev->Option (List Dt)):Prop where
 run:PIC X tg iter f
def Wu:Bx->Option (List Dt)
 |.z (.lst ds)=>some ds
 |.z (.tup ds)=>some ds
 |.z (.str x)=>some (signs x)
 |.o ds=>some ds
 |.l ds=>some ds
 |_=>none
section
variable {X:Cx} {e elt tgt iter:Expr} {es ifs:List Expr} {f:Ev->Option Bx} {fs:Ev->Option (List Bx)} {scope:Scope} {cl:List (Str×Addr)} {pos:Pos} {xs ts:LS_} {is:List Nat} {gt:Dt->Ev->Option Ev} {p:Ev->Option Bool} {fe:Ev->Option Bx} {fi:Ev->Option (List Dt)}
theorem ac3 (h:QIF X tgt iter fi):QIC X tgt iter fi:=⟨have h:=h.run;fun pins s σ H R I q=>by
 obtain⟨H0,ρ,ds,E,e,q⟩:=q
 exact h pins s σ H R I ⟨H0,ρ,ds,E,e,fun J H' s' y=>q J H' s' (y H' (Same.refl H') (fun _ _=>rfl) (fun _ _ _ _=>rfl) fun _ _ _=>rfl)⟩⟩
theorem jL (h:QV X e f):QIC X tgt e (fun ρ=>(f ρ).bind Wu):=⟨have h:=h.run;fun pins s σ H R I q=>by
 refine Qi h pins s σ H R I ?_
 obtain⟨H0,ρ,ds,E,e,q⟩:=q
 obtain⟨b,eb,e⟩:=bind_some e
 refine⟨H0,ρ,b,E,eb,fun v H1 s1 n1 r1=>?_⟩
 cases b with
 |z d=>
  cases d with
  |tup ds'=>
   cases e
   simp only[bw,Rep] at r1
   obtain⟨a,vs,rfl,hq,rs⟩:=r1
   exact .inr (.inl ⟨a,rfl,⟨vs,hq⟩,q _ _ s1 (.tup hq rs)⟩)
  |lst ds'=>
   cases e
   obtain⟨a,vs,rfl,hq,rs⟩:=r1.Ji rfl
   exact .inl ⟨a,rfl,⟨vs,hq⟩,q _ _ s1 (.list hq rs)⟩
  |str x=>
   cases e
   simp only[bw,Rep] at r1
   obtain⟨rfl,_⟩:=r1
   exact .inr (.inr ⟨x,rfl,q _ _ s1 (.str x)⟩)
  |_=>cases e
 |l ds'=>
  cases e
  obtain⟨a,vs,rfl,hq,rs⟩:=r1.Ji rfl
  exact .inl ⟨a,rfl,⟨vs,hq⟩,q _ _ s1 (.list hq rs)⟩
 |o ds'=>
  cases e
  obtain⟨a,vs,rfl,hq,rs⟩:=r1.Ji rfl
  exact .inl ⟨a,rfl,⟨vs,hq⟩,q _ _ s1 (.list hq rs)⟩
 |n _=>cases e
 |m _ _=>cases e⟩
def dW (fi:Ev->Option (List Dt)) (gt:Dt->Ev->Option Ev) (p:Ev->Option Bool) (fe:Ev->Option Bx) (is:List Nat) (n:Nat):Ev->Option Bx:=fun ρ=>(fi ρ).bind fun ds=>
 if ds.length<=100000 then (Bk gt p fe (kj is ρ++List.replicate n none) ds).bind fun out=>some (.o out) else none
theorem mG (ts:LS_) (O:rH X scope cl xs is) (hcalm:X.calm=true) (hi:QIC X tgt iter fi) (Jk:∀ C s₀ H₀ fp,Vv (yw X (xs++ts) scope cl C s₀ H₀ fp) tgt gt) (hif:∀ C s₀ H₀ fp,uY (yw X (xs++ts) scope cl C s₀ H₀ fp) ifs p) (helt:∀ C s₀ H₀ fp,QV (yw X (xs++ts) scope cl C s₀ H₀ fp) elt fe) (htk:Ur is.length (is.length+ts.length) gt) (hs:∀ x,foldedSetIterable iter X.env x=pure x:=by intro _;rfl):QV X (.ListComp elt [⟨tgt,iter,ifs,0⟩] scope pos) (dW fi gt p fe is ts.length):=⟨have hi:=hi.run;have Jk:=fun C s₀ H₀ fp=>(Jk C s₀ H₀ fp).run;have hif:=fun C s₀ H₀ fp=>(hif C s₀ H₀ fp).run;have helt:=fun C s₀ H₀ fp=>(helt C s₀ H₀ fp).run;fun pins s σ H Q I h=>by
 obtain⟨H0,ρ,b,E,e,q⟩:=h
 obtain⟨ds,ed,e⟩:=bind_some e
 split at e
 ·rename_i hlen
  obtain⟨out,eo,e⟩:=bind_some e
  cases e
  rw[eval_ListComp]
  refine kb (use:=none) rfl hs O.clos O.kind O.names ?_
  refine j9 (hi pins s σ H (fun J H'=>Same H H'/\Yields X.K J ds H') I ⟨H0,ρ,ds,E,ed,fun J H' s' y=>⟨s',y⟩⟩) fun v s1 h1=>j9 h1 fun itv s2 h2=>?_
  obtain⟨it,fp,tn,J,H2,rfl,I2,T,st,hf,s12,Y⟩:=h2
  refine yL (RR:=fun acc C=>compPost (model X.prog X.w) X.A X.xe none (EP X pins σ Q) acc C) (ts:=ts) (xs:=xs) O hcalm Jk hif helt htk I2 ((E.grow s12).caps is ts.length) T st hf Y hlen eo ?_
  intro D C s' H' us hD I' fC ⟨m,hn⟩ s2' hD' r'
  refine⟨m,hn,fun h' sb=>⟨.ref D,H',?_,rfl,q _ _ (s12.trans s2') (fun a ea=>by cases ea;exact s12.free hD) ⟨D,us,rfl,hD',r'⟩⟩⟩
  obtain⟨f0,f1,f2,f3,f4,f5⟩:=fC
  exact I'.turned (t':=s'.toks) (fun b o hb e=>(sb.2 b hb).trans e) f0 f1 f3 f4 f5
 ·cases e⟩
theorem R4 (i:Nat) {y:Str} {py spos:Pos} (ts:LS_) (O:rH X scope cl xs is) (hcalm:X.calm=true) (hN:X.N.Nodup) (hi:QIC X tgt iter fi) (Jk:∀ C s₀ H₀ fp,Vv (yw X (xs++ts) scope cl C s₀ H₀ fp) tgt gt) (hif:∀ C s₀ H₀ fp,uY (yw X (xs++ts) scope cl C s₀ H₀ fp) ifs p) (helt:∀ C s₀ H₀ fp,QV (yw X (xs++ts) scope cl C s₀ H₀ fp) elt fe) (htk:Ur is.length (is.length+ts.length) gt) (hsw:swapsWith (.ListComp elt [⟨tgt,iter,ifs,0⟩] scope pos) (some (.Name y py)) spos.line X.env=pure true:=by with_unfolding_all rfl) (hy:X.N[i]?=some y:=by rfl) (hx:Loc X.env.scope y:=by first|exact JY rfl|exact Q3 rfl) (hf:X.fn y=true\/X.env.scope.names.lookup y=some .local:=by first|exact .inl rfl|exact .inr rfl) (hs:∀ x,foldedSetIterable iter X.env x=pure x:=by intro _;rfl):R3 X (.Assign [.Name y py] (.ListComp elt [⟨tgt,iter,ifs,0⟩] scope pos) spos) (fun ρ=>(dW fi gt p fe is ts.length ρ).bind fun b=>(Wh ρ i b).bind fun ρ'=>some (.nx ρ')):=⟨have hi:=hi.run;have Jk:=fun C s₀ H₀ fp=>(Jk C s₀ H₀ fp).run;have hif:=fun C s₀ H₀ fp=>(hif C s₀ H₀ fp).run;have helt:=fun C s₀ H₀ fp=>(helt C s₀ H₀ fp).run;fun pins s σ H D I h=>by
 obtain⟨H0,ρ,r,E,e,q⟩:=h
 obtain⟨b,eb,e⟩:=bind_some e
 obtain⟨ds,ed,eb⟩:=bind_some eb
 split at eb
 ·rename_i hlen
  obtain⟨out,eo,eb⟩:=bind_some eb
  cases eb
  cases e
  rw[exec_Assign_Name_used _ _ _ _ hsw]
  refine zb (kC (zb ?_))
  show wpAny _ X.A (do let _ <-comprehension (.ListComp elt [⟨tgt,iter,ifs,0⟩] scope pos) scope X.env _ (newList []) false (eval iter X.env) (some (assign (.Name y py) X.env))) _ _ s
  refine zb (qo (kb (use:=some (assign (.Name y py) X.env)) (Q:=fun _ s'=>SP X pins D .next s') rfl hs O.clos O.kind O.names ?_) (fun _ s' hq=>zg (zg hq)) fun _ _ e=>e)
  refine j9 (hi pins s σ H (fun J H'=>Same H H'/\Yields X.K J ds H') I ⟨H0,ρ,ds,E,ed,fun J H' s' y=>⟨s',y⟩⟩) fun v s1 h1=>j9 h1 fun itv s2 h2=>?_
  obtain⟨it,fp,tn,J,H2,rfl,I2,T,st,hf',s12,Y⟩:=h2
  refine yL (RR:=fun acc C=>compPost (model X.prog X.w) X.A X.xe (some (assign (.Name y py) X.env)) (fun _ s'=>SP X pins D .next s') acc C) (ts:=ts) (xs:=xs) O hcalm Jk hif helt htk I2 ((E.grow s12).caps is ts.length) T st hf' Y hlen eo ?_
  intro Da C s' H' us hD I' fC ⟨m,hn⟩ s2' hD' r'
  show wpAny _ X.A (assign (.Name y py) X.env (.ref Da)) _ _ s'
  obtain⟨f0,f1,f2,f3,f4,f5⟩:=fC
  obtain⟨oC,es',ep,hoC,hdC,hrest⟩:=id hn
  have I'':L2.Inv X (pins++[(C,oC)]) σ H' s':=I'.JX fun pp hp=>by
   rcases List.mem_append.mp hp with z|z
   ·exact I'.pin pp (ZI _ z)
   ·have:pp=(C,oC):=by simpa using z
    subst this
    exact⟨hoC,f0,f1,f2,fun v z=>by rw[hdC] at z;cases z⟩
  refine j9 (L2.J0 hN hy hx hf (pins++[(C,oC)]) s' σ H' (.ref Da) (.ref Da) (fun σ' H''=>σ'=σ.set i (some (.ref Da))/\H''=H') I'' rfl ⟨rfl,rfl⟩) fun _ s'' ⟨σ',H'',J',e1,e2⟩=>?_
  subst e1 e2
  have hC':=(J'.pin (C,oC) (by simp)).1
  refine⟨m,⟨oC,es',ep,hC',hdC,hrest⟩,fun h' sb=>?_⟩
  refine⟨σ.set i (some (.ref Da)),H'',J'.uT.turned (t':=s''.toks) (fun b o hb e=>(sb.2 b hb).trans e) f0 f1 f3 f4 f5,q _ _ ?_⟩
  exact E.set (s12.trans s2') (b:=.o out) ⟨Da,us,rfl,hD',r'⟩ (.inl rfl) fun a ea=>by cases ea;exact s12.free hD
 ·cases eb⟩
def lend:Bx->Bx
 |.o ds=>.l ds
 |.m ds _=>.n ds
 |b=>b
def isO:Bx->Bool
 |.o _=>true
 |.m _ _=>true
 |_=>false
def oZ (K:FG_) (n:Nat) (F:List Bx->Option Bx):Sp:=fun vs H Q _=>vs.length=n/\∃ bs r,qd K H bs vs/\bs.all (fun b=>!isO b)=true/\F bs=some r/\∀ v H',Same H H'->Nw H r v->bw K H' r v->Q v H'
def iR (n:Nat) (g:Ev->Option Out):List Bx->Option Bx:=fun bs=>(g (bs.map some++List.replicate (n - bs.length) none)).bind fun r=>match r with
 |.rt b=>some b
 |.nx _=>some (.z .non)
 |_=>none
theorem bf.start {K:FG_} {H:Hp} {N:LS_} {bs:List Bx} {vs:List V} (r:qd K H bs vs) (ho:bs.all (fun b=>!isO b)=true):bf K H H (L2.start N vs) (bs.map some++List.replicate (N.length - bs.length) none):=by
 have hl:bs.length=vs.length:=Paired.length r
 have get:∀ (i:Nat) b,(bs.map some++List.replicate (N.length - bs.length) none)[i]?=some (some b)->bs[i]?=some b:=fun i b e=>by
  by_cases hi:i < bs.length
  ·rw[ZH (by simpa using hi),zS] at e
   cases q:bs[i]? with
   |none=>rw[q] at e;cases e
   |some b'=>rw[q] at e;simpa using e
  ·rw[qA (by simp;omega),QQ] at e
   split at e<;>cases e
 have YX:∀ (i:Nat) c,(bs.map some++List.replicate (N.length - bs.length) none)[i]?=some (some c)->rY c=true->False:=fun i c e ec=>by
  have:=List.all_eq_true.mp ho _ (QE (get i _ e))
  cases c with
  |o ds=>cases this
  |m ds _=>cases this
  |_=>cases ec
 refine⟨?_,fun i b e=>?_,fun i j c a b e ec=>(YX i c e ec).elim,Same.refl H,fun i c a e ec=>(YX i c e ec).elim⟩
 ·unfold L2.start
  simp[hl]
 ·have e':=get i b e
  have hi:i < bs.length:=(List.getElem?_eq_some_iff.mp e').1
  have:∀ {bs:List Bx} {vs:List V} {i:Nat} {b:Bx},Paired (bw K H) bs vs->bs[i]?=some b->∃ v,vs[i]?=some v/\bw K H b v:=by
   intro bs vs i b r
   induction r generalizing i with
   |nil=>intro e;simp at e
   |cons p t ih=>
    intro e
    cases i with
    |zero=>simp at e;subst e;exact⟨_,rfl,p⟩
    |succ i=>obtain⟨v,e1,e2⟩:=ih (i:=i) (by simpa using e);exact⟨v,by simpa using e1,e2⟩
  obtain⟨v,e1,e2⟩:=this r e'
  refine⟨v,?_,e2⟩
  unfold L2.start
  rw[ZH (by simp;omega),zS,e1]
  rfl
end
section
variable {P:Program} {w:World} {K:FG_} {mg:Str->Option Value} {base:Heap}
theorem ahp {x qual:Str} {st:Stmt} {f:Addr} {fd:FuncData} {N ps:LS_} {k:Nat} {g:Ev->Option Out} (F:yG K x qual st f fd) (S:bU N ps (aH st))
  (hbody:∀ (cdv:Value) (A:Around) (outer:List Env) (s:Shared) (H:Hp) (E:XK),mV k (A.deeper (envOfC qual (aH st) s.heap.objs.size f cdv))->T3 (Hh mj P w K mg base N qual (aH st) f cdv A outer s H E).Vs (bL st) g) :
  cF P w K mg base mj (k+1) f fd ps (oZ K ps.length (iR N.length g)):=by
 refine F.ok S (fun vs H Q E h=>h.1) fun cdv A outer s H vs Q E hr h=>?_
 obtain⟨hl,bs,r,rb,ho,e,q⟩:=h
 refine⟨_,hbody cdv A outer s H E hr,?_⟩
 obtain⟨r',er,e⟩:=bind_some e
 refine⟨H,_,r',bf.start rb ho,er,?_⟩
 cases r' with
 |rt b=>cases e;exact fun v H' s' n' r'=>q v H' s' n' r'
 |nx ρ=>cases e;exact fun σ H' E'=>q _ H' E'.base trivial (by unfold bw Rep;rfl)
 |bk ρ=>cases e
 |ct ρ=>cases e
end
section
variable {X:Cx} {k:Nat} {f:Addr} {fd:FuncData} {ps:LS_} {F:List Bx->Option Bx} {x:Str} {p pos:Pos} {e:Expr} {es:List Expr} {fs:Ev->Option (List Bx)} {n:Nat}
theorem MJ {K:FG_} {H:Hp}:∀ {bs:List Bx} {vs:List V},qd K H bs vs->qd K H (bs.map lend) vs
 |_,_,.nil=>.nil
 |b::bs,_,.cons h t=>by
  refine .cons ?_ (MJ t)
  cases b with
  |z d=>exact h
  |l ds=>exact h
  |o ds=>obtain⟨a,vs,e,q,r⟩:=h;exact⟨a,vs,e,.inl q,r⟩
  |n ds=>exact h
  |m ds _=>obtain⟨a,vs,e,q,r⟩:=h;exact⟨a,vs,e,.inl q,r.1⟩
theorem R5:∀ bs:List Bx,(bs.map lend).all (fun b=>!isO b)=true
 |[]=>rfl
 |b::bs=>by
  rw[zl,ko,R5 bs]
  cases b<;>rfl
def cZ (n:Nat) (F:List Bx->Option Bx) (fs:Ev->Option (List Bx)):Ev->Option Bx:=fun ρ=>(fs ρ).bind fun bs=>if bs.length=n then F (bs.map lend) else none
theorem bJ (G:cF X.prog X.w X.K X.mg X.base mj k f fd ps (oZ X.K n F)) (hr:mV k X.A) (hg:Gl X x) (hm:X.mg x=some (.ref f)) (hk:PySem.W.keepIn X.K (.ref f)=true) (hb:Binds X.K fd ps []) (ha:Vt X (e::es) fs) (hdb:(x==("__debug__" : Str))=false:=by decide) (he:starEach (e::es) X.env=(false,eval e X.env)::starEach es X.env:=by rfl) (hpl:(backTo pos (starEach es X.env)).any (·.1)=false:=by rfl):QV X (.Call (.Name x p) (e::es) [] pos) (cZ n F fs):=⟨have ha:=ha.run;J7 (RM G hr hg hm hk hb .nil (abq) ha hdb he hpl) fun σ H Q h=>by
 obtain⟨H0,ρ,r,E,e,q⟩:=h
 obtain⟨bs,eb,e⟩:=bind_some e
 refine⟨H0,ρ,bs,E,eb,fun vs H1 s1 r1=>?_⟩
 split at e
 ·rename_i hn
  rw[km]
  exact⟨by rw[<-Paired.length r1];exact hn,_,r,MJ r1,R5 bs,e,fun v H2 s2 n2 r2=>q v H2 (s1.trans s2) (n2.old s1) r2⟩
 ·cases e⟩
end
end P1
end
section
namespace P1
open PySem PySem.Spec PyProof.Rows L2 SeqAt
mutual
def wR:Dt->Nat
 |.tup xs=>uZ xs+1
 |.lst xs=>uZ xs+1
 |_=>1
def uZ:List Dt->Nat
 |[]=>0
 |d::ds=>max (wR d) (uZ ds)
end
mutual
def yM:Dt->Dt->Option Bool
 |.non,.non=>some true
 |.non,.bl _=>some false|.non,.int _=>some false|.non,.str _=>some false|.non,.tup _=>some false|.non,.lst _=>some false
 |.bl a,.bl b=>some (a==b)
 |.bl a,.int b=>some ((if a then 1 else 0)==b)
 |.bl _,.non=>some false|.bl _,.str _=>some false|.bl _,.tup _=>some false|.bl _,.lst _=>some false
 |.int a,.int b=>some (a==b)
 |.int a,.bl b=>some (a==(if b then 1 else 0))
 |.int _,.non=>some false|.int _,.str _=>some false|.int _,.tup _=>some false|.int _,.lst _=>some false
 |.str a,.str b=>some (a==b)
 |.str _,.non=>some false|.str _,.bl _=>some false|.str _,.int _=>some false|.str _,.tup _=>some false|.str _,.lst _=>some false
 |.tup xs,.tup ys=>mZ xs ys
 |.tup _,.non=>some false|.tup _,.bl _=>some false|.tup _,.int _=>some false|.tup _,.str _=>some false|.tup _,.lst _=>some false
 |.lst xs,.lst ys=>mZ xs ys
 |.lst _,.non=>some false|.lst _,.bl _=>some false|.lst _,.int _=>some false|.lst _,.str _=>some false|.lst _,.tup _=>some false
 |_,_=>none
def mZ:List Dt->List Dt->Option Bool
 |[],[]=>some true
 |[],_::_=>some false
 |_::_,[]=>some false
 |x::xs,y::ys=>match yM x y with
  |some b=>match mZ xs ys with
   |some c=>some (b&&c)
   |none=>none
  |none=>none
end
mutual
theorem MK:∀ {d:Dt} {k:Bool},yM d d=some k->k=true
 |.non,_,e=>by cases e;rfl
 |.bl b,_,e=>by cases e;simp
 |.int b,_,e=>by cases e;simp
 |.str b,_,e=>by cases e;simp
 |.tup xs,_,e=>Ad (ds:=xs) e
 |.lst xs,_,e=>Ad (ds:=xs) e
 |.emp,_,e=>by cases e
theorem Ad:∀ {ds:List Dt} {k:Bool},mZ ds ds=some k->k=true
 |[],_,e=>by simp only[mZ] at e;cases e;rfl
 |d::ds,_,e=>by
  simp only[mZ] at e
  cases h:yM d d with
  |none=>rw[h] at e;cases e
  |some b=>
   rw[h] at e
   simp only at e
   cases h2:mZ ds ds with
   |none=>rw[h2] at e;cases e
   |some c=>
    rw[h2] at e
    cases e
    rw[MK h,Ad h2]
    rfl
end
theorem CN (xs ys:List Dt):yM (.tup xs) (.tup ys)=mZ xs ys:=rfl
theorem u0:∀ {xs ys:List Dt} {k:Bool},mZ xs ys=some k->∃ e:Nat->Bool,(∀ (j:Nat) x y,xs[j]?=some x->ys[j]?=some y->yM x y=some (e j))/\k=((List.range (min xs.length ys.length)).all e&&xs.length==ys.length)
 |[],[],k,h=>by simp only[mZ] at h;cases h;exact⟨fun _=>true,fun j x y e=>by simp at e,by simp⟩
 |[],y::ys,k,h=>by simp only[mZ] at h;cases h;exact⟨fun _=>true,fun j x y e=>by simp at e,by simp⟩
 |x::xs,[],k,h=>by simp only[mZ] at h;cases h;exact⟨fun _=>true,fun j x y _ e=>by simp at e,by simp⟩
 |x::xs,y::ys,k,h=>by
  simp only[mZ] at h
  cases h1:yM x y with
  |none=>rw[h1] at h;cases h
  |some b=>
   rw[h1] at h
   simp only at h
   cases h2:mZ xs ys with
   |none=>rw[h2] at h;cases h
   |some c=>
    rw[h2] at h
    cases h
    obtain⟨e,g,hc⟩:=u0 h2
    refine⟨fun j=>match j with|0=>b|j+1=>e j,fun j u v eu ev=>?_,?_⟩
    ·cases j with
     |zero=>simp at eu ev;subst eu ev;exact h1
     |succ j=>exact g j u v (by simpa using eu) (by simpa using ev)
    ·have:min (x::xs).length (y::ys).length=min xs.length ys.length+1:=by simp only[qh];omega
     rw[this,List.range_succ_eq_map,ko,List.all_map,hc]
     have hb:((x::xs).length==(y::ys).length)=(xs.length==ys.length):=by
      rw[KI];simp
     rw[hb,Bool.and_assoc]
     rfl
theorem u5:∀ {ds:List Dt} {j:Nat} {d:Dt},ds[j]?=some d->wR d<=uZ ds
 |[],_,_,e=>by simp at e
 |d::ds,0,_,e=>by simp at e;subst e;simp only[uZ];exact Nat.le_max_left _ _
 |d::ds,j+1,_,e=>by
  simp only[uZ]
  exact Zl (u5 (ds:=ds) (j:=j) (by simpa using e)) (Nat.le_max_right _ _)
section
variable {X:Cx} {pins:List (Addr×Obj)} {σ:L2.St} {H:Hp} {s:Shared}
theorem CP (I:L2.Inv X pins σ H s) {a:Addr} {vs:List V} (h:xO X.K H a vs):∃ ob,s.heap.get? a=some ob/\ob.cls=.type "tuple" := by
 obtain⟨its,_,⟨ob,e,c,_⟩,_⟩:=I.tuple h
 exact⟨ob,e,c⟩
theorem CQ (I:L2.Inv X pins σ H s) {a:Addr} {vs:List V} (h:rE X.K H a vs):∃ ob,s.heap.get? a=some ob/\ob.cls=.type "list" := by
 obtain⟨its,_,⟨ob,n,e,c,_⟩,_⟩:=I.list h
 exact⟨ob,e,c⟩
theorem yN (I:L2.Inv X pins σ H s) {a:Addr} {o:Obj} (h:H a=some (.n8 o (.dK []))):∃ ob,s.heap.get? a=some ob/\ob.cls=.type "dict" := by
 obtain⟨e,_,_,vs,_,ob,es,ep,e2,ex,_⟩:=I.hok a _ h
 exact⟨ob,e2,ex.1⟩
theorem Ae {a:Addr} {n m:String} (h:∃ ob,s.heap.get? a=some ob/\ob.cls=.type n) (q:∃ ob,s.heap.get? a=some ob/\ob.cls=.type m) (hn:n≠m):False:=by
 obtain⟨o,e,c⟩:=h
 obtain⟨o',e',c'⟩:=q
 rw[e] at e';cases e'
 rw[c] at c'
 exact hn (by injection c')
mutual
theorem Rep.inj (I:L2.Inv X pins σ H s):∀ {d e:Dt} {v:V},Rep X.K H d v->Rep X.K H e v->d=e
 |.non,e,v,h,q=>by
  simp only[Rep] at h;subst h
  cases e<;>simp only[Rep] at q<;>first|rfl|(cases q;done)|(obtain⟨a,b,z,_⟩:=q;cases z;done)|(obtain⟨z,_⟩:=q;cases z;done)
 |.bl _,e,v,h,q=>by
  simp only[Rep] at h;subst h
  cases e<;>simp only[Rep] at q<;>first|(cases q;rfl)|(cases q;done)|(obtain⟨a,b,z,_⟩:=q;cases z;done)|(obtain⟨z,_⟩:=q;cases z;done)
 |.int _,e,v,h,q=>by
  simp only[Rep] at h;subst h
  cases e<;>simp only[Rep] at q<;>first|(cases q;rfl)|(cases q;done)|(obtain⟨a,b,z,_⟩:=q;cases z;done)|(obtain⟨z,_⟩:=q;cases z;done)
 |.str x,e,v,h,q=>by
  simp only[Rep] at h
  have hv:v=.str x:=h.1
  subst hv
  cases e with
  |str y=>
   simp only[Rep] at q
   have z:V.str x=V.str y:=q.1
   injection z with z
   rw[z]
  |tup es=>simp only[Rep] at q;obtain⟨a,b,z,_⟩:=q;cases z
  |lst es=>simp only[Rep] at q;obtain⟨a,b,z,_⟩:=q;cases z
  |emp=>simp only[Rep] at q;obtain⟨a,b,z,_⟩:=q;cases z
  |_=>simp only[Rep] at q;cases q
 |.tup ds,e,v,h,q=>by
  simp only[Rep] at h
  obtain⟨a,vs,rfl,sq,r⟩:=h
  cases e with
  |tup es=>
   simp only[Rep] at q
   obtain⟨b,us,z,Qm,r'⟩:=q
   cases z
   have:=I.IK sq Qm
   subst this
   rw[aJ.inj I r r']
  |lst es=>
   simp only[Rep] at q
   obtain⟨b,us,z,Qm,r'⟩:=q
   cases z
   exact (Ae (CP I sq) (CQ I Qm.sq) (by decide)).elim
  |emp=>
   simp only[Rep] at q
   obtain⟨b,o,z,Qm⟩:=q
   cases z
   exact (Ae (CP I sq) (yN I Qm) (by decide)).elim
  |str x=>simp only[Rep] at q;have z:=q.1;cases z
  |_=>simp only[Rep] at q;cases q
 |.lst ds,e,v,h,q=>by
  simp only[Rep] at h
  obtain⟨a,vs,rfl,sq,r⟩:=h
  cases e with
  |lst es=>
   simp only[Rep] at q
   obtain⟨b,us,z,Qm,r'⟩:=q
   cases z
   have:=I.Dq sq.sq Qm.sq
   subst this
   rw[aJ.inj I r r']
  |tup es=>
   simp only[Rep] at q
   obtain⟨b,us,z,Qm,r'⟩:=q
   cases z
   exact (Ae (CQ I sq.sq) (CP I Qm) (by decide)).elim
  |emp=>
   simp only[Rep] at q
   obtain⟨b,o,z,Qm⟩:=q
   cases z
   exact (Ae (CQ I sq.sq) (yN I Qm) (by decide)).elim
  |str x=>simp only[Rep] at q;have z:=q.1;cases z
  |_=>simp only[Rep] at q;cases q
 |.emp,e,v,h,q=>by
  simp only[Rep] at h
  obtain⟨a,o,rfl,sq⟩:=h
  cases e with
  |emp=>rfl
  |tup es=>
   simp only[Rep] at q
   obtain⟨b,us,z,Qm,r'⟩:=q
   cases z
   exact (Ae (yN I sq) (CP I Qm) (by decide)).elim
  |lst es=>
   simp only[Rep] at q
   obtain⟨b,us,z,Qm,r'⟩:=q
   cases z
   exact (Ae (yN I sq) (CQ I Qm.sq) (by decide)).elim
  |str x=>simp only[Rep] at q;have z:=q.1;cases z
  |_=>simp only[Rep] at q;cases q
theorem aJ.inj (I:L2.Inv X pins σ H s):∀ {ds es:List Dt} {vs:List V},aJ X.K H ds vs->aJ X.K H es vs->ds=es
 |[],es,vs,h,q=>by
  simp only[aJ] at h;subst h
  cases es with
  |nil=>rfl
  |cons e es=>simp only[aJ] at q;obtain⟨_,_,z,_⟩:=q;cases z
 |d::ds,es,vs,h,q=>by
  simp only[aJ] at h
  obtain⟨v,r,rfl,h1,h2⟩:=h
  cases es with
  |nil=>simp only[aJ] at q;cases q
  |cons e es=>
   simp only[aJ] at q
   obtain⟨v',r',z,q1,q2⟩:=q
   cases z
   rw[Rep.inj I h1 q1,aJ.inj I h2 q2]
end
theorem aby (I:L2.Inv X pins σ H s):∀ (n:Nat) {A:Around} {d e:Dt} {x y:V} {u v:Value} {k:Bool},min (wR d) (wR e)<=n->A.units+n < cLine->Rep X.K H d x->Rep X.K H e y->RelV x u->RelV y v->yM d e=some k->EqAt A s u v k:=by
 intro n
 induction n with
 |zero=>
  intro A d e x y u v k hn
  have h1:1<=wR d:=by cases d<;>simp only[wR]<;>omega
  have h2:1<=wR e:=by cases e<;>simp only[wR]<;>omega
  omega
 |succ n ih=>
  intro A d e x y u v k hn hA rd re ru rv ek
  have hu:A.units < cLine:=by omega
  by_cases hxy:u=v/\∃ a,u=.ref a
  ·obtain⟨rfl,a,rfl⟩:=hxy
   have hx:x=.ref a:=by have:=ru.abs;simpa [ace] using this.symm
   have hy:y=.ref a:=by have:=rv.abs;simpa [ace] using this.symm
   subst hx hy
   have:=Rep.inj I rd re
   subst this
   rw[MK ek]
   exact EqAt.same _
  ·have items:∀ {ds es:List Dt} {vs us:List V} {its its2:List Value} {f:Nat->Bool},min (uZ ds) (uZ es)<=n->aJ X.K H ds vs->aJ X.K H es us->Vals vs its->Vals us its2->(∀ (j:Nat) x y,ds[j]?=some x->es[j]?=some y->yM x y=some (f j)) →
     ∀ j (h1:j < its.toArray.size) (h2:j < its2.toArray.size),EqAt A.in1 s its.toArray[j] its2.toArray[j] (f j):=by
    intro ds es vs us its its2 f hm r1 r2 w1 w2 hf j h1 h2
    have l1:=w1.length
    have l2:=w2.length
    have l3:=r1.length
    have l4:=r2.length
    have j1:j < its.length:=by simpa using h1
    have j2:j < its2.length:=by simpa using h2
    have d1:ds[j]?=some ds[j]:=by simp
    have d2:es[j]?=some es[j]:=by simp
    obtain⟨a,ea,ra⟩:=r1.get d1
    obtain⟨b,eb,rb⟩:=r2.get d2
    obtain⟨p,ep,rp⟩:=w1.get ea
    obtain⟨q,eq,rq⟩:=w2.get eb
    have e1:its.toArray[j]=p:=by simpa [j1] using ep
    have e2:its2.toArray[j]=q:=by simpa [j2] using eq
    rw[e1,e2]
    have m1:=u5 d1
    have m2:=u5 d2
    exact ih (by omega) (by rw[units_in1];omega) ra rb rp rq (hf j _ _ d1 d2)
   cases d with
   |non=>
    cases rd;cases ru
    cases e with
    |non=>cases re;cases rv;cases ek;exact EqAt.same _
    |bl b=>cases re;cases rv;cases ek;exact EqAt.none_bool b
    |int b=>cases re;obtain⟨t,rfl⟩:=rv;cases ek;exact EqAt.none_int b t
    |str b=>obtain⟨rfl,_⟩:=re;obtain⟨t,rfl⟩:=rv;cases ek;exact EqAt.none_str b t
    |tup es=>obtain⟨b,us,rfl,sq,_⟩:=re;cases rv;cases ek;obtain⟨_,_,p,_⟩:=I.tuple sq;exact EqAt.none_tuple p hu
    |lst es=>obtain⟨b,us,rfl,sq,_⟩:=re;cases rv;cases ek;obtain⟨_,_,p,_⟩:=I.list sq.sq;exact EqAt.none_list p.isList hu
    |emp=>cases ek
   |bl a=>
    cases rd;cases ru
    cases e with
    |non=>cases re;cases rv;cases ek;exact EqAt.bool_none a
    |bl b=>cases re;cases rv;cases ek;exact EqAt.bool_bool a b
    |int b=>cases re;obtain⟨t,rfl⟩:=rv;cases ek;exact EqAt.bool_int a b t
    |str b=>obtain⟨rfl,_⟩:=re;obtain⟨t,rfl⟩:=rv;cases ek;exact EqAt.bool_str a b t
    |tup es=>obtain⟨b,us,rfl,sq,_⟩:=re;cases rv;cases ek;obtain⟨_,_,p,_⟩:=I.tuple sq;exact EqAt.bool_tuple a p hu
    |lst es=>obtain⟨b,us,rfl,sq,_⟩:=re;cases rv;cases ek;obtain⟨_,_,p,_⟩:=I.list sq.sq;exact EqAt.bool_list a p.isList hu
    |emp=>cases ek
   |int a=>
    cases rd;obtain⟨t',rfl⟩:=ru
    cases e with
    |non=>cases re;cases rv;cases ek;exact EqAt.int_none a t'
    |bl b=>cases re;cases rv;cases ek;exact EqAt.int_bool a t' b
    |int b=>cases re;obtain⟨t,rfl⟩:=rv;cases ek;exact EqAt.int_int a t' b t
    |str b=>obtain⟨rfl,_⟩:=re;obtain⟨t,rfl⟩:=rv;cases ek;exact EqAt.int_str a t' b t
    |tup es=>obtain⟨b,us,rfl,sq,_⟩:=re;cases rv;cases ek;obtain⟨_,_,p,_⟩:=I.tuple sq;exact EqAt.int_tuple a t' p hu
    |lst es=>obtain⟨b,us,rfl,sq,_⟩:=re;cases rv;cases ek;obtain⟨_,_,p,_⟩:=I.list sq.sq;exact EqAt.int_list a t' p.isList hu
    |emp=>cases ek
   |str a=>
    obtain⟨rfl,_⟩:=rd;obtain⟨t',rfl⟩:=ru
    cases e with
    |non=>cases re;cases rv;cases ek;exact EqAt.str_none a t'
    |bl b=>cases re;cases rv;cases ek;exact EqAt.str_bool a t' b
    |int b=>cases re;obtain⟨t,rfl⟩:=rv;cases ek;exact EqAt.str_int a t' b t
    |str b=>obtain⟨rfl,_⟩:=re;obtain⟨t,rfl⟩:=rv;cases ek;exact EqAt.str_str a t' b t
    |tup es=>obtain⟨b,us,rfl,sq,_⟩:=re;cases rv;cases ek;obtain⟨_,_,p,_⟩:=I.tuple sq;exact EqAt.str_tuple a t' p hu
    |lst es=>obtain⟨b,us,rfl,sq,_⟩:=re;cases rv;cases ek;obtain⟨_,_,p,_⟩:=I.list sq.sq;exact EqAt.str_list a t' p.isList hu
    |emp=>cases ek
   |tup ds=>
    obtain⟨a,vs,rfl,sa,ra⟩:=rd;cases ru
    obtain⟨its,wv,p,_⟩:=I.tuple sa
    cases e with
    |non=>cases re;cases rv;cases ek;exact EqAt.tuple_none p hu
    |bl b=>cases re;cases rv;cases ek;exact EqAt.tuple_bool b p hu
    |int b=>cases re;obtain⟨t,rfl⟩:=rv;cases ek;exact EqAt.tuple_int b t p hu
    |str b=>obtain⟨rfl,_⟩:=re;obtain⟨t,rfl⟩:=rv;cases ek;exact EqAt.tuple_str b t p hu
    |lst es=>obtain⟨b,us,rfl,sq,_⟩:=re;cases rv;cases ek;obtain⟨_,_,p2,_⟩:=I.list sq.sq;exact EqAt.tuple_list p p2.isList hu
    |tup es=>
     obtain⟨b,us,rfl,sb,rb⟩:=re;cases rv
     obtain⟨its2,wu,p2,_⟩:=I.tuple sb
     change mZ _ _=some _ at ek
     obtain⟨f,hf,rfl⟩:=u0 ek
     have hne:a≠b:=fun z=>hxy ⟨by rw[z],a,rfl⟩
     have z:=EqAt.of_refs hne (RcAt.tuples (A:=A) (e:=f) p p2 hu (items (by simp only[wR] at hn;omega) ra rb wv wu hf))
     have q1:its.toArray.size=ds.length:=by rw[zC,<-wv.length,ra.length]
     have q2:its2.toArray.size=es.length:=by rw[zC,<-wu.length,rb.length]
     rw[q1,q2] at z
     exact z
    |emp=>cases ek
   |lst ds=>
    obtain⟨a,vs,rfl,sa,ra⟩:=rd;cases ru
    obtain⟨its,wv,p,_⟩:=I.list sa.sq
    cases e with
    |non=>cases re;cases rv;cases ek;exact EqAt.list_none p.isList hu
    |bl b=>cases re;cases rv;cases ek;exact EqAt.list_bool b p.isList hu
    |int b=>cases re;obtain⟨t,rfl⟩:=rv;cases ek;exact EqAt.list_int b t p.isList hu
    |str b=>obtain⟨rfl,_⟩:=re;obtain⟨t,rfl⟩:=rv;cases ek;exact EqAt.list_str b t p.isList hu
    |tup es=>obtain⟨b,us,rfl,sq,_⟩:=re;cases rv;cases ek;obtain⟨_,_,p2,_⟩:=I.tuple sq;exact EqAt.list_tuple p.isList p2 hu
    |lst es=>
     obtain⟨b,us,rfl,sb,rb⟩:=re;cases rv
     obtain⟨its2,wu,p2,_⟩:=I.list sb.sq
     change mZ _ _=some _ at ek
     obtain⟨f,hf,rfl⟩:=u0 ek
     have hne:a≠b:=fun z=>hxy ⟨by rw[z],a,rfl⟩
     have q1:its.toArray.size=ds.length:=by rw[zC,<-wv.length,ra.length]
     have q2:its2.toArray.size=es.length:=by rw[zC,<-wu.length,rb.length]
     by_cases hsz:its.toArray.size=its2.toArray.size
     ·have z:=EqAt.of_refs hne (RcAt.lists (A:=A) (e:=f) p.isList p2.isList hsz hu (items (by simp only[wR] at hn;omega) ra rb wv wu hf))
      have hl:ds.length=es.length:=by omega
      rw[q1] at z
      rw[hl,Nat.min_self,beq_self_eq_true,Kx,<-hl]
      exact z
     ·have hl:(ds.length==es.length)=false:=by rw[beq_eq_false_iff_ne];omega
      rw[hl,Bool.and_false]
      exact EqAt.of_refs hne (RcAt.lists_lengths p.isList p2.isList (by simpa using hsz) hu)
    |emp=>cases ek
   |emp=>cases e<;>cases ek
theorem MN (I:L2.Inv X pins σ H s) {n:Nat} {A:Around} {ds es:List Dt} {vs us:List V} {its its2:List Value} {f:Nat->Bool} (hm:min (uZ ds) (uZ es)<=n) (hA:A.units+n+1 < cLine) (r1:aJ X.K H ds vs) (r2:aJ X.K H es us) (w1:Vals vs its) (w2:Vals us its2)
  (hf:∀ (j:Nat) x y,ds[j]?=some x->es[j]?=some y->yM x y=some (f j)):∀ j (h1:j < its.toArray.size) (h2:j < its2.toArray.size),EqAt A.in1 s its.toArray[j] its2.toArray[j] (f j):=by
 intro j h1 h2
 have l1:=w1.length
 have l2:=w2.length
 have l3:=r1.length
 have l4:=r2.length
 have j1:j < its.length:=by simpa using h1
 have j2:j < its2.length:=by simpa using h2
 have d1:ds[j]?=some (ds[j]'(by omega)):=by simp
 have d2:es[j]?=some (es[j]'(by omega)):=by simp
 obtain⟨a,ea,ra⟩:=r1.get d1
 obtain⟨b,eb,rb⟩:=r2.get d2
 obtain⟨p,ep,rp⟩:=w1.get ea
 obtain⟨q,eq,rq⟩:=w2.get eb
 have e1:its.toArray[j]=p:=by simpa [j1] using ep
 have e2:its2.toArray[j]=q:=by simpa [j2] using eq
 rw[e1,e2]
 have m1:=u5 d1
 have m2:=u5 d2
 exact aby I n (by omega) (by rw[units_in1];omega) ra rb rp rq (hf j _ _ d1 d2)
end
def DQ (K:FG_) (H:Hp):Dt->V->Prop
 |.lst ds,v=>∃ a vs,v=.ref a/\rE K H a vs/\aJ K H ds vs
 |d,v=>Rep K H d v
def sE:Bx->Bool
 |.n _=>true
 |.m _ _=>true
 |_=>false
def toD:Bx->Dt
 |.z d=>d
 |.l ds=>.lst ds
 |.o ds=>.lst ds
 |.n _=>.non
 |.m _ _=>.non
theorem bw.toD {K:FG_} {H:Hp} {b:Bx} {v:V} (h:bw K H b v) (hm:sE b=false):DQ K H (toD b) v:=by
 cases b with
 |z d=>
  cases d with
  |lst ds=>exact h.Ji rfl
  |_=>exact h
 |l ds=>exact h.Ji rfl
 |o ds=>exact h.Ji rfl
 |n _=>cases hm
 |m _ _=>cases hm
section
variable {X:Cx} {pins:List (Addr×Obj)} {σ:L2.St} {H:Hp} {s:Shared}
theorem R6 (I:L2.Inv X pins σ H s) {d e:Dt} {x y:V} {u v:Value} {k:Bool} (hm:min (wR d) (wR e)<=100) (hA:X.A.units+100 < cLine) (rd:DQ X.K H d x) (re:DQ X.K H e y) (ru:RelV x u) (rv:RelV y v) (ek:yM d e=some k):RcAt X.A s u v k/\RcNeAt X.A s u v (!k):=by
 have hu:X.A.units < cLine:=by omega
 cases d with
 |non=>
  cases rd;cases ru
  cases e with
  |non=>
   cases re;cases rv
   cases ek
   exact⟨.none_none,.none_none⟩
  |bl x2=>
   cases re;cases rv
   cases ek
   exact⟨.none_bool x2,.none_bool x2⟩
  |int x2=>
   cases re;obtain⟨t2,rfl⟩:=rv
   cases ek
   exact⟨.none_int x2 t2,.none_int x2 t2⟩
  |str x2=>
   obtain⟨rfl,_⟩:=re;obtain⟨t2,rfl⟩:=rv
   cases ek
   exact⟨.none_str x2 t2,.none_str x2 t2⟩
  |tup x2=>
   obtain⟨a2,vs2,rfl,DR,Qn⟩:=re;cases rv;obtain⟨its2,w2,p2,_⟩:=I.tuple DR
   cases ek
   exact⟨.none_tuple p2 hu,.none_tuple p2 hu⟩
  |lst x2=>
   obtain⟨a2,vs2,rfl,DR,Qn⟩:=re;cases rv;obtain⟨its2,w2,p2,_⟩:=I.list DR
   cases ek
   exact⟨.none_list p2.isList hu,.none_list p2.isList hu⟩
  |emp=>cases ek
 |bl x1=>
  cases rd;cases ru
  cases e with
  |non=>
   cases re;cases rv
   cases ek
   exact⟨.bool_none x1,.bool_none x1⟩
  |bl x2=>
   cases re;cases rv
   cases ek
   exact⟨.bool_bool x1 x2,.bool_bool x1 x2⟩
  |int x2=>
   cases re;obtain⟨t2,rfl⟩:=rv
   cases ek
   exact⟨.bool_int x1 x2 t2,.bool_int x1 x2 t2⟩
  |str x2=>
   obtain⟨rfl,_⟩:=re;obtain⟨t2,rfl⟩:=rv
   cases ek
   exact⟨.bool_str x1 x2 t2,.bool_str x1 x2 t2⟩
  |tup x2=>
   obtain⟨a2,vs2,rfl,DR,Qn⟩:=re;cases rv;obtain⟨its2,w2,p2,_⟩:=I.tuple DR
   cases ek
   exact⟨.bool_tuple x1 p2 hu,.bool_tuple x1 p2 hu⟩
  |lst x2=>
   obtain⟨a2,vs2,rfl,DR,Qn⟩:=re;cases rv;obtain⟨its2,w2,p2,_⟩:=I.list DR
   cases ek
   exact⟨.bool_list x1 p2.isList hu,.bool_list x1 p2.isList hu⟩
  |emp=>cases ek
 |int x1=>
  cases rd;obtain⟨t1,rfl⟩:=ru
  cases e with
  |non=>
   cases re;cases rv
   cases ek
   exact⟨.int_none x1 t1,.int_none x1 t1⟩
  |bl x2=>
   cases re;cases rv
   cases ek
   exact⟨.int_bool x1 t1 x2,.int_bool x1 t1 x2⟩
  |int x2=>
   cases re;obtain⟨t2,rfl⟩:=rv
   cases ek
   exact⟨.int_int x1 t1 x2 t2,.int_int x1 t1 x2 t2⟩
  |str x2=>
   obtain⟨rfl,_⟩:=re;obtain⟨t2,rfl⟩:=rv
   cases ek
   exact⟨.int_str x1 t1 x2 t2,.int_str x1 t1 x2 t2⟩
  |tup x2=>
   obtain⟨a2,vs2,rfl,DR,Qn⟩:=re;cases rv;obtain⟨its2,w2,p2,_⟩:=I.tuple DR
   cases ek
   exact⟨.int_tuple x1 t1 p2 hu,.int_tuple x1 t1 p2 hu⟩
  |lst x2=>
   obtain⟨a2,vs2,rfl,DR,Qn⟩:=re;cases rv;obtain⟨its2,w2,p2,_⟩:=I.list DR
   cases ek
   exact⟨.int_list x1 t1 p2.isList hu,.int_list x1 t1 p2.isList hu⟩
  |emp=>cases ek
 |str x1=>
  obtain⟨rfl,_⟩:=rd;obtain⟨t1,rfl⟩:=ru
  cases e with
  |non=>
   cases re;cases rv
   cases ek
   exact⟨.str_none x1 t1,.str_none x1 t1⟩
  |bl x2=>
   cases re;cases rv
   cases ek
   exact⟨.str_bool x1 t1 x2,.str_bool x1 t1 x2⟩
  |int x2=>
   cases re;obtain⟨t2,rfl⟩:=rv
   cases ek
   exact⟨.str_int x1 t1 x2 t2,.str_int x1 t1 x2 t2⟩
  |str x2=>
   obtain⟨rfl,_⟩:=re;obtain⟨t2,rfl⟩:=rv
   cases ek
   exact⟨.str_str x1 t1 x2 t2,.str_str x1 t1 x2 t2⟩
  |tup x2=>
   obtain⟨a2,vs2,rfl,DR,Qn⟩:=re;cases rv;obtain⟨its2,w2,p2,_⟩:=I.tuple DR
   cases ek
   exact⟨.str_tuple x1 t1 p2 hu,.str_tuple x1 t1 p2 hu⟩
  |lst x2=>
   obtain⟨a2,vs2,rfl,DR,Qn⟩:=re;cases rv;obtain⟨its2,w2,p2,_⟩:=I.list DR
   cases ek
   exact⟨.str_list x1 t1 p2.isList hu,.str_list x1 t1 p2.isList hu⟩
  |emp=>cases ek
 |tup x1=>
  obtain⟨a1,vs1,rfl,sq1,rr1⟩:=rd;cases ru;obtain⟨ZR,w1,p1,_⟩:=I.tuple sq1
  cases e with
  |non=>
   cases re;cases rv
   cases ek
   exact⟨.tuple_none p1 hu,.tuple_none p1 hu⟩
  |bl x2=>
   cases re;cases rv
   cases ek
   exact⟨.tuple_bool x2 p1 hu,.tuple_bool x2 p1 hu⟩
  |int x2=>
   cases re;obtain⟨t2,rfl⟩:=rv
   cases ek
   exact⟨.tuple_int x2 t2 p1 hu,.tuple_int x2 t2 p1 hu⟩
  |str x2=>
   obtain⟨rfl,_⟩:=re;obtain⟨t2,rfl⟩:=rv
   cases ek
   exact⟨.tuple_str x2 t2 p1 hu,.tuple_str x2 t2 p1 hu⟩
  |tup x2=>
   obtain⟨a2,vs2,rfl,DR,Qn⟩:=re;cases rv;obtain⟨its2,w2,p2,_⟩:=I.tuple DR
   change mZ _ _=some _ at ek
   obtain⟨f,hf,rfl⟩:=u0 ek
   have q1:ZR.toArray.size=x1.length:=by rw[zC,<-w1.length,rr1.length]
   have q2:its2.toArray.size=x2.length:=by rw[zC,<-w2.length,Qn.length]
   have it:=MN I (n:=99) (A:=X.A) (by simp only[wR] at hm;omega) (by omega) rr1 Qn w1 w2 hf
   rw[<-q1,<-q2]
   exact⟨.tuples p1 p2 hu it,.tuples p1 p2 hu it⟩
  |lst x2=>
   obtain⟨a2,vs2,rfl,DR,Qn⟩:=re;cases rv;obtain⟨its2,w2,p2,_⟩:=I.list DR
   cases ek
   exact⟨.tuple_list p1 p2.isList hu,.tuple_list p1 p2.isList hu⟩
  |emp=>cases ek
 |lst x1=>
  obtain⟨a1,vs1,rfl,sq1,rr1⟩:=rd;cases ru;obtain⟨ZR,w1,p1,_⟩:=I.list sq1
  cases e with
  |non=>
   cases re;cases rv
   cases ek
   exact⟨.list_none p1.isList hu,.list_none p1.isList hu⟩
  |bl x2=>
   cases re;cases rv
   cases ek
   exact⟨.list_bool x2 p1.isList hu,.list_bool x2 p1.isList hu⟩
  |int x2=>
   cases re;obtain⟨t2,rfl⟩:=rv
   cases ek
   exact⟨.list_int x2 t2 p1.isList hu,.list_int x2 t2 p1.isList hu⟩
  |str x2=>
   obtain⟨rfl,_⟩:=re;obtain⟨t2,rfl⟩:=rv
   cases ek
   exact⟨.list_str x2 t2 p1.isList hu,.list_str x2 t2 p1.isList hu⟩
  |tup x2=>
   obtain⟨a2,vs2,rfl,DR,Qn⟩:=re;cases rv;obtain⟨its2,w2,p2,_⟩:=I.tuple DR
   cases ek
   exact⟨.list_tuple p1.isList p2 hu,.list_tuple p1.isList p2 hu⟩
  |lst x2=>
   obtain⟨a2,vs2,rfl,DR,Qn⟩:=re;cases rv;obtain⟨its2,w2,p2,_⟩:=I.list DR
   change mZ _ _=some _ at ek
   obtain⟨f,hf,rfl⟩:=u0 ek
   have q1:ZR.toArray.size=x1.length:=by rw[zC,<-w1.length,rr1.length]
   have q2:its2.toArray.size=x2.length:=by rw[zC,<-w2.length,Qn.length]
   have it:=MN I (n:=99) (A:=X.A) (by simp only[wR] at hm;omega) (by omega) rr1 Qn w1 w2 hf
   by_cases hsz:ZR.toArray.size=its2.toArray.size
   ·have hl:x1.length=x2.length:=by omega
    rw[hl,Nat.min_self,beq_self_eq_true,Kx,<-hl,<-q1]
    exact⟨.lists p1.isList p2.isList hsz hu it,.lists p1.isList p2.isList hsz hu it⟩
   ·have hl:(x1.length==x2.length)=false:=by rw[beq_eq_false_iff_ne];omega
    rw[hl,Bool.and_false]
    exact⟨.lists_lengths p1.isList p2.isList (by simpa using hsz) hu,.lists_lengths p1.isList p2.isList (by simpa using hsz) hu⟩
  |emp=>cases ek
 |emp=>cases e<;>cases ek
def eqB (a b:Bx):Option Bx:=if sE a=true\/sE b=true then none else if min (wR (toD a)) (wR (toD b))<=100 then (yM (toD a) (toD b)).bind fun k=>some (.z (.bl k)) else none
def Ut (a b:Bx):Option Bx:=if sE a=true\/sE b=true then none else if min (wR (toD a)) (wR (toD b))<=100 then (yM (toD a) (toD b)).bind fun k=>some (.z (.bl (!k))) else none
theorem of_eq (hu:X.A.units+100 < cLine):Mu X (compareOp .Eq) eqB:=by
 intro pins s σ H x y v u Q I rx ry h
 obtain⟨a,b,c,ra,rb,e,q⟩:=h
 unfold eqB at e
 split at e
 ·cases e
 rename_i hz
 have ha:sE a=false:=by cases h:sE a with|false=>rfl|true=>exact absurd (.inl h) hz
 have hb:sE b=false:=by cases h:sE b with|false=>rfl|true=>exact absurd (.inr h) hz
 split at e
 ·rename_i hm
  obtain⟨k,ek,e⟩:=bind_some e
  cases e
  exact (R6 I hm hu (ra.toD ha) (rb.toD hb) rx ry ek).1 X.prog X.w X.xe _ ⟨.bl k,H,I,rfl,q _ H (Same.refl H) trivial (by unfold bw Rep;rfl)⟩
 ·cases e
theorem DW (hu:X.A.units+100 < cLine):Mu X (compareOp .NotEq) Ut:=by
 intro pins s σ H x y v u Q I rx ry h
 obtain⟨a,b,c,ra,rb,e,q⟩:=h
 unfold Ut at e
 split at e
 ·cases e
 rename_i hz
 have ha:sE a=false:=by cases h:sE a with|false=>rfl|true=>exact absurd (.inl h) hz
 have hb:sE b=false:=by cases h:sE b with|false=>rfl|true=>exact absurd (.inr h) hz
 split at e
 ·rename_i hm
  obtain⟨k,ek,e⟩:=bind_some e
  cases e
  exact (R6 I hm hu (ra.toD ha) (rb.toD hb) rx ry ek).2 X.prog X.w X.xe _ ⟨.bl (!k),H,I,rfl,q _ H (Same.refl H) trivial (by unfold bw Rep;rfl)⟩
 ·cases e
end
section
variable {X:Cx} {pins:List (Addr×Obj)} {σ:L2.St} {H:Hp} {s:Shared}
theorem Cg {K:FG_} {H:Hp} {i:Int}:bw K H (.z (.int i)) (.int i):=by unfold bw Rep;rfl
theorem ac4 {K:FG_} {H:Hp} {b:Bool}:bw K H (.z (.bl b)) (.bl b):=by unfold bw Rep;rfl
theorem ZS {K:FG_} {H:Hp} {x:Str} (h:x.length<=sizeLine):bw K H (.z (.str x)) (.str x):=by unfold bw Rep;exact⟨rfl,h⟩
theorem Ke {K:FG_} {H:Hp} {i:Int} {v:V} (h:bw K H (.z (.int i)) v):v=.int i:=by simpa only[bw,Rep] using h
theorem R7 {K:FG_} {H:Hp} {x:Str} {v:V} (h:bw K H (.z (.str x)) v):v=.str x/\x.length<=sizeLine:=by simpa only[bw,Rep] using h
theorem inT {K:FG_} {H:Hp} {ds:List Dt} {v:V} (h:bw K H (.z (.tup ds)) v):∃ a vs,v=.ref a/\xO K H a vs/\aJ K H ds vs:=by simpa only[bw,Rep] using h
def i2 (g:Int->Int->Option Dt):Bx->Bx->Option Bx
 |.z (.int i),.z (.int j)=>(g i j).bind fun d=>some (.z d)
 |_,_=>none
theorem Jl {f:Value->Value->Sem Value} {r:R2} {g:Int->Int->Option Dt} (ho:yD X f r) (h:∀ i j d H Q,g i j=some d->(∀ v,Rep X.K H d v->Q v H)->r (.int i) (.int j) H Q):Mu X f (i2 g):=yD.imp ho fun x y H Q q=>by
 obtain⟨a,b,c,ra,rb,e,q⟩:=q
 unfold i2 at e
 split at e
 ·rename_i i j
  obtain⟨d,ed,e⟩:=bind_some e
  cases e
  rw[Ke ra,Ke rb]
  exact h i j d H Q ed fun v rv=>q v H (Same.refl H) trivial rv
 ·cases e
theorem okI {K:FG_} {H:Hp} {i:Int}:Rep K H (.int i) (.int i):=by unfold Rep;rfl
theorem okT {K:FG_} {H:Hp} {b:Bool}:Rep K H (.bl b) (.bl b):=by unfold Rep;rfl
abbrev subB:=i2 fun i j=>some (.int (i - j))
abbrev gtB:=i2 fun i j=>some (.bl (decide (j < i)))
abbrev geB:=i2 fun i j=>some (.bl (decide (j<=i)))
abbrev yO:=i2 fun i j=>if 0 < j/\j < 1073741824 then some (.int (i / j)) else none
abbrev jk:=i2 fun i j=>if 0 < j then some (.int (i % j)) else none
abbrev ac5:=i2 fun i j=>if 0<=j/\j<=1000/\i.natAbs < 2 ^ 64 then some (.int (i ^ j.toNat)) else none
theorem DX:Mu X (binaryOp .Sub) subB:=Jl acr fun i j d H Q e q=>by cases e;exact⟨i,j,rfl,rfl,q _ okI⟩
theorem abz:Mu X (compareOp .Gt) gtB:=Jl aeW fun i j d H Q e q=>by cases e;exact⟨i,j,rfl,rfl,q _ okT⟩
theorem afp:Mu X (compareOp .GtE) geB:=Jl aeX fun i j d H Q e q=>by cases e;exact⟨i,j,rfl,rfl,q _ okT⟩
theorem wC:Mu X (binaryOp .FloorDiv) yO:=Jl Zc fun i j d H Q e q=>by
 split at e
 ·rename_i h;cases e;exact⟨i,j,rfl,rfl,h,q _ okI⟩
 ·cases e
theorem cH:Mu X (binaryOp .Mod) jk:=Jl acu fun i j d H Q e q=>by
 split at e
 ·rename_i h;cases e;exact⟨i,j,rfl,rfl,h,q _ okI⟩
 ·cases e
theorem ac6:Mu X (binaryOp .Pow) ac5:=Jl acv fun i j d H Q e q=>by
 split at e
 ·rename_i h;cases e;exact⟨i,j,rfl,rfl,⟨h.1,by omega,h.2.2⟩,q _ okI⟩
 ·cases e
def Uu:Bx->Option Bx
 |.z (.int i)=>some (.z (.int (-i)))
 |_=>none
theorem Wv:UnF X (unaryOp .USub) Uu:=UnR.imp acw fun x H Q q=>by
 obtain⟨a,c,ra,e,q⟩:=q
 unfold Uu at e
 split at e
 ·rename_i i;cases e;exact⟨i,Ke ra,q _ H (Same.refl H) trivial Cg⟩
 ·cases e
def Uv:Nat:=1000000
theorem ZV:Uv<=sizeLine:=by decide
theorem ac7 {l b:Addr} {vs us:List V} {Q:VK} (I:L2.Inv X pins σ H s) (hl:rE X.K H l vs) (hb:rE X.K H b us) (hz:vs.length+us.length<=sizeLine) (q:∀ p,H p=none->Q (.ref p) (upd H p (.lst (vs++us)))) :
  wpAny (model X.prog X.w) X.A (binaryOp .Add (.ref l) (.ref b)) (EP X pins σ Q) X.xe s:=by
 obtain⟨its,r1,⟨⟨cls,dd,data,sl⟩,n1,e1,c1,d1,dd1⟩,z1⟩:=I.list hl
 obtain⟨its2,r2,⟨⟨cls2,dd2,data2,sl2⟩,n2,e2,c2,d2,Ww⟩,z2⟩:=I.list hb
 simp only at c1 d1 dd1 c2 d2 Ww
 subst c1 d1 dd1 c2 d2 Ww
 have l1:=r1.length
 have l2:=r2.length
 have e:its.toArray++its2.toArray=(its++its2).toArray:=by simp
 refine concat_meets ⟨_,e1,rfl⟩ ⟨_,e2,rfl⟩ noFill_list_add seq_list_add PySem.F.slot_list_add PySem.F.entry_list_add (PySem.F.args_list_add_2 _ _) (list_addW l b its.toArray its2.toArray n1 n2 none none sl sl2 (by rw[zC,zC];omega)) ⟨e1,e2,?_⟩
 rw[e]
 exact⟨.ref s.heap.objs.size,_,I.laid (t':=s.toks) (o:=.lst (vs++us)) (fun b ob q=>zd _ q) (zk _) ⟨by rw[ZA];exact hz,_,0,r1.append r2,zt _ rfl⟩,rfl,q _ (I.hok.fresh (zk _))⟩
theorem ac8 {l b:Addr} {vs us:List V} {Q:VK} (I:L2.Inv X pins σ H s) (hl:xO X.K H l vs) (hb:xO X.K H b us) (hz:vs.length+us.length<=sizeLine) (q0:vs=[]->Q (.ref b) H) (q1:us=[]->Q (.ref l) H) (q2:∀ p,H p=none->Q (.ref p) (upd H p (.tup (vs++us)))) :
  wpAny (model X.prog X.w) X.A (binaryOp .Add (.ref l) (.ref b)) (EP X pins σ Q) X.xe s:=by
 by_cases hv:vs=[]
 ·obtain⟨its,r1,⟨⟨cls,dd,data,sl⟩,e1,c1,n1,dd1⟩,z1⟩:=I.tuple hl
  obtain⟨its2,r2,⟨⟨cls2,dd2,data2,sl2⟩,e2,c2,n2,Ww⟩,z2⟩:=I.tuple hb
  simp only at c1 dd1 c2 Ww
  subst c1 dd1 c2 Ww
  have:its=[]:=r1.CG.mpr hv
  exact concat_meets ⟨_,e1,rfl⟩ ⟨_,e2,rfl⟩ noFill_tuple_add seq_tuple_add PySem.F.slot_tuple_add yz (ye _ _)
   (tuple_addW0 l b its.toArray its2.toArray n1 n2 dd dd2 sl sl2 (by simp[this])) ⟨e1,e2,⟨.ref b,H,I,rfl,q0 hv⟩⟩
 ·exact Zj pins s σ H (.ref l) (.ref b) (.ref l) (.ref b) Q I rfl rfl ⟨l,b,vs,us,rfl,rfl,hl,hb,hv,hz,q1,fun _=>q2⟩
def gZ:Bx->Bx->Option Bx
 |.z (.int i),.z (.int j)=>some (.z (.int (i+j)))
 |.z (.str i),.z (.str j)=>if i.length+j.length<=Uv then some (.z (.str (i++j))) else none
 |.z (.tup xs),.z (.tup ys)=>if xs.length+ys.length<=Uv then some (.z (.tup (xs++ys))) else none
 |a,b=>(rW a).bind fun xs=>(rW b).bind fun ys=>if xs.length+ys.length<=Uv then some (.o (xs++ys)) else none
theorem str_len (i j:Str):(i++j).length=i.length+j.length:=by
 show (i.cps++j.cps).size=_
 rw[kX];rfl
theorem cY:Mu X (binaryOp .Add) gZ:=by
 intro pins s σ H x y v u Q I rx ry h
 obtain⟨a,b,c,ra,rb,e,q⟩:=h
 have hbig:=ZV
 unfold gZ at e
 split at e
 ·rename_i i j
  cases e
  exact acq pins s σ H x y v u Q I rx ry ⟨i,j,Ke ra,Ke rb,q _ H (Same.refl H) trivial Cg⟩
 ·rename_i i j
  split at e
  ·rename_i hl
   cases e
   exact PK pins s σ H x y v u Q I rx ry ⟨i,j,(R7 ra).1,(R7 rb).1,by omega,q _ H (Same.refl H) trivial (ZS (by rw[str_len];omega))⟩
  ·cases e
 ·rename_i xs ys
  split at e
  ·rename_i hl
   cases e
   obtain⟨l,vs,rfl,sl,rl⟩:=inT ra
   obtain⟨m,us,rfl,sm,rm⟩:=inT rb
   cases rx
   cases ry
   have h1:=rl.length
   have h2:=rm.length
   refine ac8 I sl sm (by omega) (fun z=>q _ H (Same.refl H) trivial ?_) (fun z=>q _ H (Same.refl H) trivial ?_) fun p hp=>q _ _ (bF hp) trivial ?_
   ·unfold bw Rep
    refine⟨m,us,rfl,sm,?_⟩
    have:xs=[]:=by subst z;exact List.eq_nil_of_length_eq_zero (by simpa using h1.symm)
    rw[this,KG];exact rm
   ·unfold bw Rep
    refine⟨l,vs,rfl,sl,?_⟩
    have:ys=[]:=by subst z;exact List.eq_nil_of_length_eq_zero (by simpa using h2.symm)
    rw[this,km];exact rl
   ·unfold bw Rep
    exact⟨p,_,rfl,.inl (.inl aU),(rl.append rm).kp (.of (bF hp))⟩
  ·cases e
 ·obtain⟨xs,ea,e⟩:=bind_some e
  obtain⟨ys,eb,e⟩:=bind_some e
  split at e
  ·rename_i hl
   cases e
   obtain⟨l,vs,rfl,sl,rl⟩:=ra.Ji ea
   obtain⟨m,us,rfl,sm,rm⟩:=rb.Ji eb
   cases rx
   cases ry
   have h1:=rl.length
   have h2:=rm.length
   refine ac7 I sl sm (by omega) fun p hp=>q _ _ (bF hp) (fun a ea=>by cases ea;exact hp) ⟨p,_,rfl,aU,(rl.append rm).kp (.of (bF hp))⟩
  ·cases e
def xR:Bx->Bx->Option Bx
 |.z (.int i),.z (.int j)=>if (-(2 ^ 64) < i/\i < 2 ^ 64)\/(-(2 ^ 64) < j/\j < 2 ^ 64) then some (.z (.int (i * j))) else none
 |.z (.str x),.z (.int n)=>if n<=1000 ∧ -1000<=n/\x.length<=1000 then some (.z (.str (Txt.mul x n))) else none
 |_,_=>none
theorem wU (x:Array Nat):∀ (n:Nat) (acc:Array Nat),((List.replicate n x).foldl (·++·) acc).size=acc.size+n * x.size
 |0,acc=>by simp
 |n+1,acc=>by
  rw[List.replicate_succ,QI,wU x n,kX,Nat.succ_mul]
  omega
theorem Kf (x:Str) (n:Int):(Txt.mul x n).length<=n.toNat * x.length+x.length:=by
 unfold Txt.mul
 split
 ·exact qE _
 ·split
  ·exact Nat.le_add_left _ _
  ·show ((List.replicate n.toNat x.cps).foldl (·++·) #[]).size<=_
   rw[wU]
   show (#[]:Array Nat).size+n.toNat * x.cps.size<=n.toNat * x.cps.size+x.cps.size
   simp
theorem tL:Mu X (binaryOp .Mult) xR:=by
 intro pins s σ H x y v u Q I rx ry h
 obtain⟨a,b,c,ra,rb,e,q⟩:=h
 unfold xR at e
 split at e
 ·rename_i i j
  split at e
  ·rename_i hl
   cases e
   exact acs pins s σ H x y v u Q I rx ry ⟨i,j,Ke ra,Ke rb,hl,q _ H (Same.refl H) trivial Cg⟩
  ·cases e
 ·rename_i x' n
  split at e
  ·rename_i hl
   cases e
   obtain⟨rfl,hx⟩:=R7 ra
   have hy:=Ke rb
   subst hy
   obtain⟨t,rfl⟩:=rx
   obtain⟨t',rfl⟩:=ry
   have hs:sizeLine=16777216:=sizeLine_eq
   have hm:n.toNat * x'.length<=1000 * 1000:=Nat.mul_le_mul (by omega) hl.2.2
   refine SB.mul ⟨?_,fun h1 h2=>?_,fun h1 h2=>?_⟩ fun t' k=>⟨.str _,H,I.tok _,⟨_,rfl⟩,q _ H (Same.refl H) trivial (ZS (Zl (Kf x' n) (by omega)))⟩
   ·have e1:decide (n < -(2 ^ 63:Int))=false:=qk (by omega)
    have e2:decide (n>=2 ^ 63)=false:=qk (by omega)
    rw[e1,e2];rfl
   ·have hn:0 < n:=by omega
    have:(1000:Int)<=(2 ^ 63 - 1) / n:=(Int.le_ediv_iff_mul_le hn).mpr (by omega)
    omega
   ·show decide (x'.length * n.toNat > sizeLine)=false
    rw[Nat.mul_comm]
    exact qk (by omega)
  ·cases e
 ·cases e
def abA (i j:Str):Bool:=!(Builtin.Str.occurrences j i 0 j.length 1).isEmpty
def yP:Dt->Bool
 |.non=>true
 |.bl _=>true
 |.int _=>true
 |.str _=>true
 |_=>false
def memD (x:Dt) (ys:List Dt):Option Bool:=if yP x=true/\ys.all yP=true then some (ys.any fun y=>match yM y x with|some true=>true|_=>false) else none
def xT:Bx->Option (List Dt)
 |.z (.lst ds)=>some ds
 |.z (.tup ds)=>some ds
 |.l ds=>some ds
 |.o ds=>some ds
 |_=>none
def inB:Bx->Bx->Option Bool
 |.z (.str i),.z (.str j)=>some (abA i j)
 |.z d,b=>(xT b).bind fun ys=>memD d ys
 |_,_=>none
def inF (a b:Bx):Option Bx:=(inB a b).bind fun k=>some (.z (.bl k))
theorem MP {K:FG_} {H:Hp} {d:Dt} {v:V} (r:Rep K H d v) (f:yP d=true):uH v=true:=by
 cases d<;>first|(cases f;done)|skip
 all_goals simp only[Rep] at r
 ·subst r;rfl
 ·subst r;rfl
 ·subst r;rfl
 ·obtain⟨rfl,_⟩:=r;rfl
theorem Jm {K:FG_} {H:Hp}:∀ {ds:List Dt} {vs:List V},aJ K H ds vs->ds.all yP=true->vs.all uH=true
 |[],_,h,_=>by simp only[aJ] at h;subst h;rfl
 |d::ds,_,h,f=>by
  simp only[aJ] at h
  obtain⟨v,r,rfl,h1,h2⟩:=h
  rw[ko,ZU] at f
  rw[ko,MP h1 f.1,Jm h2 f.2];rfl
theorem Kg (b:Bool):(match some b with|some true=>true|_=>false)=b:=by cases b<;>rfl
theorem ZW {K:FG_} {H:Hp} {d e:Dt} {x y:V} (rd:Rep K H d x) (re:Rep K H e y) (fd:yP d=true) (fe:yP e=true):Uc x y=(match yM d e with|some true=>true|_=>false):=by
 cases d<;>first|(cases fd;done)|skip
 all_goals (cases e<;>first|(cases fe;done)|skip)
 all_goals simp only[Rep] at rd re
 all_goals first
  |(subst rd;subst re;simp only[Uc,yM,Kg])
  |(obtain⟨rfl,_⟩:=rd;subst re;simp only[Uc,yM,Kg])
  |(subst rd;obtain⟨rfl,_⟩:=re;simp only[Uc,yM,Kg])
  |(obtain⟨rfl,_⟩:=rd;obtain⟨rfl,_⟩:=re;simp only[Uc,yM,Kg])
theorem R8 {K:FG_} {H:Hp} {d:Dt} {x:V} (rd:Rep K H d x) (fd:yP d=true):∀ {ds:List Dt} {vs:List V},aJ K H ds vs->ds.all yP=true->inV x vs=ds.any fun y=>match yM y d with|some true=>true|_=>false
 |[],_,h,_=>by simp only[aJ] at h;subst h;rfl
 |e::ds,_,h,f=>by
  simp only[aJ] at h
  obtain⟨v,r,rfl,h1,h2⟩:=h
  rw[ko,ZU] at f
  have:=R8 rd fd h2 f.2
  unfold inV at this ⊢
  rw[ka,ka,ZW h1 rd f.1 fd,this]
theorem u6 {K:FG_} {H:Hp} {b:Bx} {v:V} {ds:List Dt} (h:bw K H b v) (e:xT b=some ds):∃ a vs,v=.ref a/\(rE K H a vs\/xO K H a vs)/\aJ K H ds vs:=by
 cases b with
 |z d=>
  cases d<;>first|(cases e;done)|skip
  ·cases e
   obtain⟨a,vs,e,q,r⟩:=inT h
   exact⟨a,vs,e,.inr q,r⟩
  ·cases e
   obtain⟨a,vs,e,q,r⟩:=h.Ji rfl
   exact⟨a,vs,e,.inl q,r⟩
 |l ds'=>
  cases e
  obtain⟨a,vs,e,q,r⟩:=h.Ji rfl
  exact⟨a,vs,e,.inl q,r⟩
 |o ds'=>
  cases e
  obtain⟨a,vs,e,q,r⟩:=h.Ji rfl
  exact⟨a,vs,e,.inl q,r⟩
 |n _=>cases e
 |m _ _=>cases e
theorem Uw {H:Hp} {a b:Bx} {x y:V} {k:Bool} (ra:bw X.K H a x) (rb:bw X.K H b y) (e:inB a b=some k) :
  (∃ i j,x=.str i/\y=.str j/\k=abA i j)\/(∃ p xs,y=.ref p/\(rE X.K H p xs\/xO X.K H p xs)/\uH x=true/\xs.all uH=true/\k=inV x xs):=by
 unfold inB at e
 split at e
 ·rename_i i j
  cases e
  exact .inl ⟨i,j,(R7 ra).1,(R7 rb).1,rfl⟩
 ·rename_i d _
  obtain⟨ys,ey,e⟩:=bind_some e
  unfold memD at e
  split at e
  ·rename_i hf
   cases e
   obtain⟨p,vs,rfl,sq,rs⟩:=u6 rb ey
   have ra':Rep X.K H d x:=ra
   exact .inr ⟨p,vs,rfl,sq,MP ra' hf.1,Jm rs hf.2,(R8 ra' hf.1 rs hf.2).symm⟩
  ·cases e
 ·cases e
theorem R9:Mu X (compareOp .In) inF:=by
 intro pins s σ H x y v u Q I rx ry h
 obtain⟨a,b,c,ra,rb,e,q⟩:=h
 obtain⟨k,ek,e⟩:=bind_some e
 cases e
 rcases Uw ra rb ek with⟨i,j,rfl,rfl,rfl⟩|⟨p,xs,rfl,sq,f1,f2,rfl⟩
 ·exact T8 pins s σ H _ _ v u Q I rx ry ⟨i,j,rfl,rfl,q _ H (Same.refl H) trivial ac4⟩
 ·exact Ud pins s σ H _ _ v u Q I rx ry ⟨p,xs,rfl,sq,f1,f2,q _ H (Same.refl H) trivial ac4⟩
def kJ:Bx->Bx->Option Bx
 |.z (.str x),.z (.int i)=>(Hi x.cps.toList i).bind fun c=>some (.z (.str ⟨#[c]⟩))
 |b,.z (.int i)=>(xT b).bind fun ds=>(Hi ds i).bind fun d=>some (.z d)
 |_,_=>none
theorem ZX {K:FG_} {H:Hp} {ds:List Dt} {vs:List V} {i:Int} {d:Dt} (r:aJ K H ds vs) (e:Hi ds i=some d):∃ v,Hi vs i=some v/\Rep K H d v:=by
 unfold Hi at e ⊢
 rw[r.length]
 obtain⟨j,ej,e⟩:=bind_some e
 rw[ej]
 exact r.get e
theorem bO {a b:Expr} {fa fb:Ev->Option Bx} {pos:Pos} (ha:QV X a fa) (hb:QV X b fb) (hs:RT b:=by intro _ _;with_unfolding_all rfl):QV X (.Subscript a b pos) (b2 kJ fa fb):=⟨have ha:=ha.run;have hb:=hb.run;J7 (ae5 acI ha hb hs) fun σ H Q h=>by
 obtain⟨H0,ρ,c,E,e,q⟩:=h
 obtain⟨a,ea,e⟩:=bind_some e
 obtain⟨b,eb,e⟩:=bind_some e
 refine⟨H0,ρ,a,E,ea,fun v H1 s1 n1 r1=>⟨H0,ρ,b,E.grow s1,eb,fun u H2 s2 n2 r2=>?_⟩⟩
 have r1':=r1.same s2
 unfold kJ at e
 split at e
 ·rename_i x i
  obtain⟨c',ec,e⟩:=bind_some e
  cases e
  exact .inr (.inr ⟨_,_,c',(R7 r1').1,Ke r2,(R7 r1').2,ec,q _ _ (s1.trans s2) trivial (ZS (by show (1:Nat)<=sizeLine;decide))⟩)
 ·obtain⟨ds,ed,e⟩:=bind_some e
  obtain⟨d,ei,e⟩:=bind_some e
  cases e
  obtain⟨p,vs,rfl,sq,rs⟩:=u6 r1' ed
  obtain⟨w,ew,Pn⟩:=ZX rs ei
  have hi:=Ke r2
  rcases sq with sq|sq
  ·exact .inl ⟨p,vs,_,w,rfl,hi,sq,ew,q _ _ (s1.trans s2) trivial Pn⟩
  ·exact .inr (.inl ⟨p,vs,_,w,rfl,hi,sq,ew,q _ _ (s1.trans s2) trivial Pn⟩)
 ·cases e⟩
end
theorem Z0:bootBuiltins "bool" = some (.type "bool"):=by decide +kernel
theorem ac9:bootBuiltins "int" = some (.type "int"):=by decide +kernel
theorem iT:bootBuiltins "tuple" = some (.type "tuple"):=by decide +kernel
theorem Kh:bootBuiltins "list" = some (.type "list"):=by decide +kernel
theorem Hr:bootBuiltins "isinstance" = some (.builtin "isinstance"):=by decide +kernel
theorem u9:bootBuiltins "len" = some (.builtin "len"):=by decide +kernel
theorem ada:bootBuiltins "abs" = some (.builtin "abs"):=by decide +kernel
theorem Qo:bootBuiltins "min" = some (.builtin "min"):=by decide +kernel
theorem xU:bootBuiltins "max" = some (.builtin "max"):=by decide +kernel
theorem m5:bootBuiltins "sorted" = some (.builtin "sorted"):=by decide +kernel
section
variable {X:Cx} {pins:List (Addr×Obj)} {σ:L2.St} {H:Hp} {s:Shared}
def is_bool:Dt->Bool
 |.bl _=>true
 |_=>false
theorem Wx (I:L2.Inv X pins σ H s) {d:Dt} {x:V} {v:Value} {Q:VK} (rd:DQ X.K H d x) (rv:RelV x v) (q:Q (.bl (is_bool d)) H):wpAny (model X.prog X.w) X.A (call (.builtin "isinstance") [v,.type "bool"]) (EP X pins σ Q) X.xe s:=by
 cases d with
 |non=>simp only[DQ,Rep] at rd;subst rd;cases rv;exact IsiPair.NoneType_bool ⟨.bl _,H,I.tok _,rfl,q⟩
 |bl b=>simp only[DQ,Rep] at rd;subst rd;cases rv;exact IsiPair.bool_bool ⟨.bl _,H,I,rfl,q⟩
 |int b=>simp only[DQ,Rep] at rd;subst rd;obtain⟨t,rfl⟩:=rv;exact IsiPair.int_bool ⟨.bl _,H,I.tok _,rfl,q⟩
 |str b=>simp only[DQ,Rep] at rd;obtain⟨rfl,_⟩:=rd;obtain⟨t,rfl⟩:=rv;exact IsiPair.str_bool ⟨.bl _,H,I.tok _,rfl,q⟩
 |tup ds=>simp only[DQ,Rep] at rd;obtain⟨a,vs,rfl,sq,_⟩:=rd;cases rv;obtain⟨_,_,p,_⟩:=I.tuple sq;exact IsiPair.isTuple_bool p (fun _ _ e=>e) ⟨.bl _,H,I.tok _,rfl,q⟩
 |lst ds=>simp only[DQ] at rd;obtain⟨a,vs,rfl,sq,_⟩:=rd;cases rv;obtain⟨_,_,p,_⟩:=I.list sq;exact IsiPair.isList_bool p.isList (fun _ _ e=>e) ⟨.bl _,H,I.tok _,rfl,q⟩
 |emp=>simp only[DQ,Rep] at rd;obtain⟨a,o,rfl,sq⟩:=rd;cases rv;obtain⟨ob,e,c⟩:=yN I sq;exact IsiPair.dict_bool e c ⟨.bl _,H,I.tok _,rfl,q⟩
theorem Bl {e:Expr} {f:Ev->Option Bx} {p p2 pos:Pos} (he:QV X e f) (hg:Gl X "isinstance") (hm:X.mg "isinstance" = none) (hg2:Gl X "bool") (hm2:X.mg "bool" = none) (hs:starEach [e,.Name "bool" p2] X.env=[(false,eval e X.env),(false,eval (.Name "bool" p2) X.env)]:=by rfl):QV X (.Call (.Name "isinstance" p) [e,.Name "bool" p2] [] pos) (b1 (fun b=>if sE b=true then none else some (.z (.bl (is_bool (toD b))))) f):=⟨by
 have he:=he.run
 have hc:gP X (.builtin "isinstance") (fun xs H Q=>∃ b x,xs=[x,.ty "bool"]/\bw X.K H b x/\sE b=false/\Q (.bl (is_bool (toD b))) H):=by
  intro pins s σ H xs us Q I r h
  obtain⟨b,x,rfl,rb,hmb,q⟩:=h
  obtain⟨u,w',rfl,r1,r2⟩:=vals2 r
  cases r2
  exact Wx I (rb.toD hmb) r1 q
 have ha:PA X [e,.Name "bool" p2] (IW (tF X.K f) (IW (tC (.ty "bool")) VP)):=nR he (nR (Y9 hg2 hm2 (v:=.ty "bool") (u:=.type "bool") Z0 rfl) uU) (by rw[hs]<;>rfl)
 refine J7 (Du hc hg hm Hr ha (by decide) (by decide) (by rw[hs]<;>rfl) rfl) fun σ H Q h=>?_
 obtain⟨H0,ρ,c,E,e,q⟩:=h
 obtain⟨b,eb,e⟩:=bind_some e
 split at e
 ·cases e
 rename_i hz
 cases e
 exact⟨H0,ρ,b,E,eb,fun v H1 s1 n1 r1=>⟨b,v,rfl,r1,by simpa using hz,q _ _ s1 trivial ac4⟩⟩⟩
def tFO (K:FG_) (f:Ev->Option (Option Int)):TO:=fun σ H Q=>∃ H0 ρ o,bf K H0 H σ ρ/\f ρ=some o/\∀ H',Same H H'->Q o H'
def PVo (X:Cx) (e:Option Expr) (f:Ev->Option (Option Int)):Prop:=PO X e (tFO X.K f)
structure QVo (X:Cx) (e:Option Expr) (f:Ev->Option (Option Int)):Prop where
 run:PVo X e f
theorem poM {e:Option Expr} {t t':TO} (h:PO X e t) (m:∀ σ H Q,t' σ H Q->t σ H Q):PO X e t':=fun pins s σ H Q I q=>h pins s σ H Q I (m σ H Q q)
def m7:Ev->Option (Option Int):=fun _=>some none
theorem qg  : QVo X none m7:=⟨poM Zh fun σ H Q h=>by
 obtain⟨H0,ρ,o,E,e,q⟩:=h
 cases e
 exact q H (Same.refl H)⟩
def adb:Bx->Option (Option Int)
 |.z (.int i)=>some (some i)
 |_=>none
def mX (f:Ev->Option Bx):Ev->Option (Option Int):=fun ρ=>(f ρ).bind adb
theorem mH {e:Expr} {f:Ev->Option Bx} (h:QV X e f):QVo X (some e) (mX f):=⟨have h:=h.run;poM (Zi h) fun σ H Q q=>by
 obtain⟨H0,ρ,o,E,e,q⟩:=q
 obtain⟨b,eb,e⟩:=bind_some e
 refine⟨H0,ρ,b,E,eb,fun v H1 s1 n1 r1=>?_⟩
 unfold adb at e
 split at e
 ·rename_i i
  cases e
  exact⟨i,Ke r1,q H1 s1⟩
 ·cases e⟩
def cutD (xs:List Dt) (lo hi:Option Int):List Dt:=(xs.drop (HT.jw xs.length 0 lo)).take (HT.jw xs.length xs.length hi - HT.jw xs.length 0 lo)
theorem M4 {K:FG_} {H:Hp} {ds:List Dt} {vs:List V} (r:aJ K H ds vs) (lo hi:Option Int):aJ K H (cutD ds lo hi) (Mq vs lo hi):=by
 unfold cutD Mq
 rw[r.length]
 exact (r.drop _).take _
theorem Wy (ds:List Dt) {lo hi:Option Int} (h1:HT.jw ds.length 0 lo=0) (h2:HT.jw ds.length ds.length hi=ds.length):cutD ds lo hi=ds:=by
 unfold cutD
 rw[h1,h2]
 simp
theorem yQ {t sl:Addr} {items:Array Value} {vl vu:Value} {lo hi:Option Int} {Q:VP_} {prog:Program} {w:World} {A:Around} {E:VP_} {s:Shared} (ht:IsTup s.heap t items) (hs:s.heap.IsSliceOf sl vl vu .none) (pl:IsPart vl lo) (pu:IsPart vu hi)
  (h1:HT.jw items.size 0 lo=0) (h2:HT.jw items.size items.size hi=items.size)
  (h:Q (.ref t) s):wpAny (model prog w) A (getItem (.ref t) (.ref sl)) Q E s:=by
 obtain⟨os,hos,hcs,hds⟩:=id hs
 have hTs:s.TypeIs (.ref sl) "slice" := ⟨os,hos,hcs⟩
 unfold getItem
 try with_reducible refine QR ?_
 first|refine zb (zg ?_)|skip
 refine zb (wpAny_sequenceKey ht.typeIs (by decide) ?_)
 refine zb (yv (name:=Str.ofString "__getitem__") ht.typeIs PyProof.Rows.slot_tuple_getitem
  (JE PyProof.Rows.slot_tuple_getitem ht.typeIs entry_tuple_getitem ?_ (args_tuple_getitem _ _)))
 show wpAny _ _ (Builtin.Tuple.tupleItemsOf (.ref t) >>= _) _ _ s
 refine zb (tupleItemsOf_ ht ?_)
 refine zb (QU hTs ?_)
 rw[zo (by decide)]
 refine zb (HT.rT hs pl pu ?_)
 have hyes:(((HT.jw items.size 0 lo:Nat):Int)==0&&(1:Int)==1&&(HT.jw items.size items.size hi - HT.jw items.size 0 lo)==items.size)=true:=by
  rw[h1,h2];simp
 show wpAny _ _ (if (((HT.jw items.size 0 lo:Nat):Int)==0&&(1:Int)==1&&(HT.jw items.size items.size hi - HT.jw items.size 0 lo)==items.size)=true then _ else _) _ _ s
 rw[zo hyes]
 first
  |refine zb (zb (QU ht.typeIs (zg ?_)))
  |refine zb (QU ht.typeIs (zb (zg ?_)))
  |refine zb (QU ht.typeIs ?_)
 rw[zo (by decide)]
 first
  |exact zb (KP (zg ⟨_,rfl,zg h⟩))
  |exact zb (KP (zb (zg (zg ⟨_,rfl,zg h⟩))))
def slB (b:Bx) (lo hi:Option Int):Option Bx:=match b with
 |.z (.str x)=>some (.z (.str (Txt.slice x lo hi)))
 |.z (.tup ds)=>some (.z (.tup (cutD ds lo hi)))
 |b=>(rW b).bind fun ds=>some (.o (cutD ds lo hi))
def rSl (K:FG_):V->Option Int->Option Int->Hp->VK->Prop:=fun x lo hi H Q=>∃ b c,bw K H b x/\slB b lo hi=some c/\∀ w H',Same H H'->Nw H c w->bw K H' c w->Q w H'
theorem ade:SlR X (rSl X.K):=by
 intro pins s σ H x v vl vu lo hi sl Q I rx hs pl pu h
 obtain⟨b,c,rb,e,q⟩:=h
 unfold slB at e
 split at e
 ·rename_i y
  cases e
  obtain⟨rfl,hy⟩:=R7 rb
  obtain⟨t,rfl⟩:=rx
  refine⟨"str", _,F.slot_str_getitem.lookup,typeIs_str _ _ _,?_⟩
  obtain⟨o,e1,e2,e3⟩:=hs
  have fin:∀ t' k,EP X pins σ Q (.str (Txt.slice y lo hi) t') { s with toks:=k }:=fun t' k=>⟨.str _,H,I.tok _,⟨_,rfl⟩,q _ H (Same.refl H) trivial (ZS (Zl (Txt.slice_le y _ _) hy))⟩
  cases pl with
  |none=>
   cases pu with
   |none=>exact kK (l:=none) (u:=none) (st:=none) ⟨o,e1,e2,e3⟩ rfl (post_val_or_str ⟨Zl (Txt.slice_le y _ _) hy,fin⟩)
   |int j uj=>exact kK (l:=none) (u:=some (j,uj)) (st:=none) ⟨o,e1,e2,e3⟩ rfl (post_val_or_str ⟨Zl (Txt.slice_le y _ _) hy,fin⟩)
  |int i ui=>
   cases pu with
   |none=>exact kK (l:=some (i,ui)) (u:=none) (st:=none) ⟨o,e1,e2,e3⟩ rfl (post_val_or_str ⟨Zl (Txt.slice_le y _ _) hy,fin⟩)
   |int j uj=>exact kK (l:=some (i,ui)) (u:=some (j,uj)) (st:=none) ⟨o,e1,e2,e3⟩ rfl (post_val_or_str ⟨Zl (Txt.slice_le y _ _) hy,fin⟩)
 ·rename_i ds
  cases e
  obtain⟨a,vs,rfl,sq,rs⟩:=inT rb
  by_cases hw:HT.jw vs.length 0 lo=0/\HT.jw vs.length vs.length hi=vs.length
  ·cases rx
   obtain⟨its,r,ht,hz⟩:=I.tuple sq
   have hlen:its.toArray.size=vs.length:=by rw[zC];exact r.length.symm
   refine⟨"tuple", _,PyProof.Rows.slot_tuple_getitem.lookup,ht.typeIs,yQ ht hs pl pu (by rw[hlen];exact hw.1) (by rw[hlen];exact hw.2) ⟨.ref a,H,I,rfl,q _ H (Same.refl H) trivial ?_⟩⟩
   rw[Wy ds (by rw[<-rs.length];exact hw.1) (by rw[<-rs.length];exact hw.2)]
   exact rb
  ·refine acF pins s σ H _ v vl vu lo hi sl Q I rx hs pl pu ⟨a,vs,rfl,sq,hw,fun p hp=>q _ _ (bF hp) trivial ?_⟩
   unfold bw Rep
   exact⟨p,_,rfl,.inl (.inl aU),(M4 rs lo hi).kp (.of (bF hp))⟩
 ·obtain⟨ds,ed,e⟩:=bind_some e
  cases e
  obtain⟨a,vs,rfl,sq,rs⟩:=rb.Ji ed
  exact Zo pins s σ H _ v vl vu lo hi sl Q I rx hs pl pu ⟨a,vs,rfl,sq,fun p hp=>q _ _ (bF hp) (fun a ea=>by cases ea;exact hp) ⟨p,_,rfl,aU,(M4 rs lo hi).kp (.of (bF hp))⟩⟩
def Mh (f:Ev->Option Bx) (fl fh:Ev->Option (Option Int)):Ev->Option Bx:=fun ρ=>(f ρ).bind fun b=>(fl ρ).bind fun lo=>(fh ρ).bind fun hi=>slB b lo hi
theorem Bm {e:Expr} {lo hi:Option Expr} {f:Ev->Option Bx} {fl fh:Ev->Option (Option Int)} {p2 pos:Pos} (he:QV X e f) (hl:QVo X lo fl) (hh:QVo X hi fh):QV X (.Subscript e (.Slice lo hi none p2) pos) (Mh f fl fh):=⟨have he:=he.run;have hl:=hl.run;have hh:=hh.run;J7 (V1 ade he hl hh) fun σ H Q h=>by
 obtain⟨H0,ρ,c,E,e,q⟩:=h
 obtain⟨b,eb,e⟩:=bind_some e
 obtain⟨lo,el,e⟩:=bind_some e
 obtain⟨hi,eh,e⟩:=bind_some e
 refine⟨H0,ρ,b,E,eb,fun v H1 s1 n1 r1=>⟨H0,ρ,lo,E.grow s1,el,fun H2 s2=>⟨H0,ρ,hi,E.grow (s1.trans s2),eh,fun H3 s3=>?_⟩⟩⟩
 have s13:=(s1.trans s2).trans s3
 exact⟨b,c,(r1.same s2).same s3,e,fun w H4 s4 n4 r4=>q w H4 (s13.trans s4) (n4.old s13) r4⟩⟩
def uO:List Bx->Option Bx
 |[.z (.str x)]=>some (.z (.int x.length))
 |[b]=>(xT b).bind fun ds=>some (.z (.int ds.length))
 |_=>none
theorem rep1 {K:FG_} {H:Hp} {b:Bx} {vs:List V} (r:qd K H [b] vs):∃ v,vs=[v]/\bw K H b v:=by
 cases r with
 |cons p t=>cases t;exact⟨_,rfl,p⟩
theorem vA:qT X (.builtin "len") uO:=gP.imp (J4.or J5) fun xs H Q q=>by
 obtain⟨bs,c,rb,e,q⟩:=q
 unfold uO at e
 split at e
 ·rename_i x
  cases e
  obtain⟨v,rfl,r1⟩:=rep1 rb
  obtain⟨rfl,hx⟩:=R7 r1
  exact .inr ⟨x,rfl,hx,q _ H (Same.refl H) trivial Cg⟩
 ·obtain⟨ds,ed,e⟩:=bind_some e
  cases e
  obtain⟨v,rfl,r1⟩:=rep1 rb
  obtain⟨p,vs,rfl,sq,rs⟩:=u6 r1 ed
  exact .inl ⟨p,vs,rfl,sq,by rw[rs.length];exact q _ H (Same.refl H) trivial Cg⟩
 ·cases e
def Wz:List Bx->Option Bx
 |[.z (.int i)]=>some (.z (.int (if i < 0 then -i else i)))
 |_=>none
theorem adf:qT X (.builtin "abs") Wz:=gP.imp VN fun xs H Q q=>by
 obtain⟨bs,c,rb,e,q⟩:=q
 unfold Wz at e
 split at e
 ·rename_i i
  cases e
  obtain⟨v,rfl,r1⟩:=rep1 rb
  have:=Ke r1
  subst this
  exact⟨i,rfl,q _ H (Same.refl H) trivial Cg⟩
 ·cases e
def WD:List Bx->Option Bx
 |[.z (.int i)]=>some (.z (.int i))
 |[.z (.bl k)]=>some (.z (.int (if k then 1 else 0)))
 |_=>none
theorem adg:qT X (.type "int") WD:=gP.imp T9 fun xs H Q q=>by
 obtain⟨bs,c,rb,e,q⟩:=q
 unfold WD at e
 split at e
 ·rename_i i
  cases e
  obtain⟨v,rfl,r1⟩:=rep1 rb
  have:=Ke r1
  subst this
  exact .inl ⟨i,rfl,q _ H (Same.refl H) trivial Cg⟩
 ·rename_i k
  cases e
  obtain⟨v,rfl,r1⟩:=rep1 rb
  simp only[bw,Rep] at r1
  subst r1
  exact .inr ⟨k,rfl,q _ H (Same.refl H) trivial Cg⟩
 ·cases e
def Jo:List Bx->Option Bx
 |[b]=>(xT b).bind fun ds=>some (.o ds)
 |_=>none
theorem Sd:qT X (.type "list") Jo:=gP.imp J6 fun xs H Q q=>by
 obtain⟨bs,c,rb,e,q⟩:=q
 unfold Jo at e
 split at e
 ·obtain⟨ds,ed,e⟩:=bind_some e
  cases e
  obtain⟨v,rfl,r1⟩:=rep1 rb
  obtain⟨p,vs,rfl,sq,rs⟩:=u6 r1 ed
  exact⟨p,vs,rfl,sq,fun l hl=>q _ _ (bF hl) (fun a ea=>by cases ea;exact hl) ⟨l,vs,rfl,aU,rs.kp (.of (bF hl))⟩⟩
 ·cases e
def lD:List Bx->Option Bx
 |[b]=>(xT b).bind fun ds=>some (.z (.tup ds))
 |_=>none
theorem qj:qT X (.type "tuple") lD:=gP.imp Hl fun xs H Q q=>by
 obtain⟨bs,c,rb,e,q⟩:=q
 unfold lD at e
 split at e
 ·obtain⟨ds,ed,e⟩:=bind_some e
  cases e
  obtain⟨v,rfl,r1⟩:=rep1 rb
  obtain⟨p,vs,rfl,sq,rs⟩:=u6 r1 ed
  refine⟨p,vs,rfl,?_⟩
  rcases sq with sq|sq
  ·refine .inl ⟨sq,fun l hl=>q _ _ (bF hl) trivial ?_⟩
   unfold bw Rep
   exact⟨l,vs,rfl,.inl (.inl aU),rs.kp (.of (bF hl))⟩
  ·refine .inr ⟨sq,q _ H (Same.refl H) trivial ?_⟩
   unfold bw Rep
   exact⟨p,vs,rfl,sq,rs⟩
 ·cases e
end
end P1
end
section
namespace P1
open PySem PySem.Spec PyProof.Rows L2
def gv (i:Nat):Ev->Option Bx:=fun ρ=>z6 ρ i
def Ci (g:Bx->Bx->Option Bx) (fa fb:Ev->Option Bx):Ev->Option Bool:=fun ρ=>(b2 g fa fb ρ).bind Qf
def tV (f:Ev->Option Bx):Ev->Option Bool:=fun ρ=>(f ρ).bind Uk
def aD:Ev->Option (List Bx):=fun _=>some []
def Sg (p:Dt->Bool) (f:Ev->Option Bx):Ev->Option Bx:=b1 (fun b=>if sE b=true then none else some (.z (.bl (p (toD b))))) f
def mz:Ev->Option Out:=fun ρ=>some (.nx ρ)
def ni (f:Ev->Option Bx):Ev->Option Out:=fun ρ=>(f ρ).bind Wg
def setG (i:Nat) (f:Ev->Option Bx):Ev->Option Out:=fun ρ=>(f ρ).bind fun b=>(Wh ρ i b).bind fun ρ'=>some (.nx ρ')
def adh (gt:Dt->Ev->Option Ev) (f:Ev->Option Bx):Ev->Option Out:=fun ρ=>(f ρ).bind fun b=>match b with|.z d=>(gt d ρ).bind fun ρ'=>some (.nx ρ')|_=>none
def Z1 (i j:Nat) (fs:Ev->Option (List Bx)):Ev->Option Out:=fun ρ=>(fs ρ).bind (ZJ i j ρ)
def Qp (i:Nat) (f:Ev->Option Bx):Ev->Option Out:=fun ρ=>(f ρ).bind (ZK ρ i)
def qm (fi:Ev->Option (List Dt)) (gt:Dt->Ev->Option Ev) (gb:Ev->Option Out):Ev->Option Out:=fun ρ=>(fi ρ).bind fun ds=>qQ gt gb ds ρ
def WK (f:Ev->Option Bx):Ev->Option (List Dt):=fun ρ=>(f ρ).bind Wj
def DY (f:Ev->Option Bx):Ev->Option (List Dt):=fun ρ=>(f ρ).bind Wu
def Pq (fs:Ev->Option (List Bx)):Ev->Option (List Dt):=fun ρ=>(fs ρ).bind acW
def kO (i:Nat):Dt->Ev->Option Ev:=fun d ρ=>some (ρ.set i (some (.z d)))
def rJ:Ev->Option Bool:=fun _=>some true
theorem eU {X:Cx}:uY X [] rJ:=⟨.inl ⟨rfl,rfl⟩⟩
theorem jy {X:Cx} {c:Expr} {p:Ev->Option Bool} (h:QB X c p):uY X [c] p:=⟨have h:=h.run;.inr ⟨c,rfl,h⟩⟩
theorem adi {X:Cx} {scope:Scope} {cl:List (Str×Addr)}:Hq X scope cl [] []:=trivial
theorem Z2 {X:Cx} {scope:Scope} {cl:List (Str×Addr)} {x:Str} {i:Nat} {xs:LS_} {is:List Nat} (n:X.N[i]?=some x) (k:X.env.kindOf x=some .cell\/X.env.kindOf x=some .free)
  (k':(relabel scope X.env).names.lookup x=some .cell\/(relabel scope X.env).names.lookup x=some .free) (c:∃ c,cl.lookup x=some c) (r:Hq X scope cl xs is):Hq X scope cl (x::xs) (i::is):=⟨⟨n,k,k',c⟩,r⟩
theorem mem_of_lookup {names:List (Str×NameKind)} {x:Str} {k:NameKind}:names.lookup x=some k->(x,k)∈names:=ke
theorem adk {X:Cx} {scope:Scope} {cl:List (Str×Addr)} {xs:LS_} {is:List Nat} (clos:closureFor scope X.env=pure cl) (kind:scope.kind=.function) (cell:scope.names.all (fun y=>decide (y.2≠.cell)||(cl.lookup y.1).isNone)=true)
  (names:scope.names.all (fun y=>decide (y.2=.local->scope.names.lookup y.1=some .local))=true) (sub:SubL X.env.cells cl)
  (has:(relabel scope X.env).names.all (fun y=>!(y.2==.cell||y.2==.free)||(cl.lookup y.1).isSome||scope.names.contains (y.1,.cell))=true) (cap:Hq X scope cl xs is):rH X scope cl xs is where
 clos:=clos
 kind:=kind
 cell:=fun y hy hc=>by
  have:=List.all_eq_true.mp cell y hy
  simp only[hc,ne_eq,not_true_eq_false,kz,Bool.false_or,Option.isNone_iff_eq_none] at this
  exact this
 names:=fun y hy=>jI (List.all_eq_true.mp names y hy)
 sub:=sub
 has:=fun x hx=>by
  have h:∃ k,(relabel scope X.env).names.lookup x=some k/\(k==NameKind.cell||k==NameKind.free)=true:=by
   rcases hx with hx|hx
   ·exact⟨_,hx,rfl⟩
   ·exact⟨_,hx,rfl⟩
  obtain⟨k,e,hk⟩:=h
  have:=List.all_eq_true.mp has _ (mem_of_lookup e)
  simp only[hk,kq,Bool.false_or,Bool.or_eq_true] at this
  rcases this with h|h
  ·exact .inr (Option.isSome_iff_exists.mp h)
  ·exact .inl (List.contains_iff_mem.mp h)
 cap:=cap
theorem dJ {k:Nat} {A:Around} (r:mV k A):A.units+100 < cLine:=by have:=r.un;omega
theorem adl {F:List Bx->Option Bx} (h:∀ ns:List Int,ns.length<=63->F [.z (.lst (ns.map .int))]=some (.z (.bl true))) (hl:∀ ns:List Int,ns.length<=63->F [.l (ns.map .int)]=some (.z (.bl true))) (K:FG_) (H:Hp) (a:Addr) (ns:List Int) (hn:ns.length<=63) (_:Only H) (hS:rE K H a (ns.map V.int)) :
  oZ K 1 F [.ref a] H (fun v _=>v=.bl true) fun _ _ _=>False:=by
 have rs:∀ ms:List Int,aJ K H (ms.map Dt.int) (ms.map V.int):=fun ms=>by
  induction ms with
  |nil=>exact aJ.nil
  |cons m ms ih=>exact aJ.cons (by unfold Rep;rfl) ih
 have fin:∀ v (H':Hp),Same H H'->Nw H (.z (.bl true)) v->bw K H' (.z (.bl true)) v->v=.bl true:=fun v H' _ _ r=>by simpa only[bw,Rep] using r
 rcases hS with hS|hS
 ·exact⟨rfl,[.l (ns.map .int)],_,.cons ⟨a,_,rfl,hS,rs ns⟩ .nil,rfl,hl ns hn,fin⟩
 ·refine⟨rfl,[.z (.lst (ns.map .int))],_,.cons ?_ .nil,rfl,h ns hn,fin⟩
  unfold bw Rep
  exact⟨a,_,rfl,.inr hS,rs ns⟩
theorem ahs {P:Program} {w:World} {K:FG_} {mg:Str->Option Value} {base:Heap} {x qual:Str} {st:Stmt} {f:Addr} {fd:FuncData} {N ps:LS_} {k n m:Nat} {g:Ev->Option Out} (F:yG K x qual st f fd) (S:bU N ps (aH st)) (hn:N.length=n) (hm:ps.length=m)
  (hbody:∀ (cdv:Value) (A:Around) (outer:List Env) (s:Shared) (H:Hp) (E:XK),mV k (A.deeper (envOfC qual (aH st) s.heap.objs.size f cdv))->T3 (Hh mj P w K mg base N qual (aH st) f cdv A outer s H E).Vs (bL st) g) :
  cF P w K mg base mj (k+1) f fd ps (oZ K m (iR n g)):=by
 subst hn hm
 exact ahp F S hbody
section
variable {X:Cx} {e st:Expr} {f fs:Ev->Option Bx} {pos p2:Pos}
section
variable {prog:Program} {w:World} {A:Around} {E:VP_} {s:Shared}
theorem Kl {α β:Type} {f:α->Option β} {g:α->β}:∀ l:List α,(∀ a∈l,f a=some (g a))->l.filterMap f=l.map g
 |[],_=>rfl
 |a::l,h=>by
  rw[kB,h a (ze ..),zl,Kl l fun b hb=>h b (zh _ hb)]
end
end
section
variable {X:Cx} {e:Expr} {f:Ev->Option Bx}
def ltA:Bx->Bx->Option Bx
 |.z (.int i),.z (.int j)=>some (.z (.bl (decide (i < j))))
 |.z (.str x),.z (.str y)=>some (.z (.bl (decide (x.cps.toList < y.cps.toList))))
 |_,_=>none
theorem WL:Mu X (compareOp .Lt) ltA:=by
 intro pins s σ H x y v u Q I rx ry h
 obtain⟨a,b,c,ra,rb,e,q⟩:=h
 unfold ltA at e
 split at e
 ·rename_i i j
  cases e
  exact aeV pins s σ H x y v u Q I rx ry ⟨i,j,Ke ra,Ke rb,q _ H (Same.refl H) trivial (by unfold bw;exact okT)⟩
 ·rename_i i j
  cases e
  obtain⟨rfl,_⟩:=R7 ra
  obtain⟨rfl,_⟩:=R7 rb
  obtain⟨t,rfl⟩:=rx
  obtain⟨t',rfl⟩:=ry
  exact PySem.P.lt_str ⟨.bl _,H,I,rfl,q _ H (Same.refl H) trivial (by unfold bw;exact okT)⟩
 ·cases e
def Ea:List Dt->Option LS_
 |[]=>some []
 |.str x::r=>(Ea r).bind fun ys=>some (x::ys)
 |_=>none
theorem Af {K:FG_} {H:Hp}:∀ {ds:List Dt} {vs:List V} {ys:LS_},aJ K H ds vs->Ea ds=some ys->vs=ys.map V.str/\∀ y∈ys,y.length<=sizeLine
 |[],_,_,h,e=>by cases e;simp only[aJ] at h;subst h;exact⟨rfl,fun y hy=>by cases hy⟩
 |.str x::ds,_,_,h,e=>by
  simp only[Ea] at e
  obtain⟨ys,e1,e2⟩:=bind_some e
  cases e2
  simp only[aJ] at h
  obtain⟨v,r,rfl,hd,hr⟩:=h
  obtain⟨rfl,hx⟩:v=.str x/\x.length<=sizeLine:=by simpa only[Rep] using hd
  obtain⟨rfl,h2⟩:=Af hr e1
  refine⟨rfl,fun y hy=>?_⟩
  rcases List.mem_cons.mp hy with rfl|hy
  ·exact hx
  ·exact h2 y hy
 |.non::_,_,_,_,e=>by cases e
 |.bl _::_,_,_,_,e=>by cases e
 |.int _::_,_,_,_,e=>by cases e
 |.tup _::_,_,_,_,e=>by cases e
 |.lst _::_,_,_,_,e=>by cases e
 |.emp::_,_,_,_,e=>by cases e
theorem yR {K:FG_} {H:Hp}:∀ {ys:LS_},(∀ y∈ys,y.length<=sizeLine)->aJ K H (ys.map Dt.str) (ys.map V.str)
 |[],_=>aJ.nil
 |y::ys,h=>aJ.cons (by unfold Rep;exact⟨rfl,h y (ze ..)⟩) (yR fun z hz=>h z (zh _ hz))
theorem xV:∀ {ys:LS_} {its:List Value},Vals (ys.map V.str) its->StrsAre its ys
 |[],_,h=>by cases h;exact .nil
 |y::ys,_,h=>by
  cases h with
  |cons r t=>
   obtain⟨tk,rfl⟩:=r
   exact .cons y tk (xV t)
theorem wD:∀ {its:List Value} {ys:LS_},StrsAre its ys->Vals (ys.map V.str) its
 |_,_,.nil=>.nil
 |_,_,.cons y t h=>.cons ⟨t,rfl⟩ (wD h)
theorem Km:gP X (.builtin "sorted") (fun xs H Q=>∃ p ys,xs=[.ref p]/\rE X.K H p (ys.map V.str)/\ys.length < 64/\∀ l zs,H l=none->zs.Perm ys->sortedS zs=true->Q (.ref l) (upd H l (.lst (zs.map V.str)))):=by
 intro pins s σ H xs us Q I r h
 obtain⟨p,ys,rfl,hq,h64,q⟩:=h
 obtain⟨u,rfl,rx⟩:=vals1 r
 cases rx
 obtain⟨its,r',pl,hz⟩:=I.list hq
 have hlen:=r'.length
 rw[zi] at hlen hz
 refine sorted_strs pl.isList (xV r') (by omega) fun out zs hs hp afs=>?_
 obtain⟨n,en⟩:=sortedAll_at s.heap its out
 refine⟨.ref (s.heap.objs.size+1),_,I.laid (t':=s.toks) (a:=s.heap.objs.size+1) (o:=.lst (zs.map V.str)) (fun b o e=>sortedAll_old e) (kF _) ?_,rfl,q _ zs (I.hok.fresh (kF _)) hp afs⟩
 refine⟨by rw[zi,hp.length_eq];exact hz,out.toList,n,wD hs,?_⟩
 rw[en]
def qO (a b:Str):Prop:=ltCps b.cps.toList a.cps.toList=false
theorem yS:∀ (p:Str) (l:LS_),risingS p l=true->(p::l).Pairwise qO
 |p,[],_=>by simp
 |p,x::r,h=>by
  have h':(!ltCps x.cps.toList p.cps.toList&&risingS x r)=true:=h
  rw[ZU] at h'
  have ih:=yS x r h'.2
  have hx:qO p x:=by simpa [qO] using h'.1
  refine List.pairwise_cons.mpr ⟨fun y hy=>?_,ih⟩
  rcases List.mem_cons.mp hy with rfl|hy
  ·exact hx
  ·have hxy:qO x y:=JJ ih hy
   unfold qO at hx hxy ⊢
   rw[ltCps_eq] at hx hxy ⊢
   simp only[Qb] at hx hxy ⊢
   exact List.le_trans (α:=Nat) hx hxy
theorem Ko {l:LS_} (h:sortedS l=true):l.Pairwise qO:=by
 cases l with
 |nil=>exact .nil
 |cons p l=>exact yS p l h
theorem Eb {a b:Str} (h:qO a b) (h':qO b a):a=b:=by
 unfold qO at h h'
 rw[ltCps_eq] at h h'
 simp only[Qb] at h h'
 have:=List.le_antisymm (as:=a.cps.toList) (bs:=b.cps.toList) h h'
 cases a;cases b
 simp only[Str.mk.injEq]
 exact Array.toList_inj.mp this
theorem CT:∀ {l l':LS_},l.Perm l'->l.Pairwise qO->l'.Pairwise qO->l=l'
 |[],l',h,_,_=>by rw[List.nil_perm.mp h]
 |a::l,[],h,_,_=>by cases List.perm_nil.mp h
 |a::l,b::l',h,p,p'=>by
  have e:a=b:=by
   have ha:a∈b::l':=h.mem_iff.mp (ze ..)
   have hb:b∈a::l:=h.mem_iff.mpr (ze ..)
   rcases List.mem_cons.mp ha with h1|h1
   ·exact h1
   ·rcases List.mem_cons.mp hb with h2|h2
    ·exact h2.symm
    ·exact Eb (JJ p h2) (JJ p' h1)
  subst e
  rw[CT ((List.perm_cons a).mp h) (List.pairwise_cons.mp p).2 (List.pairwise_cons.mp p').2]
def Ux (a b:Str):Bool:=!ltCps b.cps.toList a.cps.toList
def fB (ys:LS_):LS_:=ys.mergeSort Ux
theorem eV (ys:LS_):(fB ys).Perm ys:=KL ys Ux
theorem tM (ys:LS_):(fB ys).Pairwise qO:=by
 have h:=kL (le:=Ux) (fun a b c h1 h2=>by
  unfold Ux at *
  rw[ltCps_eq] at *
  simp only[qS,Qb] at *
  exact List.le_trans (α:=Nat) h1 h2) (fun a b=>by
  unfold Ux
  rw[ltCps_eq,ltCps_eq]
  simp only[Bool.or_eq_true,qS,Qb]
  exact List.le_total a.cps.toList b.cps.toList) ys
 exact h.imp fun {a b} hh=>by simpa [Ux,qO] using hh
theorem WM {ys zs:LS_} (hp:zs.Perm ys) (hs:sortedS zs=true):zs=fB ys:=CT (hp.trans (eV ys).symm) (Ko hs) (tM ys)
def Bo:List Bx->Option Bx
 |[b]=>(rW b).bind fun ds=>(Ea ds).bind fun ys=>if ys.length < 64 then some (.o ((fB ys).map Dt.str)) else none
 |_=>none
theorem Ag:qT X (.builtin "sorted") Bo:=gP.imp Km fun xs H Q q=>by
 obtain⟨bs,c,rb,e,q⟩:=q
 unfold Bo at e
 split at e
 ·rename_i b
  obtain⟨ds,ed,e⟩:=bind_some e
  obtain⟨ys,ey,e⟩:=bind_some e
  split at e
  ·rename_i h64
   cases e
   obtain⟨v,rfl,r1⟩:=rep1 rb
   obtain⟨p,vs,rfl,sq,rs⟩:=r1.Ji ed
   obtain⟨rfl,hy⟩:=Af rs ey
   refine⟨p,ys,rfl,sq,h64,fun l zs hl hp hs=>?_⟩
   rw[WM hp hs]
   refine q _ _ (bF hl) (fun a ea=>by cases ea;exact hl) ⟨l,_,rfl,aU,yR fun y h=>hy y ((eV ys).mem_iff.mp h)⟩
  ·cases e
 ·cases e
def M5 (x:Str) (b:Bx):Option Bx:=(rW b).bind fun ds=>(Ea ds).bind fun ys=>if (ys.map (·.length)).sum+ys.length * x.length<=100000 then some (.z (.str (Txt.join x ys))) else none
theorem Z4:MtR X "str.join" (fun x xs H Q=>∃ y p ys,x=.str y/\xs=[.ref p]/\rE X.K H p (ys.map V.str)/\(ys.map (·.length)).sum+ys.length * y.length<=100000/\Q (.str (Txt.join y ys)) H):=by
 intro pins s σ H x xs v us Q I rx rs h
 obtain⟨y,p,ys,rfl,rfl,sq,hb,q⟩:=h
 obtain⟨t,rfl⟩:=rx
 obtain⟨u,rfl,ru⟩:=vals1 rs
 cases ru
 obtain⟨its,r',pl,hz⟩:=I.list sq
 exact join_list pl.isList (xV r') (by omega) fun t' k=>⟨.str _,H,I.tok _,⟨_,rfl⟩,q⟩
theorem Z5 {x:Str} {j:Nat} {p1 apos cpos:Pos} (h:QV X e f) (hx:x.length<=sizeLine:=by decide) (hbase:attributeBase (.Constant (.str x) j p1) "join" X.env (eval (.Constant (.str x) j p1) X.env)=eval (.Constant (.str x) j p1) X.env:=by rfl) (hfew:((backTo cpos (starEach [e] X.env)).all (fun x=>!x.1)&&(backToKw cpos (keywordEach [] X.env)).all (fun x=>x.1.isSome)&&decide ([e].length+([]:List Keyword).length+(if ([]:List Keyword).isEmpty then 0 else 1) < 30))=true:=by rfl) (hline:(apos.endLine==cpos.line)=true:=by rfl) (hs:starEach [e] X.env=(false,eval e X.env)::starEach [] X.env:=by rfl):QV X (.Call (.Attribute (.Constant (.str x) j p1) "join" apos) [e] [] cpos) (b1 (M5 x) f):=⟨have h:=h.run;J7 (RV (T := "str") F.plainAttrs_str F.slot_str_join F.type_str_join Z4 (Wa (hx:=hx)) (Mx h R0 hs) hbase hfew hline hs rfl) fun σ H Q q=>by
  obtain⟨H0,ρ,c,E,e,q⟩:=q
  obtain⟨a,ea,e⟩:=bind_some e
  refine⟨H0,ρ,_,E,rfl,fun v H1 s1 n1 r1=>?_⟩
  obtain⟨rfl,hx'⟩:v=.str x/\x.length<=sizeLine:=by simpa only[bw,Rep] using r1
  refine⟨rfl,H0,ρ,[a],E.grow s1,by simp only[ao,ea,Option.bind_some],fun vs H2 s2 r2=>?_⟩
  obtain⟨w,rfl,rw1⟩:=rep1 r2
  unfold M5 at e
  obtain⟨ds,ed,e⟩:=bind_some e
  obtain⟨ys,ey,e⟩:=bind_some e
  split at e
  ·rename_i hb
   cases e
   obtain⟨p,ws,rfl,sq,rs⟩:=rw1.Ji ed
   obtain⟨rfl,hy⟩:=Af rs ey
   refine⟨x,p,ys,rfl,rfl,sq,hb,q _ _ (s1.trans s2) trivial ?_⟩
   unfold bw Rep
   exact⟨rfl,joinOk_length (joinOk_of (by omega))⟩
  ·cases e⟩
end
section
variable {X:Cx}
def Ed:List Bx->Option Bx
 |[.z (.int a),.z (.int b)]=>some (.z (.int (if b > a then b else a)))
 |_=>none
def Uy:List Bx->Option Bx
 |[.z (.int a),.z (.int b)]=>some (.z (.int (if b < a then b else a)))
 |_=>none
theorem WQ {K:FG_} {H:Hp} {a b:Bx} {vs:List V} (h:qd K H [a,b] vs):∃ v w,vs=[v,w]/\bw K H a v/\bw K H b w:=by
 cases h with
 |cons p t=>
  cases t with
  |cons p' t'=>cases t';exact⟨_,_,rfl,p,p'⟩
theorem xW (hc:X.calm=true):qT X (.builtin "max") Ed:=by
 intro pins s σ H xs us Q I r h
 obtain⟨bs,c,rb,e,q⟩:=h
 unfold Ed at e
 split at e
 ·rename_i a b
  cases e
  obtain⟨v,w,rfl,r1,r2⟩:=WQ rb
  have hv:=Ke r1
  have hw:=Ke r2
  subst hv hw
  obtain⟨u,u',rfl,ru,ru'⟩:=Vals.two r
  obtain⟨t,rfl⟩:=ru
  obtain⟨t',rfl⟩:=ru'
  refine max_two_ints (I.ok.hd hc) fun h' tk kp=>?_
  by_cases hb:b > a
  ·rw[zo hb] at q ⊢
   exact⟨.int b,H,I.kept kp,⟨_,rfl⟩,q _ H (Same.refl H) trivial Cg⟩
  ·rw[zv hb] at q ⊢
   exact⟨.int a,H,I.kept kp,⟨_,rfl⟩,q _ H (Same.refl H) trivial Cg⟩
 ·cases e
theorem WR (hc:X.calm=true):qT X (.builtin "min") Uy:=by
 intro pins s σ H xs us Q I r h
 obtain⟨bs,c,rb,e,q⟩:=h
 unfold Uy at e
 split at e
 ·rename_i a b
  cases e
  obtain⟨v,w,rfl,r1,r2⟩:=WQ rb
  have hv:=Ke r1
  have hw:=Ke r2
  subst hv hw
  obtain⟨u,u',rfl,ru,ru'⟩:=Vals.two r
  obtain⟨t,rfl⟩:=ru
  obtain⟨t',rfl⟩:=ru'
  refine min_two_ints (I.ok.hd hc) fun h' tk kp=>?_
  by_cases hb:b < a
  ·rw[zo hb] at q ⊢
   exact⟨.int b,H,I.kept kp,⟨_,rfl⟩,q _ H (Same.refl H) trivial Cg⟩
  ·rw[zv hb] at q ⊢
   exact⟨.int a,H,I.kept kp,⟨_,rfl⟩,q _ H (Same.refl H) trivial Cg⟩
 ·cases e
end
def Ef (kvs:List (Key×Dt)) (x:Key):Option Dt:=(kvs.find? fun kv=>decide (kv.1=x)).map (·.2)
def Kq (kvs:List (Key×Dt)) (x:Key) (d:Dt):List (Key×Dt):=
 if (kvs.any fun kv=>decide (kv.1=x))=true then kvs.map (fun kv=>if kv.1=x then (kv.1,d) else kv) else kvs++[(x,d)]
section
variable {K:FG_} {H:Hp}
theorem fD.nil:fD K H [] []:=⟨rfl,aJ.nil,fun p hp=>by cases hp⟩
theorem fD.inv {p:Key×Dt} {kvs:List (Key×Dt)} {ks:List (Key×V)} (h:fD K H (p::kvs) ks):∃ v r,ks=(p.1,v)::r/\Rep K H p.2 v/\okK p.1/\fD K H kvs r:=by
 obtain⟨h1,h2,h3⟩:=h
 cases ks with
 |nil=>simp at h1
 |cons q r=>
  simp only[zl,JS] at h1
  obtain⟨e,h1⟩:=h1
  simp only[zl,aJ] at h2
  obtain⟨v,r',e2,hv,hr⟩:=h2
  simp only[JS] at e2
  obtain⟨rfl,rfl⟩:=e2
  exact⟨q.2,r,by rw[<-e],hv,h3 p (ze ..),h1,hr,fun x hx=>h3 x (zh _ hx)⟩
theorem fD.cons {p:Key×Dt} {kvs:List (Key×Dt)} {v:V} {r:List (Key×V)} (hv:Rep K H p.2 v) (hp:okK p.1) (h:fD K H kvs r):fD K H (p::kvs) ((p.1,v)::r):=
 ⟨by simp[h.1],aJ.cons hv h.2.1,fun x hx=>by
  rcases List.mem_cons.mp hx with rfl|hx
  ·exact hp
  ·exact h.2.2 x hx⟩
theorem fD.append {kvs:List (Key×Dt)} {ks:List (Key×V)} {x:Key} {d:Dt} {v:V} (h:fD K H kvs ks) (hv:Rep K H d v) (hx:okK x):fD K H (kvs++[(x,d)]) (ks++[(x,v)]):=
 ⟨by simp[h.1],by rw[ZE,ZE];exact aJ.append h.2.1 (aJ.cons hv aJ.nil),fun p hp=>by
  rcases List.mem_append.mp hp with hp|hp
  ·exact h.2.2 p hp
  ·cases List.mem_singleton.mp hp;exact hx⟩
theorem fD.len {kvs:List (Key×Dt)} {ks:List (Key×V)} (h:fD K H kvs ks):ks.length=kvs.length:=by
 have:=congrArg List.length h.1
 simpa using this
theorem fD.look:∀ {kvs:List (Key×Dt)} {ks:List (Key×V)} {x:Key} {d:Dt},fD K H kvs ks->Ef kvs x=some d->∃ v,qP ks x=some v/\Rep K H d v
 |[],_,_,_,_,e=>by cases e
 |p::kvs,_,x,d,h,e=>by
  obtain⟨v,r,rfl,hv,hpl,hr⟩:=h.inv
  unfold Ef at e
  by_cases hp:p.1=x
  ·rw[List.find?_cons_of_pos (by simpa using hp)] at e
   cases e
   exact⟨v,uV (by rw[hp]),hv⟩
  ·rw[List.find?_cons_of_neg (by simpa using hp)] at e
   obtain⟨w,e1,e2⟩:=fD.look hr e
   exact⟨w,(uW (by simpa using hp)).trans e1,e2⟩
theorem fD.any:∀ {kvs:List (Key×Dt)} {ks:List (Key×V)} {x:Key},fD K H kvs ks->(ks.any fun kv=>decide (kv.1=x))=kvs.any fun kv=>decide (kv.1=x)
 |[],ks,_,h=>by
  have:=h.len
  cases ks with
  |nil=>rfl
  |cons _ _=>simp at this
 |p::kvs,_,x,h=>by
  obtain⟨v,r,rfl,hv,hpl,hr⟩:=h.inv
  rw[ka,ka,fD.any hr]
theorem fD.WT:∀ {kvs:List (Key×Dt)} {ks:List (Key×V)} {x:Key} {d:Dt} {v:V},fD K H kvs ks->Rep K H d v->fD K H (kvs.map fun kv=>if kv.1=x then (kv.1,d) else kv) (ks.map fun kv=>if kv.1=x then (kv.1,v) else kv)
 |[],ks,_,_,_,h,_=>by
  have:=h.len
  cases ks with
  |nil=>exact fD.nil
  |cons _ _=>simp at this
 |p::kvs,_,x,d,v,h,hd=>by
  obtain⟨w,r,rfl,hw,hpl,hr⟩:=h.inv
  rw[zl,zl]
  have ih:=fD.WT (x:=x) hr hd
  by_cases hp:p.1=x
  ·rw[zo hp,zo (by simp[hp])]
   exact fD.cons (p:=(p.1,d)) hd hpl ih
  ·rw[zv hp,zv (by simpa using hp)]
   exact fD.cons hw hpl ih
theorem fD.put {kvs:List (Key×Dt)} {ks:List (Key×V)} {x:Key} {d:Dt} {v:V} (h:fD K H kvs ks) (hv:Rep K H d v) (hx:okK x):fD K H (Kq kvs x d) (putK ks x v):=by
 unfold Kq putK
 rw[h.any]
 split
 ·exact h.WT hv
 ·exact h.append hv hx
end
section
variable {X:Cx} {e ek o:Expr} {f fk fo:Ev->Option Bx} {pos pos':Pos}
theorem Z6  : QV X (.Dict [] [] pos) (fun _=>some (.m [] none)):=⟨J7 V5 fun σ H Q h=>by
 obtain⟨H0,ρ,b,E,e,q⟩:=h
 cases e
 intro p hp
 exact q _ _ (bF hp) (fun a ea=>by cases ea;exact hp) ⟨p,[],rfl,aU,fD.nil,fun b h=>by cases h⟩⟩
def Z7:Bx->Option Key
 |.z (.str x)=>some (.inr x)
 |.z (.int i)=>some (.inl i)
 |_=>none
theorem Sh {K:FG_} {H:Hp} {b:Bx} {k:Key} {v:V} (e:Z7 b=some k) (r:bw K H b v):v=kV k/\okK k:=by
 unfold Z7 at e
 split at e
 ·cases e;simp only[bw,Rep] at r;exact r
 ·cases e;simp only[bw,Rep] at r;exact⟨r,trivial⟩
 ·cases e
def mY:Bx->Bx->Option Bx
 |.n kvs,b=>(Z7 b).bind fun k=>(Ef kvs k).bind fun d=>some (.z d)
 |_,_=>none
theorem Qq {a b c:Bx} (h:mY a b=some c):∃ kvs k d,a=.n kvs/\Z7 b=some k/\Ef kvs k=some d/\c=.z d:=by
 unfold mY at h
 split at h
 ·obtain⟨k,ek,h⟩:=bind_some h
  obtain⟨d,ed,h⟩:=bind_some h
  cases h
  exact⟨_,k,d,rfl,ek,ed,rfl⟩
 ·cases h
theorem mJ (hu:X.A.units+100 < cLine) (ho:QV X o fo) (hk:QV X ek fk) (hs:acM ek:=by intro _ _;rfl):QV X (.Subscript o ek pos) (b2 mY fo fk):=⟨have ho:=ho.run;have hk:=hk.run;J7 (Zt (by omega) ho hk hs) fun σ H Q h=>by
 obtain⟨H0,ρ,c,E,e,q⟩:=h
 obtain⟨a,ea,e⟩:=bind_some e
 obtain⟨b,eb,e⟩:=bind_some e
 refine⟨H0,ρ,a,E,ea,fun v H1 s1 n1 r1=>⟨H0,ρ,b,E.grow s1,eb,fun w H2 s2 n2 r2=>?_⟩⟩
 obtain⟨kvs,x,d,rfl,ekx,ed,rfl⟩:=Qq e
 obtain⟨p,ks,rfl,rd,rm⟩:=r1.same s2
 obtain⟨v',ev,rv⟩:=rm.look ed
 obtain⟨rfl,_⟩:=Sh ekx r2
 exact⟨p,v',rfl,.inl ⟨ks,x,rd,rfl,ev.symm⟩,q _ _ (s1.trans s2) trivial rv⟩⟩
def M6 (ρ:Ev) (i:Nat):Bx->Bx->Option Out
 |.z d,b=>(Z7 b).bind fun x=>match ρ[i]? with
  |some (some (.m kvs w))=>if kvs.length < 1000 then some (.nx (ρ.set i (some (.m (Kq kvs x d) w)))) else none
  |_=>none
 |_,_=>none
def WW (i:Nat) (f fk:Ev->Option Bx):Ev->Option Out:=fun ρ=>(f ρ).bind fun b=>(fk ρ).bind fun k=>M6 ρ i b k
theorem Qs {ρ:Ev} {i:Nat} {b k:Bx} {r:Out} (h:M6 ρ i b k=some r):∃ d y kvs w,b=.z d/\Z7 k=some y/\ρ[i]?=some (some (.m kvs w))/\kvs.length < 1000/\r=.nx (ρ.set i (some (.m (Kq kvs y d) w))):=by
 unfold M6 at h
 split at h
 ·obtain⟨y,ey,h⟩:=bind_some h
  split at h
  ·rename_i hρ
   split at h
   ·rename_i hl
    cases h
    exact⟨_,y,_,_,rfl,ey,hρ,hl,rfl⟩
   ·cases h
  ·cases h
 ·cases h
theorem Z8 (i:Nat) {x:Str} {p:Pos} (hu:X.A.units+100 < cLine) (he:QV X e f) (hk:QV X ek fk) (hN:X.N[i]?=some x:=by rfl) (hv:Vr X.env.scope x:=by first|exact JY rfl|exact Q3 (JY rfl)|exact Q3 (Q3 rfl)) (hd:(x==("__debug__" : Str))=false:=by decide) (hcd:(x==("__classdict__" : Str))=false:=by decide) (hs:swapsWith e (some (.Subscript (.Name x p) ek pos')) pos.line X.env=pure false:=by rfl):R3 X (.Assign [.Subscript (.Name x p) ek pos'] e pos) (fun ρ=>(f ρ).bind fun b=>(fk ρ).bind fun k=>M6 ρ i b k):=⟨have he:=he.run;have hk:=hk.run;Vu (Zu (by omega) (tu (i:=i) hN hv hd hcd) hk he hs) fun D σ H h=>by
  obtain⟨H0,ρ,r,E,e,q⟩:=h
  obtain⟨b,eb,e⟩:=bind_some e
  obtain⟨k,ek,e⟩:=bind_some e
  refine⟨H0,ρ,b,E,eb,fun v H1 s1 n1 r1=>?_⟩
  obtain⟨d,y,kvs,w0,rfl,eky,hρ,hl,rfl⟩:=Qs e
  have E1:=E.grow s1
  obtain⟨w,e1,a,ks,rfl,ha,rm,tie⟩:=E1.val i _ hρ
  refine⟨_,e1,H0,ρ,_,E1,ek,fun u H2 s2 n2 r2=>?_⟩
  obtain⟨rfl,hyl⟩:=Sh eky r2
  have E2:=E1.grow s2
  have ha2:=s2 _ _ ha
  have kp:Kp H2 (upd H2 a (.dK (putK ks y v))):=.dk ha2
  refine⟨a,_,rfl,Qd.k (k:=y) ha2 (by rw[rm.len];exact Nat.lt_trans hl (by decide)),q _ _ ?_⟩
  exact E2.acV hρ rfl e1 kp ⟨a,_,rfl,aU,((rm.kp (.of s2)).put (x:=y) (bw.same s2 r1) hyl).kp kp,tie⟩⟩
end
section
variable {X:Cx} {a b c e:Expr} {es:List Expr} {fa fb fc f:Ev->Option Bx} {fs:Ev->Option (List Bx)} {pos:Pos}
theorem tO {x:Str} {j} (hx:x.length<=sizeLine:=by decide):QV X (.Constant (.str x) j pos) (cB (.str x)):=⟨P1.Wa (hx:=hx)⟩
end
section
variable {X:Cx} {a b c e:Expr} {es:List Expr} {fa fb fc f:Ev->Option Bx} {fs:Ev->Option (List Bx)} {pos:Pos}
variable {p q:Ev->Option Bool} {rest:List Expr}
theorem aj (h1:QV X e f) (h2:Vt X es fs) (hs:starEach (e::es) X.env=(false,eval e X.env)::starEach es X.env:=by rfl):Vt X (e::es) (ao f fs):=⟨P1.Mx (h1:=h1.run) (h2:=h2.run) (hs:=hs)⟩
end
section
variable {X:Cx} {a b c e:Expr} {es:List Expr} {fa fb fc f:Ev->Option Bx} {fs:Ev->Option (List Bx)} {pos:Pos}
variable {p q:Ev->Option Bool} {rest:List Expr}
theorem aA  : Vt X [] (fun _=>some []):=⟨P1.R0 ⟩
end
theorem tQ {P:Program} {w:World} {K:FG_} {mg:Str->Option Value} {base:Heap} {x qual:Str} {st:Stmt} {f:Addr} {fd:FuncData} {N ps:LS_} {k n m:Nat} {g:Ev->Option Out} (F:yG K x qual st f fd) (S:bU N ps (aH st)) (hn:N.length=n) (hm:ps.length=m)
  (hbody:∀ (cdv:Value) (A:Around) (outer:List Env) (s:Shared) (H:Hp) (E:XK),mV k (A.deeper (envOfC qual (aH st) s.heap.objs.size f cdv))->Uo (Hh mj P w K mg base N qual (aH st) f cdv A outer s H E).Vs (bL st) g) :
  cF P w K mg base mj (k+1) f fd ps (oZ K m (iR n g)):=ahs F S hn hm fun cdv A outer s H E hr=>(hbody cdv A outer s H E hr).run
section
variable {prog:Program} {w:World} {A:Around} {E:VP_} {s:Shared}
theorem vB:∀ (vs:List Value) (ys:LS_),vs.length=ys.length->(∀ (j:Nat) v,vs[j]?=some v->∃ y t,ys[j]?=some y/\v=.str y t)->StrsAre vs ys
 |[],[],_,_=>.nil
 |v::vs,y::ys,hl,h=>by
  obtain⟨y',t,e,rfl⟩:=h 0 v rfl
  cases e
  exact .cons y t (vB vs ys (by simpa using hl) fun j v hv=>h (j+1) v (by simpa using hv))
theorem Qt {kvs:List (Key×Value)} {ys:LS_} (hk:kvs.map (·.1)=ys.map Sum.inr) {acc:Array Value} (h:ItemsOf (fun i v=>∃ k x,kvs[i]?=some (k,x)/\(bh prog w).is k v=true) acc kvs.length):StrsAre acc.toList ys:=by
 have hl:kvs.length=ys.length:=by have:=congrArg List.length hk;simpa using this
 refine vB _ _ (by rw[ZZ,h.1,hl]) fun j v hv=>?_
 obtain⟨k,x,e,hi⟩:=h.2 j v (by simpa using hv)
 have e1:(kvs.map (·.1))[j]?=some k:=by rw[zS,e];rfl
 rw[hk,zS] at e1
 cases hy:ys[j]? with
 |none=>rw[hy] at e1;cases e1
 |some y=>
  rw[hy] at e1
  cases e1
  have hi':mD (Sum.inr y) v=true:=hi
  rcases bD hi' with⟨i,t,e2,e3⟩|⟨z,t,e2,e3⟩
  ·cases e2
  ·cases e2
   exact⟨_,t,rfl,e3⟩
end
section
variable {X:Cx}
def Uz:List (Key×Dt)->Option LS_
 |[]=>some []
 |(.inr x,_)::r=>(Uz r).bind fun ys=>some (x::ys)
 |(.inl _,_)::_=>none
theorem wF:∀ {kvs:List (Key×Dt)} {ys:LS_},Uz kvs=some ys->kvs.map (·.1)=ys.map Sum.inr
 |[],_,e=>by cases e;rfl
 |(.inr x,_)::r,_,e=>by
  obtain⟨ys,e1,e⟩:=bind_some e
  cases e
  rw[zl,zl,wF e1]
 |(.inl _,_)::_,_,e=>by cases e
theorem Z9 {kvs:List (Key×Dt)} {ys:LS_} (e:Uz kvs=some ys) (h:∀ p∈kvs,okK p.1) (y:Str) (hy:y∈ys):y.length<=sizeLine:=by
 have:(Sum.inr y:Key)∈kvs.map (·.1):=by rw[wF e];exact List.mem_map.mpr ⟨y,hy,rfl⟩
 obtain⟨p,hp,ep⟩:=List.mem_map.mp this
 have:=h p hp
 rw[ep] at this;exact this
theorem Sq:∀ {ks:List (Key×V)} {vs:List (Key×Value)},KV ks vs->vs.map (·.1)=ks.map (·.1)
 |_,_,.nil=>rfl
 |_,_,.cons h t=>by rw[zl,zl,Sq t,h.1]
end
theorem bf.afu {K:FG_} {H0 H:Hp} {σ:L2.St} {ρ:Ev} (E:bf K H0 H σ ρ) (i:Nat):bf K H0 H σ (ρ.set i none):=by
 have back:∀ (j:Nat) (b:Bx),(ρ.set i none)[j]?=some (some b)->ρ[j]?=some (some b):=fun j b e=>by
  rw[K2] at e
  split at e
  ·split at e<;>cases e
  ·exact e
 refine⟨by rw[jS];exact E.len,fun j b e=>E.val j b (back j b e),fun j k c a b e1 ec e2 e3 e4 e5=>E.own j k c a b (back _ _ e1) ec e2 (back _ _ e3) e4 e5,E.base,fun j c a e1 ec e2=>E.new j c a (back _ _ e1) ec e2⟩
def kill (is:List Nat) (ρ:Ev):Ev:=is.foldl (fun ρ i=>ρ.set i none) ρ
theorem bf.kill {K:FG_} {H0 H:Hp} {σ:L2.St}:∀ (is:List Nat) {ρ:Ev},bf K H0 H σ ρ->bf K H0 H σ (P1.kill is ρ)
 |[],_,E=>E
 |i::is,_,E=>bf.kill is (E.afu i)
def fH (is:List Nat):Ev->Option Out:=fun ρ=>some (.nx (kill is ρ))
theorem WX {X:Cx} {ss:List Stmt} {g:Ev->Option Out} (is:List Nat) (h:T3 X ss g):T3 X ss (aF g (fH is)):=acO h fun D σ H q=>by
 obtain⟨H0,ρ,r,E,e,q⟩:=q
 obtain⟨r1,e1,e⟩:=bind_some e
 refine⟨H0,ρ,r1,E,e1,?_⟩
 cases r1 with
 |nx ρ1=>cases e;exact fun σ' H' E'=>q σ' H' (E'.kill is)
 |rt b=>cases e;exact q
 |bk b=>cases e;exact q
 |ct b=>cases e;exact q
theorem bH {X:Cx} {ss:List Stmt} {g:Ev->Option Out} (is:List Nat) (h:Uo X ss g):Uo X ss (aF g (fH is)):=⟨WX is h.run⟩
end P1
end
section
namespace S1
open PySem PySem.Spec PyProof.Rows
section
variable (rk:Value->Nat)
def at_ (xs:Array Keyed) (i:Nat):Nat:=match xs[i]? with
 |some p=>rk p.1
 |none=>0
def Up (xs:Array Keyed) (k:Nat):Prop:=∀ i j,i<=j->j < k->at_ rk xs i<=at_ rk xs j
def Down (xs:Array Keyed) (k:Nat):Prop:=∀ i j,i<=j->j < k->at_ rk xs j<=at_ rk xs i
structure Bs (kd:SortKind) (b:Array Keyed) (st:SortSt):Prop where
 pm:(arrOf st).Perm b
 kd:kindOf st=kd
 fl:failedOf st=none
 pd:pendingOf st=#[]
variable {rk} {kd:SortKind} {b:Array Keyed}
theorem Bs.sz {st:SortSt} (h:Bs kd b st):(arrOf st).size=b.size:=h.pm.size_eq
theorem Bs.arr {st:SortSt} {xs:Array Keyed} (h:Bs kd b st) (hp:xs.Perm (arrOf st)):Bs kd b (PyProof.Rows.setArr st xs):=⟨hp.trans h.pm,h.kd,h.fl,h.pd⟩
theorem vC {xs ys:Array Keyed} {i j:Nat} (h:xs[i]?=ys[j]?):at_ rk xs i=at_ rk ys j:=by unfold at_;rw[h]
theorem WY {xs:Array Keyed} {p d:Nat} (hs:p < xs.size) (hd:d<=p) (k:Nat):at_ rk (bubble xs p d) k=if k=p - d then at_ rk xs p else if p - d < k/\k<=p then at_ rk xs (k - 1) else at_ rk xs k:=by
 have e:=getElem?_bubble hs d hd k
 by_cases q:k=p - d
 ·simp only[zo q] at e ⊢;exact vC e
 ·simp only[zv q] at e ⊢
  by_cases q2:p - d < k/\k<=p
  ·simp only[zo q2] at e ⊢;exact vC e
  ·simp only[zv q2] at e ⊢;exact vC e
theorem Qu {xs:Array Keyed} {i j:Nat} (hj:j<=xs.size) (k:Nat):at_ rk (mirror xs i j ((j - i) / 2)) k=if i<=k/\k < j then at_ rk xs (i+j - 1 - k) else at_ rk xs k:=by
 have e:=getElem?_mirror_all (i:=i) hj k
 by_cases q:i<=k/\k < j
 ·simp only[zo q] at e ⊢;exact vC e
 ·simp only[zv q] at e ⊢;exact vC e
theorem yU {xs:Array Keyed} {i j:Nat} (hj:j<=xs.size) (he:∀ k,i<=k->k < j->at_ rk xs k=at_ rk xs (j - 1)) (k:Nat):at_ rk (mirror xs i j ((j - i) / 2)) k=at_ rk xs k:=by
 rw[Qu hj]
 by_cases q:i<=k/\k < j
 ·rw[zo q,he (i+j - 1 - k) (by omega) (by omega),he k q.1 q.2]
 ·rw[zv q]
end
section
variable {prog:Program} {w:World} {A:Around} {E:VP_} {s:Shared} {b:Array Keyed} {kd:SortKind} {rk:Value->Nat}
def Vw (prog:Program) (w:World) (A:Around) (s:Shared) (kd:SortKind) (rk:Value->Nat) (b:Array Keyed):Prop:=
 ∀ (E:VP_) (p q:Keyed) (Q:Bool->Shared->Prop),p∈b.toList->q∈b.toList->Q (decide (rk p.1 < rk q.1)) s->wpAny (model prog w) A (keyLt' kd p.1 q.1) Q E s
theorem M7 {st:SortSt} {i j:Nat} {Q:Option Bool->SortSt->Prop} (hC:Vw prog w A s kd rk b) (B:Bs kd b st) (hi:i < b.size) (hj:j < b.size)
  (h:Q (some (decide (at_ rk (arrOf st) i < at_ rk (arrOf st) j))) st):wpS (model prog w) A E s (ltAt' i j) Q st:=by
 have get:∀ k,k < b.size->∃ p,(arrOf st)[k]?=some p/\p∈b.toList:=fun k hk=>by
  have hk':k < (arrOf st).size:=by rw[B.sz];exact hk
  exact⟨(arrOf st)[k],getElem?_pos _ k hk',(Array.perm_iff_toList_perm.mp B.pm).mem_iff.mp (by simp)⟩
 obtain⟨p,e1,m1⟩:=get i hi
 obtain⟨q,e2,m2⟩:=get j hj
 have h:Q (some (decide (rk p.1 < rk q.1))) st:=by unfold at_ at h;rw[e1,e2] at h;exact h
 rw[ltAt'_eq]
 refine wpS_bind (wpS_get ?_)
 show wpS _ _ _ _ (elem' (arrOf st) i >>= fun x=>elem' (arrOf st) j >>= fun y=>lt' x y) Q st
 rw[elem'_eq,elem'_eq,e1,e2]
 refine wpS_bind (wpS_pure ?_)
 refine wpS_bind (wpS_pure ?_)
 rw[lt'_eq]
 refine wpS_bind (wpS_get ?_)
 rw[B.kd]
 exact wpS_bind (wpS_lift (wpAny_attempt (hC _ p q _ m1 m2 ⟨rfl,wpS_pure h⟩)))
theorem asc {st:SortSt} {a n:Nat} {Q:AscSt->SortSt->Prop} (hC:Vw prog w A s kd rk b) (hn:n<=b.size) (ha:1<=a) (han:a<=n) (B:Bs kd b st) (hs:Up rk (arrOf st) a)
  (h:∀ m,a<=m->m<=n->Up rk (arrOf st) m->(m=n\/at_ rk (arrOf st) m < at_ rk (arrOf st) (m - 1))->Q (none,m) st):wpS (model prog w) A E s (ascLoop a n) Q st:=by
 unfold ascLoop
 refine wpS_forRange (I:=fun x c t=>t=st/\c=(none,x)/\Up rk (arrOf st) x) ?_ ?_ ⟨rfl,rfl,hs⟩
 ·rintro x c t hax hxn ⟨rfl,rfl,up⟩
  refine wpS_bind (M7 hC B (by omega) (by omega) ?_)
  by_cases q:at_ rk (arrOf t) x < at_ rk (arrOf t) (x - 1)
  ·simp only[q,KA,QN]
   exact wpS_pure (h x hax (by omega) up (.inr q))
  ·simp only[q,kz,zr,ZN]
   refine wpS_pure ⟨rfl,rfl,fun i j hij hj=>?_⟩
   by_cases hx:j < x
   ·exact up i j hij hx
   ·have e:j=x:=by omega
    subst e
    by_cases hi:i=j
    ·rw[hi];exact zk _
    ·have:=up i (j - 1) (by omega) (by omega);omega
 ·rintro c t ⟨rfl,rfl,up⟩
  rw[show max a n=n by omega] at up ⊢
  exact h n han (zk _) up (.inl rfl)
theorem t3 {st:SortSt} {m n:Nat} {Q:Option Nat->SortSt->Prop} (hC:Vw prog w A s kd rk b) (hn:n<=b.size) (h1:1<=m) (hmn:m<=n) (B:Bs kd b st) (hs:Down rk (arrOf st) m)
  (h:∀ k t,Bs kd b t->1<=k->k<=n->Up rk (arrOf t) k->Q (some k) t):wpS (model prog w) A E s (tail3 m n) Q st:=by
 unfold tail3
 have hz:m<=(arrOf st).size:=by rw[B.sz];omega
 refine wpS_bind (wpS_reverse ?_)
 have B':Bs kd b (PyProof.Rows.setArr st (mirror (arrOf st) 0 m ((m - 0) / 2))):=B.arr (mirror_perm _ _ _ _)
 refine wpS_bind (asc hC hn h1 hmn B' (fun i j hij hj=>?_) fun k k1 k2 up _=>wpS_pure (h k _ B' (by omega) k2 up))
 show at_ rk (mirror (arrOf st) 0 m ((m - 0) / 2)) i<=at_ rk (mirror (arrOf st) 0 m ((m - 0) / 2)) j
 rw[Qu hz,Qu hz,zo ⟨by omega,by omega⟩,zo ⟨by omega,by omega⟩]
 exact hs _ _ (by omega) (by omega)
theorem dsc {st:SortSt} {m n:Nat} {Q:DescSt->SortSt->Prop} (hC:Vw prog w A s kd rk b) (hn:n<=b.size) (h1:1<=m) (hmn:m<=n) (B:Bs kd b st) (hs:Down rk (arrOf st) m)
  (h:∀ k e t,Bs kd b t->m<=k->k<=n->Down rk (arrOf t) k->e+1<=k->(∀ i,k - (e+1)<=i->i < k->at_ rk (arrOf t) i=at_ rk (arrOf t) (k - 1))->Q (none,k,e) t):wpS (model prog w) A E s (descLoop m n) Q st:=by
 unfold descLoop
 refine wpS_forRange (I:=fun x c t=>∃ e,c=(none,x,e)/\Bs kd b t/\Down rk (arrOf t) x/\e+1<=x/\∀ i,x - (e+1)<=i->i < x->at_ rk (arrOf t) i=at_ rk (arrOf t) (x - 1)) ?_ ?_ ⟨0,rfl,B,hs,by omega,fun i q1 q2=>by rw[show i=m - 1 by omega]⟩
 ·rintro x c t hax hxn ⟨e,rfl,B',dn,he,eq⟩
  have hz:x<=(arrOf t).size:=by rw[B'.sz];omega
  have grow:∀ xs:Array Keyed,(∀ k,at_ rk xs k=at_ rk (arrOf t) k)->at_ rk (arrOf t) x<=at_ rk (arrOf t) (x - 1)->Down rk xs (x+1):=fun xs hk hl i j hij hj=>by
   rw[hk,hk]
   by_cases hx:j < x
   ·exact dn i j hij hx
   ·have ej:j=x:=by omega
    subst ej
    by_cases hi:i=j
    ·rw[hi];exact zk _
    ·have:=dn i (j - 1) (by omega) (by omega);omega
  dsimp only
  refine wpS_bind (M7 hC B' (by omega) (by omega) ?_)
  by_cases q:at_ rk (arrOf t) x < at_ rk (arrOf t) (x - 1)
  ·simp only[q,KA,QN]
   by_cases h0:e > 0
   ·rw[zo h0]
    exact wpS_bind (wpS_reverse (wpS_pure ⟨0,rfl,B'.arr (mirror_perm _ _ _ _),grow _ (yU hz eq) (by omega),by omega,fun i q1 q2=>by rw[show i=x by omega];rfl⟩))
   ·rw[zv h0]
    exact wpS_pure ⟨0,rfl,B',grow _ (fun _=>rfl) (by omega),by omega,fun i q1 q2=>by rw[show i=x by omega];rfl⟩
  ·simp only[q,kz,zr,ZN]
   refine wpS_bind (M7 hC B' (by omega) (by omega) ?_)
   by_cases q2:at_ rk (arrOf t) (x - 1) < at_ rk (arrOf t) x
   ·simp only[q2,KA,QN]
    exact wpS_pure (h x e t B' hax (by omega) dn he eq)
   ·simp only[q2,kz,zr,ZN]
    refine wpS_pure ⟨e+1,rfl,B',grow _ (fun _=>rfl) (by omega),by omega,fun i q3 q4=>?_⟩
    rw[show x+1 - 1=x by omega]
    by_cases hi:i=x
    ·rw[hi]
    ·rw[eq i (by omega) (by omega)];omega
 ·rintro c t ⟨e,rfl,B',dn,he,eq⟩
  rw[show max m n=n by omega] at dn he eq ⊢
  exact h n e t B' hmn (zk _) dn he eq
theorem abB {st:SortSt} {m n:Nat} {Q:Option Nat->SortSt->Prop} (hC:Vw prog w A s kd rk b) (hn:n<=b.size) (hmn:m+1<=n) (B:Bs kd b st) (hs:Down rk (arrOf st) (m+1))
  (h:∀ k t,Bs kd b t->1<=k->k<=n->Up rk (arrOf t) k->Q (some k) t):wpS (model prog w) A E s (descPart m n) Q st:=by
 unfold descPart
 refine wpS_bind (wpS_lift (KP ⟨rfl,?_⟩))
 refine wpS_bind (dsc hC hn (by omega) hmn B hs fun k e t B' k1 k2 dn he eq=>?_)
 have hz:k<=(arrOf t).size:=by rw[B'.sz];omega
 by_cases h0:e > 0
 ·simp only[zo h0]
  refine wpS_bind (wpS_reverse (t3 hC hn (by omega) k2 (B'.arr (mirror_perm _ _ _ _)) (fun i j hij hj=>?_) h))
  show at_ rk (mirror (arrOf t) _ _ _) j<=at_ rk (mirror (arrOf t) _ _ _) i
  rw[yU hz eq,yU hz eq]
  exact dn i j hij hj
 ·simp only[zv h0]
  exact t3 hC hn (by omega) k2 B' dn h
theorem aht {st:SortSt} {n:Nat} {Q:Option Nat->SortSt->Prop} (hC:Vw prog w A s kd rk b) (hn:n<=b.size) (h1:1<=n) (B:Bs kd b st)
  (h:∀ k t,Bs kd b t->1<=k->k<=n->Up rk (arrOf t) k->Q (some k) t):wpS (model prog w) A E s (countRun' 0 n) Q st:=by
 rw[countRun0_eq]
 refine wpS_bind (asc hC hn (zk 1) h1 B (fun i j hij hj=>by rw[show i=j by omega];exact zk _) fun m m1 m2 up or=>?_)
 by_cases hm:m=n
 ·simp only[zo (show (m==n)=true by simpa using hm)]
  exact wpS_pure (h m st B m1 m2 up)
 ·simp only[zv (show ¬ (m==n)=true by simpa using hm)]
  have lt:=or.resolve_left hm
  have hz:m<=(arrOf st).size:=by rw[B.sz];omega
  by_cases g1:m > 1
  ·rw[zo g1]
   refine wpS_bind (M7 hC B (by omega) (by omega) ?_)
   by_cases q:at_ rk (arrOf st) 0 < at_ rk (arrOf st) (m - 1)
   ·simp only[q,KA,QN]
    exact wpS_pure (h m st B m1 m2 up)
   ·simp only[q,kz,zr,ZN]
    have all:∀ k,0<=k->k < m->at_ rk (arrOf st) k=at_ rk (arrOf st) (m - 1):=fun k _ hk=>by
     have a1:=up 0 k (by omega) hk
     have a2:=up k (m - 1) (by omega) (by omega)
     omega
    refine wpS_bind (wpS_reverse (abB hC hn (by omega) (B.arr (mirror_perm _ _ _ _)) (fun i j hij hj=>?_) h))
    show at_ rk (mirror (arrOf st) _ _ _) j<=at_ rk (mirror (arrOf st) _ _ _) i
    rw[yU hz all,yU hz all]
    by_cases hj':j < m
    ·rw[all i (by omega) (by omega),all j (by omega) hj'];exact zk _
    ·have ej:j=m:=by omega
     subst ej
     by_cases hi:i=j
     ·rw[hi];exact zk _
     ·rw[all i (by omega) (by omega)];omega
  ·rw[zv g1]
   have e1:m=1:=by omega
   subst e1
   refine abB hC hn (by omega) B (fun i j hij hj=>?_) h
   by_cases hi:i=j
   ·rw[hi];exact zk _
   ·rw[show i=0 by omega,show j=1 by omega];exact Q4 lt
theorem bins {st:SortSt} {n k0:Nat} {Q:Bool->SortSt->Prop} (hC:Vw prog w A s kd rk b) (hn:n<=b.size) (hk0:k0<=n) (B:Bs kd b st) (hs:Up rk (arrOf st) k0)
  (h:∀ t,Bs kd b t->Up rk (arrOf t) n->Q true t):wpS (model prog w) A E s (binarySort' 0 n k0) Q st:=by
 rw[binarySort'_eq]
 simp only[KM]
 refine wpS_bind (wpS_mono (wpS_forRange (I:=fun k c t=>c=(none,())/\Bs kd b t/\Up rk (arrOf t) (min k n)) (Q:=fun c t=>c=(none,())/\Bs kd b t/\Up rk (arrOf t) n) ?_ ?_ ?_) ?_)
 ·rintro k c t hak hkn ⟨rfl,B',up⟩
  rw[show min k n=k by omega] at up
  have hk:k < b.size:=by omega
  refine wpS_bind (wpS_mono (wpS_forRange (I:=fun x c t'=>t'=t/\∃ l r,c=(none,l,r)/\l<=r/\r<=k/\r - l<=k - x/\(∀ i,i < l->at_ rk (arrOf t) i<=at_ rk (arrOf t) k)/\(∀ i,r<=i->i < k->at_ rk (arrOf t) k < at_ rk (arrOf t) i))
   (Q:=fun c t'=>t'=t/\∃ l r,c=(none,l,r)/\l<=k/\(∀ i,i < l->at_ rk (arrOf t) i<=at_ rk (arrOf t) k)/\(∀ i,l<=i->i < k->at_ rk (arrOf t) k < at_ rk (arrOf t) i)) ?_ ?_ ?_) ?_)
  ·rintro x c t' _ hx ⟨rfl,l,r,rfl,lr,rk',mm,lo,hi⟩
   dsimp only
   by_cases ge:l>=r
   ·rw[zo ge]
    have e:l=r:=by omega
    subst e
    exact wpS_pure ⟨rfl,l,l,rfl,rk',lo,hi⟩
   ·rw[zv ge]
    refine wpS_bind (M7 hC B' hk (by omega) ?_)
    by_cases q:at_ rk (arrOf t') k < at_ rk (arrOf t') ((l+r) / 2)
    ·simp only[q,KA,QN]
     refine wpS_pure ⟨rfl,l,(l+r) / 2,rfl,by omega,by omega,by omega,lo,fun i q1 q2=>?_⟩
     have:=up ((l+r) / 2) i q1 q2
     omega
    ·simp only[q,kz,zr,ZN]
     refine wpS_pure ⟨rfl,(l+r) / 2+1,r,rfl,by omega,by omega,by omega,fun i q1=>?_,hi⟩
     have:=up i ((l+r) / 2) (by omega) (by omega)
     omega
  ·rintro c t' ⟨rfl,l,r,rfl,lr,rk',mm,lo,hi⟩
   have e:l=r:=by omega
   subst e
   exact⟨rfl,l,l,rfl,rk',lo,hi⟩
  ·exact⟨rfl,0,k,rfl,by omega,by omega,by omega,fun i hi=>by omega,fun i q1 q2=>by omega⟩
  ·rintro c t' ⟨rfl,l,r,rfl,lk,lo,hi⟩
   show wpS _ _ _ _ (moveDown' k l >>= fun _=>pure (ForInStep.yield (none,()))) _ _
   rw[moveDown'_eq]
   refine wpS_bind (wpS_modify (wpS_pure ⟨rfl,B'.arr (bubble_perm _ _ _),?_⟩))
   rw[show min (k+1) n=k+1 by omega]
   have hz:k < (arrOf t').size:=by rw[B'.sz];exact hk
   intro i j hij hj
   show at_ rk (bubble (arrOf t') k (k - l)) i<=at_ rk (bubble (arrOf t') k (k - l)) j
   rw[WY hz (by omega),WY hz (by omega),show k - (k - l)=l by omega]
   repeat' split
   all_goals first
    |(exfalso;omega)
    |exact zk _
    |exact lo _ (by omega)
    |exact Q4 (hi _ (by omega) (by omega))
    |exact up _ _ (by omega) (by omega)
 ·rintro c t ⟨hc,B',up⟩
  refine⟨hc,B',?_⟩
  rwa [show min (max (max k0 1) n) n=n by omega] at up
 ·refine⟨rfl,B,fun i j hij hj=>?_⟩
  by_cases z:k0=0
  ·rw[show i=j by omega];exact zk _
  ·exact hs i j hij (by omega)
 ·rintro c t ⟨rfl,B',up⟩
  exact wpS_pure (h t B' up)
end
section
variable {prog:Program} {w:World} {A:Around} {E:VP_} {s:Shared} {b:Array Keyed} {kd:SortKind} {rk:Value->Nat}
def Dn (kd:SortKind) (rk:Value->Nat) (b:Array Keyed) (st:SortSt):Prop:=(arrOf st).Perm b/\failedOf st=none/\pendingOf st=#[(0,b.size,0)]/\Up rk (arrOf st) b.size
theorem Bs.dn {st:SortSt} (B:Bs kd b st) (up:Up rk (arrOf st) b.size):Dn kd rk b (setPending st ((pendingOf st).push (0,b.size,0))):=⟨B.pm,B.fl,(by show (pendingOf st).push _=_;rw[B.pd];rfl),up⟩
theorem runs {st:SortSt} {Q:Unit->SortSt->Prop} (hC:Vw prog w A s kd rk b) (B:Bs kd b st) (h2:2<=b.size) (h64:b.size < 64)
  (h:∀ t,(arrOf t).Perm b->failedOf t=none->Up rk (arrOf t) b.size->Q () t):wpS (model prog w) A E s sortRuns' Q st:=by
 rw[sortRuns'_eq]
 refine wpS_bind (wpS_get ?_)
 have mr:minRun' b.size b.size 0=b.size:=by
  obtain⟨f,hf⟩:∃ f,b.size=f+1:=⟨b.size - 1,by omega⟩
  have q:minRun' (f+1) b.size 0=b.size:=(minRun'_succ f b.size 0).trans (zo h64)
  rwa [<-hf] at q
 simp only[B.sz,mr]
 have back:∀ {t:SortSt},Bs kd b t->(pendingOf t).back?=none:=fun B=>by rw[B.pd];rfl
 refine wpS_bind (wpS_mono (wpS_forRange (I:=fun x c t=>(x=0/\c=(none,0)/\Bs kd b t)\/(1<=x/\c=(none,b.size)/\Dn kd rk b t)) (Q:=fun c t=>c=(none,b.size)/\Dn kd rk b t) ?_ ?_ (.inl ⟨rfl,rfl,B⟩)) ?_)
 ·rintro x c t _ hx (⟨rfl,rfl,B'⟩|⟨hx1,rfl,D⟩)
  ·dsimp only
   rw[zv (by omega)]
   simp only[Nat.sub_zero,Nat.min_self,KM]
   refine wpS_bind (aht hC (zk _) (by omega) B' fun m t2 B2 m1 m2 up2=>?_)
   dsimp only
   by_cases lt:m < b.size
   ·rw[zo lt]
    refine wpS_bind (wpS_lift (KP ⟨rfl,wpS_bind (bins hC (zk _) m2 B2 up2 fun t3 B3 up3=>?_)⟩))
    simp only[kq,zr,ZN]
    refine wpS_bind (wpS_get ?_)
    rw[back B3]
    exact wpS_bind (wpS_modify (wpS_pure (.inr ⟨by omega,rfl,B3.dn up3⟩)))
   ·rw[zv lt]
    have e:m=b.size:=by omega
    subst e
    refine wpS_bind (wpS_get ?_)
    rw[back B2]
    exact wpS_bind (wpS_modify (wpS_pure (.inr ⟨by omega,rfl,B2.dn up2⟩)))
  ·dsimp only
   rw[zo (zk _)]
   exact wpS_pure ⟨rfl,D⟩
 ·rintro c t (⟨hx,_,_⟩|⟨_,hc,D⟩)
  ·omega
  ·exact⟨hc,D⟩
 ·rintro c t ⟨rfl,D⟩
  dsimp only
  refine wpS_bind (wpS_mono (wpS_forRange (I:=fun _ c u=>u=t/\c=(none,())) (Q:=fun c u=>u=t/\c=(none,())) ?_ (fun _ _ q=>q) ⟨rfl,rfl⟩) ?_)
  ·rintro x c u _ _ ⟨rfl,rfl⟩
   refine wpS_bind (wpS_get ?_)
   rw[zo (by rw[D.2.2.1];exact zk 1)]
   exact wpS_pure ⟨rfl,rfl⟩
  ·rintro c u ⟨rfl,rfl⟩
   exact wpS_pure (h _ D.1 D.2.1 D.2.2.2)
def Old (a:Addr) (s s':Shared):Prop:=∀ c o,c≠a->s.heap.get? c=some o->s'.heap.get? c=some o
theorem abC {a:Addr} {vs:List Value} {n:Nat} {P:Fin->Shared->Prop} (ho:s.heap.get? a=some (seqObj "list" vs.toArray n))
  (hK:2<=vs.length->∀ s',Old a s s'->∀ Q:SortKind->Shared->Prop,Q kd s'->wpAny (model prog w) A (keyKind' vs.toArray) Q E s') (hC:∀ s',Old a s s'->Vw prog w A s' kd rk (pairsOf vs)) (h64:vs.length < 64)
  (h:∀ st:SortSt,(arrOf st).Perm (pairsOf vs)->Up rk (arrOf st) (pairsOf vs).size->P (.done (.ret .none)) { s with heap:=sortedHeap s.heap a vs ((arrOf st).map (·.2)) }) :
  wpAny (model prog w) A (Builtin.«list.sort» ⟨[.ref a],[]⟩) P E s:=by
 rw[list_sort_plain]
 have ha:=zz ho
 refine zb (listItems_at ho rfl (zb (listUpdate_at ho rfl ?_)))
 obtain⟨e1,g1⟩:∃ e1,(s.heap.update a (Obj.mapSeq fun _=>#[])).get? a=some (seqObj "list" #[] e1):=⟨_,get?_update_seq ho fun _=>#[]⟩
 refine zb (seqEpoch_at g1 rfl (zb (wpAny_newTuple (zb (wpAny_newList (QR ?_))))))
 have z1:(s.heap.update a (Obj.mapSeq fun _=>#[])).objs.size=s.heap.objs.size:=Heap.size_update ..
 have keep:∀ c,c < s.heap.objs.size->(((s.heap.update a (Obj.mapSeq fun _=>#[])).push (seqObj "tuple" vs.toArray 0)).push (seqObj "list" #[] 0)).get? c=(s.heap.update a (Obj.mapSeq fun _=>#[])).get? c:=fun c hc=>by
  rw[Heap.get?_push_ne _ _ _ (by rw[size_push',z1];exact zI (QA hc)),Heap.get?_push_ne _ _ _ (by rw[z1];exact zI hc)]
 have g6:=(keep a ha).trans g1
 have old:Old a s { s with heap:=((s.heap.update a (Obj.mapSeq fun _=>#[])).push (seqObj "tuple" vs.toArray 0)).push (seqObj "list" #[] 0) }:=fun c o hc e=>by
  show (((s.heap.update a (Obj.mapSeq fun _=>#[])).push (seqObj "tuple" vs.toArray 0)).push (seqObj "list" #[] 0)).get? c=some o
  rw[keep c (zz e),Jn _ _ _ _ hc]
  exact e
 show wpAny _ _ _ _ _ { s with heap:=((s.heap.update a (Obj.mapSeq fun _=>#[])).push (seqObj "tuple" vs.toArray 0)).push (seqObj "list" #[] 0) }
 have hz:vs.toArray.size=vs.length:=by simp
 have lz:∀ st:SortSt,(arrOf st).Perm (pairsOf vs)->((arrOf st).map (·.2)).size<=sizeLine+1:=fun st hp=>by
  have q:((arrOf st).map (·.2)).size=vs.length:=(Array.size_map ..).trans (hp.size_eq.trans (pairsOf_size _))
  rw[q,sizeLine_eq];omega
 by_cases h2:vs.toArray.size < 2
 ·simp only[zo h2]
  refine zb (zg ?_)
  rw[StateT.run_pure]
  refine zb (zg (zb (seqEpoch_at g6 rfl (zb (listUpdate_at g6 rfl ?_ (hsz2:=lz (SortSt.mk' general' (pairsOf vs) #[] 7 none) (Array.Perm.refl _)))))))
  simp only[bne_self_eq_false,zr,ZN]
  refine zg (h (SortSt.mk' general' (pairsOf vs) #[] 7 none) (Array.Perm.refl _) fun i j hij hj=>?_)
  rw[pairsOf_size] at hj
  rw[show i=j by omega]
  exact zk _
 ·simp only[zv h2]
  refine zb (hK (by omega) _ old _ ?_)
  refine zb (qo (runs (hC _ old) (st:=SortSt.mk' kd (pairsOf vs) #[] 7 none) (Q:=fun _ t=>(arrOf t).Perm (pairsOf vs)/\failedOf t=none/\Up rk (arrOf t) (pairsOf vs).size) ⟨Array.Perm.refl _,rfl,rfl,rfl⟩ (by rw[pairsOf_size];omega) (by rw[pairsOf_size];exact h64) fun t q1 q2 q3=>⟨q1,q2,q3⟩) ?_ fun _ _ q=>q)
  rintro⟨⟨⟩,t⟩ s' ⟨rfl,hp,hf,up⟩
  dsimp only
  refine zb (seqEpoch_at g6 rfl (zb (listUpdate_at g6 rfl ?_ (hsz2:=lz t hp))))
  rw[hf]
  simp only[bne_self_eq_false,zr,ZN]
  exact zg (h t hp up)
theorem UG {x:Value} {vs:List Value} {Q:VP_} (adn:∀ (E':VP_) (Q':List Value->Shared->Prop),(∀ h' tk,s.heap.objs.size<=h'.objs.size->(∀ c o,s.heap.get? c=some o->h'.get? c=some o)->Q' vs { s with heap:=h',toks:=tk })->wpAny (model prog w) A.in1 (collect x) Q' E' s)
  (hK:2<=vs.length->∀ (E':VP_) (A':Around) (s':Shared),(∀ c o,s.heap.get? c=some o->s'.heap.get? c=some o)->∀ Q:SortKind->Shared->Prop,Q kd s'->wpAny (model prog w) A' (keyKind' vs.toArray) Q E' s') (hC:∀ (A':Around) (s':Shared),(∀ c o,s.heap.get? c=some o->s'.heap.get? c=some o)->Vw prog w A' s' kd rk (pairsOf vs)) (h64:vs.length < 64)
  (h:∀ (l:Addr) (h':Heap) (tk n:Nat) (st:SortSt),(arrOf st).Perm (pairsOf vs)->Up rk (arrOf st) (pairsOf vs).size->s.heap.objs.size<=l->(∀ c o,s.heap.get? c=some o->h'.get? c=some o)->h'.get? l=some (seqObj "list" ((arrOf st).map (·.2)) n)->Q (.ref l) { s with heap:=h',toks:=tk }) :
  wpAny (model prog w) A (call (.builtin "sorted") [x]) Q E s:=by
 refine Calls.call_function_entry kind_sorted plain_sorted entry_sorted (args_sorted1 _) ?_;unfold Builtin.«sorted»
 refine zb (m:=checkCount "sorted" 1 1 _) (zg (zb (adn _ _ fun h1 tk hle ext=>zb (wpAny_newList ?_))))
 have hoL:(h1.push (seqObj "list" vs.toArray 0)).get? h1.objs.size=some (seqObj "list" vs.toArray 0):=zt _ rfl
 have old:∀ s':Shared,Old h1.objs.size { s with heap:=h1.push (seqObj "list" vs.toArray 0),toks:=tk } s'->∀ c o,s.heap.get? c=some o->s'.heap.get? c=some o:=fun s' q c o e=>
  q c o (zI (zz (ext c o e))) (zd _ (ext c o e))
 refine zb (QR (JE slot_list_sort ⟨_,hoL,rfl⟩ entry_list_sort (abC hoL (fun q s' o=>hK q _ _ s' (old s' o)) (fun s' o=>hC _ s' (old s' o)) h64 fun st q1 q2=>⟨_,rfl,zg ⟨_,rfl,?_⟩⟩) (args_list_sort _)))
 obtain⟨n,en⟩:=sortedHeap_at (out:=(arrOf st).map (·.2)) hoL
 refine h h1.objs.size _ tk n st q1 q2 hle (fun c o e=>?_) en
 have hb:=zz (ext c o e)
 rw[sortedHeap_old (zI hb) (by rw[qc];exact QA hb)]
 exact zd _ (ext c o e)
end
end S1
end
section
namespace S1
open PySem PySem.Spec PyProof.Rows L2
theorem UJ (fb:Bool) (x y:Value):keyLt' (tuples' fb) x y=(do
  let xs <-Builtin.List.listItems x
  let ys <-Builtin.List.listItems y
  for ((p,q),i) in (xs.toList.zip ys.toList).zipIdx do
   if !(<-eqBool p q) then return <-oneLt' (fb&&i==0) p q
  return decide (xs.size < ys.size)):=rfl
def Ss:Key->Key->Bool
 |.inl a,.inl b=>decide (a < b)
 |.inr x,.inr y=>decide (x.cps.toList < y.cps.toList)
 |.inl _,.inr _=>true
 |.inr _,.inl _=>false
def Sv:Key->Key->Bool
 |.inl _,.inl _=>true
 |.inr _,.inr _=>true
 |_,_=>false
def o7:List Key->List Key->Bool
 |[],[]=>false
 |[],_::_=>true
 |_::_,[]=>false
 |x::xs,y::ys=>if x=y then o7 xs ys else Ss x y
def Shp:List Key->List Key->Prop
 |x::xs,y::ys=>Sv x y=true/\Shp xs ys
 |_,_=>True
section
variable {prog:Program} {w:World} {A:Around} {E:VP_} {s:Shared}
theorem key_eq {x y:Key} {p q:Value} {Q:Bool->Shared->Prop} (hp:mD x p=true) (hq:mD y q=true) (h:Q (decide (x=y)) s):wpAny (model prog w) A (eqBool p q) Q E s:=
 (bh prog w).eqBool (a:=x) (b:=y) hp hq h
theorem ado {fb:Bool} {x y:Key} {p q:Value} {Q:Bool->Shared->Prop} (hs:Sv x y=true) (hp:mD x p=true) (hq:mD y q=true) (h:Q (Ss x y) s):wpAny (model prog w) A (oneLt' fb p q) Q E s:=by
 rcases bD hp with⟨i,t,rfl,rfl⟩|⟨z,t,rfl,rfl⟩
 ·rcases bD hq with⟨j,u,rfl,rfl⟩|⟨z,u,rfl,rfl⟩
  ·cases fb with
   |true=>exact oneLt_int h
   |false=>
    rw[oneLt'_eq]
    simp only[zr,ZN]
    refine zb (show wpAny _ _ (compareOp .Lt (.int i t) (.int j u)) _ _ _ from lt_int ?_)
    exact kQ h
  ·cases hs
 ·rcases bD hq with⟨j,u,rfl,rfl⟩|⟨z',u,rfl,rfl⟩
  ·cases hs
  ·cases fb with
   |true=>exact oneLt_str h
   |false=>
    rw[oneLt'_eq]
    simp only[zr,ZN]
    refine zb (show wpAny _ _ (compareOp .Lt (.str z t) (.str z' u)) _ _ _ from PySem.P.lt_str ?_)
    exact kQ h
def Ks (ks:List Key) (its:List Value):Prop:=Paired (fun k v=>mD k v=true) ks its
def dif:List Key->List Key->Option Bool
 |x::xs,y::ys=>if x=y then dif xs ys else some (Ss x y)
 |_,_=>none
theorem W0:∀ ks ls:List Key,o7 ks ls=match dif ks ls with|some r=>r|none=>decide (ks.length < ls.length)
 |[],[]=>rfl
 |[],_::_=>by simp[o7,dif]
 |_::_,[]=>rfl
 |x::xs,y::ys=>by
  simp only[o7,dif]
  by_cases e:x=y
  ·rw[zo e,zo e,W0 xs ys]
   simp only[qh,Nat.add_lt_add_iff_right]
  ·rw[zv e,zv e]
def turn (fb:Bool):(Value×Value)×Nat->Option Bool×Unit->Sem (ForInStep (Option Bool×Unit)):=fun x _=>match x with
 |((p,q),i)=>do
  let e <-eqBool p q
  if (!e)=true then do
    let r <-oneLt' (fb&&i==0) p q
    pure (ForInStep.done (some r,()))
   else pure (ForInStep.yield (none,()))
theorem walk (fb:Bool):∀ (ks ls:List Key) (its jts:List Value) (i:Nat) (R:Option Bool×Unit->Shared->Prop),Ks ks its->Ks ls jts->Shp ks ls->R (dif ks ls,()) s->wpAny (model prog w) A (forIn ((its.zip jts).zipIdx i) ((none,()):Option Bool×Unit) (turn fb)) R E s
 |[],_,_,_,_,R,.nil,_,_,h=>zg h
 |_::_,[],_::_,_,_,R,_,.nil,_,h=>zg h
 |x::xs,y::ys,p::its,q::jts,i,R,.cons hp hk,.cons hq hl,hs,h=>by
  rw[List.zip_cons_cons,List.zipIdx_cons,List.forIn_cons]
  refine zb ?_
  show wpAny _ _ (eqBool p q >>= _) _ _ _
  refine zb (key_eq hp hq ?_)
  by_cases e:x=y
  ·simp only[e,KA,kq,zr,ZN]
   refine zg (walk fb xs ys its jts (i+1) R hk hl hs.2 ?_)
   simp only[dif,zo e] at h
   exact h
  ·simp only[e,kz,Bool.not_false,QN]
   refine zb (ado hs.1 hp hq (zg (zg ?_)))
   simp only[dif,zv e] at h
   exact h
theorem adp {fb:Bool} {a c:Addr} {oa oc:Obj} {its jts:List Value} {n m:Nat} {ks ls:List Key} {Q:Bool->Shared->Prop} (ha:s.heap.get? a=some oa) (da:oa.data=.seq its.toArray n) (hc:s.heap.get? c=some oc) (dc:oc.data=.seq jts.toArray m)
  (hk:Ks ks its) (hl:Ks ls jts) (hs:Shp ks ls) (h:Q (o7 ks ls) s):wpAny (model prog w) A (keyLt' (tuples' fb) (.ref a) (.ref c)) Q E s:=by
 rw[UJ]
 refine zb (listItems_at ha da (zb (listItems_at hc dc ?_)))
 have hl1:its.length=ks.length:=(Paired.length hk).symm
 have hl2:jts.length=ls.length:=(Paired.length hl).symm
 refine zb (walk fb ks ls its jts 0 _ hk hl hs ?_)
 rw[W0] at h
 cases e:dif ks ls with
 |some r=>rw[e] at h;exact zg h
 |none=>
  rw[e] at h
  refine zg ?_
  simpa [hl1,hl2] using h
end
theorem aad (x:Key):Ss x x=false:=by
 cases x with
 |inl a=>simp[Ss]
 |inr a=>simp[Ss]
theorem UL {x y z:Key} (h:Ss x y=true) (h':Ss y z=true):Ss x z=true:=by
 cases x<;>cases y<;>cases z<;>simp only[Ss,z5,zr,reduceCtorEq] at h h' ⊢
 ·omega
 ·exact List.lt_trans h h'
theorem aae {x y:Key} (h:Ss x y=false) (h':Ss y x=false):x=y:=by
 cases x<;>cases y<;>simp only[Ss,Qb,Bool.true_eq_false,reduceCtorEq] at h h'
 ·congr 1;omega
 ·rename_i a b
  have:=List.le_antisymm (as:=a.cps.toList) (bs:=b.cps.toList) h' h
  cases a;cases b
  simp only at this
  rw[Array.toList_inj.mp this]
theorem Eh:∀ xs:List Key,o7 xs xs=false
 |[]=>rfl
 |x::xs=>by simp only[o7,QN];exact Eh xs
theorem qp:∀ {xs ys zs:List Key},o7 xs ys=true->o7 ys zs=true->o7 xs zs=true
 |[],[],_,h,_=>by cases h
 |[],_::_,[],_,h'=>by cases h'
 |[],_::_,_::_,_,_=>rfl
 |_::_,[],_,h,_=>by cases h
 |_::_,_::_,[],_,h'=>by cases h'
 |x::xs,y::ys,z::zs,h,h'=>by
  simp only[o7] at h h' ⊢
  by_cases e1:x=y
  ·subst e1
   rw[zo rfl] at h
   by_cases e2:x=z
   ·subst e2
    rw[zo rfl] at h' ⊢
    exact qp h h'
   ·rw[zv e2] at h' ⊢;exact h'
  ·rw[zv e1] at h
   by_cases e2:y=z
   ·subst e2
    rw[zv e1];exact h
   ·rw[zv e2] at h'
    have:=UL h h'
    rw[zv (fun e=>by subst e;rw[aad] at this;cases this)]
    exact this
theorem yV:∀ {xs ys:List Key},o7 xs ys=false->o7 ys xs=false->xs=ys
 |[],[],_,_=>rfl
 |[],_::_,h,_=>by cases h
 |_::_,[],_,h'=>by cases h'
 |x::xs,y::ys,h,h'=>by
  simp only[o7] at h h'
  by_cases e:x=y
  ·subst e
   rw[zo rfl] at h h'
   rw[yV h h']
  ·rw[zv e] at h
   rw[zv (kM e)] at h'
   exact absurd (aae h h') e
def vD (xs ys:List Key):Bool:=!o7 ys xs
theorem xX (a b c:List Key) (h:vD a b=true) (h':vD b c=true):vD a c=true:=by
 unfold vD at *
 simp only[qS] at *
 cases hc:o7 c a with
 |false=>rfl
 |true=>
  cases hab:o7 a b with
  |true=>rw[qp hc hab] at h';cases h'
  |false=>
   have e:=yV hab h
   subst e
   rw[hc] at h';cases h'
theorem xY (a b:List Key):(vD a b||vD b a)=true:=by
 unfold vD
 cases h:o7 b a with
 |false=>rfl
 |true=>
  cases h':o7 a b with
  |false=>rfl
  |true=>have:=qp h h';rw[Eh] at this;cases this
theorem Jp {a b:List Key} (h:vD a b=true) (h':vD b a=true):a=b:=by
 unfold vD at *
 simp only[qS] at *
 exact yV h' h
theorem qU {α:Type} {le:α->α->Prop} (anti:∀ a b,le a b->le b a->a=b):∀ {l l':List α},l.Perm l'->l.Pairwise le->l'.Pairwise le->l=l'
 |[],l',h,_,_=>by rw[List.nil_perm.mp h]
 |a::l,[],h,_,_=>by cases List.perm_nil.mp h
 |a::l,b::l',h,p,p'=>by
  have e:a=b:=by
   have ha:a∈b::l':=h.mem_iff.mp (ze ..)
   have hb:b∈a::l:=h.mem_iff.mpr (ze ..)
   rcases List.mem_cons.mp ha with h1|h1
   ·exact h1
   ·rcases List.mem_cons.mp hb with h2|h2
    ·exact h2.symm
    ·exact anti a b (JJ p h2) (JJ p' h1)
  subst e
  rw[qU anti ((List.perm_cons a).mp h) (List.pairwise_cons.mp p).2 (List.pairwise_cons.mp p').2]
def mK (bZ:List (List Key)):List (List Key):=bZ.mergeSort vD
theorem oA (bZ:List (List Key)):(mK bZ).Perm bZ:=KL ..
theorem vG (bZ:List (List Key)):(mK bZ).Pairwise (fun a b=>vD a b=true):=kL xX xY bZ
theorem sI {bZ out:List (List Key)} (hp:out.Perm bZ) (hs:out.Pairwise (fun a b=>vD a b=true)):out=mK bZ:=qU (fun _ _=>Jp) (hp.trans (oA bZ).symm) hs (vG bZ)
def rank (bZ:List (List Key)) (k:List Key):Nat:=bZ.countP fun u=>o7 u k
theorem Jq {α:Type} {p q:α->Bool}:∀ {l:List α},(∀ x∈l,p x=true->q x=true)->(∃ x∈l,p x=false/\q x=true)->l.countP p < l.countP q
 |[],_,⟨x,hx,_⟩=>by cases hx
 |a::l,h,⟨x,hx,h1,h2⟩=>by
  have le:l.countP p<=l.countP q:=List.countP_mono_left fun y hy=>h y (zh _ hy)
  rw[List.countP_cons,List.countP_cons]
  rcases List.mem_cons.mp hx with rfl|hx
  ·rw[h1,h2];simp;omega
  ·have:=Jq (fun y hy=>h y (zh _ hy)) ⟨x,hx,h1,h2⟩
   have ha:=h a (ze ..)
   cases hp:p a with
   |true=>rw[ha hp];simp;omega
   |false=>simp;omega
theorem Sw {bZ:List (List Key)} {a b:List Key} (ha:a∈bZ):decide (rank bZ a < rank bZ b)=o7 a b:=by
 cases h:o7 a b with
 |true=>
  refine qV (Jq (fun u _ hu=>qp hu h) ⟨a,ha,Eh a,h⟩)
 |false=>
  refine qk (Nat.not_lt.mpr (List.countP_mono_left fun u _ hu=>?_))
  cases hb:o7 b a with
  |true=>exact qp hu hb
  |false=>rw[yV h hb];exact hu
def kW (h:Heap) (ks:List Key) (v:Value):Prop:=∃ (a:Addr) (o:Obj) (its:List Value) (n:Nat),v=.ref a/\h.get? a=some o/\o.cls=.type "tuple" ∧ o.data=.seq its.toArray n/\Ks ks its
theorem kW.keep {h h':Heap} {ks:List Key} {v:Value} (q:kW h ks v) (k:∀ c o,h.get? c=some o->h'.get? c=some o):kW h' ks v:=by
 obtain⟨a,o,its,n,e,g,c,d,p⟩:=q
 exact⟨a,o,its,n,e,k _ _ g,c,d,p⟩
theorem aaf {k l:Key} {v:Value} (h:mD k v=true) (h':mD l v=true):k=l:=by
 rcases bD h with⟨i,t,rfl,rfl⟩|⟨x,t,rfl,rfl⟩
 ·rcases bD h' with⟨j,u,rfl,e⟩|⟨y,u,rfl,e⟩
  ·cases e;rfl
  ·cases e
 ·rcases bD h' with⟨j,u,rfl,e⟩|⟨y,u,rfl,e⟩
  ·cases e
  ·cases e;rfl
theorem Ks.inj:∀ {ks ls:List Key} {its:List Value},Ks ks its->Ks ls its->ks=ls
 |_,_,[],h,h'=>by cases h;cases h';rfl
 |_,_,v::its,h,h'=>by
  cases h with
  |cons p t=>cases h' with
   |cons p' t'=>rw[aaf p p',Ks.inj t t']
theorem kW.inj {h:Heap} {ks ls:List Key} {v:Value} (q:kW h ks v) (q':kW h ls v):ks=ls:=by
 obtain⟨a,o,its,n,rfl,g,c,d,p⟩:=q
 obtain⟨a',o',its',n',e,g',c',d',p'⟩:=q'
 cases e
 rw[g] at g'
 cases g'
 rw[d] at d'
 injection d' with e1 e2
 have e3:its=its':=by simpa using congrArg Array.toList e1
 subst e3
 exact p.inj p'
section
variable {prog:Program} {w:World} {A:Around} {E:VP_} {s:Shared}
theorem Kr {α β:Type} {f:α->Sem β}:∀ (xs:List α) (ys:List β) (Q:List β->Shared->Prop),Paired (fun x y=>∀ (E':VP_) (Q':β->Shared->Prop),Q' y s->wpAny (model prog w) A (f x) Q' E' s) xs ys->Q ys s->wpAny (model prog w) A (xs.mapM f) Q E s
 |[],_,Q,.nil,h=>by rw[List.mapM_nil];exact zg h
 |x::xs,y::ys,Q,.cons h t,q=>by
  rw[List.mapM_cons]
  exact zb (h _ _ (zb (Kr xs ys _ t (zg q))))
theorem W2 (v:Value):firstOfTuple' v=(do
  if (<-typeOf v) != .type "tuple" then return none
  return (<-Builtin.List.listItems v)[0]?):=rfl
theorem UW {k:Key} {ks:List Key} {v:Value} (q:kW s.heap (k::ks) v):∃ u,mD k u=true/\∀ (E':VP_) (Q':Option Value->Shared->Prop),Q' (some u) s->wpAny (model prog w) A (firstOfTuple' v) Q' E' s:=by
 obtain⟨a,o,its,n,rfl,g,c,d,p⟩:=q
 cases p with
 |@cons _ u _ its hp t=>
  refine⟨u,hp,fun E' Q' h=>?_⟩
  rw[W2]
  refine zb (QU (T := "tuple") ⟨o,g,c⟩ ?_)
  rw[zv (by decide)]
  exact zb (listItems_at g d (zg h))
theorem W3 {k:Key} {u:Value} (h:mD k u=true) (E':VP_) (Q':VP_) (q:Q' (.type (if k.isLeft then "int" else "str")) s):wpAny (model prog w) A (typeOf u) Q' E' s:=by
 rcases bD h with⟨i,t,rfl,rfl⟩|⟨x,t,rfl,rfl⟩
 ·exact QU (typeIs_int s i t) q
 ·exact QU (typeIs_str s x t) q
theorem Jr {vs:List Value} {bZ:List (List Key)} {Q:SortKind->Shared->Prop} (hv:Paired (kW s.heap) bZ vs) (hne:∀ k∈bZ,k≠[]) (hsh:∀ k∈bZ,∀ l∈bZ,Shp k l) (h2:1<=vs.length) (h:Q (tuples' true) s):wpAny (model prog w) A (keyKind' vs.toArray) Q E s:=by
 have step:∀ (bZ:List (List Key)) (vs:List Value),Paired (kW s.heap) bZ vs->(∀ k∈bZ,k≠[])->∃ us:List Value,Paired (fun v u=>∀ (E':VP_) (Q':Option Value->Shared->Prop),Q' (some u) s->wpAny (model prog w) A (firstOfTuple' v) Q' E' s) vs us/\Paired (fun (k:List Key) u=>∃ x r,k=x::r/\mD x u=true) bZ us:=by
  intro bZ vs hv
  induction hv with
  |nil=>intro _;exact⟨[],.nil,.nil⟩
  |@cons k v bZ vs q t ih=>
   intro hne
   obtain⟨us,p1,p2⟩:=ih fun k hk=>hne k (zh _ hk)
   cases k with
   |nil=>exact absurd rfl (hne _ (ze ..))
   |cons x r=>
    obtain⟨u,hu,hw⟩:=UW (prog:=prog) (w:=w) (A:=A) q
    exact⟨u::us,.cons hw p1,.cons ⟨x,r,rfl,hu⟩ p2⟩
 obtain⟨us,p1,p2⟩:=step bZ vs hv hne
 have hlen:us.length=vs.length:=(Paired.length p1).symm
 have lift:∀ {l:List Value} {ws:List Value},Paired (fun v u=>∀ (E':VP_) (Q':Option Value->Shared->Prop),Q' (some u) s->wpAny (model prog w) A (firstOfTuple' v) Q' E' s) l ws->Paired (fun v u=>∀ (E':VP_) (Q':Option Value->Shared->Prop),Q' u s->wpAny (model prog w) A (firstOfTuple' v) Q' E' s) l (ws.map some):=fun h=>by
  induction h with
  |nil=>exact .nil
  |cons q t ih=>exact .cons q ih
 rw[keyKind'_eq,List.mapM_toArray,map_eq_pure_bind]
 refine zb (zb (Kr vs (us.map some) _ (lift p1) (zg ?_)))
 have hall:(us.map some).toArray.all (·.isSome)=true:=by simp
 rw[zo hall]
 refine zb (KP ?_)
 have hf:(us.map some).toArray.filterMap id=us.toArray:=by simp
 rw[hf,oneTypeOnly'_eq,List.mapM_toArray,map_eq_pure_bind]
 have ty:∀ (bZ:List (List Key)) (us:List Value),Paired (fun (k:List Key) u=>∃ x r,k=x::r/\mD x u=true) bZ us->∃ ts:List Value,Paired (fun u t=>∀ (E':VP_) (Q':VP_),Q' t s->wpAny (model prog w) A (typeOf u) Q' E' s) us ts/\Paired (fun (k:List Key) t=>∃ x r,k=x::r/\t=.type (if x.isLeft then "int" else "str")) bZ ts:=by
  intro bZ us hp
  induction hp with
  |nil=>exact⟨[],.nil,.nil⟩
  |@cons k u bZ us q t ih=>
   obtain⟨ts,q1,q2⟩:=ih
   obtain⟨x,r,rfl,hx⟩:=q
   exact⟨_::ts,.cons (fun E' Q' h=>W3 hx E' Q' h) q1,.cons ⟨x,r,rfl,rfl⟩ q2⟩
 obtain⟨ts,q1,q2⟩:=ty bZ us p2
 refine zb (zb (zb (Kr us ts _ q1 (zg ?_))))
 have lt:ts.length=vs.length:=by rw[<-Paired.length q1,hlen]
 cases q2 with
 |nil=>simp at lt;omega
 |@cons k0 t0 ald ts' h0 r0=>
  obtain⟨x0,r,rfl,rfl⟩:=h0
  have same:∀ t∈ts',t=Value.type (if x0.isLeft then "int" else "str"):=by
   have aux:∀ (bZ:List (List Key)) (ts:List Value),Paired (fun (k:List Key) t=>∃ x r,k=x::r/\t=Value.type (if x.isLeft then "int" else "str")) bZ ts->(∀ k∈bZ,Shp (x0::r) k)->∀ t∈ts,t=Value.type (if x0.isLeft then "int" else "str"):=by
    intro bZ ts hp
    induction hp with
    |nil=>intro _ t ht;cases ht
    |@cons k t bZ ts q _ ih=>
     intro hs u hu
     rcases List.mem_cons.mp hu with rfl|hu
     ·obtain⟨x,r',rfl,rfl⟩:=q
      have:=(hs _ (ze ..)).1
      cases x0<;>cases x<;>first|rfl|cases this
     ·exact ih (fun k hk=>hs k (zh _ hk)) u hu
   exact aux _ _ r0 fun k hk=>hsh _ (ze ..) k (zh _ hk)
  have e0:(Value.type (if x0.isLeft then "int" else "str")::ts').toArray[0]?=some (Value.type (if x0.isLeft then "int" else "str")):=by simp
  have e1:((Value.type (if x0.isLeft then "int" else "str")::ts').toArray.all fun x=>x==Value.type (if x0.isLeft then "int" else "str"))=true:=by
   simp only[List.all_toArray,QY]
   intro t ht
   rcases List.mem_cons.mp ht with rfl|ht
   ·simp
   ·rw[same t ht];simp
  rw[e0]
  simp only[e1,QN]
  refine zg (zg ?_)
  have e2:((some (Value.type (if x0.isLeft then "int" else "str"))).any fun x=>x != Value.type "tuple")=true:=by
   cases x0 with
   |inl _=>exact (by decide:((some (Value.type "int")).any fun x=>x != Value.type "tuple")=true)
   |inr _=>exact (by decide:((some (Value.type "str")).any fun x=>x != Value.type "tuple")=true)
  rw[e2]
  exact h
def keyOf (bZ:List (List Key)) (vs:List Value) (v:Value):List Key:=match (vs.zip bZ).find? (fun p=>p.1==v) with
 |some p=>p.2
 |none=>[]
theorem nj {h:Heap}:∀ {bZ:List (List Key)} {vs:List Value},Paired (kW h) bZ vs->∀ v∈vs,keyOf bZ vs v∈bZ/\kW h (keyOf bZ vs v) v
 |_,_,.nil,v,hv=>by cases hv
 |k::bZ,u::vs,.cons q t,v,hv=>by
  unfold keyOf
  rw[List.zip_cons_cons,kl]
  by_cases e:u=v
  ·subst e
   simp only[beq_self_eq_true]
   exact⟨ze ..,q⟩
  ·have e':(u==v)=false:=by simpa using e
   simp only[e']
   have hv':v∈vs:=by
    rcases List.mem_cons.mp hv with h|h
    ·exact absurd h.symm e
    ·exact h
   have ih:=nj t v hv'
   exact⟨zh _ ih.1,ih.2⟩
theorem Bp {h:Heap}:∀ {bZ:List (List Key)} {vs:List Value},Paired (kW h) bZ vs->∀ (K:Value->List Key),(∀ v∈vs,kW h (K v) v)->vs.map K=bZ
 |_,_,.nil,_,_=>rfl
 |k::bZ,v::vs,.cons q t,K,hK=>by
  rw[zl,(hK v (ze ..)).inj q,Bp t K fun u hu=>hK u (zh _ hu)]
theorem xZ {h:Heap}:∀ {vs:List Value} {K:Value->List Key},(∀ v∈vs,kW h (K v) v)->Paired (kW h) (vs.map K) vs
 |[],_,_=>.nil
 |v::vs,K,hK=>.cons (hK v (ze ..)) (xZ fun u hu=>hK u (zh _ hu))
theorem M8 {vs:List Value} {bZ:List (List Key)} (hv:Paired (kW s.heap) bZ vs) (hsh:∀ k∈bZ,∀ l∈bZ,Shp k l):Vw prog w A s (tuples' true) (fun v=>rank bZ (keyOf bZ vs v)) (pairsOf vs):=by
 intro E p q Q hp hq h
 rw[pairsOf_toList] at hp hq
 obtain⟨m1,t1⟩:=nj hv p.1 (mem_zip_self hp).2
 obtain⟨m2,t2⟩:=nj hv q.1 (mem_zip_self hq).2
 rw[Sw m1] at h
 have sh:=hsh _ m1 _ m2
 obtain⟨a,o,its,n,e,g,c,d,k⟩:=t1
 obtain⟨a',o',its',n',e',g',c',d',k'⟩:=t2
 rw[e,e']
 exact adp g d g' d' k k' sh h
theorem M9 {h:Heap} {vs:List Value} {bZ:List (List Key)} (hv:Paired (kW h) bZ vs) {xs:Array Keyed} (hp:xs.Perm (pairsOf vs)) (up:Up (fun v=>rank bZ (keyOf bZ vs v)) xs (pairsOf vs).size):Paired (kW h) (mK bZ) (xs.map (·.2)).toList:=by
 have hl:xs.toList.Perm (vs.zip vs):=by rw[<-pairsOf_toList];exact Array.perm_iff_toList_perm.mp hp
 have hm:∀ p∈xs.toList,p.1=p.2/\p.1∈vs:=fun p q=>mem_zip_self (hl.mem_iff.mp q)
 have e:(xs.map (·.2)).toList=xs.toList.map (·.1):=by
  rw[Array.toList_map];exact ZY fun p q=>(hm p q).1.symm
 have pv:(xs.toList.map (·.1)).Perm vs:=by
  have:=hl.map Prod.fst
  rwa [List.map_fst_zip (zk _)] at this
 have key:mK bZ=(xs.toList.map (·.1)).map (keyOf bZ vs):=by
  refine (sI ?_ ?_).symm
  ·have:=pv.map (keyOf bZ vs)
   rwa [Bp hv _ fun v q=>(nj hv v q).2] at this
  ·rw[List.pairwise_iff_getElem]
   intro i j hi hj hij
   have hi':i < xs.size:=by simpa using hi
   have hj':j < xs.size:=by simpa using hj
   have u:=up i j (Q4 hij) (by rw[<-hp.size_eq];exact hj')
   unfold at_ at u
   rw[getElem?_pos xs i hi',getElem?_pos xs j hj'] at u
   have m2:=(nj hv xs[j].1 (hm xs[j] (by simp)).2).1
   simp only[List.getElem_map,Array.getElem_toList]
   unfold vD
   rw[<-Sw m2,qk (Nat.not_lt.mpr u)]
   rfl
 rw[key,e]
 refine xZ fun v q=>(nj hv v ?_).2
 exact pv.mem_iff.mp q
end
end S1
end
section
namespace P1
open PySem PySem.Spec PyProof.Rows L2 S1
section
variable {prog:Program} {w:World} {A:Around} {E:VP_} {s:Shared}
theorem Qv {l:Addr} {o:Obj} {T:String} {vs:List Value} {n:Nat} {Q:List Value->Shared->Prop} (ho:s.heap.get? l=some o) (hc:o.cls=.type T) (hT:T = "list" ∨ T = "tuple") (hd:o.data=.seq vs.toArray n) (hz:vs.length<=sizeLine)
  (h:∀ h' tk,s.heap.objs.size<=h'.objs.size->(∀ c o,s.heap.get? c=some o->h'.get? c=some o)->Q vs { s with heap:=h',toks:=tk }):wpAny (model prog w) A (collect (.ref l)) Q E s:=by
 unfold collect
 refine zb (wpAny_runValue (JO entry_proto_collect' ?_))
 show wpAny _ _ (newList [] >>= fun q=>again (.builtin "list.__iadd__" ⟨[q,.ref l],[]⟩)) _ _ s
 refine zb (wpAny_newList (zg ⟨Code.quiet_builtin _ (by decide +kernel),JO entry_list_iadd' ?_⟩))
 show wpAny _ _ (Builtin.List.listExtendWith (.ref s.heap.objs.size) (.ref l) (.ref s.heap.objs.size)) _ _ _
 unfold Builtin.List.listExtendWith
 have g1:(s.heap.push (seqObj "list" #[] 0)).get? l=some o:=zd _ ho
 refine zb (QU (T:=T) ⟨o,g1,hc⟩ ?_)
 have ht:(Value.type T==Value.type "list" || Value.type T==Value.type "tuple")=true:=by rcases hT with rfl|rfl<;>decide
 rw[zo (by rw[Bool.or_assoc,ht];simp)]
 refine zb (listItems_at g1 hd (zb (listItems_at (xs:=#[]) (n:=0) (zt _ rfl) rfl ?_)))
 rw[zv (by simp)]
 have g2:(s.heap.push (seqObj "list" #[] 0)).get? s.heap.objs.size=some (seqObj "list" #[] 0):=zt _ rfl
 refine zb (listUpdate_at (xs:=#[]) (n:=0) g2 rfl (zg ?_) (qE _) (by show (#[]++vs.toArray).size<=sizeLine+1;simp only[kX,zC,List.length_nil];omega))
 show wpAny (model prog w) A (load s.heap.objs.size >>= _) Q E _
 refine zb (wpAny_load (get?_update_seq g2 _) ?_)
 show wpAny _ _ (pure ((#[]:Array Value)++vs.toArray).toList) Q E _
 rw[show ((#[]:Array Value)++vs.toArray).toList=vs by simp]
 refine zg (h _ s.toks ?_ fun c oc e=>?_)
 ·rw[Heap.size_update,size_push'];exact kF _
 ·rw[Jn _ _ _ _ (zI (zz e))]
  exact zd _ e
end
def aag:Dt->Option Key
 |.int i=>some (.inl i)
 |.str x=>some (.inr x)
 |_=>none
def Bq:List Dt->Option (List Key)
 |[]=>some []
 |d::ds=>(aag d).bind fun k=>(Bq ds).bind fun ks=>some (k::ks)
def Ei:Dt->Option (List Key)
 |.tup ds=>Bq ds
 |_=>none
def tR:List Dt->Option (List (List Key))
 |[]=>some []
 |d::ds=>(Ei d).bind fun k=>(tR ds).bind fun ks=>some (k::ks)
def dK:Key->Dt
 |.inl i=>.int i
 |.inr x=>.str x
def tupK (ks:List Key):Dt:=.tup (ks.map dK)
theorem aah {d:Dt} {k:Key} (h:aag d=some k):d=dK k:=by
 cases d<;>cases h<;>rfl
theorem Nb:∀ {ds:List Dt} {ks:List Key},Bq ds=some ks->ds=ks.map dK
 |[],_,h=>by cases h;rfl
 |d::ds,_,h=>by
  obtain⟨k,e1,h⟩:=bind_some h
  obtain⟨ks,e2,h⟩:=bind_some h
  cases h
  rw[zl,aah e1,Nb e2]
theorem Nf {d:Dt} {ks:List Key} (h:Ei d=some ks):d=tupK ks:=by
 cases d with
 |tup ds=>exact congrArg Dt.tup (Nb h)
 |_=>cases h
theorem Ah:∀ {ds:List Dt} {bZ:List (List Key)},tR ds=some bZ->ds=bZ.map tupK
 |[],_,h=>by cases h;rfl
 |d::ds,_,h=>by
  obtain⟨k,e1,h⟩:=bind_some h
  obtain⟨ks,e2,h⟩:=bind_some h
  cases h
  rw[zl,Nf e1,Ah e2]
section
variable {X:Cx}
theorem aai {K:FG_} {H:Hp} {k:Key} {v:V} (h:Rep K H (dK k) v):v=kV k:=by
 cases k with
 |inl i=>exact (show v=.int i by simpa only[dK,Rep] using h)
 |inr x=>exact (show v=.str x/\x.length<=sizeLine by simpa only[dK,Rep] using h).1
theorem Js {K:FG_} {H:Hp}:∀ {ks:List Key} {vs:List V},aJ K H (ks.map dK) vs->vs=ks.map kV
 |[],_,h=>by simp only[JU,aJ] at h;exact h
 |k::ks,_,h=>by
  simp only[zl,aJ] at h
  obtain⟨v,r,rfl,h1,h2⟩:=h
  rw[aai h1,Js h2,zl]
theorem afv (X:Cx) {ks:List Key}:∀ {us:List Value},Vals (ks.map kV) us->Ks ks us:=by
 induction ks with
 |nil=>intro us h;cases h;exact .nil
 |cons k ks ih=>
  intro us h
  cases h with
  |cons r t=>exact .cons (Jf (P:=X.prog) (w:=X.w) r) (ih t)
theorem qW {pins:List (Addr×Obj)} {σ:L2.St} {H:Hp} {s:Shared} (I:Inv X pins σ H s):∀ {bZ:List (List Key)} {vs:List V} {its:List Value},aJ X.K H (bZ.map tupK) vs->Vals vs its->Paired (kW s.heap) bZ its
 |[],_,_,h,r=>by
  simp only[JU,aJ] at h
  subst h;cases r;exact .nil
 |k::bZ,_,_,h,r=>by
  simp only[zl,aJ] at h
  obtain⟨v,vs,rfl,h1,h2⟩:=h
  cases r with
  |cons r1 r2=>
   refine .cons ?_ (qW I h2 r2)
   simp only[tupK,Rep] at h1
   obtain⟨a,ws,rfl,sq,rs⟩:=h1
   obtain⟨its,rv,⟨o,g,c,n,d⟩,_⟩:=I.tuple sq
   cases r1
   rw[Js rs] at rv
   exact⟨a,o,its,n,rfl,g,c,d,afv X rv⟩
theorem Ai {pins:List (Addr×Obj)} {σ:L2.St} {H:Hp} {s:Shared} (I:Inv X pins σ H s) {bZ:List (List Key)} {vs:List V} {its:List Value} (h:aJ X.K H (bZ.map tupK) vs) (r:Vals vs its):∀ {Vx:List (List Key)} {out:List Value},Paired (kW s.heap) Vx out->(∀ u∈out,u∈its)->∃ zs,Vals zs out/\aJ X.K H (Vx.map tupK) zs
 |_,_,.nil,_=>⟨[],.nil,aJ.nil⟩
 |l::Vx,u::out,.cons q t,hm=>by
  obtain⟨zs,z1,z2⟩:=Ai I h r t fun x hx=>hm x (zh _ hx)
  have aux:∀ (bZ:List (List Key)) (vs:List V) (its:List Value),aJ X.K H (bZ.map tupK) vs->Vals vs its->u∈its->∃ v,RelV v u/\Rep X.K H (tupK l) v:=by
   intro bZ
   induction bZ with
   |nil=>
    intro vs its h r hu
    simp only[JU,aJ] at h
    subst h;cases r;cases hu
   |cons k bZ ih=>
    intro vs its h r hu
    simp only[zl,aJ] at h
    obtain⟨v,vs,rfl,h1,h2⟩:=h
    cases r with
    |@cons _ u' _ _ r1 r2=>
     rcases List.mem_cons.mp hu with rfl|hu
     ·have e:k=l:=by
       have:=qW I (bZ:=[k]) (vs:=[v]) (its:=[u]) (by simp only[zl,JU];exact aJ.cons h1 aJ.nil) (.cons r1 .nil)
       cases this with
       |cons q' _=>exact q'.inj q
      subst e
      exact⟨v,r1,h1⟩
     ·exact ih vs _ h2 r2 hu
  obtain⟨v,r1,h1⟩:=aux bZ vs its h r (hm u (ze ..))
  exact⟨v::zs,.cons r1 z1,by rw[zl];exact aJ.cons h1 z2⟩
def Ku (k l:List Key):Bool:=((k.zip l).all fun p=>Sv p.1 p.2)
theorem Ej:∀ {k l:List Key},Ku k l=true->Shp k l
 |[],_,_=>by simp[Shp]
 |_::_,[],_=>by simp[Shp]
 |x::k,y::l,h=>by
  unfold Ku at h
  rw[List.zip_cons_cons,ko,ZU] at h
  exact⟨h.1,Ej h.2⟩
def Cj (bZ:List (List Key)):Bool:=decide (bZ.length < 64)&&(bZ.all (fun k=>!k.isEmpty)&&bZ.all fun k=>bZ.all fun l=>Ku k l)
def rK:List Bx->Option Bx
 |[b]=>(xT b).bind fun ds=>(tR ds).bind fun bZ=>if Cj bZ=true then some (.o ((mK bZ).map tupK)) else none
 |_=>none
theorem Kv {K:FG_} {H:Hp} {b:Bx} {v:V} {ds:List Dt} (h:bw K H b v) (e:xT b=some ds):∃ a vs,v=.ref a/\(rE K H a vs\/xO K H a vs)/\aJ K H ds vs:=by
 cases b with
 |z d=>
  cases d<;>first|(cases e;done)|skip
  ·cases e
   simp only[bw,Rep] at h
   obtain⟨a,vs,e,q,r⟩:=h
   exact⟨a,vs,e,.inr q,r⟩
  ·cases e
   simp only[bw,Rep] at h
   obtain⟨a,vs,e,q,r⟩:=h
   exact⟨a,vs,e,.inl q.sq,r⟩
 |l ds'=>cases e;obtain⟨a,vs,e,q,r⟩:=h;exact⟨a,vs,e,.inl (.inl q),r⟩
 |o ds'=>cases e;obtain⟨a,vs,e,q,r⟩:=h;exact⟨a,vs,e,.inl (.inl (.inl q)),r⟩
 |n _=>cases e
 |m _ _=>cases e
theorem yW:qT X (.builtin "sorted") rK:=by
 intro pins s σ H xs us Q I rx h
 obtain⟨bs,c,rb,e,q⟩:=h
 unfold rK at e
 split at e
 ·rename_i b
  obtain⟨ds,ed,e⟩:=bind_some e
  obtain⟨bZ,ek,e⟩:=bind_some e
  split at e
  ·rename_i hs
   cases e
   simp only[Cj,ZU,z5,QY,qS] at hs
   obtain⟨h64,hne,hsh⟩:=hs
   obtain⟨v,rfl,r1⟩:=rep1 rb
   obtain⟨p,vs,rfl,sq,rs⟩:=Kv r1 ed
   obtain⟨u,rfl,ru⟩:=vals1 rx
   cases ru
   have eds:=Ah ek
   subst eds
   have got:∃ (its:List Value) (o:Obj) (T:String) (n:Nat),Vals vs its/\s.heap.get? p=some o/\o.cls=.type T/\(T = "list" ∨ T = "tuple")/\o.data=.seq its.toArray n/\vs.length<=sizeLine:=by
    rcases sq with sq|sq
    ·obtain⟨its,r',pl,hz⟩:=I.list sq
     obtain⟨o,g,c,n,d⟩:=pl.isList
     exact⟨its,o,_,n,r',g,c,.inl rfl,d,hz⟩
    ·obtain⟨its,r',⟨o,g,c,n,d⟩,hz⟩:=I.tuple sq
     exact⟨its,o,_,n,r',g,c,.inr rfl,d,hz⟩
   obtain⟨its,o,T,n,r',g,hc,hT,hd,hz⟩:=got
   have hlen:its.length=bZ.length:=by rw[<-r'.length,rs.length,zi]
   have tv:=qW I rs r'
   refine UG (kd:=tuples' true) (rk:=fun v=>rank bZ (keyOf bZ its v)) (vs:=its) (fun E' Q' hq=>Qv g hc hT hd (by rw[<-r'.length];exact hz) hq)
    (fun h2 E' A' s' k Q' hq=>Jr (Paired.imp' (fun _ _ z=>kW.keep z k) tv) (fun k hk=>by have:=hne k hk;cases k with|nil=>cases this|cons _ _=>exact List.cons_ne_nil _ _) (fun k hk l hl=>Ej (hsh k hk l hl)) (by omega) hq)
    (fun A' s' k=>M8 (Paired.imp' (fun _ _ z=>kW.keep z k) tv) fun k hk l hl=>Ej (hsh k hk l hl)) (by omega) fun l h' tk m st hp up hl ext hL=>?_
   have out:=M9 tv hp up
   have mem:∀ u∈((arrOf st).map (·.2)).toList,u∈its:=fun u hu=>by
    rw[Array.toList_map] at hu
    obtain⟨pr,hpr,rfl⟩:=List.mem_map.mp hu
    have adq:pr∈its.zip its:=by rw[<-pairsOf_toList];exact (Array.perm_iff_toList_perm.mp hp).mem_iff.mp hpr
    have:=mem_zip_self adq
    rw[<-this.1];exact this.2
   obtain⟨zs,z1,z2⟩:=Ai I rs r' out mem
   have hzl:zs.length=bZ.length:=by rw[z2.length,zi,(oA bZ).length_eq]
   have hH:H l=none:=I.hok.fresh hl
   refine⟨.ref l,_,I.laid (t':=tk) (a:=l) (o:=.lst zs) ext hl ⟨by rw[hzl];exact Q4 (Zs h64 (by decide)),_,m,z1,?_⟩,rfl,q _ _ (bF hH) (fun a ea=>by cases ea;exact hH) ⟨l,zs,rfl,aU,z2.kp (.of (bF hH))⟩⟩
   rw[hL]
  ·cases e
 ·cases e
end
end P1
end
section
namespace S6
open PySem PySem.Spec PyProof.Rows
theorem U0 {M:Model} {A:Around} {E:VP_} {s:Shared} {src:Source} {n:Nat} {Q:Nat->Shared->Prop} (hn:n≠0) (h:∀ i d,i < n->Q i { s with drawn:=d }):wpAny M A (choose src n) Q E s:=
 fun Γ p hΓ=>⟨hn,h _ _ (Nat.mod_lt _ (Nat.pos_of_ne_zero hn))⟩
theorem Kw {α:Type}:∀ {xs:List α} {i:Nat} (hi:i < xs.length),(xs[i]::xs.eraseIdx i).Perm xs
 |x::xs,0,_=>List.Perm.refl _
 |x::xs,i+1,h=>by
  rw[List.eraseIdx_cons_succ,List.getElem_cons_succ]
  exact (List.Perm.swap _ _ _).trans ((Kw (xs:=xs) (i:=i) (by simpa using h)).cons x)
theorem aaj {M:Model} {A:Around} {E:VP_} {α:Type}:∀ (n:Nat) (xs:List α) (s:Shared) (Q:List α->Shared->Prop),xs.length=n->(∀ ys d,ys.Perm xs->Q ys { s with drawn:=d })->wpAny M A (drawOrder n xs) Q E s:=by
 intro n
 induction n with
 |zero=>
  intro xs s Q hl h
  cases xs with
  |nil=>
   unfold drawOrder
   exact zg (h [] s.drawn (List.Perm.refl _))
  |cons x xs=>simp at hl
 |succ n ih=>
  intro xs s Q hl h
  cases xs with
  |nil=>simp at hl
  |cons x xs=>
   unfold drawOrder
   refine zb (U0 (by simp) fun i d hi=>?_)
   have e:(x::xs)[i]?=some (x::xs)[i]:=by simp[hi]
   rw[e]
   dsimp only
   refine zb (ih ((x::xs).eraseIdx i) _ _ (by rw[List.length_eraseIdx,zo hi];simp at hl ⊢;omega) fun ys d' hp=>zg ?_)
   exact h _ d' ((List.Perm.cons _ hp).trans (Kw hi))
theorem Sx {α:Type} (next:Nat->Nat):∀ (n k:Nat) (xs:List α) (out:Array α),xs.length=n->(pickOrder.go next n k xs out).toList.Perm (out.toList++xs)
 |0,k,[],out,_=>by unfold pickOrder.go;simp
 |n+1,k,x::xs,out,hl=>by
  unfold pickOrder.go
  have hi:next k % (x::xs).length < (x::xs).length:=Nat.mod_lt _ (by simp)
  have e:(x::xs)[next k % (x::xs).length]?=some (x::xs)[next k % (x::xs).length]:=by rw[zD hi]
  rw[e]
  dsimp only
  refine (Sx next n (k+1) _ _ (by rw[List.length_eraseIdx,zo hi];simp at hl ⊢;omega)).trans ?_
  rw[Array.toList_push,QP]
  exact (List.Perm.refl _).append (Kw hi)
theorem U3 {α:Type} (next:Nat->Nat) (xs:Array α):(pickOrder next xs).toList.Perm xs.toList:=by
 have:=Sx next xs.size 0 xs.toList #[] (by simp)
 simpa [pickOrder] using this
structure Wk (w:World) (h:Heap) (a:Addr) (es:Array (Int×Value)) (ep:Nat) (t:SetTable):Prop where
 at_:∃ o,h.get? a=some o/\o.cls=.type "set" ∧ o.data=.set es ep t
 fit:t.fits es.size=true
 led:w.params.followText "set-order" = false->t.led=true
 non:1 < es.size->t.plain=false
theorem Wk.keep {w:World} {h h':Heap} {a:Addr} {es:Array (Int×Value)} {ep:Nat} {t:SetTable} (x:Wk w h a es ep t) (k:∀ o,h.get? a=some o->h'.get? a=some o):Wk w h' a es ep t:=
 ⟨let ⟨o,e,r⟩:=x.at_;⟨o,k o e,r⟩,x.fit,x.led,x.non⟩
def It (h:Heap) (it a:Addr) (first:Value) (i n ep:Nat):Prop:=∃ o,h.get? it=some o/\o.cls=.type "set_iterator" ∧ o.data=.fields #[first,.int (i:Int) 0,.ref a,.int (n:Int) 0,.int (ep:Int) 0]
theorem It.keep {h h':Heap} {it a:Addr} {f:Value} {i n ep:Nat} (x:It h it a f i n ep) (k:∀ o,h.get? it=some o->h'.get? it=some o):It h' it a f i n ep:=
 let ⟨o,e,r⟩:=x;⟨o,k o e,r⟩
theorem It.ty {s:Shared} {it a:Addr} {f:Value} {i n ep:Nat} (x:It s.heap it a f i n ep):s.TypeIs (.ref it) "set_iterator" := let ⟨o,e,c,_⟩:=x;⟨o,e,c⟩
theorem jM:Slot "set_iterator" "__next__" "set_iterator.__next__" :=
 .of (owner := "set_iterator") (n := "__next__") (by rw[typeLookup_type,builtinLookup_eq_fast];kernel_rfl) (by decide +kernel) (by decide +kernel) (by decide +kernel)
  (by first|exact .inl (by decide +kernel)|exact .inr (by decide +kernel)) (by rw[isSubtype_type];kernel_rfl)
theorem yX:Slot "set_iterator" "__iter__" "set_iterator.__iter__" :=
 .of (owner := "set_iterator") (n := "__iter__") (by rw[typeLookup_type,builtinLookup_eq_fast];kernel_rfl) (by decide +kernel) (by decide +kernel) (by decide +kernel)
  (by first|exact .inl (by decide +kernel)|exact .inr (by decide +kernel)) (by rw[isSubtype_type];kernel_rfl)
theorem Ht:entryFor table "set_iterator.__next__" = some Builtin.«set_iterator.__next__»:=entryFor_of_tree (by kernel_rfl)
theorem Ck:entryFor table "set.__iter__" = some Builtin.«frozenset.__iter__»:=entryFor_alias (id' := "frozenset.__iter__") (by kernel_rfl) rfl (by decide +kernel) (by kernel_rfl)
theorem Hu:entryFor table "set_iterator.__iter__" = some Builtin.«dict_keyiterator.__iter__»:=entryFor_alias (id' := "dict_keyiterator.__iter__") (by kernel_rfl) rfl (by decide +kernel) (by kernel_rfl)
theorem W4:Manifest.owners.lookup (String.ofList "rotareti_tes".toList.reverse)=some Manifest.sig_set_iterator:=by kernel_rfl
theorem Kz (a:Value):argsOk "set_iterator.__next__" ⟨[a],[]⟩:=by
 unfold argsOk;rw[signature?_of (id := "set_iterator.__next__") (n := "__txen__".toList) (o := "rotareti_tes".toList) (by kernel_rfl) W4];kernel_rfl
theorem KC (a:Value):argsOk "set_iterator.__iter__" ⟨[a],[]⟩:=by
 unfold argsOk;rw[signature?_of (id := "set_iterator.__iter__") (n := "__reti__".toList) (o := "rotareti_tes".toList) (by kernel_rfl) W4];kernel_rfl
section
variable {prog:Program} {w:World} {A:Around} {E:VP_} {s:Shared} {it a:Addr} {i ep:Nat} {es:Array (Int×Value)} {t:SetTable}
theorem CV {first:Value} {Q:Option Value->Shared->Prop} (hit:It s.heap it a first i es.size ep) (hw:Wk w s.heap a es ep t)
  (h:wpAny (model prog w) A.in1 (if let .int slot _:=first then (do
    match <-setNext a slot.toNat (i:Int).toNat (ep:Int).toNat with
    |some (x,next)=>
     setField (.ref it) 0 (rawInt next)
     setField (.ref it) 1 (rawInt ((i:Int)+1))
     ret x
    |none=>setField (.ref it) 2 .none;raiseNew (<-newExc (.type "StopIteration") []))
   else (do
    let some places <-seqItems? first|unsupported "internal:set_iterator"
    match places[(i:Int).toNat]? with
    |some (.int place _)=>
     let x <-setNextDrawn a place.toNat (ep:Int).toNat
     setField (.ref it) 1 (rawInt ((i:Int)+1))
     ret x
    |some _=>unsupported "internal:set_iterator"
    |none=>setField (.ref it) 0 (rawInt 0);setField (.ref it) 2 .none;raiseNew (<-newExc (.type "StopIteration") []))) (fun fin s'=>∃ v,fin=.done (.ret v)/\Q (some v) s') (fun e s'=>s'.TypeIs e "StopIteration" ∧ Q none s') s):wpAny (model prog w) A (pyNext (.ref it)) Q E s:=by
 obtain⟨o,ho,hc,hd⟩:=id hit
 obtain⟨oa,hoa,hca,hda⟩:=hw.at_
 unfold pyNext
 refine zb (wpAny_attempt (yv (name:=Str.ofString "__next__") hit.ty jM (JE jM hit.ty Ht ?_ (Kz _))))
 unfold Builtin.«set_iterator.__next__»
 refine zb (zg ?_)
 refine zb (wpAny_fieldsOf ho hd ?_)
 show wpAny _ _ (setEntries a >>= _) _ _ s
 refine zb (wpAny_setEntries_of hoa hda hw.fit ?_)
 rw[zv (by simp)]
 refine qo h (fun fin s' hq=>?_) fun e s' hq=>?_
 ·obtain⟨v,rfl,hv⟩:=hq
  exact⟨v,rfl,zg hv⟩
 ·refine zb (Kn (T := "StopIteration") (b:=true) hq.1 isSubtype_stop ?_)
  exact zg hq.2
theorem Sy {hp:Heap} {Q:Option Value->Shared->Prop} (hh:A.handled=none) (h:∀ h',(∀ b o,hp.get? b=some o->h'.get? b=some o)->Q none { s with heap:=h' }) :
  wpAny (model prog w) A.in1 (do raiseNew (<-newExc (.type "StopIteration") [])) (fun (fin:Fin) s'=>∃ v,fin=.done (.ret v)/\Q (some v) s') (fun e s'=>s'.TypeIs e "StopIteration" ∧ Q none s') { s with heap:=hp }:=by
 refine zb ?_
 simp only[newExc,newTuple]
 refine zb (qq ?_ (by size_fits))
 refine zb (m:=firstArgMember _ _) (wpAny_of_eq (a:=Value.none) (by first|rfl|(simp only[firstArgMember];rfl)) ?_)
 refine qq ?_ (by size_fits)
 simp only[raiseNew]
 refine zb (wpAny_handled ?_)
 rw[show A.in1.handled=none from hh]
 refine zb (zg (wpAny_throw ⟨⟨_,zt _ rfl,rfl⟩,?_⟩))
 exact h _ fun b o e=>zd _ (zd _ e)
theorem It.put {h:Heap} {f:Value} {n:Nat} (hit:It h it a f i n ep) (x:Value):It (h.update it (Obj.mapFields (·.setIfInBounds 0 x))) it a x i n ep:=by
 obtain⟨o,ho,hc,hd⟩:=hit
 exact⟨_,Kk _ ho (Obj.isFreed_of_fields (KU hd _)),(Obj.cls_mapFields ..).trans hc,by rw[KU hd];simp⟩
theorem It.step {h:Heap} {f:Value} {n:Nat} (hit:It h it a f i n ep):It (h.update it (Obj.mapFields (·.setIfInBounds 1 (rawInt ((i:Int)+1))))) it a f (i+1) n ep:=by
 obtain⟨o,ho,hc,hd⟩:=hit
 exact⟨_,Kk _ ho (Obj.isFreed_of_fields (KU hd _)),(Obj.cls_mapFields ..).trans hc,by rw[KU hd];simp[rawInt]⟩
theorem It.field {f:Value} {n k:Nat} {x:Value} {A:Around} {Q:Unit->Shared->Prop} {E:VP_} (hit:It s.heap it a f i n ep) (hk:k < 5) (h:Q () { s with heap:=s.heap.update it (Obj.mapFields (·.setIfInBounds k x)) }):wpAny (model prog w) A (setField (.ref it) k x) Q E s:=by
 obtain⟨o,ho,hc,hd⟩:=hit
 exact wpAny_setField ho hd (by simpa using hk) h
theorem sJ {h:Heap} {f:Obj->Obj} {b:Addr} {o:Obj} (hb:b≠it) (e:h.get? b=some o):(h.update it f).get? b=some o:=by rw[Jn _ _ _ _ hb];exact e
theorem W5 {slot next:Nat} {x:Value} {Q:Option Value->Shared->Prop} (hit:It s.heap it a (.int (slot:Int) 0) i es.size ep) (hw:Wk w s.heap a es ep t)
  (hS:∀ {A':Around} {E':VP_} {Q':Option (Value×Nat)->Shared->Prop},Q' (some (x,next)) s->wpAny (model prog w) A' (setNext a slot i ep) Q' E' s)
  (h:∀ h',It h' it a (.int (next:Int) 0) (i+1) es.size ep->(∀ b o,b≠it->s.heap.get? b=some o->h'.get? b=some o)->Q (some x) { s with heap:=h' }):wpAny (model prog w) A (pyNext (.ref it)) Q E s:=by
 refine CV hit hw ?_
 show wpAny _ _ (setNext a slot i ep >>= _) _ _ s
 refine zb (hS ?_)
 refine zb (hit.field (by decide) ?_)
 refine zb ((hit.put _).field (s:={ s with heap:=_ }) (by decide) ?_)
 exact zg ⟨x,rfl,h _ ((hit.put _).step) fun b o hb e=>sJ hb (sJ hb e)⟩
theorem El {slot:Nat} {Q:Option Value->Shared->Prop} (hh:A.handled=none) (hit:It s.heap it a (.int (slot:Int) 0) i es.size ep) (hw:Wk w s.heap a es ep t)
  (hS:∀ {A':Around} {E':VP_} {Q':Option (Value×Nat)->Shared->Prop},Q' none s->wpAny (model prog w) A' (setNext a slot i ep) Q' E' s)
  (h:∀ h',(∀ b o,b≠it->s.heap.get? b=some o->h'.get? b=some o)->Q none { s with heap:=h' }):wpAny (model prog w) A (pyNext (.ref it)) Q E s:=by
 refine CV hit hw ?_
 show wpAny _ _ (setNext a slot i ep >>= _) _ _ s
 refine zb (hS ?_)
 refine zb (hit.field (by decide) (Sy hh fun h' k=>h h' fun b o hb e=>k b o (sJ hb e)))
theorem aak {tp:Addr} {pl:List Nat} {ot:Obj} {c:Nat} {j:Nat} {x:Int×Value} {Q:Option Value->Shared->Prop} (hit:It s.heap it a (.ref tp) i es.size ep) (hw:Wk w s.heap a es ep t)
  (ht:s.heap.get? tp=some ot) (hd:ot.data=.seq (pl.map fun (k:Nat)=>rawInt (k:Int)).toArray c) (hj:pl[i]?=some j) (hx:es[j]?=some x)
  (h:∀ h',It h' it a (.ref tp) (i+1) es.size ep->(∀ b o,b≠it->s.heap.get? b=some o->h'.get? b=some o)->Q (some x.2) { s with heap:=h' }):wpAny (model prog w) A (pyNext (.ref it)) Q E s:=by
 refine CV hit hw ?_
 show wpAny _ _ (seqItems? (.ref tp) >>= _) _ _ s
 refine zb (m:=seqItems? (.ref tp)) ?_
 unfold seqItems?
 refine zb (wpAny_load ht ?_)
 rw[hd]
 refine zg ?_
 dsimp only
 rw[Int.toNat_natCast,show ((pl.map fun (k:Nat)=>rawInt (k:Int)).toArray)[i]?=some (rawInt (j:Int)) by simp[hj]]
 show wpAny _ _ (setNextDrawn a j ep >>= _) _ _ s
 obtain⟨oa,hoa,hca,hda⟩:=hw.at_
 refine zb (m:=setNextDrawn a j ep) ?_
 unfold setNextDrawn
 refine zb (Q1 hoa hda hw.fit ?_)
 dsimp only
 rw[zv (by simp),hx]
 refine zg ?_
 refine zb (hit.field (by decide) ?_)
 exact zg ⟨x.2,rfl,h _ hit.step fun b o hb e=>sJ hb e⟩
theorem Ng {tp:Addr} {pl:List Nat} {ot:Obj} {c:Nat} {Q:Option Value->Shared->Prop} (hh:A.handled=none) (hit:It s.heap it a (.ref tp) i es.size ep) (hw:Wk w s.heap a es ep t)
  (ht:s.heap.get? tp=some ot) (hd:ot.data=.seq (pl.map fun (k:Nat)=>rawInt (k:Int)).toArray c) (hj:pl[i]?=none)
  (h:∀ h',(∀ b o,b≠it->s.heap.get? b=some o->h'.get? b=some o)->Q none { s with heap:=h' }):wpAny (model prog w) A (pyNext (.ref it)) Q E s:=by
 refine CV hit hw ?_
 show wpAny _ _ (seqItems? (.ref tp) >>= _) _ _ s
 refine zb (m:=seqItems? (.ref tp)) ?_
 unfold seqItems?
 refine zb (wpAny_load ht ?_)
 rw[hd]
 refine zg ?_
 dsimp only
 rw[Int.toNat_natCast,show ((pl.map fun (k:Nat)=>rawInt (k:Int)).toArray)[i]?=none by simpa using hj]
 refine zb (hit.field (by decide) ?_)
 refine zb ((hit.put _).field (s:={ s with heap:=_ }) (by decide) (Sy hh fun h' k=>h h' fun b o hb e=>k b o (sJ hb (sJ hb e))))
end
section
variable {prog:Program} {w:World} {A:Around} {E:VP_} {s:Shared} {it a:Addr} {i ep:Nat} {es:Array (Int×Value)} {t:SetTable}
theorem wG {Q:Bool->Shared->Prop} (h:Q (w.params.followText "set-order") s):wpAny (model prog w) A setsByText Q E s:=by
 unfold setsByText
 exact zb (yi (zg h))
theorem KD {f:Value} {n:Nat} {Q:VP_} (hit:It s.heap it a f i n ep) (h:Q (.ref it) s):wpAny (model prog w) A (pyIter (.ref it)) Q E s:=by
 refine wpAny_pyIter_slot hit.ty yX (JE yX hit.ty Hu ?_ (KC _))
 show wpAny _ _ (ret (.ref it)) _ _ s
 exact zg ⟨_,rfl, "set_iterator", _,hit.ty,jM.lookup,h⟩
def KH (w:World) (a:Addr) (ep:Nat) (es:Array (Int×Value)):List Value:=(pickOrder (w.params.setOrder a ep) es).toList.map (·.2)
theorem Aj:(KH w a ep es).Perm (es.toList.map (·.2)):=(U3 _ _).map _
theorem Jt {slot:Nat} {Q:Option (Value×Nat)->Shared->Prop} (hf:w.params.followText "set-order" = true) (hw:Wk w s.heap a es ep t) (h:Q (((KH w a ep es)[i]?).map fun v=>(v,slot)) s):wpAny (model prog w) A (setNext a slot i ep) Q E s:=by
 obtain⟨oa,hoa,hca,hda⟩:=hw.at_
 unfold setNext
 refine zb (Q1 hoa hda hw.fit (zb (wG ?_)))
 rw[hf]
 simp only[↓reduceIte,bne_self_eq_false,zr]
 refine zb (m:=setWalk a) ?_
 unfold setWalk
 refine zb (Q1 hoa hda hw.fit (zb (wG ?_)))
 rw[hf]
 simp only[↓reduceIte]
 refine zb (yi (zg (zg ?_)))
 have e:(pickOrder (w.params.setOrder a ep) es)[i]?.map (fun e=>(e.2,slot))=((KH w a ep es)[i]?).map fun v=>(v,slot):=by
  unfold KH
  rw[zS,Option.map_map,qB]
  rfl
 rw[<-e] at h
 exact h
theorem Qw (hh:A.handled=none) (hf:w.params.followText "set-order" = true) (hne:a≠it) (c:es.size<=sizeLine):Walks prog w A it [it,a] [it] es.size (fun i v=>(KH w a ep es)[i]?=some v) (fun i h=>It h it a (.int 0 0) i es.size ep/\Wk w h a es ep t) where
 sub:=fun b hb=>by simp at hb;simp[hb]
 frame:=fun _ _ _ st hk=>⟨st.1.keep fun o e=>hk it (by simp) o e,st.2.keep fun o e=>hk a (by simp) o e⟩
 item:=fun i s Q E hi st hQ=>by
  have hl:(KH w a ep es).length=es.size:=by rw[Aj.length_eq];simp
  obtain⟨v,hv⟩:∃ v,(KH w a ep es)[i]?=some v:=⟨(KH w a ep es)[i]'(by omega),by rw[zD]⟩
  refine W5 (slot:=0) (next:=0) (x:=v) st.1 st.2 (fun {A' E' Q'} hq=>Jt hf st.2 (by rw[hv];exact hq)) fun h' hi' k=>?_
  exact hQ v h' s.toks hv ⟨hi',st.2.keep fun o e=>k a o hne e⟩ fun b o hb e=>k b o (fun x=>hb (by simp[x])) e
 done:=fun s Q E st hQ=>by
  have hl:(KH w a ep es).length=es.size:=by rw[Aj.length_eq];simp
  refine El (slot:=0) hh st.1 st.2 (fun {A' E' Q'} hq=>Jt hf st.2 (by rw[ZT (by omega)];exact hq)) fun h' k=>?_
  exact hQ h' s.toks fun b o hb e=>k b o (fun x=>hb (by simp[x])) e
 self:=fun _ _ _ _ st hQ=>KD st.1 hQ
def U4 (pl:List Nat) (es:Array (Int×Value)):List Value:=pl.filterMap fun j=>es[j]?.map (·.2)
theorem U5 {pl:List Nat} (h:pl.Perm (List.range es.size)):(U4 pl es).Perm (es.toList.map (·.2)):=by
 refine (h.filterMap _).trans ?_
 rw[show (List.range es.size).filterMap (fun j=>es[j]?.map (·.2))=((List.range es.size).filterMap fun j=>es[j]?).map (·.2) by rw[List.map_filterMap],filterMap_getElem?_range]
theorem Nh:∀ {pl:List Nat},(∀ j∈pl,j < es.size)->∀ (i:Nat) (j:Nat),pl[i]?=some j->(U4 pl es)[i]?=es[j]?.map (·.2)
 |[],_,_,_,h=>by simp at h
 |k::pl,hb,i,j,h=>by
  have hk:=hb k (ze ..)
  have e:U4 (k::pl) es=es[k].2::U4 pl es:=by simp[U4,hk]
  rw[e]
  cases i with
  |zero=>cases (show k=j by simpa using h);simp[hk]
  |succ i=>rw[ZO];exact Nh (fun j hj=>hb j (zh _ hj)) i j (by simpa using h)
theorem Qx {tp:Addr} {pl:List Nat} (hh:A.handled=none) (hne:a≠it) (htp:tp≠it) (hp:pl.Perm (List.range es.size)):Walks prog w A it [it,a,tp] [it] es.size (fun i v=>(U4 pl es)[i]?=some v)
  (fun i h=>It h it a (.ref tp) i es.size ep/\Wk w h a es ep t/\∃ ot c,h.get? tp=some ot/\ot.data=.seq (pl.map fun (k:Nat)=>rawInt (k:Int)).toArray c) where
 sub:=fun b hb=>by simp at hb;simp[hb]
 frame:=fun _ _ _ st hk=>⟨st.1.keep fun o e=>hk it (by simp) o e,st.2.1.keep fun o e=>hk a (by simp) o e,let ⟨ot,c,e,r⟩:=st.2.2;⟨ot,c,hk tp (by simp) ot e,r⟩⟩
 item:=fun i s Q E hi st hQ=>by
  obtain⟨ot,c,e1,e2⟩:=st.2.2
  have hl:pl.length=es.size:=by rw[hp.length_eq];simp
  have hb:∀ j∈pl,j < es.size:=fun j hj=>List.mem_range.mp (hp.mem_iff.mp hj)
  have hj:pl[i]?=some (pl[i]'(by omega)):=by rw[zD]
  have hx:es[pl[i]'(by omega)]?=some (es[pl[i]'(by omega)]'(hb _ (List.getElem_mem _))):=by rw[Z3]
  refine aak st.1 st.2.1 e1 e2 hj hx fun h' hi' k=>?_
  exact hQ _ h' s.toks (by rw[Nh hb i _ hj,hx];rfl) ⟨hi',st.2.1.keep fun o e=>k a o hne e,ot,c,k tp ot htp e1,e2⟩ fun b o hb e=>k b o (fun x=>hb (by simp[x])) e
 done:=fun s Q E st hQ=>by
  obtain⟨ot,c,e1,e2⟩:=st.2.2
  have hl:pl.length=es.size:=by rw[hp.length_eq];simp
  refine Ng hh st.1 st.2.1 e1 e2 (by rw[ZT (by omega)]) fun h' k=>?_
  exact hQ h' s.toks fun b o hb e=>k b o (fun x=>hb (by simp[x])) e
 self:=fun _ _ _ _ st hQ=>KD st.1 hQ
end
section
variable {prog:Program} {w:World} {A:Around} {E:VP_} {s:Shared} {it a:Addr} {i ep:Nat} {es:Array (Int×Value)} {t:SetTable}
def vH (t:SetTable) (i:Nat):Nat:=if i=0 then 0 else t.place.getD 0 0+1
theorem aal (j:Nat):SetTable.below #[j] 0=0:=by
 show SetTable.below.go #[j] 0 1 0 1=0
 unfold SetTable.below.go
 rw[zo (by decide)]
 show (if #[j].getD 0 0 < 0 then _ else SetTable.below.go #[j] 0 0 0 0)=0
 rw[zv (ki _)]
 rfl
theorem aam (j:Nat):SetTable.below #[j] (j+1)=1:=by
 show SetTable.below.go #[j] (j+1) 1 0 1=1
 unfold SetTable.below.go
 rw[zo (by decide)]
 show (if j < j+1 then SetTable.below.go #[j] (j+1) 0 1 1 else _)=1
 rw[zo (qf _)]
 rfl
theorem U6 {P:Option (Value×Nat)->Prop} {r:Option (Value×Nat)} (hp:t.place.size=es.size) (hn:es.size<=1) (hi:i<=es.size)
  (hr:r=match es[SetTable.below t.place (vH t i)]?,t.place[SetTable.below t.place (vH t i)]? with
   |some (_,x),some j=>some (x,j+1)
   |_,_=>none) (h:P (((es.toList.map (·.2))[i]?).map fun v=>(v,vH t (i+1)))):P r:=by
 subst hr
 by_cases h0:es.size=0
 ·have e:es=#[]:=Array.eq_empty_of_size_eq_zero h0
  subst e
  simpa using h
 ·have h1:es.size=1:=by omega
  obtain⟨x,rfl⟩:=Array.size_eq_one_iff.mp h1
  obtain⟨j,hj⟩:=Array.size_eq_one_iff.mp (hp.trans h1)
  have hi:i=0\/i=1:=by omega
  rcases hi with rfl|rfl
  ·have e1:vH t 0=0:=rfl
   have e2:vH t (0+1)=j+1:=by unfold vH;rw[hj];rfl
   rw[e2] at h
   rw[e1,hj,aal]
   exact h
  ·have e2:vH t 1=j+1:=by unfold vH;rw[hj];rfl
   rw[e2,hj,aam]
   exact h
theorem Em {Q:Option (Value×Nat)->Shared->Prop} (hf:w.params.followText "set-order" = false) (hw:Wk w s.heap a es ep t) (hn:es.size<=1) (hi:i<=es.size) (h:Q (((es.toList.map (·.2))[i]?).map fun v=>(v,vH t (i+1))) s):wpAny (model prog w) A (setNext a (vH t i) i ep) Q E s:=by
 obtain⟨oa,hoa,hca,hda⟩:=hw.at_
 have hp:t.place.size=es.size:=by
  have:=hw.fit
  simp only[SetTable.fits,ZU,beq_iff_eq] at this
  exact this.1
 unfold setNext
 refine zb (Q1 hoa hda hw.fit (zb (wG ?_)))
 rw[hf]
 simp only[zr,↓reduceIte]
 split
 ·rename_i hc
  have hc:(!t.plain&&decide (es.size > 1))=true:=hc
  simp at hc
  omega
 ·have hl:wpAny (model prog w) A (if (!t.led&&!es.isEmpty)=true then unsupported "set:maker-not-led" else pure PUnit.unit) (fun _ s'=>s'=s) E s:=by
   rw[hw.led hf]
   exact zg rfl
  refine zb (qo hl (fun _ s' e=>?_) fun _ _ x=>x)
  subst e
  refine zg ?_
  exact U6 (P:=fun r=>Q r s') hp hn hi rfl h
theorem Ni (hh:A.handled=none) (hf:w.params.followText "set-order" = false) (hn:es.size<=1) (hne:a≠it):Walks prog w A it [it,a] [it] es.size (fun i v=>(es.toList.map (·.2))[i]?=some v) (fun i h=>It h it a (.int (vH t i:Nat) 0) i es.size ep/\Wk w h a es ep t) where
 sub:=fun b hb=>by simp at hb;simp[hb]
 frame:=fun _ _ _ st hk=>⟨st.1.keep fun o e=>hk it (by simp) o e,st.2.keep fun o e=>hk a (by simp) o e⟩
 item:=fun i s Q E hi st hQ=>by
  obtain⟨v,hv⟩:∃ v,(es.toList.map (·.2))[i]?=some v:=⟨(es.toList.map (·.2))[i]'(by simpa using hi),by rw[zD]⟩
  refine W5 (x:=v) st.1 st.2 (fun {A' E' Q'} hq=>Em hf st.2 hn (Q4 hi) (by rw[hv];exact hq)) fun h' hi' k=>?_
  exact hQ v h' s.toks hv ⟨hi',st.2.keep fun o e=>k a o hne e⟩ fun b o hb e=>k b o (fun x=>hb (by simp[x])) e
 done:=fun s Q E st hQ=>by
  refine El hh st.1 st.2 (fun {A' E' Q'} hq=>Em hf st.2 hn (zk _) (by rw[ZT (by simp)];exact hq)) fun h' k=>?_
  exact hQ h' s.toks fun b o hb e=>k b o (fun x=>hb (by simp[x])) e
 self:=fun _ _ _ _ st hQ=>KD st.1 hQ
end
section
variable {prog:Program} {w:World} {A:Around} {E:VP_} {s:Shared} {it a:Addr} {i ep:Nat} {es:Array (Int×Value)} {t:SetTable}
theorem W6 (hw:Wk w s.heap a es ep t) (hc:es.size<=sizeLine) {Q:VP_}
  (h:∀ (it:Addr) (h':Heap) (d:Drawn) (fp:List Addr) (St:Nat->Heap->Prop) (ord:List Value),ord.Perm (es.toList.map (·.2))->(∀ A':Around,A'.handled=none->Walks prog w A' it fp [it] es.size (fun i v=>ord[i]?=some v) St)->St 0 h'->s.heap.objs.size<=it->it < h'.objs.size →
   (∀ b∈fp,b=a\/s.heap.objs.size<=b)->(∀ b∈fp,b < h'.objs.size)->(∀ b o,s.heap.get? b=some o->h'.get? b=some o)->Q (.ref it) { s with heap:=h',drawn:=d }):wpAny (model prog w) A (pyIter (.ref a)) Q E s:=by
 obtain⟨oa,hoa,hca,hda⟩:=id hw.at_
 have hT:s.TypeIs (.ref a) "set" := ⟨oa,hoa,hca⟩
 have hlt:a < s.heap.objs.size:=zz hoa
 refine wpAny_pyIter_slot hT F.slot_set_iter (JE F.slot_set_iter hT Ck ?_ (F.args_set_iter_1 _))
 show wpAny _ _ (Builtin.Frozenset.sizeOf a >>= _) _ _ s
 refine zb (m:=Builtin.Frozenset.sizeOf a) (zb (wpAny_setEntries_of hoa hda hw.fit (zg ?_)))
 have hd:wpAny (model prog w) A.in1 (setDrawn a) (fun b s'=>s'=s/\b=(!(w.params.followText "set-order")&&(!t.plain&&decide (es.size > 1)))) E s:=by
  unfold setDrawn
  exact zb (Q1 hoa hda hw.fit (zb (wG (zg ⟨rfl,rfl⟩))))
 refine zb (qo hd (fun b s' e=>?_) fun _ _ x=>x)
 obtain⟨rfl,rfl⟩:=e
 dsimp only
 by_cases hf:w.params.followText "set-order" = true
 ·rw[hf]
  simp only[kq,Bool.false_and,zr,ZN]
  refine zb (zg ?_)
  refine zb (m:=setEpoch a) (wpAny_setEpoch_of hoa hda hw.fit ?_)
  refine zb (qq (zg ⟨_,rfl, "set_iterator", _,⟨_,zt _ rfl,rfl⟩,jM.lookup,?_⟩))
  have:=h s'.heap.objs.size (s'.heap.push { cls:=.type "set_iterator", data:=.fields #[.int 0 0,.int 0 0,.ref a,.int es.size 0,.int ep 0] }) s'.drawn [s'.heap.objs.size,a] _ _ Aj (fun A' hh=>Qw hh hf (t:=t) (ep:=ep) (zI hlt) hc)
   ⟨⟨_,zt _ rfl,rfl,rfl⟩,hw.keep fun o e=>zd _ e⟩ (zk _) (by rw[qc];exact qf _) (fun b hb=>by simp at hb;rcases hb with rfl|rfl;exact .inr (zk _);exact .inl rfl)
   (fun b hb=>by simp at hb;rw[qc];rcases hb with rfl|rfl;exact qf _;exact QA hlt) fun b o e=>zd _ e
  exact this
 ·have hf:w.params.followText "set-order" = false:=by simpa using hf
  rw[hf]
  simp only[Bool.not_false,Bool.true_and]
  by_cases hn:es.size<=1
  ·rw[zv (by simp;omega)]
   refine zb (zg ?_)
   refine zb (m:=setEpoch a) (wpAny_setEpoch_of hoa hda hw.fit ?_)
   refine zb (qq (zg ⟨_,rfl, "set_iterator", _,⟨_,zt _ rfl,rfl⟩,jM.lookup,?_⟩))
   have:=h s'.heap.objs.size (s'.heap.push { cls:=.type "set_iterator", data:=.fields #[.int 0 0,.int 0 0,.ref a,.int es.size 0,.int ep 0] }) s'.drawn [s'.heap.objs.size,a] _ _ (List.Perm.refl _) (fun A' hh=>Ni hh hf hn (t:=t) (ep:=ep) (zI hlt))
    ⟨⟨_,zt _ rfl,rfl,rfl⟩,hw.keep fun o e=>zd _ e⟩ (zk _) (by rw[qc];exact qf _) (fun b hb=>by simp at hb;rcases hb with rfl|rfl;exact .inr (zk _);exact .inl rfl)
    (fun b hb=>by simp at hb;rw[qc];rcases hb with rfl|rfl;exact qf _;exact QA hlt) fun b o e=>zd _ e
   exact this
  ·rw[zo (by rw[hw.non (by omega)];simp;omega)]
   refine zb (aaj _ _ _ _ (by simp) fun pl d hp=>?_)
   refine zb (wpAny_newTuple ?_ (by rw[zi,hp.length_eq,kU];exact hc))
   refine zb (m:=setEpoch a) (wpAny_setEpoch_of (zd _ hoa) hda hw.fit ?_)
   refine zb (qq (zg ⟨_,rfl, "set_iterator", _,⟨_,zt _ rfl,rfl⟩,jM.lookup,?_⟩))
   generalize hG:s'.heap.push { cls:=.type "tuple", data:=.seq (pl.map fun (k:Nat)=>rawInt (k:Int)).toArray }=G
   have sG:G.objs.size=s'.heap.objs.size+1:=by rw[<-hG,qc]
   have gG:G.get? s'.heap.objs.size=some { cls:=.type "tuple", data:=.seq (pl.map fun (k:Nat)=>rawInt (k:Int)).toArray }:=by rw[<-hG];exact zt _ rfl
   have kG:∀ b o,s'.heap.get? b=some o->G.get? b=some o:=fun b o e=>by rw[<-hG];exact zd _ e
   have ltG:a < G.objs.size:=by rw[sG];exact QA hlt
   have:=h G.objs.size (G.push { cls:=.type "set_iterator", data:=.fields #[.ref s'.heap.objs.size,.int 0 0,.ref a,.int es.size 0,.int ep 0] }) d [G.objs.size,a,s'.heap.objs.size] _ _ (U5 hp) (fun A' hh=>Qx hh (t:=t) (ep:=ep) (tp:=s'.heap.objs.size) (zI ltG) (by rw[sG];exact zI (qf _)) hp)
    ⟨⟨_,zt _ rfl,rfl,rfl⟩,hw.keep fun o e=>zd _ (kG _ _ e),_,0,zd _ gG,rfl⟩ (by rw[sG];exact kF _) (by rw[qc];exact qf _)
    (fun b hb=>by simp at hb;rcases hb with rfl|rfl|rfl;exact .inr (by rw[sG];exact kF _);exact .inl rfl;exact .inr (zk _))
    (fun b hb=>by
     simp at hb
     rw[qc]
     rcases hb with rfl|rfl|rfl
     ·exact qf _
     ·exact QA ltG
     ·exact QA (by rw[sG];exact qf _)) fun b o e=>zd _ (kG _ _ e)
   exact this
end
end S6
end
section
namespace S6
open PySem PySem.Spec PyProof.Rows P1
section
variable {prog:Program} {w:World} {A:Around} {E:VP_} {s:Shared} {it a:Addr} {i ep:Nat} {es:Array (Int×Value)} {t:SetTable}
theorem U7 {ord:List Value} {acc:Array Value} {n:Nat} (hn:ord.length=n) (h:ItemsOf (fun i v=>ord[i]?=some v) acc n):acc.toList=ord:=by
 apply yb
 intro j
 by_cases hj:j < n
 ·have hl:j < acc.size:=by rw[h.1];exact hj
  have e:acc.toList[j]?=some acc[j]:=by simp[hl]
  rw[e,h.2 j acc[j] (by simp[hl])]
 ·rw[ZT (by rw[ZZ,h.1];omega),ZT (by omega)]
theorem Nj {Q:List Value->Shared->Prop} (hh:A.handled=none) (hw:Wk w s.heap a es ep t) (hc:es.size<=sizeLine)
  (hQ:∀ ord h' d tk,ord.Perm (es.toList.map (·.2))->s.heap.objs.size<=h'.objs.size->(∀ b o,s.heap.get? b=some o->h'.get? b=some o)->Q ord { s with heap:=h',drawn:=d,toks:=tk }) :
  wpAny (model prog w) A (collect (.ref a)) Q E s:=by
 obtain⟨oa,hoa,hca,hda⟩:=id hw.at_
 have hT:s.TypeIs (.ref a) "set" := ⟨oa,hoa,hca⟩
 have hlt:a < s.heap.objs.size:=zz hoa
 unfold collect
 refine zb (wpAny_runValue (JO F.entry_proto_collect ?_))
 rw[Around.under_plainId F.plain_proto_collect _]
 show wpAny _ A.in1 (newList [] >>= fun q=>again (.builtin "list.__iadd__" ⟨[q,.ref a],[]⟩)) _ _ s
 refine zb (qq (zg ⟨plainId_quiet F.plain_list_iadd _,JO F.entry_list_iadd ?_⟩))
 rw[Around.under_plainId F.plain_list_iadd _]
 show wpAny _ A.in1 (Builtin.List.listExtendWith (.ref s.heap.objs.size) (.ref a) (.ref s.heap.objs.size)) _ _ _
 unfold Builtin.List.listExtendWith
 generalize hH:(s.heap.push { cls:=.type "list", data:=.seq ([]:List Value).toArray })=H
 have kH:∀ b o,s.heap.get? b=some o->H.get? b=some o:=fun b o e=>by rw[<-hH];exact zd _ e
 have sH:H.objs.size=s.heap.objs.size+1:=by rw[<-hH,qc]
 have gH:H.get? s.heap.objs.size=some (seqObj "list" #[] 0):=by rw[<-hH];exact zt _ rfl
 have hw1:Wk w H a es ep t:=hw.keep fun o e=>kH a o e
 refine zb (QU (T := "set") ⟨oa,kH _ _ hoa,hca⟩ ?_)
 have h1:Builtin.List.listSameRef (.ref s.heap.objs.size) (.ref a)=false:=by simp[Builtin.List.listSameRef];exact kA hlt
 simp only[h1,show (Value.type "set" == Value.type "list")=false by decide,show (Value.type "set" == Value.type "tuple")=false by decide,Bool.or_false,zr,ZN]
 refine zb (W6 (s:={ s with heap:=H }) hw1 hc fun it G d fp St ord hp W st0 hit hit2 hfp ale kG=>?_)
 refine zb (QR ?_)
 unfold Builtin.List.listLengthHint
 have hT2:Shared.TypeIs { s with heap:=G,drawn:=d } (.ref a) "set" := ⟨oa,kG _ _ (kH _ _ hoa),hca⟩
 refine zb (wpAny_specialOf (T := "set") hT2 F.slot_set_len.lookup ?_)
 wp_delta
 refine zb (Kn (T := "set") (b:=true) hT2 (by rw[isSubtype_type];kernel_rfl) ?_)
 show wpAny _ A.in1 (typeOf (Value.ref a) >>= _) _ _ _
 refine zb (QU (T := "set") hT2 (zg ?_))
 rw[zo (by decide)]
 show wpAny _ A.in1 (Builtin.List.listTouch (Value.ref s.heap.objs.size) >>= fun _=>again (Code.builtin "list.extend.loop" ⟨[Value.ref s.heap.objs.size,Value.ref it,Value.ref s.heap.objs.size],[]⟩)) _ _ _
 have hS:G.get? s.heap.objs.size=some (seqObj "list" #[] 0):=kG _ _ gH
 unfold Builtin.List.listTouch
 refine zb (zb (listUpdate_at hS rfl (listUpdate_at (get?_update_seq hS _) rfl ?_ (by show _<=_;decide) (by show _<=_;decide)) (by show _<=_;decide) (by show _<=_;decide)))
 have hSf:s.heap.objs.size∉fp:=fun hm=>by
  rcases hfp _ hm with e|e
  ·exact kA hlt e
  ·have e:H.objs.size<=s.heap.objs.size:=e
   rw[sH] at e
   exact absurd e (Nat.not_succ_le_self _)
 have hS3:=get?_update_seq (get?_update_seq hS (fun x=>x.push Value.none)) (fun x=>x.pop)
 generalize hU:(G.update s.heap.objs.size (Obj.mapSeq fun x=>x.push Value.none)).update s.heap.objs.size (Obj.mapSeq fun x=>x.pop)=U at hS3
 have keep:∀ b,b≠s.heap.objs.size->U.get? b=G.get? b:=fun b hb=>by rw[<-hU,Jn _ _ _ _ hb,Jn _ _ _ _ hb]
 have st1:St 0 U:=(W A hh).frame 0 G U st0 fun b hb o e=>by rw[keep b fun x=>hSf (x▸hb)];exact e
 show wpAny _ A.in1 (again _) _ _ { s with heap:=U,drawn:=d }
 have ho:ord.length=es.size:=by rw[hp.length_eq];simp
 refine zg ⟨plainId_quiet F.plain_extend_loop _,codeAny_extend_loopS (W A.in1 hh).toS hc s.heap.objs.size hSf _ es.size 0 { s with heap:=U,drawn:=d } #[] _ rfl (qE _) st1 hS3 (ItemsOf.nil _) fun s' acc' c' mv hS' hacc=>?_⟩
 show wpAny _ A (load s.heap.objs.size >>= _) _ _ s'
 refine zb (wpAny_load hS' (zg ?_))
 show Q acc'.toList s'
 rw[U7 ho hacc]
 have key:=hQ ord s'.heap s'.drawn s'.toks hp (Q4 (zz hS')) fun b ob e=>by
  have hb:=zz e
  refine mv.heap b ob (fun hm=>?_) ((keep b (zI hb)).trans (kG _ _ (kH _ _ e)))
  simp only[Qr,QO,or_false] at hm
  rcases hm with hm|hm
  ·exact zI hb hm
  ·have:H.objs.size<=it:=hit
   rw[sH,<-hm] at this
   exact absurd hb (Nat.not_lt.mpr (Nat.le_of_succ_le this))
 have e1:s'.gens=s.gens:=mv.gens
 have e2:s'.os=s.os:=mv.os
 rw[<-e1,<-e2] at key
 exact key
end
theorem CW {α:Type} [DecidableEq α]:∀ {xs ys:List α},xs.Nodup->ys.Nodup->(∀ z,z∈xs↔z∈ys)->xs.Perm ys
 |[],ys,_,_,h=>by
  have:ys=[]:=List.eq_nil_iff_forall_not_mem.mpr fun z hz=>by simpa using (h z).mpr hz
  subst this;exact .refl _
 |x::xs,ys,hx,hy,h=>by
  have hm:x∈ys:=(h x).mp (ze ..)
  have hc:=List.nodup_cons.mp hx
  refine ((CW hc.2 (hy.erase x) fun z=>?_).cons x).trans (List.perm_cons_erase hm).symm
  rw[hy.mem_erase_iff]
  constructor
  ·intro hz
   exact⟨fun e=>hc.1 (e▸hz),(h z).mp (zh _ hz)⟩
  ·intro ⟨hn,hz⟩
   rcases List.mem_cons.mp ((h z).mpr hz) with e|e
   ·exact absurd e hn
   ·exact e
theorem Br {α β:Type} {R:α->β->Prop}:∀ {l l':List β},l'.Perm l->∀ {ys:List α},Paired R ys l->∃ ys',ys'.Perm ys/\Paired R ys' l':=by
 intro l l' hp
 replace hp:=hp.symm
 induction hp with
 |nil=>intro ys h;exact⟨ys,.refl _,h⟩
 |cons x _ ih=>intro ys h;cases h with|cons r t=>obtain⟨zs,z1,z2⟩:=ih t;exact⟨_::zs,z1.cons _,.cons r z2⟩
 |swap x y l=>intro ys h;cases h with|cons r t=>cases t with|cons r' t'=>exact⟨_,List.Perm.swap _ _ _,.cons r' (.cons r t')⟩
 |trans _ _ ih1 ih2=>intro ys h;obtain⟨zs,z1,z2⟩:=ih1 h;obtain⟨us,u1,u2⟩:=ih2 z2;exact⟨us,u1.trans z1,u2⟩
theorem Qy {α β:Type} {R:α->β->Prop} {xs:List α} {us:List β} {ys:List α} {vs:List β} (h:Paired R xs us) (k:Paired R ys vs):Paired R (xs++ys) (us++vs):=by
 induction h with
 |nil=>exact k
 |cons r _ ih=>exact .cons r ih
section
variable {prog:Program} {w:World} {A:Around} {E:VP_} {s:Shared} {a:Addr}
def ahw (prog:Program) (w:World) (y:Str) (e:Int×Value):Prop:=∃ tk,e=((strKind prog w).hash y,.str y tk)
structure adt (prog:Program) (w:World) (ys:LS_) (es:Array (Int×Value)) (t:SetTable):Prop where
 rel:Paired (ahw prog w) ys es.toList
 nd:ys.Nodup
 fit:t.fits es.size=true
 led:w.params.followText "set-order" = false->t.led=true
 non:0 < es.size->t.plain=false
def Tx (prog:Program) (w:World) (h:Heap) (a:Addr) (ys:LS_):Prop:=∃ o es ep t,h.get? a=some o/\o.ExactSet/\o.data=.set es ep t/\adt prog w ys es t
theorem Tx.keep {h h':Heap} {ys:LS_} (x:Tx prog w h a ys) (k:∀ o,h.get? a=some o->h'.get? a=some o):Tx prog w h' a ys:=
 let ⟨o,es,ep,t,e,r⟩:=x;⟨o,es,ep,t,k o e,r⟩
theorem adt.size {ys:LS_} {es:Array (Int×Value)} {t:SetTable} (x:adt prog w ys es t):es.size=ys.length:=by rw[x.rel.length];simp
end
def blank (w:World):Obj:={ cls:=.type "set", dict:=none,data:=.set #[] 0 (.fresh 0 0 (!w.params.followText "set-order")) }
structure Adds (prog:Program) (w:World) (S:Addr) (wr:List Addr) {κ:Type} (C:Heap->List κ->Prop) (P:Nat->Value->Prop) (val:Nat->κ) (n:Nat):Prop where
 keep:∀ h h' ys,C h ys->(∀ b o,b∉wr->h.get? b=some o->h'.get? b=some o)->C h' ys
 add:∀ (A:Around) (E:VP_) (s:Shared) (i:Nat) (v:Value) (ys:List κ) (Q:Bool->Shared->Prop),A.units < cLine->i < n->P i v->C s.heap ys->ys.length<=i →
  (∀ b h' tk ys',Heap.SameBut S s.heap h'->C h' ys'->(∀ z,z∈ys'↔z∈ys\/z=val i)->ys'.length<=i+1->s.toks<=tk->Q b { s with heap:=h',toks:=tk })->wpAny (model prog w) A (setAdd S v) Q E s
section
variable {prog:Program} {w:World} {A:Around} {R:Result->Shared->Prop} {I:Addr} {fp wr:List Addr} {n:Nat} {P:Nat->Value->Prop} {St:Nat->Shared->Prop} {κ:Type} {C:Heap->List κ->Prop} {val:Nat->κ}
theorem W7 (W:WalksS prog w A.in1 I fp wr (fun a b=>b=a) n P St) (S:Addr) (hSf:S∉fp) (ad:Adds prog w S wr C P val n) (hU:A.units+1 < cLine) :
  ∀ (k i:Nat) (s:Shared) (ys:List κ),n - i=k->i<=n->St i s->C s.heap ys->(∀ z,z∈ys↔∃ j,j < i/\z=val j)->ys.length<=i →
   (∀ s' ys',Moved (S::wr) (fun a b=>b=a) s s'->C s'.heap ys'->(∀ z,z∈ys'↔∃ j,j < n/\z=val j)->R (.ok (.ret .none)) s') →
   codeAny (model prog w) A (.builtin "set.update.loop" ⟨[.ref S,.ref I],[]⟩) R s:=by
 have sub:∀ b,b∈wr->b∈S::wr:=fun b q=>zh _ q
 intro k
 induction k with
 |zero=>
  intro i s ys hk hi st hc hm hl hR
  have:i=n:=by omega
  subst this
  refine JO F.entry_set_update_loop ?_
  rw[Around.under_plainId yA _]
  show wpAny _ A.in1 (pyNext (.ref I) >>= _) _ _ s
  refine zb (W.done s _ _ st fun s' mv=>?_)
  show wpAny _ A.in1 (ret Value.none) _ _ s'
  exact zg (hR s' ys (mv.mono sub) (ad.keep _ _ _ hc mv.heap) hm)
 |succ k ih=>
  intro i s ys hk hi st hc hm hl hR
  have hlt:i < n:=by omega
  refine JO F.entry_set_update_loop ?_
  rw[Around.under_plainId yA _]
  show wpAny _ A.in1 (pyNext (.ref I) >>= _) _ _ s
  refine zb (W.item i s _ _ hlt st fun v s' hP st' mv=>?_)
  show wpAny _ A.in1 (holding [v] (setAdd S v) >>= _) _ _ s'
  refine zb (QR (ad.add _ _ s' i v ys _ hU hlt hP (ad.keep _ _ _ hc mv.heap) hl fun b h' tk ys' sb hc' hm' hl' htk=>?_))
  refine zg ⟨plainId_quiet yA _,ih (i+1) _ ys' (by omega) hlt (W.frame _ s' _ _ st' htk fun b hb o e=>?_) hc' (fun z=>?_) hl' fun s'' ys'' ahx hc'' hm''=>?_⟩
  ·rw[sb.2 b fun q=>hSf (q▸hb)];exact e
  ·rw[hm' z,hm z]
   constructor
   ·rintro (⟨j,hj,e⟩|e)
    ·exact⟨j,by omega,e⟩
    ·exact⟨i,by omega,e⟩
   ·rintro⟨j,hj,e⟩
    by_cases q:j=i
    ·exact .inr (q▸e)
    ·exact .inl ⟨j,by omega,e⟩
  ·refine hR s'' ys'' (Moved.trans W.gtrans ((mv.mono sub).then_heap htk fun b o hb e=>?_) ahx) hc'' hm''
   rw[sb.2 b fun q=>hb (by rw[q];exact ze)];exact e
end
section
variable {prog:Program} {w:World} {A:Around} {E:VP_} {s:Shared}
theorem Qz (x:Value) {Q₁:VP_} (h:Q₁ (.ref s.heap.objs.size) { s with heap:=s.heap.push (blank w) }) :
  codeAny (model prog w) A (.call (.builtin "set.__new__") ⟨[.type "set", x],[]⟩) (wants Q₁ E) s:=by
 refine codeAny_of_tree ?_
 show wpAny _ A.in1 (do checkBuiltinCall "set.__new__" ⟨[.type "set", x],[]⟩;again (.builtin "set.__new__" ⟨[.type "set", x],[]⟩)) _ _ s
 refine zb (wpAny_of_eq (F.newCall_set_1 x) (zg ⟨plainId_quiet F.plain_set_new _,JO F.entry_set_new ?_⟩))
 rw[Around.under_plainId F.plain_set_new _]
 unfold Builtin.«set.__new__» Builtin.Frozenset.newClass
 have hsub:=sub_set_self
 obtain⟨hp,g,d,tk,os⟩:=s
 dsimp only
 wp_walk
 refine yi (zg ?_)
 dsimp only
 simp only[newObj]
 refine zb (wpAny_alloc (zg ?_))
 exact zg h
theorem sub_tuple_set:isSubtype (.type "tuple") (.type "set")=pure false:=by rw[isSubtype_type];kernel_rfl
theorem sub_tuple_frozenset:isSubtype (.type "tuple") (.type "frozenset")=pure false:=by rw[isSubtype_type];kernel_rfl
theorem W8 (hU:A.units+60 < cLine) {T:String} {l:Addr} {o:Obj} {κ:Type} {C:Heap->List κ->Prop} {P:Nat->Value->Prop} {val:Nat->κ} {n:Nat} {Q:VP_} (hh:A.handled=none) (ho:s.heap.get? l=some o) (hcl:o.cls=.type T) (hT:T = "list" ∨ T = "tuple")
  (hit:∀ (A':Around) (E':VP_) (Q':VP_) (h0:Heap),A'.handled=none->(∀ b ob,s.heap.get? b=some ob->h0.get? b=some ob) →
   (∀ (h':Heap) (St:Nat->Heap->Prop),(∀ A',A'.handled=none->Walks prog w A' h0.objs.size [h0.objs.size,l] [h0.objs.size] n P St)->St 0 h'->(∀ b ob,h0.get? b=some ob->h'.get? b=some ob)->Q' (.ref h0.objs.size) { s with heap:=h' })->wpAny (model prog w) A' (pyIter (.ref l)) Q' E' { s with heap:=h0 })
  (ad:Adds prog w s.heap.objs.size [s.heap.objs.size+1] C P val n) (hc0:∀ h',h'.get? s.heap.objs.size=some (blank w)->(∀ b ob,s.heap.get? b=some ob->h'.get? b=some ob)->C h' [])
  (h:∀ (h':Heap) (tk:Nat) (ys:List κ),C h' ys->(∀ z,z∈ys↔∃ j,j < n/\z=val j)->(∀ b ob,s.heap.get? b=some ob->h'.get? b=some ob)->Q (.ref s.heap.objs.size) { s with heap:=h',toks:=tk }) :
  wpAny (model prog w) A (call (.type "set") [.ref l]) Q E s:=by
 obtain⟨c,tl,hmro⟩:=F.called_set.mro
 have hmade:=F.called_set.made
 have hsub:=F.called_set.sub
 have hlS:l < s.heap.objs.size:=zz ho
 refine wpAny_call (codeAny_of_tree ?_)
 show wpAny _ _ (callAny (.type "set") _) _ _ _
 refine zg ⟨Code.quiet_builtin _ (by decide +kernel),JO F.entry_type_call ?_⟩
 rw[Around.under_plain (weight_type_call_type "set" [.ref l] []) rfl]
 have h1:=F.called_set.notType
 have h2:=F.called_set.canCreate
 have hct:=F.typeCall_set_1 (.ref l)
 repeat (any_goals (first|assumption|wp_step))
 refine codeAny_mono (Qz (.ref l) (E:=E) (Q₁:=fun obj s₁=>obj=.ref s.heap.objs.size/\s₁={ s with heap:=s.heap.push (blank w) }) ⟨rfl,rfl⟩) fun r s₁ hr=>?_
 cases r with
 |error e=>exact hr
 |ok fl=>
  cases fl with
  |ret obj=>
   obtain⟨rfl,rfl⟩:=hr
   generalize hH:s.heap.push (blank w)=H
   have sH:H.objs.size=s.heap.objs.size+1:=by rw[<-hH,qc]
   have hS:H.get? s.heap.objs.size=some (blank w):=by rw[<-hH];exact zt _ rfl
   have kH:∀ b ob,s.heap.get? b=some ob->H.get? b=some ob:=fun b ob e=>by rw[<-hH];exact zd _ e
   have hTS:Shared.TypeIs { s with heap:=H } (.ref s.heap.objs.size) "set" := ⟨_,hS,rfl⟩
   have hli:=F.called_set.init.lookup
   have hbi:=F.called_set.init.bind (.ref s.heap.objs.size)
   repeat (any_goals (first|assumption|wp_step))
   refine codeAny_mono (codeAny_call_builtin (R:=wants (fun r s₂=>r=.none/\∃ h' tk ys,s₂={ s with heap:=h',toks:=tk }/\C h' ys/\(∀ z,z∈ys↔∃ j,j < n/\z=val j)/\(∀ b ob,s.heap.get? b=some ob->h'.get? b=some ob)) E) F.called_set.init.plain F.entry_set_init (check_set_init_1 hTS ?_)) fun r₂ s₂ hr₂=>?_
   ·have hT2:Shared.TypeIs { s with heap:=H } (.ref l) T:=⟨o,kH _ _ ho,hcl⟩
    have i1:isSubtype (.type T) (.type "set")=pure false:=by rcases hT with rfl|rfl;exact F.sub_list_set;exact sub_tuple_set
    have i2:isSubtype (.type T) (.type "frozenset")=pure false:=by rcases hT with rfl|rfl;exact F.sub_list_frozenset;exact sub_tuple_frozenset
    have i3:(Value.type T==Value.type "dict")=false:=by rcases hT with rfl|rfl<;>decide
    show wpAny _ _ (Builtin.«set.__init__» ⟨[.ref s.heap.objs.size,.ref l],[]⟩) _ _ _
    have hup:∀ A':Around,A'.handled=none->A'.units+4 < cLine->wpAny (model prog w) A' (Builtin.Frozenset.updateFrom "set.__init__" s.heap.objs.size (.ref l)) (fun _ s₂=>∃ h' tk ys,s₂={ s with heap:=h',toks:=tk }/\C h' ys/\(∀ z,z∈ys↔∃ j,j < n/\z=val j)/\(∀ b ob,s.heap.get? b=some ob->h'.get? b=some ob)) E { s with heap:=H }:=by
     intro A' hA hA4
     unfold Builtin.Frozenset.updateFrom Builtin.Frozenset.isAnySet
     refine zb (zb (Kn hT2 i1 ?_))
     refine Kn hT2 i2 ?_
     simp only[zr,ZN]
     refine zb (QU hT2 ?_)
     simp only[i3,zr,ZN]
     refine zb (hit A' _ _ H hA kH fun G St W st0 kG=>?_)
     rw[sH] at W
     rw[sH]
     have hSf:s.heap.objs.size∉[s.heap.objs.size+1,l]:=fun q=>by
      simp only[Qr,QO,or_false] at q
      rcases q with q|q
      ·exact zI (qf _) q
      ·exact kA hlS q
     refine zb (wpAny_runValue (W7 (W A'.in1 hA).toS s.heap.objs.size hSf ad (by omega) (n - 0) 0 _ [] rfl (qE _) st0 (hc0 G (kG _ _ hS) fun b ob e=>kG _ _ (kH _ _ e)) (fun z=>⟨fun q=>(by cases q),fun ⟨j,q,_⟩=>absurd q (ki _)⟩) (zk _) fun s' ys mv c1 c2=>?_))
     refine zg ⟨s'.heap,s'.toks,ys,?_,c1,c2,fun b ob e=>?_⟩
     ·have e1:s'.gens=s.gens:=mv.gens
      have e2:s'.os=s.os:=mv.os
      have e3:s'.drawn=s.drawn:=mv.drawn
      rw[<-e1,<-e2,<-e3]
     ·have hb:=zz e
      refine mv.heap b ob (fun q=>?_) (kG _ _ (kH _ _ e))
      simp only[Qr,QO,or_false] at q
      rcases q with q|q
      ·exact zI hb q
      ·exact zI (QA hb) q
    have hb:(blank w).data=.set #[] 0 (.fresh 0 0 (!w.params.followText "set-order")):=rfl
    unfold Builtin.«set.__init__» noKeywords
    generalize hUF:Builtin.Frozenset.updateFrom=UF at hup ⊢
    unfold blank at hS
    wp_walk
    refine qo (hup _ (by simp[hh]) (by simp;omega)) (fun u s₂ q=>?_) fun _ _ q=>q
    obtain⟨h',tk,ys,rfl,q⟩:=q
    show wpAny _ _ (ret Value.none) _ _ _
    exact zg ⟨rfl,h',tk,ys,rfl,q⟩
   ·cases r₂ with
    |error e=>exact hr₂
    |ok fl₂=>
     cases fl₂ with
     |ret r=>
      obtain⟨rfl,h',tk,ys,rfl,c1,c2,c3⟩:=hr₂
      repeat (any_goals (first|assumption|wp_step))
      exact h _ _ _ c1 c2 c3
     |_=>exact False.elim hr₂
  |_=>exact False.elim hr
end
end S6
end
section
namespace S6
open PySem
def QC (xs:Array Nat):Prop:=∀ i j,i < j->j < xs.size->xs.getD i 0 < xs.getD j 0
theorem getD_in {xs:Array Nat} {k a b:Nat} (h:k < xs.size):xs.getD k a=xs.getD k b:=by simp[Array.getD,h]
theorem aan {xs:Array Nat} {k a j:Nat} (h:xs[k]?=some j):k < xs.size/\xs.getD k a=j:=by
 have hk:k < xs.size:=by
  by_cases q:k < xs.size
  ·exact q
  ·rw[Ki (by omega)] at h;cases h
 refine⟨hk,?_⟩
 rw[Z3 hk] at h
 cases h
 simp[Array.getD,hk]
theorem aao {xs:Array Nat} {k a j:Nat} (hk:k < xs.size) (h:xs.getD k a=j):xs[k]?=some j:=by
 rw[Z3 hk]
 simp[Array.getD,hk] at h
 rw[h]
theorem Eo (xs:Array Nat) (j:Nat) (hr:QC xs):∀ (fuel lo hi:Nat),lo<=hi->hi<=xs.size->hi - lo<=fuel->(∀ k,k < lo->xs.getD k 0 < j)->(∀ k,hi<=k->k < xs.size->j<=xs.getD k 0) →
  SetTable.below.go xs j fuel lo hi<=xs.size/\(∀ k,k < SetTable.below.go xs j fuel lo hi->xs.getD k 0 < j)/\∀ k,SetTable.below.go xs j fuel lo hi<=k->k < xs.size->j<=xs.getD k 0
 |0,lo,hi,h1,h2,h3,h4,h5=>by
  have e:lo=hi:=by omega
  subst e
  unfold SetTable.below.go
  exact⟨h2,h4,h5⟩
 |fuel+1,lo,hi,h1,h2,h3,h4,h5=>by
  unfold SetTable.below.go
  by_cases hl:lo < hi
  ·rw[zo hl]
   dsimp only
   have hm:(lo+hi) / 2 < xs.size:=by omega
   rw[getD_in (b:=0) hm]
   by_cases q:xs.getD ((lo+hi) / 2) 0 < j
   ·rw[zo q]
    refine Eo xs j hr fuel _ hi (by omega) h2 (by omega) (fun k hk=>?_) h5
    by_cases e:k=(lo+hi) / 2
    ·rw[e];exact q
    ·exact Nat.lt_trans (hr k _ (by omega) hm) q
   ·rw[zv q]
    refine Eo xs j hr fuel lo _ (by omega) (by omega) (by omega) h4 fun k hk hs=>?_
    by_cases e:k=(lo+hi) / 2
    ·rw[e];omega
    ·have:=hr _ k (by omega:(lo+hi) / 2 < k) hs;omega
  ·rw[zv hl]
   have e:lo=hi:=by omega
   subst e
   exact⟨h2,h4,h5⟩
theorem below_at {xs:Array Nat} (hr:QC xs) (j:Nat):SetTable.below xs j<=xs.size/\(∀ k,k < SetTable.below xs j->xs.getD k 0 < j)/\∀ k,SetTable.below xs j<=k->k < xs.size->j<=xs.getD k 0:=
 Eo xs j hr xs.size 0 xs.size (qE _) (zk _) (by omega) (fun k h=>absurd h (ki _)) fun k h h'=>absurd h' (by omega)
theorem Ep {xs:Array Nat} (hr:QC xs) {i j:Nat} (h:xs[i]?=some j):SetTable.below xs j=i:=by
 obtain⟨h1,h2,h3⟩:=below_at hr j
 obtain⟨hi,e⟩:=aan (a:=0) h
 rcases Nat.lt_trichotomy (SetTable.below xs j) i with q|q|q
 ·have:=h3 _ (zk _) (by omega)
  have:=hr _ _ q hi
  omega
 ·exact q
 ·have:=h2 _ q;omega
theorem SJ (j:Nat):SetTable.has #[] j=false:=by
 unfold SetTable.has
 simp
structure Tb (t:SetTable):Prop where
 mask:t.mask=7\/t.mask=31\/t.mask=127
 dum:t.dummies=#[]
 rise:QC t.place
 bd:∀ j:Nat,j∈t.place->j<=t.mask
 full:t.place.size<=t.mask
theorem Ak {t:SetTable} (h:Tb t) {i j:Nat} (e:t.place[i]?=some j):t.slot j=.live i:=by
 unfold SetTable.slot
 simp only[Ep h.rise e,e,beq_self_eq_true,QN]
theorem U8 {t:SetTable} (h:Tb t) {j:Nat} (e:j∉t.place):t.slot j=.empty:=by
 unfold SetTable.slot
 have:(t.place[SetTable.below t.place j]?==some j)=false:=by
  cases q:t.place[SetTable.below t.place j]? with
  |none=>rfl
  |some x=>
   by_cases hx:x=j
   ·subst hx;exact absurd (Array.mem_of_getElem? q) e
   ·simp[hx]
 simp only[this,zr,ZN,h.dum,SJ]
def Hv (mask:Nat) (p:SetTable.Probe):SetTable.Probe:=
 if p.more > 0 then { p with j:=p.j+1,more:=p.more - 1 } else
 { p with j:=(SetTable.leap mask p.i p.perturb).1,more:=SetTable.runEnd mask (SetTable.leap mask p.i p.perturb).1 - (SetTable.leap mask p.i p.perturb).1,i:=(SetTable.leap mask p.i p.perturb).1,perturb:=(SetTable.leap mask p.i p.perturb).2 }
theorem W9 (t:SetTable) (p:SetTable.Probe):t.advance p=Hv t.mask p:=rfl
def at0 (mask i perturb:Nat):SetTable.Probe:={ j:=i,more:=SetTable.runEnd mask i - i,i,perturb,dummy:=none }
def gQ (mask:Nat) (h:Int):Nat->SetTable.Probe
 |0=>at0 mask (SetTable.bits h % (mask+1)) (SetTable.bits h)
 |n+1=>Hv mask (gQ mask h n)
theorem SM (mask:Nat) (h:Int):∀ n,(gQ mask h n).dummy=none
 |0=>rfl
 |n+1=>by
  have:=SM mask h n
  unfold gQ Hv
  split<;>exact this
theorem Nk {t:SetTable} (ht:Tb t) (hashAt:Nat->Int) (h:Int):∀ (d fuel n:Nat),d < fuel->(∀ m,n<=m->m < n+d->∃ i,t.place[i]?=some (gQ t.mask h m).j/\hashAt i≠h) →
  ((gQ t.mask h (n+d)).j∉t.place->SetTable.probe.go t hashAt h fuel (gQ t.mask h n)=some (.empty (gQ t.mask h (n+d)).j none)) ∧
  ∀ i,t.place[i]?=some (gQ t.mask h (n+d)).j->hashAt i=h->SetTable.probe.go t hashAt h fuel (gQ t.mask h n)=some (.candidate (gQ t.mask h (n+d)).j i (gQ t.mask h (n+d+1)))
 |0,fuel+1,n,_,_=>by
  refine⟨fun e=>?_,fun i e1 e2=>?_⟩
  ·unfold SetTable.probe.go
   rw[Nat.add_zero] at e ⊢
   rw[U8 ht e]
   simp only[SM]
  ·unfold SetTable.probe.go
   rw[Nat.add_zero] at e1 ⊢
   rw[Ak ht e1]
   simp only[e2,beq_self_eq_true,QN,W9]
   rfl
 |d+1,fuel+1,n,hd,hp=>by
  obtain⟨i,e1,e2⟩:=hp n (zk _) (by omega)
  have ih:=Nk ht hashAt h d fuel (n+1) (by omega) fun m h1 h2=>hp m (by omega) (by omega)
  have e:SetTable.probe.go t hashAt h (fuel+1) (gQ t.mask h n)=SetTable.probe.go t hashAt h fuel (gQ t.mask h (n+1)):=by
   conv=>lhs;unfold SetTable.probe.go
   rw[Ak ht e1]
   simp only[beq_iff_eq,e2,ZN,W9]
   rfl
  rw[e,show n+(d+1)=n+1+d by omega]
  exact ih
theorem QD:∀ (xs ys:List Nat),xs.Nodup->(∀ x,x∈xs->x∈ys)->xs.length<=ys.length
 |[],_,_,_=>qE _
 |x::xs,ys,hn,hs=>by
  have hc:=List.nodup_cons.mp hn
  have hm:=hs x (ze ..)
  have:=QD xs (ys.erase x) hc.2 fun z hz=>(KB (fun e:z=x=>hc.1 (by rw[<-e];exact hz))).mpr (hs z (zh _ hz))
  have:=yf hm
  have:0 < ys.length:=Kb hm
  simp only[qh]
  omega
def nx (M i:Nat):Nat:=(i * 5+1) % M
def Nm (M:Nat):Nat->Nat->Nat
 |0,i=>i
 |k+1,i=>Nm M k (nx M i)
theorem CZ (M:Nat):∀ (a b i:Nat),Nm M (a+b) i=Nm M b (Nm M a i)
 |0,b,i=>by rw[KM];rfl
 |a+1,b,i=>by rw[Nat.succ_add];exact CZ M a b _
theorem ahy:(∀ r,r < 8->∃ k,k < 8/\Nm 8 k 0=r)/\Nm 8 8 0=0:=by decide +kernel
theorem afx:(∀ r,r < 32->∃ k,k < 32/\Nm 32 k 0=r)/\Nm 32 32 0=0:=by decide +kernel
theorem adu:(∀ r,r < 128->∃ k,k < 128/\Nm 128 k 0=r)/\Nm 128 128 0=0:=by decide +kernel
theorem cyc {M:Nat} (h:(∀ r,r < M->∃ k,k < M/\Nm M k 0=r)/\Nm M M 0=0) {i r:Nat} (hi:i < M) (hr:r < M):∃ k,k < M/\Nm M k i=r:=by
 obtain⟨a,ha,rfl⟩:=h.1 i hi
 obtain⟨b,hb,rfl⟩:=h.1 r hr
 by_cases q:a<=b
 ·exact⟨b - a,by omega,by rw[<-CZ,show a+(b - a)=b by omega]⟩
 ·exact⟨M - a+b,by omega,by rw[<-CZ,show a+(M - a+b)=M+b by omega,CZ,h.2]⟩
theorem ahA {mask:Nat} (h:mask=7\/mask=31\/mask=127) {i r:Nat} (hi:i < mask+1) (hr:r < mask+1):∃ k,k < mask+1/\Nm (mask+1) k i=r:=by
 rcases h with rfl|rfl|rfl
 ·exact cyc ahy hi hr
 ·exact cyc afx hi hr
 ·exact cyc adu hi hr
def lp (mask:Nat) (h:Int):Nat->Nat×Nat
 |0=>(SetTable.bits h % (mask+1),SetTable.bits h)
 |l+1=>SetTable.leap mask (lp mask h l).1 (lp mask h l).2
theorem Er (mask i:Nat):i<=SetTable.runEnd mask i/\SetTable.runEnd mask i<=i+9:=by unfold SetTable.runEnd;split<;>omega
theorem Xa {mask i:Nat} (h:i<=mask):SetTable.runEnd mask i<=mask:=by unfold SetTable.runEnd;split<;>omega
theorem yZ {mask:Nat} {h:Int} {s i p:Nat} (e:gQ mask h s=at0 mask i p):∀ k,k<=SetTable.runEnd mask i - i->gQ mask h (s+k)={ at0 mask i p with j:=i+k,more:=SetTable.runEnd mask i - i - k }
 |0,_=>by rw[Nat.add_zero,e];rfl
 |k+1,hk=>by
  have ih:=yZ e k (by omega)
  show Hv mask (gQ mask h (s+k))=_
  rw[ih]
  unfold Hv
  rw[zo (by dsimp only;omega)]
  rfl
theorem Np {mask:Nat} {h:Int} {s i p:Nat} (e:gQ mask h s=at0 mask i p):gQ mask h (s+(SetTable.runEnd mask i - i)+1)=at0 mask (SetTable.leap mask i p).1 (SetTable.leap mask i p).2:=by
 show Hv mask (gQ mask h (s+(SetTable.runEnd mask i - i)))=_
 rw[yZ e _ (zk _)]
 unfold Hv
 rw[zv (by dsimp only;omega)]
 rfl
theorem Xb (mask:Nat) (h:Int):∀ l,∃ s,s<=10 * l/\gQ mask h s=at0 mask (lp mask h l).1 (lp mask h l).2
 |0=>⟨0,by omega,rfl⟩
 |l+1=>by
  obtain⟨s,hs,e⟩:=Xb mask h l
  have:=Er mask (lp mask h l).1
  exact⟨_,by omega,Np e⟩
theorem afy (mask:Nat) (h:Int):∀ l,(lp mask h l).1 < mask+1
 |0=>Nat.mod_lt _ (Nat.succ_pos _)
 |l+1=>Nat.mod_lt _ (Nat.succ_pos _)
theorem Nq (mask:Nat) (h:Int):∀ l,(lp mask h l).2 * 32 ^ l<=SetTable.bits h
 |0=>by simp[lp]
 |l+1=>by
  have ih:=Nq mask h l
  show (lp mask h l).2 / 32 * 32 ^ (l+1)<=_
  have h1:(lp mask h l).2 / 32 * 32<=(lp mask h l).2:=Nat.div_mul_le_self _ _
  have h2:=Nat.mul_le_mul_right (32 ^ l) h1
  rw[Nat.pow_succ,Nat.mul_comm (32 ^ l) 32,<-Nat.mul_assoc]
  exact Zl h2 ih
theorem aaq (h:Int):SetTable.bits h < 18446744073709551616:=by
 unfold SetTable.bits
 have h1:h % 18446744073709551616 < 18446744073709551616:=Int.emod_lt_of_pos _ (by decide)
 have h2:0<=h % 18446744073709551616:=Int.emod_nonneg _ (by decide)
 show (h % 18446744073709551616).toNat < _
 omega
theorem SN (mask:Nat) (h:Int):∀ k,(lp mask h (12+k)).2 < 32
 |0=>by
  have h1:=Nq mask h 12
  have h2:=aaq h
  rw[show (32:Nat) ^ 12=1152921504606846976 from rfl] at h1
  show (lp mask h 12).2 < 32
  omega
 |k+1=>by
  have:=SN mask h k
  show (lp mask h (12+k)).2 / 32 < 32
  omega
theorem afz (mask:Nat) (h:Int):∀ k,(lp mask h (12+k)).1=Nm (mask+1) k (lp mask h 12).1:=by
 have step:∀ k,(lp mask h (12+k+1)).1=nx (mask+1) (lp mask h (12+k)).1:=fun k=>by
  have:=SN mask h k
  show ((lp mask h (12+k)).1 * 5+1+(lp mask h (12+k)).2 / 32) % (mask+1)=_
  rw[show (lp mask h (12+k)).2 / 32=0 by omega]
  rfl
 have comm:∀ k i,Nm (mask+1) k (nx (mask+1) i)=nx (mask+1) (Nm (mask+1) k i):=fun k=>by
  induction k with
  |zero=>intro i;rfl
  |succ k ih=>intro i;exact ih _
 intro k
 induction k with
 |zero=>rfl
 |succ k ih=>
  rw[show 12+(k+1)=12+k+1 by omega,step,ih]
  exact (comm k _).symm
theorem Xc {mask:Nat} (hm:mask=7\/mask=31\/mask=127) (h:Int) {r:Nat} (hr:r < mask+1):∃ l,l < mask+13/\(lp mask h l).1=r:=by
 obtain⟨k,hk,e⟩:=ahA hm (afy mask h 12) hr
 exact⟨12+k,by omega,by rw[afz,e]⟩
theorem gap {t:SetTable} (h:Tb t):∃ r,r < t.mask+1/\r∉t.place:=by
 by_cases q:∃ r,r < t.mask+1/\r∉t.place
 ·exact q
 ·exfalso
  have:=QD (List.range (t.mask+1)) t.place.toList ym fun x hx=>by
   rw[KS] at hx
   by_cases q':x∈t.place
   ·exact Array.mem_toList_iff.mpr q'
   ·exact absurd ⟨x,hx,q'⟩ q
  rw[kU,ZZ] at this
  have:=h.full
  omega
theorem Xd {t:SetTable} (ht:Tb t) (h:Int):∃ n,n < 10 * SetTable.turns t.mask/\(gQ t.mask h n).j∉t.place:=by
 obtain⟨r,hr,hn⟩:=gap ht
 obtain⟨l,hl,e⟩:=Xc ht.mask h hr
 obtain⟨s,hs,e'⟩:=Xb t.mask h l
 refine⟨s,by unfold SetTable.turns;omega,?_⟩
 rw[e']
 show (lp t.mask h l).1∉_
 rw[e];exact hn
theorem QF {t:SetTable} (ht:Tb t) (h:Int):∃ n,n < 10 * SetTable.turns t.mask/\(gQ t.mask h n).j∉t.place/\∀ m,m < n->(gQ t.mask h m).j∈t.place:=by
 obtain⟨n,hn,hf⟩:=Xd ht h
 have:∀ k,(∃ n,n<=k/\(gQ t.mask h n).j∉t.place/\∀ m,m < n->(gQ t.mask h m).j∈t.place)\/∀ m,m<=k->(gQ t.mask h m).j∈t.place:=fun k=>by
  induction k with
  |zero=>
   by_cases q:(gQ t.mask h 0).j∈t.place
   ·exact .inr fun m hm=>by rw[show m=0 by omega];exact q
   ·exact .inl ⟨0,zk _,q,fun m hm=>absurd hm (ki _)⟩
  |succ k ih=>
   rcases ih with⟨n,h1,h2⟩|ih
   ·exact .inl ⟨n,by omega,h2⟩
   ·by_cases q:(gQ t.mask h (k+1)).j∈t.place
    ·exact .inr fun m hm=>by
      by_cases e:m=k+1
      ·rw[e];exact q
      ·exact ih m (by omega)
    ·exact .inl ⟨k+1,zk _,q,fun m hm=>ih m (by omega)⟩
 rcases this n with⟨m,h1,h2,h3⟩|q
 ·exact⟨m,by omega,h2,h3⟩
 ·exact absurd (q n (zk _)) hf
theorem gD {α:Type} (xs:Array α) (k:Nat) (a:α):xs.getD k a=xs[k]?.getD a:=by
 by_cases h:k < xs.size
 ·rw[Z3 h];simp[Array.getD,h]
 ·rw[Ki (by omega)];simp[Array.getD,h]
structure Tok (t:SetTable) (es:Array (Int×Value)):Prop extends Tb t where
 size:t.place.size=es.size
 reach:∀ (i j:Nat) e,t.place[i]?=some j->es[i]?=some e->∃ n,n < 10 * SetTable.turns t.mask/\(gQ t.mask e.1 n).j=j/\∀ m,m < n->(gQ t.mask e.1 m).j∈t.place
theorem za {α:Type} (xs:Array α) (p:Nat) (x:α):(SetTable.insertAt xs p x).toList=xs.toList.take p++x::xs.toList.drop p:=by
 unfold SetTable.insertAt
 simp[Array.toList_extract,List.take_of_length_le]
theorem Cz {α:Type} {xs:Array α} {p:Nat} (hp:p<=xs.size) (x:α) (i:Nat):(SetTable.insertAt xs p x)[i]?=if i < p then xs[i]? else if i=p then some x else xs[i - 1]?:=by
 rw[<-qB,za,List.getElem?_append]
 have hl:(xs.toList.take p).length=p:=by rw[kf,ZZ];omega
 rw[hl]
 by_cases h1:i < p
 ·rw[zo h1,zo h1,List.getElem?_take,zo h1,qB]
 ·rw[zv h1,zv h1]
  by_cases h2:i=p
  ·rw[zo h2,h2,Nat.sub_self];rfl
  ·rw[zv h2,show i - p=(i - p - 1)+1 by omega,ZO,List.getElem?_drop,qB,show p+(i - p - 1)=i - 1 by omega]
theorem vI {α:Type} (xs:Array α) (p:Nat) (x:α):(SetTable.insertAt xs p x).size=xs.size+1:=by
 rw[<-ZZ,za,ZA,qh,kf,Kt,ZZ]
 omega
theorem SQ {α:Type} {xs:Array α} {p:Nat} {x y:α}:y∈SetTable.insertAt xs p x↔y∈xs\/y=x:=by
 rw[<-Array.mem_toList_iff,za,List.mem_append,Qr,<-Array.mem_toList_iff]
 constructor
 ·rintro (h|h|h)
  ·exact .inl (List.mem_of_mem_take h)
  ·exact .inr h
  ·exact .inl (List.mem_of_mem_drop h)
 ·rintro (h|h)
  ·rw[<-List.take_append_drop p xs.toList,List.mem_append] at h
   rcases h with h|h
   ·exact .inl h
   ·exact .inr (.inr h)
  ·exact .inr (.inl h)
theorem Xe {xs:Array Nat} (hr:QC xs) {j:Nat} (hj:j∉xs):QC (SetTable.insertAt xs (SetTable.below xs j) j):=by
 obtain⟨h1,h2,h3⟩:=below_at hr j
 intro a b hab hb
 rw[vI] at hb
 have ga:∀ i,i < xs.size+1->(SetTable.insertAt xs (SetTable.below xs j) j).getD i 0=if i < SetTable.below xs j then xs.getD i 0 else if i=SetTable.below xs j then j else xs.getD (i - 1) 0:=fun i hi=>by
  rw[gD,Cz h1]
  by_cases q1:i < SetTable.below xs j
  ·rw[zo q1,zo q1,<-gD]
  ·rw[zv q1,zv q1]
   by_cases q2:i=SetTable.below xs j
   ·rw[zo q2,zo q2];rfl
   ·rw[zv q2,zv q2,<-gD]
 have gt:∀ k,SetTable.below xs j<=k->k < xs.size->j < xs.getD k 0:=fun k hk hs=>by
  have q:=h3 k hk hs
  rcases Nat.lt_or_eq_of_le q with q|q
  ·exact q
  ·exact absurd (Array.mem_of_getElem? (aao hs q.symm)) hj
 rw[ga a (by omega),ga b hb]
 by_cases a1:a < SetTable.below xs j
 ·rw[zo a1]
  by_cases b1:b < SetTable.below xs j
  ·rw[zo b1];exact hr a b hab (by omega)
  ·rw[zv b1]
   have:=h2 a a1
   by_cases b2:b=SetTable.below xs j
   ·rw[zo b2];exact this
   ·rw[zv b2];exact Nat.lt_trans this (gt _ (by omega) (by omega))
 ·rw[zv a1]
  by_cases a2:a=SetTable.below xs j
  ·rw[zo a2,zv (by omega),zv (by omega)]
   exact gt _ (by omega) (by omega)
  ·rw[zv a2,zv (by omega),zv (by omega)]
   exact hr _ _ (by omega) (by omega)
theorem aar {t:SetTable} {es:Array (Int×Value)} (h:Tok t es) {hh:Int} {x:Value} {n:Nat} (hn:n < 10 * SetTable.turns t.mask) (hf:(gQ t.mask hh n).j∉t.place) (hp:∀ m,m < n->(gQ t.mask hh m).j∈t.place) (hj:(gQ t.mask hh n).j<=t.mask) (hs:es.size+1<=t.mask) :
  Tok (t.put (gQ t.mask hh n).j).1 (SetTable.insertAt es (t.put (gQ t.mask hh n).j).2 (hh,x))/\(t.put (gQ t.mask hh n).j).1.led=t.led/\(t.put (gQ t.mask hh n).j).1.plain=t.plain/\(t.put (gQ t.mask hh n).j).1.mask=t.mask:=by
 have hd:=h.dum
 have he:t.put (gQ t.mask hh n).j=({ t with place:=SetTable.insertAt t.place (SetTable.below t.place (gQ t.mask hh n).j) (gQ t.mask hh n).j,dummies:=#[] },SetTable.below t.place (gQ t.mask hh n).j):=by
  unfold SetTable.put
  rw[hd]
  simp only[SJ,zr,ZN]
 rw[he]
 have hz:=h.size
 have hb:=(below_at h.rise (gQ t.mask hh n).j).1
 refine⟨{ mask:=h.mask,dum:=rfl,rise:=Xe h.rise hf,bd:=fun j hj'=>?_,full:=?_,size:=?_,reach:=fun i j e h1 h2=>?_ },rfl,rfl,rfl⟩
 ·rcases SQ.mp hj' with q|q
  ·exact h.bd j q
  ·rw[q];exact hj
 ·show (SetTable.insertAt _ _ _).size<=t.mask
  rw[vI];omega
 ·show (SetTable.insertAt _ _ _).size=_
  rw[vI,vI,hz]
 ·have h1:(SetTable.insertAt t.place (SetTable.below t.place (gQ t.mask hh n).j) (gQ t.mask hh n).j)[i]?=some j:=h1
  rw[Cz hb] at h1
  rw[Cz (by rw[<-hz];exact hb)] at h2
  have up:∀ e':Int×Value,(∃ n,n < 10 * SetTable.turns t.mask/\(gQ t.mask e'.1 n).j=j/\∀ m,m < n->(gQ t.mask e'.1 m).j∈t.place)->∃ n',n' < 10 * SetTable.turns t.mask/\(gQ t.mask e'.1 n').j=j/\∀ m,m < n'->(gQ t.mask e'.1 m).j∈SetTable.insertAt t.place (SetTable.below t.place (gQ t.mask hh n).j) (gQ t.mask hh n).j:=
   fun e' ⟨n,a,b,c⟩=>⟨n,a,b,fun m hm=>SQ.mpr (.inl (c m hm))⟩
  by_cases q1:i < SetTable.below t.place (gQ t.mask hh n).j
  ·rw[zo q1] at h1 h2
   exact up e (h.reach i j e h1 h2)
  ·rw[zv q1] at h1 h2
   by_cases q2:i=SetTable.below t.place (gQ t.mask hh n).j
   ·rw[zo q2] at h1 h2
    cases h1;cases h2
    exact up (hh,x) ⟨n,hn,rfl,hp⟩
   ·rw[zv q2] at h1 h2
    exact up e (h.reach (i - 1) j e h1 h2)
theorem Xf {mask:Nat} (h:Int):∀ n,(gQ mask h n).j+(gQ mask h n).more<=mask
 |0=>by
  have h1:SetTable.bits h % (mask+1) < mask+1:=Nat.mod_lt _ (Nat.succ_pos _)
  have:=Xa (mask:=mask) (i:=SetTable.bits h % (mask+1)) (by omega)
  have:=Er mask (SetTable.bits h % (mask+1))
  show SetTable.bits h % (mask+1)+(SetTable.runEnd mask (SetTable.bits h % (mask+1)) - SetTable.bits h % (mask+1))<=mask
  omega
 |n+1=>by
  have ih:=Xf (mask:=mask) h n
  show (Hv mask (gQ mask h n)).j+(Hv mask (gQ mask h n)).more<=mask
  unfold Hv
  split
  ·dsimp only;omega
  ·dsimp only
   generalize hl:(SetTable.leap mask (gQ mask h n).i (gQ mask h n).perturb).1=i
   have h1:i < mask+1:=by rw[<-hl];exact Nat.mod_lt _ (Nat.succ_pos _)
   have:=Xa (mask:=mask) (i:=i) (by omega)
   have:=Er mask i
   omega
theorem QG {mask:Nat} (h:Int) (n:Nat):(gQ mask h n).j<=mask:=by have:=Xf (mask:=mask) h n;omega
def QH (owner:Array (Option Nat)) (j:Nat):Prop:=(owner.getD j (some 0)).isNone=false
theorem Ju {mask:Nat} {h:Int} {owner:Array (Option Nat)}:∀ (fuel l s j:Nat),gQ mask h s=at0 mask (lp mask h l).1 (lp mask h l).2->s<=10 * l->(∀ m,m < s->QH owner (gQ mask h m).j) →
  SetTable.layClean.free mask owner fuel (lp mask h l).1 (lp mask h l).2=some j->∃ n,n < 10 * (l+fuel)/\(gQ mask h n).j=j/\(owner.getD j (some 0)).isNone=true/\∀ m,m < n->QH owner (gQ mask h m).j
 |0,l,s,j,_,_,_,e=>by unfold SetTable.layClean.free at e;cases e
 |fuel+1,l,s,j,hs,hl,ho,e=>by
  have hr:=Er mask (lp mask h l).1
  unfold SetTable.layClean.free at e
  cases hf:(List.range (SetTable.runEnd mask (lp mask h l).1+1 - (lp mask h l).1)).find? fun k=>(owner.getD ((lp mask h l).1+k) (some 0)).isNone with
  |some k=>
   rw[hf] at e
   cases e
   obtain⟨h1,h2,h3⟩:=List.find?_range_eq_some.mp hf
   rw[KS] at h2
   refine⟨s+k,by omega,?_,h1,fun m hm=>?_⟩
   ·rw[yZ hs k (by omega)]
   ·by_cases q:m < s
    ·exact ho m q
    ·have h4:=h3 (m - s) (by omega)
     rw[show m=s+(m - s) by omega,yZ hs (m - s) (by omega)]
     simpa [QH] using h4
  |none=>
   rw[hf] at e
   have h3:=List.find?_range_eq_none.mp hf
   obtain⟨n,a,b⟩:=Ju fuel (l+1) _ j (Np hs) (by omega) (fun m hm=>by
    by_cases q:m < s
    ·exact ho m q
    ·have h4:=h3 (m - s) (by omega)
     rw[show m=s+(m - s) by omega,yZ hs (m - s) (by omega)]
     simpa [QH] using h4) e
   exact⟨n,by omega,b⟩
theorem Jv {mask:Nat} {h:Int} {owner:Array (Option Nat)}:∀ (fuel l:Nat),SetTable.layClean.free mask owner fuel (lp mask h l).1 (lp mask h l).2=none->∀ l',l<=l'->l' < l+fuel->QH owner (lp mask h l').1
 |0,l,_,l',h1,h2=>by omega
 |fuel+1,l,e,l',h1,h2=>by
  have hr:=Er mask (lp mask h l).1
  unfold SetTable.layClean.free at e
  cases hf:(List.range (SetTable.runEnd mask (lp mask h l).1+1 - (lp mask h l).1)).find? fun k=>(owner.getD ((lp mask h l).1+k) (some 0)).isNone with
  |some k=>rw[hf] at e;cases e
  |none=>
   rw[hf] at e
   have h3:=List.find?_range_eq_none.mp hf
   by_cases q:l'=l
   ·subst q
    have h4:=h3 0 (by omega)
    simpa [QH] using h4
   ·exact Jv fuel (l+1) e l' (by omega) (by omega)
structure Ow (mask:Nat) (hs:List Int) (owner:Array (Option Nat)):Prop where
 size:owner.size=mask+1
 lt:∀ (j idx:Nat),owner[j]?=some (some idx)->idx < hs.length
 all:∀ (idx:Nat) h,hs[idx]?=some h->∃ j,owner[j]?=some (some idx)/\∃ n,n < 10 * SetTable.turns mask/\(gQ mask h n).j=j/\∀ m,m < n->QH owner (gQ mask h m).j
 inj:∀ (j j' idx:Nat),owner[j]?=some (some idx)->owner[j']?=some (some idx)->j=j'
theorem Xg {mask:Nat} {hs:List Int} {owner:Array (Option Nat)} (o:Ow mask hs owner) {j:Nat} (hj:j<=mask):QH owner j↔∃ idx,owner[j]?=some (some idx):=by
 unfold QH
 have hlt:j < owner.size:=by rw[o.size];omega
 rw[gD,Z3 hlt]
 cases owner[j] with
 |none=>simp
 |some i=>simp
theorem U9 {f:Nat->Nat}:∀ {xs:List Nat},xs.Nodup->(∀ x∈xs,∀ y∈xs,f x=f y->x=y)->(xs.map f).Nodup:=fun {xs} hn hi=>
 List.pairwise_map.mpr (kc (fun ha hb hne e=>hne (hi _ ha _ hb e)) hn)
theorem aas {mask:Nat} {hs:List Int} {owner:Array (Option Nat)} (o:Ow mask hs owner) (hl:hs.length<=mask):∃ r,r < mask+1/\¬ QH owner r:=by
 by_cases q:∃ r,r < mask+1/\¬ QH owner r
 ·exact q
 ·exfalso
  have all:∀ r,r < mask+1->∃ idx,owner[r]?=some (some idx):=fun r hr=>by
   by_cases q':QH owner r
   ·exact (Xg o (by omega)).mp q'
   ·exact absurd ⟨r,hr,q'⟩ q
  have f:∀ r,r < mask+1->owner[r]?=some (some ((owner[r]?.getD none).getD 0)):=fun r hr=>by
   obtain⟨idx,e⟩:=all r hr
   rw[e];rfl
  have:=QD ((List.range (mask+1)).map fun r=>(owner[r]?.getD none).getD 0) (List.range hs.length) (U9 ym fun x hx y hy e=>by
   rw[KS] at hx hy
   have e1:=f x hx
   have e2:=f y hy
   rw[e] at e1
   exact o.inj x y _ e1 e2) fun x hx=>by
    obtain⟨r,hr,rfl⟩:=List.mem_map.mp hx
    rw[KS] at hr
    exact List.mem_range.mpr (o.lt r _ (f r hr))
  rw[zi,kU,kU] at this
  omega
theorem aat {mask:Nat} (hm:mask=7\/mask=31\/mask=127) {hs:List Int} {owner:Array (Option Nat)} (o:Ow mask hs owner) (hl:hs.length<=mask) (h:Int) :
  ∃ j,SetTable.layClean.free mask owner (SetTable.turns mask) (SetTable.bits h % (mask+1)) (SetTable.bits h)=some j/\Ow mask (hs++[h]) (owner.setIfInBounds j (some hs.length)):=by
 obtain⟨r,hr,hn⟩:=aas o hl
 cases hf:SetTable.layClean.free mask owner (SetTable.turns mask) (SetTable.bits h % (mask+1)) (SetTable.bits h) with
 |none=>
  obtain⟨l,hl',e⟩:=Xc hm h hr
  have:=Jv (h:=h) (owner:=owner) (SetTable.turns mask) 0 hf l (qE _) (by unfold SetTable.turns;omega)
  rw[e] at this
  exact absurd this hn
 |some j=>
  obtain⟨n,h1,h2,h3,h4⟩:=Ju (h:=h) (owner:=owner) (SetTable.turns mask) 0 0 j rfl (zk _) (fun m hm=>absurd hm (ki _)) hf
  rw[KM] at h1
  have hj:j<=mask:=by rw[<-h2];exact QG h n
  have hjs:j < owner.size:=by rw[o.size];omega
  have get:∀ k:Nat,(owner.setIfInBounds j (some hs.length))[k]?=if k=j then some (some hs.length) else owner[k]?:=fun k=>by
   rw[Array.getElem?_setIfInBounds]
   by_cases q:k=j
   ·rw[zo q,zo q.symm,zo hjs]
   ·rw[zv q,zv (fun e=>q e.symm)]
  have old:∀ k idx:Nat,owner[k]?=some (some idx)->k≠j:=fun k idx e q=>by
   subst q
   rw[gD,e] at h3
   cases h3
  have up:∀ k,QH owner k->QH (owner.setIfInBounds j (some hs.length)) k:=fun k q=>by
   unfold QH at q ⊢
   rw[gD] at q ⊢
   rw[get]
   by_cases e:k=j
   ·rw[zo e];rfl
   ·rw[zv e];exact q
  refine⟨j,rfl,⟨by rw[Array.size_setIfInBounds];exact o.size,fun k idx e=>?_,fun idx g e=>?_,fun a b idx e1 e2=>?_⟩⟩
  ·rw[get] at e
   rw[ZA]
   by_cases q:k=j
   ·rw[zo q] at e;cases e;simp
   ·rw[zv q] at e;have:=o.lt k idx e;simp;omega
  ·by_cases q:idx < hs.length
   ·rw[ZH q] at e
    obtain⟨k,e1,n',a,b,c⟩:=o.all idx g e
    exact⟨k,by rw[get,zv (old k idx e1)];exact e1,n',a,b,fun m hm=>up _ (c m hm)⟩
   ·rw[qA (by omega)] at e
    have:idx - hs.length=0:=by
     by_cases q':idx - hs.length=0
     ·exact q'
     ·rw[ZT (by simp;omega)] at e;cases e
    rw[this] at e
    cases e
    have:idx=hs.length:=by omega
    subst this
    exact⟨j,by rw[get,zo rfl],n,h1,h2,fun m hm=>up _ (h4 m hm)⟩
  ·rw[get] at e1 e2
   by_cases q1:a=j
   ·by_cases q2:b=j
    ·rw[q1,q2]
    ·rw[zo q1] at e1;rw[zv q2] at e2
     cases e1
     have:=o.lt b _ e2;omega
   ·by_cases q2:b=j
    ·rw[zv q1] at e1;rw[zo q2] at e2
     cases e2
     have:=o.lt a _ e1;omega
    ·rw[zv q1] at e1;rw[zv q2] at e2
     exact o.inj a b idx e1 e2
theorem adv (mask:Nat):Ow mask [] (Array.replicate (mask+1) none):=by
 have no:∀ (j idx:Nat),(Array.replicate (mask+1) (none:Option Nat))[j]?≠some (some idx):=fun j idx e=>by
  rw[Array.getElem?_replicate] at e
  split at e<;>cases e
 exact⟨Array.size_replicate,fun j idx e=>absurd e (no j idx),fun idx h e=>by simp at e,fun j j' idx e=>absurd e (no j idx)⟩
theorem adw {mask:Nat} (hm:mask=7\/mask=31\/mask=127) (hs:List Int) (hl:hs.length<=mask):∃ owner,SetTable.layClean mask hs.toArray=some owner/\Ow mask hs owner:=by
 have key:∀ (ys xs:List Int) (owner:Array (Option Nat)),Ow mask xs owner->xs.length+ys.length<=mask->∃ Xh,ys.foldl (fun (acc:Option (Array (Option Nat)×Nat)) h=>do
   let (owner,k) <-acc
   let j <-SetTable.layClean.free mask owner (SetTable.turns mask) (SetTable.bits h % (mask+1)) (SetTable.bits h)
   pure (owner.setIfInBounds j (some k),k+1)) (some (owner,xs.length))=some (Xh,xs.length+ys.length)/\Ow mask (xs++ys) Xh:=by
  intro ys
  induction ys with
  |nil=>intro xs owner o _;exact⟨owner,rfl,by rw[km];exact o⟩
  |cons y ys ih=>
   intro xs owner o hl
   rw[qh] at hl
   obtain⟨j,e,o'⟩:=aat hm o (by omega) y
   obtain⟨ow,e2,o2⟩:=ih (xs++[y]) _ o' (by simp;omega)
   refine⟨ow,?_,by rw[QP] at o2;exact o2⟩
   rw[QI]
   simp only[Option.bind_eq_bind,Option.bind_some,e,pure]
   rw[show (xs++[y]).length=xs.length+1 by simp] at e2
   rw[qh,show xs.length+(ys.length+1)=xs.length+1+ys.length by omega]
   exact e2
 obtain⟨ow,e,o⟩:=key hs [] _ (adv mask) (by simpa using hl)
 refine⟨ow,?_,by simpa using o⟩
 unfold SetTable.layClean
 rw[List.foldl_toArray]
 exact congrArg (Option.map (·.1)) e
theorem Kl {α β:Type} {f:α->Option β} {g:α->β}:∀ {xs:List α},(∀ x∈xs,f x=some (g x))->xs.filterMap f=xs.map g
 |[],_=>rfl
 |x::xs,h=>by
  rw[kB,h x (ze ..),zl,Kl fun y hy=>h y (zh _ hy)]
theorem aau {xs:List Nat} (h:xs.Pairwise (· < ·)):QC xs.toArray:=by
 intro i j hij hj
 have hj':j < xs.length:=by simpa using hj
 rw[gD,gD,List.getElem?_toArray,List.getElem?_toArray,zD hj',zD (by omega)]
 exact List.pairwise_iff_getElem.mp h i j (by omega) hj' hij
theorem Va {t:SetTable} {es:Array (Int×Value)} {wanted:Nat} (hm:SetTable.sizeAbove wanted - 1=7\/SetTable.sizeAbove wanted - 1=31\/SetTable.sizeAbove wanted - 1=127) (hl:es.size<=SetTable.sizeAbove wanted - 1) :
  ∃ t' order,t.relaid (es.map (·.1)) wanted=some (t',order)/\(order.filterMap (es[·]?)).toList.Perm es.toList/\Tok t' (order.filterMap (es[·]?))/\t'.led=t.led/\t'.plain=t.plain/\t'.mask=SetTable.sizeAbove wanted - 1:=by
 generalize hM:SetTable.sizeAbove wanted - 1=mask at hm hl ⊢
 have hs:(es.toList.map (·.1)).length=es.size:=by simp
 obtain⟨ow,e,o⟩:=adw hm (es.toList.map (·.1)) (by omega)
 have ea:es.map (·.1)=(es.toList.map (·.1)).toArray:=by
  apply Array.ext'
  simp
 let L:List (Nat×Nat):=(List.range (mask+1)).filterMap fun j=>(ow.getD j none).map fun k=>(j,k)
 have hL:∀ j k,(j,k)∈L↔ow[j]?=some (some k):=fun j k=>by
  show (j,k)∈List.filterMap _ _↔_
  rw[List.mem_filterMap]
  constructor
  ·rintro⟨a,ha,q⟩
   rw[gD] at q
   cases h1:ow[a]? with
   |none=>rw[h1] at q;cases q
   |some x=>
    rw[h1] at q
    cases x with
    |none=>cases q
    |some y=>cases q;exact h1
  ·intro q
   refine⟨j,List.mem_range.mpr ?_,?_⟩
   ·by_cases h:j < ow.size
    ·rw[<-o.size];exact h
    ·rw[Ki (by omega)] at q;cases q
   ·rw[gD,q];rfl
 have pL:L.Pairwise fun a b=>a.1 < b.1:=by
  refine List.pairwise_filterMap.mpr (List.pairwise_lt_range.imp fun {a b} hab x hx y hy=>?_)
  cases h1:ow.getD a none with
  |none=>rw[h1] at hx;cases hx
  |some u=>
   cases h2:ow.getD b none with
   |none=>rw[h2] at hy;cases hy
   |some v=>rw[h1] at hx;rw[h2] at hy;cases hx;cases hy;exact hab
 have ndO:(L.map (·.2)).Nodup:=by
  refine List.pairwise_map.mpr (kc (fun {a b} ha hb hab e=>?_) pL)
  have h1:=(hL a.1 a.2).mp ha
  have h2:=(hL b.1 b.2).mp hb
  rw[e] at h1
  have:=o.inj _ _ _ h1 h2
  omega
 have pO:(L.map (·.2)).Perm (List.range es.size):=CW ndO ym fun z=>by
  rw[kP,KS]
  constructor
  ·rintro⟨a,ha,rfl⟩
   have:=o.lt _ _ ((hL a.1 a.2).mp ha)
   omega
  ·intro hz
   obtain⟨j,h1,_⟩:=o.all z ((es.toList.map (·.1))[z]'(by omega)) (zD (by omega))
   exact⟨(j,z),(hL j z).mpr h1,rfl⟩
 let g:Nat->Int×Value:=fun k=>es.getD k (0,.none)
 have hg:∀ k,k < es.size->es[k]?=some (g k):=fun k hk=>by
  show _=some (es.getD k _)
  rw[gD,Z3 hk];rfl
 have fO:(L.map (·.2)).filterMap (fun k=>es[k]?)=(L.map (·.2)).map g:=Kl fun k hk=>hg k (List.mem_range.mp (pO.mem_iff.mp hk))
 have eL:((L.map (·.2)).toArray.filterMap (fun k=>es[k]?)).toList=L.map fun p=>g p.2:=by
  rw[Array.toList_filterMap,fO,Zp];rfl
 refine⟨{ mask:=mask,place:=(L.map (·.1)).toArray,dummies:=#[],finger:=t.finger,led:=t.led,moves:=t.movedTo mask,plain:=t.plain },(L.map (·.2)).toArray,?_,?_,?_,rfl,rfl,rfl⟩
 ·unfold SetTable.relaid SetTable.laid
  rw[hM,ea,e]
  rfl
 ·rw[Array.toList_filterMap,fO]
  refine (pO.map g).trans ?_
  have:(List.range es.size).map g=es.toList:=by
   apply yb
   intro i
   rw[zS]
   by_cases h:i < es.size
   ·rw[j0 h,qB,hg i h];rfl
   ·rw[ZT (by simp;omega),ZT (by simp;omega)];rfl
  rw[this]
 ·have sz:L.length=es.size:=by
   have:=pO.length_eq
   rw[zi,kU] at this
   exact this
  refine { mask:=hm,dum:=rfl,rise:=aau (List.pairwise_map.mpr pL),bd:=fun j hj=>?_,full:=?_,size:=?_,reach:=fun i j x h1 h2=>?_ }
  ·have hj:j∈L.map (·.1):=by simpa using hj
   obtain⟨a,ha,rfl⟩:=List.mem_map.mp hj
   have q:=(hL a.1 a.2).mp ha
   have:a.1 < ow.size:=by
    by_cases h:a.1 < ow.size
    ·exact h
    ·rw[Ki (by omega)] at q;cases q
   have:=o.size
   show a.1<=mask
   omega
  ·show (L.map (·.1)).toArray.size<=mask
   simp only[zC,zi]
   omega
  ·rw[<-ZZ (xs:=Array.filterMap _ _),eL]
   simp
  ·have h1:(L.map (·.1)).toArray[i]?=some j:=h1
   rw[List.getElem?_toArray,zS] at h1
   rw[<-qB,eL,zS] at h2
   cases hi:L[i]? with
   |none=>rw[hi] at h1;cases h1
   |some p=>
    rw[hi] at h1 h2
    cases h1;cases h2
    have hp:(p.1,p.2)∈L:=QE hi
    have q:=(hL p.1 p.2).mp hp
    have hk:p.2 < es.size:=List.mem_range.mp (pO.mem_iff.mp (List.mem_map.mpr ⟨p,hp,rfl⟩))
    have hh:(es.toList.map (·.1))[p.2]?=some (g p.2).1:=by
     rw[zS,qB,hg _ hk];rfl
    obtain⟨j',q1,n,a,b,c⟩:=o.all _ _ hh
    have:j'=p.1:=o.inj _ _ _ q1 q
    subst this
    refine⟨n,a,b,fun m hm'=>?_⟩
    obtain⟨k,q2⟩:=(Xg o (QG _ _)).mp (c m hm')
    show _∈(L.map (·.1)).toArray
    rw[List.mem_toArray]
    exact List.mem_map.mpr ⟨(_,k),(hL _ _).mpr q2,rfl⟩
end S6
end
section
namespace S6
open PySem PySem.Spec PyProof.Rows P1 L2
section
variable {prog:Program} {w:World} {A:Around} {E:VP_} {s:Shared} {a:Addr}
abbrev bQ (prog:Program) (w:World) (ks:List Key):Int:=tupleKeyHash (bh prog w) ks
def TE (prog:Program) (w:World) (h:Heap) (z:List Key×Addr) (e:Int×Value):Prop:=e=(bQ prog w z.1,.ref z.2)/\IsTupleKey (bh prog w) h z.1 z.2
structure aav (prog:Program) (w:World) (h:Heap) (zs:List (List Key×Addr)) (es:Array (Int×Value)) (t:SetTable):Prop where
 rel:Paired (TE prog w h) zs es.toList
 nd:(zs.map (·.1)).Nodup
 tok:Tok t es
 load:es.size * 5 < t.mask * 3
 led:w.params.followText "set-order" = false->t.led=true
 non:0 < es.size->t.plain=false
def Tu (prog:Program) (w:World) (h:Heap) (a:Addr) (zs:List (List Key×Addr)):Prop:=∃ o es ep t,h.get? a=some o/\o.ExactSet/\o.data=.set es ep t/\aav prog w h zs es t
theorem SX {h h':Heap} {ks:List Key} {b:Addr} (x:IsTupleKey (bh prog w) h ks b) (k:∀ o,h.get? b=some o->o.cls=.type "tuple" → h'.get? b=some o):IsTupleKey (bh prog w) h' ks b:=
 let ⟨o,its,n,e,c,r⟩:=x;⟨o,its,n,k o e c,c,r⟩
theorem Es {h h':Heap} {zs:List (List Key×Addr)} {l:List (Int×Value)} (k:∀ b o,h.get? b=some o->o.cls=.type "tuple" → h'.get? b=some o) (r:Paired (TE prog w h) zs l):Paired (TE prog w h') zs l:=by
 induction r with
 |nil=>exact .nil
 |cons q _ ih=>exact .cons ⟨q.1,SX q.2 fun o e c=>k _ o e c⟩ ih
theorem Tu.keep {h h':Heap} {zs:List (List Key×Addr)} (x:Tu prog w h a zs) (k:∀ b o,h.get? b=some o->h'.get? b=some o):Tu prog w h' a zs:=
 let ⟨o,es,ep,t,e,r,d,q⟩:=x;⟨o,es,ep,t,k a o e,r,d,⟨Es (fun b o e _=>k b o e) q.rel,q.nd,q.tok,q.load,q.led,q.non⟩⟩
theorem aav.size {h:Heap} {zs:List (List Key×Addr)} {es:Array (Int×Value)} {t:SetTable} (x:aav prog w h zs es t):es.size=zs.length:=by rw[x.rel.length];simp
theorem Tok.fits {t:SetTable} {es:Array (Int×Value)} (h:Tok t es):t.fits es.size=true:=by
 unfold SetTable.fits SetTable.fill
 have h1:=h.full
 have h2:=h.size
 rw[h.dum]
 simp[h2]
 omega
theorem Tok.odd {t:SetTable} {es:Array (Int×Value)} (h:Tok t es):t.gaveWay=false:=by
 unfold SetTable.gaveWay
 rcases h.mask with e|e|e<;>rw[e]<;>rfl
theorem Jw {d:Nat} {ks:List Key} {b:Addr} {Q:Bool->Shared->Prop} (hk:IsTupleKey (bh prog w) s.heap ks b) (h:Q false s):wpAny (model prog w) A (ofAClassStatement (d+1) (.ref b)) Q E s:=by
 have hT:=hk.typeIs
 obtain⟨o,items,n,ho,_,hd,hi⟩:=hk
 unfold ofAClassStatement
 refine zb (QU hT ?_)
 dsimp only
 refine zb (zg ?_)
 simp only[kq,zr,ZN]
 refine zb (wpAny_seqItems ho hd ?_)
 dsimp only
 refine zb ?_
 rw[<-Array.forIn_toList]
 refine wpAny_forIn_list _ (fun rest r s'=>r.1=none/\s'=s/\∀ v∈rest,carriedByValue v=true) _ ?_ ?_ _ _ ⟨rfl,rfl,hi.byValue⟩
 ·rintro v rest r s' ⟨hr,rfl,hall⟩
  have hv:ofAClassStatement d v=pure false:=by
   have:=hall v ze
   cases v with
   |ref a=>simp[carriedByValue] at this
   |_=>unfold ofAClassStatement;rfl
  rw[hv]
  refine zb (zg ?_)
  simp only[zr,ZN]
  exact zg ⟨rfl,rfl,fun u hu'=>hall u (zh _ hu')⟩
 ·rintro⟨r1,r2⟩ s' ⟨hr,rfl,_⟩
  simp only at hr
  subst hr
  exact zg h
theorem adx {ks:List Key} {b:Addr} {Q:Bool->Shared->Prop} (hk:IsTupleKey (bh prog w) s.heap ks b) (vs:List Value) (hv:∀ v∈vs,∃ c ls,v=.ref c/\IsTupleKey (bh prog w) s.heap ls c) (h:Q false s):wpAny (model prog w) A (searchCouldBeSeen (.ref b) vs) Q E s:=by
 unfold searchCouldBeSeen
 refine zb ?_
 refine wpAny_forIn_list _ (fun rest r s'=>r.1=none/\s'=s/\∀ v∈rest,∃ c ls,v=.ref c/\IsTupleKey (bh prog w) s.heap ls c) _ ?_ ?_ _ _ ⟨rfl,rfl,hv⟩
 ·rintro v rest r s' ⟨hr,rfl,hall⟩
  obtain⟨c,ls,rfl,hc⟩:=hall v ze
  have rest':∀ v∈rest,∃ c ls,v=.ref c/\IsTupleKey (bh prog w) s'.heap ls c:=fun u hu=>hall u (zh _ hu)
  dsimp only
  split
  ·exact zg ⟨rfl,rfl,rest'⟩
  ·refine zb (wpAny_eqIsQuiet_tuple hk ?_)
   simp only[kq,zr,ZN]
   refine zb (wpAny_eqIsQuiet_tuple hc ?_)
   simp only[kq,zr,ZN]
   refine zb (Jw hk ?_)
   simp only[zr,ZN]
   refine zb (Jw hc ?_)
   simp only[zr,ZN]
   exact zg ⟨rfl,rfl,rest'⟩
 ·rintro⟨r1,r2⟩ s' ⟨hr,rfl,_⟩
  simp only at hr
  subst hr
  exact zg h
theorem KJ {h:Heap}:∀ {zs:List (List Key×Addr)} {l:List (Int×Value)},Paired (TE prog w h) zs l->∀ {i:Nat} {e},l[i]?=some e->∃ z,zs[i]?=some z/\TE prog w h z e
 |_,_,.nil,i,e,q=>by simp at q
 |_,_,.cons r _,0,e,q=>by simp at q;subst q;exact⟨_,rfl,r⟩
 |_,_,.cons _ t,i+1,e,q=>by
  rw[ZO] at q
  obtain⟨z,z1,z2⟩:=KJ t q
  exact⟨z,by rw[ZO];exact z1,z2⟩
theorem zc {h:Heap}:∀ {zs:List (List Key×Addr)} {l:List (Int×Value)},Paired (TE prog w h) zs l->∀ {i:Nat} {z},zs[i]?=some z->∃ e,l[i]?=some e/\TE prog w h z e
 |_,_,.nil,i,e,q=>by simp at q
 |_,_,.cons r _,0,e,q=>by simp at q;subst q;exact⟨_,rfl,r⟩
 |_,_,.cons _ t,i+1,e,q=>by
  rw[ZO] at q
  obtain⟨z,z1,z2⟩:=zc t q
  exact⟨z,by rw[ZO];exact z1,z2⟩
theorem least (p:Nat->Prop):∀ (k n:Nat),p (n+k)->∃ d,d<=k/\p (n+d)/\∀ m,n<=m->m < n+d->¬ p m
 |0,n,h=>⟨0,zk _,h,fun m h1 h2=>absurd h2 (by omega)⟩
 |k+1,n,h=>by
  by_cases q:p n
  ·exact⟨0,qE _,q,fun m h1 h2=>absurd h2 (by omega)⟩
  ·obtain⟨d,h1,h2,h3⟩:=least p k (n+1) (by rw[show n+1+k=n+(k+1) by omega];exact h)
   refine⟨d+1,by omega,by rw[show n+(d+1)=n+1+d by omega];exact h2,fun m a b=>?_⟩
   by_cases e:m=n
   ·rw[e];exact q
   ·exact h3 m (by omega) (by omega)
theorem search {o:Obj} {es:Array (Int×Value)} {ep:Nat} {t:SetTable} {zs:List (List Key×Addr)} {ks:List Key} {b:Addr} (hu:A.units < cLine) (ho:s.heap.get? a=some o) (hd:o.data=.set es ep t) (x:aav prog w s.heap zs es t) (hk:IsTupleKey (bh prog w) s.heap ks b)
  {N:Nat} (hN:N < 10 * SetTable.turns t.mask) (hf:(gQ t.mask (bQ prog w ks) N).j∉t.place) (hp:∀ m,m < N->(gQ t.mask (bQ prog w ks) m).j∈t.place) {Q:SetFound->Shared->Prop}
  (h1:ks∈zs.map (·.1)->Q (.there none) s) (h2:ks∉zs.map (·.1)->Q (.free (gQ t.mask (bQ prog w ks) N).j false) s) :
  ∀ (k n fuel:Nat) (stand:Option SetTable.Probe),n+k=N->k < fuel->stand.getD (t.probeStart (bQ prog w ks))=gQ t.mask (bQ prog w ks) n->(∀ m,m < n->∀ i:Nat,t.place[i]?=some (gQ t.mask (bQ prog w ks) m).j->∀ z:List Key×Addr,zs[i]?=some z->z.1≠ks) →
   wpAny (model prog w) A (setSearchFrom a (.ref b) (bQ prog w ks) true fuel stand) Q E s:=by
 have get:∀ {i:Nat} {e},es[i]?=some e->∃ z,zs[i]?=some z/\TE prog w s.heap z e:=fun {i e} q=>KJ x.rel (by rw[qB];exact q)
 have fit:=x.tok.fits
 intro k
 induction k using Nat.strongRecOn with
 |ind k ih=>
  intro n fuel stand hn hfu hst hb
  cases fuel with
  |zero=>omega
  |succ fuel=>
  unfold setSearchFrom
  refine zb (Q1 ho hd fit ?_)
  dsimp only
  rw[zv (by rw[x.tok.odd];decide)]
  refine zb (zg ?_)
  rw[hst]
  obtain⟨d,d1,d2,d3⟩:=least (fun m=>m=N\/∃ i:Nat,t.place[i]?=some (gQ t.mask (bQ prog w ks) m).j/\∃ e:Int×Value,es[i]?=some e/\e.1=bQ prog w ks) k n (.inl hn)
  have live:∀ m,m < N->∃ i:Nat,t.place[i]?=some (gQ t.mask (bQ prog w ks) m).j/\∃ e,es[i]?=some e:=fun m hm=>by
   obtain⟨i,hi,e⟩:=Array.getElem_of_mem (hp m hm)
   have hi':i < es.size:=by rw[<-x.tok.size];exact hi
   exact⟨i,by rw[Z3 hi,e],es[i],Z3 hi'⟩
  have pr:=Nk x.tok.toTb (fun i=>(es[i]?.map (·.1)).getD 0) (bQ prog w ks) d (10 * SetTable.turns t.mask) n (by omega) fun m a1 a2=>by
   have q:=d3 m a1 a2
   obtain⟨i,e1,e,e2⟩:=live m (by omega)
   refine⟨i,e1,fun q'=>q (.inr ⟨i,e1,e,e2,?_⟩)⟩
   simpa [e2] using q'
  have prb:t.probe (fun i=>(es[i]?.map (·.1)).getD 0) (bQ prog w ks) (gQ t.mask (bQ prog w ks) n)=SetTable.probe.go t (fun i=>(es[i]?.map (·.1)).getD 0) (bQ prog w ks) (10 * SetTable.turns t.mask) (gQ t.mask (bQ prog w ks) n):=rfl
  by_cases hE:n+d=N
  ·have p1:=pr.1 (by rw[hE];exact hf)
   rw[hE] at p1
   show wpAny _ _ (match t.probe (fun i=>(es[i]?.map (·.1)).getD 0) (bQ prog w ks) (gQ t.mask (bQ prog w ks) n) with|some met=>_|_=>_) _ _ _
   rw[prb,p1]
   dsimp only
   refine zg (h2 fun hm=>?_)
   obtain⟨z,hz,ez⟩:=List.mem_map.mp hm
   obtain⟨i,hi,e⟩:=ja hz
   obtain⟨ee,e1,e2⟩:=zc x.rel (show zs[i]?=some z by rw[zD hi,e])
   rw[qB] at e1
   have hi':i < t.place.size:=by rw[x.tok.size,x.size];exact hi
   obtain⟨n0,b1,b2,b3⟩:=x.tok.reach i _ ee (Z3 hi') e1
   rw[e2.1,ez] at b2 b3
   have lt:n0 < N:=by
    rcases Nat.lt_trichotomy n0 N with q|q|q
    ·exact q
    ·exfalso;rw[<-q] at hf;rw[b2] at hf;exact hf (Array.getElem_mem hi')
    ·exact absurd (b3 N q) hf
   by_cases q:n0 < n
   ·exact hb n0 q i (by rw[b2];exact Z3 hi') z (by rw[zD hi,e]) ez
   ·exact d3 n0 (by omega) (by omega) (.inr ⟨i,by rw[b2];exact Z3 hi',ee,e1,by rw[e2.1,ez]⟩)
  ·rcases d2 with q|⟨i,i1,e,i2,i3⟩
   ·exact absurd q hE
   ·have p2:=pr.2 i i1 (by simpa [i2] using i3)
    show wpAny _ _ (match t.probe (fun i=>(es[i]?.map (·.1)).getD 0) (bQ prog w ks) (gQ t.mask (bQ prog w ks) n) with|some met=>_|_=>_) _ _ _
    rw[prb,p2]
    dsimp only
    obtain⟨z,z1,z2⟩:=get i2
    have hv:∀ v∈((es.filter (·.1==bQ prog w ks)).toList.map (·.2)),∃ c ls,v=.ref c/\IsTupleKey (bh prog w) s.heap ls c:=fun v hv=>by
     obtain⟨u,hu',rfl⟩:=List.mem_map.mp hv
     rw[Array.toList_filter,js] at hu'
     obtain⟨jj,hj,ej⟩:=ja hu'.1
     obtain⟨y,y1,y2⟩:=KJ x.rel (show es.toList[jj]?=some u by rw[zD hj,ej])
     exact⟨y.2,y.1,by rw[y2.1],y2.2⟩
    have go:wpAny (model prog w) A (do
      let some (_,y):=es[i]?|unsupported "internal:set-entry"
      let equal <-holding [y] (eqBool y (.ref b))
      let (es',_,t') <-setState a
      if (true&&equal)=true then return SetFound.there none
      let some same:=t'.sameMemory t.moves t.mask|unsupported "set.changed-during-lookup:is-the-new-block-at-the-old-address"
      let still <-match (if same then t'.slot (gQ t.mask (bQ prog w ks) (n+d)).j else .empty) with
       |.live i'=>match es'[i']? with
        |some (_,y')=>do pure (if <-isSame y' y then some i' else none)
        |none=>pure none
       |_=>pure none
      match still with
      |none=>rule "set.search.anew"; setSearchFrom a (.ref b) (bQ prog w ks) true fuel none
      |some i'=>if equal then return .there (some i') else setSearchFrom a (.ref b) (bQ prog w ks) true fuel (some (gQ t.mask (bQ prog w ks) (n+d+1)))) Q E s:=by
     rw[i2,z2.1]
     dsimp only
     refine zb (QR (wpAny_eqBool_tuple hu z2.2 hk ?_))
     refine zb (Q1 ho hd fit ?_)
     dsimp only
     by_cases hq:z.1=ks
     ·rw[qV hq]
      simp only[Bool.and_self,QN]
      exact zg (h1 (List.mem_map.mpr ⟨z,QE z1,hq⟩))
     ·rw[qk hq]
      simp only[Bool.and_false,zr,ZN]
      have sm:t.sameMemory t.moves t.mask=some true:=by unfold SetTable.sameMemory;simp
      rw[sm]
      dsimp only
      simp only[QN]
      rw[Ak x.tok.toTb i1]
      dsimp only
      rw[i2,z2.1]
      dsimp only
      refine zb (wpAny_isSame_ref_self (zb (zg ?_)))
      simp only[QN]
      refine ih (N - (n+d+1)) (by omega) (n+d+1) fuel _ (by omega) (by omega) rfl fun m hm i' j1 y y1=>?_
      by_cases c1:m < n
      ·exact hb m c1 i' j1 y y1
      ·by_cases c2:m=n+d
       ·subst c2
        have:i'=i:=by
         have s1:=Ep x.tok.rise j1
         have s2:=Ep x.tok.rise i1
         omega
        subst this
        rw[z1] at y1
        cases y1
        exact hq
       ·have q:=d3 m (by omega) (by omega)
        intro e'
        obtain⟨ee,e1,e2⟩:=zc x.rel y1
        rw[qB] at e1
        exact q (.inr ⟨i',j1,ee,e1,by rw[e2.1,e']⟩)
    split
    ·refine zb (adx hk _ hv ?_)
     simp only[zr,ZN]
     exact go
    ·exact go
end
section
variable {prog:Program} {w:World} {A:Around} {E:VP_} {s:Shared} {a:Addr}
def Txs (ks:List Key):Prop:=∃ x:Str,(Sum.inr x:Key)∈ks
theorem Xi {ks:List Key} {b:Addr} {Q:Bool->Shared->Prop} (hk:IsTupleKey (bh prog w) s.heap ks b) (hx:Txs ks) (h:Q false s):wpAny (model prog w) A (hashByValue 8 (.ref b)) Q E s:=by
 have hT:=hk.typeIs
 obtain⟨o,items,n,ho,_,hd,hi⟩:=hk
 unfold hashByValue
 refine zb (wpAny_specialOf hT F.slot_tuple_hash.lookup ?_)
 dsimp only
 refine zb (wpAny_seqItems ho hd ?_)
 show wpAny _ _ (forIn items _ _ >>= _) _ _ s
 refine zb ?_
 rw[<-Array.forIn_toList]
 refine wpAny_forIn_list _ (fun rest r s'=>r.1=none/\s'=s/\∃ left,ItemsAre (bh prog w) left rest/\Txs left) _ ?_ ?_ _ _ ⟨rfl,rfl,ks,hi,hx⟩
 ·rintro v rest r s' ⟨hr,rfl,left,hl,x,hx⟩
  cases hl with
  |@cons k _ ks' _ h1 hl'=>
   rcases bD h1 with⟨i,t,rfl,rfl⟩|⟨y,t,rfl,rfl⟩
   ·have e:hashByValue 7 (.int i t)=pure true:=by unfold hashByValue;rfl
    rw[e]
    refine zb (zg ?_)
    simp only[kq,zr,ZN]
    refine zg ⟨rfl,rfl,ks',hl',x,?_⟩
    rcases List.mem_cons.mp hx with q|q
    ·cases q
    ·exact q
   ·have e:hashByValue 7 (.str y t)=pure false:=by unfold hashByValue;rfl
    rw[e]
    refine zb (zg ?_)
    simp only[Bool.not_false,QN]
    exact zg (zg h)
 ·rintro⟨r1,r2⟩ s' ⟨hr,rfl,left,hl,x,hx⟩
  cases hl
  cases hx
theorem Vb {t:SetTable} {es:Array (Int×Value)} (h:Tok t es):Tok { t with plain:=false } es:={ mask:=h.mask,dum:=h.dum,rise:=h.rise,bd:=h.bd,full:=h.full,size:=h.size,reach:=h.reach }
theorem aaw {zs:List (List Key×Addr)} {ks:List Key} {b:Addr} {Q:Bool->Shared->Prop} (hu:A.units < cLine) (hS:Tu prog w s.heap a zs) (hk:IsTupleKey (bh prog w) s.heap ks b) (hx:Txs ks) (hroom:zs.length+1<=70)
  (h:∀ r h' zs',Heap.SameBut a s.heap h'->Tu prog w h' a zs'->(∀ z,z∈zs'↔z∈zs\/(z=(ks,b)/\ks∉zs.map (·.1)))->zs'.length<=zs.length+1->Q r { s with heap:=h' }):wpAny (model prog w) A (setAddHashed a (.ref b) (bQ prog w ks)) Q E s:=by
 obtain⟨o,es,ep,t,ho,hex,hd,x⟩:=id hS
 have hsz:=x.size
 have fit:=x.tok.fits
 have hld:=x.load
 have hcl:o.cls≠.type "tuple" := by rw[hex.1];decide
 obtain⟨N,n1,n2,n3⟩:=QF x.tok.toTb (bQ prog w ks)
 have hturn:10 * SetTable.turns t.mask < 100000:=by
  unfold SetTable.turns
  rcases x.tok.mask with e|e|e<;>rw[e]<;>decide
 unfold setAddHashed setAddHashedIn
 refine QR (zb (Q1 ho hd fit ?_))
 dsimp only
 have hb:byScan (.ref b) es=false:=by unfold byScan;rfl
 rw[hb]
 simp only[zr,ZN]
 unfold setSearch
 refine zb (search hu ho hd x hk n1 n2 n3 (fun hm=>?_) (fun hm=>?_) N 0 100000 none (by omega) (by omega) rfl fun m hm=>absurd hm (ki _))
 ·dsimp only
  exact zg (h _ s.heap zs (Heap.SameBut.refl a s.heap) hS (fun z=>⟨.inl,fun q=>q.elim id fun q=>absurd hm q.2⟩) (kF _))
 ·dsimp only
  refine zb (Q1 ho hd fit ?_)
  dsimp only
  have hj:=QG (mask:=t.mask) (bQ prog w ks) N
  have hm7:es.size+1<=t.mask:=by rcases x.tok.mask with e|e|e<;>rw[e] at hld ⊢<;>omega
  obtain⟨pt,pl,pp,pm⟩:=aar (x:=.ref b) x.tok n1 n2 n3 hj hm7
  generalize hP:t.put (gQ t.mask (bQ prog w ks) N).j=P at pt pl pp pm ⊢
  obtain⟨t1,p⟩:=P
  dsimp only at pt pl pp pm ⊢
  have hil:(SetTable.insertAt es p (bQ prog w ks,.ref b)).toList.Perm (es.toList++[(bQ prog w ks,.ref b)]):=by
   rw[za]
   refine (List.perm_middle).trans ?_
   rw[List.take_append_drop]
   exact (List.perm_append_singleton _ _).symm
  have r0:Paired (TE prog w s.heap) (zs++[(ks,b)]) (es.toList++[(bQ prog w ks,.ref b)]):=Qy x.rel (.cons ⟨rfl,hk⟩ .nil)
  obtain⟨zs1,q1,r1⟩:=Br hil r0
  have nd1:(zs1.map (·.1)).Nodup:=(q1.map (·.1)).nodup_iff.mpr (by
   rw[ZE]
   exact List.nodup_append.mpr ⟨x.nd,by simp,fun u hu' v hv=>by simp at hv;subst hv;exact fun e=>hm (e▸hu')⟩)
  have m1:∀ z,z∈zs1↔z∈zs\/(z=(ks,b)/\ks∉zs.map (·.1)):=fun z=>by
   rw[q1.mem_iff,List.mem_append,List.mem_singleton]
   exact⟨fun q=>q.imp id fun e=>⟨e,hm⟩,fun q=>q.imp id fun e=>e.1⟩
  have l1:zs1.length=zs.length+1:=by rw[q1.length_eq];simp
  have s1:(SetTable.insertAt es p (bQ prog w ks,Value.ref b)).size=es.size+1:=vI _ _ _
  have up:∀ (hp:Heap) (ob:Obj) (e1 e2:Array (Int×Value)) (n1:Nat) (u1 u2:SetTable),hp.get? a=some ob->ob.data=.set e1 n1 u1->(hp.update a (Obj.putSet e2 u2)).get? a=some { ob with data:=.set e2 (n1+1) u2 }:=fun hp ob e1 e2 n1 u1 u2 g q=>by
   have:=Kk (Obj.putSet e2 u2) g (by rw[putSet_of e2 u2 q];rfl)
   rw[putSet_of e2 u2 q] at this;exact this
  have kp:∀ {h':Heap},Heap.SameBut a s.heap h'->∀ c oc,s.heap.get? c=some oc->oc.cls=.type "tuple" → h'.get? c=some oc:=fun sb c oc e ec=>by
   rw[sb.2 c fun q=>by subst q;rw[ho] at e;cases e;exact hcl ec];exact e
  have fin:∀ t2:SetTable,Tok t2 (SetTable.insertAt es p (bQ prog w ks,.ref b))->t2.led=t1.led->t2.plain=false->t2.mask=t1.mask->wpAny (model prog w) A (do
    storeSet a (SetTable.insertAt es p (bQ prog w ks,.ref b)) t2
    if (!false&&t2.tooFull)=true then setRelay a (SetTable.grown (es.size+1))
    pure true) Q E s:=by
   intro t2 k2 l2 p2 m2
   have g1:=up s.heap o es (SetTable.insertAt es p (bQ prog w ks,.ref b)) ep t t2 ho hd
   refine zb (wpAny_storeSet_of ho hd ?_ (fits_of_scanBound (by rw[s1];have:scanBound=4096:=rfl;omega)))
   have sb1:Heap.SameBut a s.heap (s.heap.update a (Obj.putSet (SetTable.insertAt es p (bQ prog w ks,.ref b)) t2)):=Heap.SameBut.update ..
   have hfill:t2.fill=es.size+1:=by unfold SetTable.fill;rw[k2.dum,k2.size,s1];rfl
   have afA:w.params.followText "set-order" = false->t2.led=true:=fun q=>l2.trans (pl.trans (x.led q))
   by_cases zf:t2.tooFull=true
   ·rw[zf]
    simp only[Bool.not_false,Bool.and_self,QN]
    have hf:t2.fill * 5>=t2.mask * 3:=by unfold SetTable.tooFull at zf;simpa using zf
    rw[hfill,m2,pm] at hf
    have hg:SetTable.grown (es.size+1)=(es.size+1) * 4:=by unfold SetTable.grown;rw[zv (by omega)]
    have cas:(es.size=4/\t.mask=7)\/(es.size=18/\t.mask=31):=by
     rcases x.tok.mask with e|e|e<;>rw[e] at hf hld
     ·exact .inl ⟨by omega,e⟩
     ·exact .inr ⟨by omega,e⟩
     ·omega
    have hsa:(es.size=4->SetTable.sizeAbove (SetTable.grown (es.size+1))=32)/\(es.size=18->SetTable.sizeAbove (SetTable.grown (es.size+1))=128):=by
     rw[hg]
     exact⟨fun e=>by rw[e];decide,fun e=>by rw[e];decide⟩
    have hms:SetTable.sizeAbove (SetTable.grown (es.size+1)) - 1=31/\es.size=4\/SetTable.sizeAbove (SetTable.grown (es.size+1)) - 1=127/\es.size=18:=by
     rcases cas with⟨e,_⟩|⟨e,_⟩
     ·exact .inl ⟨by rw[hsa.1 e],e⟩
     ·exact .inr ⟨by rw[hsa.2 e],e⟩
    obtain⟨t3,order,e3,pr3,k3,l3,p3,m3⟩:=Va (t:=t2) (es:=SetTable.insertAt es p (bQ prog w ks,.ref b)) (wanted:=SetTable.grown (es.size+1)) (by rcases hms with⟨e,_⟩|⟨e,_⟩<;>rw[e]<;>simp) (by rw[s1];rcases hms with⟨e,e'⟩|⟨e,e'⟩<;>rw[e,e']<;>decide)
    unfold setRelay
    refine zb (zb (Q1 g1 rfl k2.fits ?_))
    dsimp only
    have hsl:¬ (SetTable.sizeAbove (SetTable.grown (es.size+1)) > sizeLine):=by
     rcases cas with⟨e,_⟩|⟨e,_⟩
     ·rw[hsa.1 e];decide
     ·rw[hsa.2 e];decide
    rw[zv hsl]
    have sz3:(order.filterMap (fun i=>(SetTable.insertAt es p (bQ prog w ks,Value.ref b))[i]?)).size=(SetTable.insertAt es p (bQ prog w ks,Value.ref b)).size:=by
     rw[<-ZZ,pr3.length_eq,ZZ]
    rw[e3]
    refine zb ?_
    show wpAny _ _ (if ((order.filterMap (fun i=>(SetTable.insertAt es p (bQ prog w ks,Value.ref b))[i]?)).size != (SetTable.insertAt es p (bQ prog w ks,Value.ref b)).size)=true then _ else pure (order.filterMap (fun i=>(SetTable.insertAt es p (bQ prog w ks,Value.ref b))[i]?),t3)) _ _ _
    rw[zv (by rw[sz3];simp)]
    refine zg ?_
    dsimp only
    refine wpAny_storeSet_of g1 rfl ?_ (fits_of_scanBound (by rw[sz3,s1];have:scanBound=4096:=rfl;omega))
    have g2:=up _ _ (SetTable.insertAt es p (bQ prog w ks,.ref b)) (order.filterMap (fun i=>(SetTable.insertAt es p (bQ prog w ks,Value.ref b))[i]?)) _ t2 t3 g1 rfl
    have sb2:Heap.SameBut a s.heap ((s.heap.update a (Obj.putSet (SetTable.insertAt es p (bQ prog w ks,.ref b)) t2)).update a (Obj.putSet (order.filterMap (fun i=>(SetTable.insertAt es p (bQ prog w ks,Value.ref b))[i]?)) t3)):=sb1.trans (Heap.SameBut.update ..)
    obtain⟨zs2,q2,r2⟩:=Br pr3 r1
    refine zg (h _ _ zs2 sb2 ⟨_,_,_,t3,g2,hex,rfl,⟨Es (kp sb2) r2,(q2.map (·.1)).nodup_iff.mpr nd1,k3,?_,fun q=>l3.trans (afA q),fun _=>p3.trans p2⟩⟩ (fun z=>by rw[q2.mem_iff];exact m1 z) (by rw[q2.length_eq];omega))
    rw[sz3,s1,m3]
    rcases hms with⟨e,e'⟩|⟨e,e'⟩<;>rw[e,e']<;>decide
   ·have zf:t2.tooFull=false:=by simpa using zf
    rw[zf]
    simp only[Bool.and_false,zr,ZN]
    refine zb (zg ?_)
    refine zg (h _ _ zs1 sb1 ⟨_,_,_,t2,g1,hex,rfl,⟨Es (kp sb1) r1,nd1,k2,?_,afA,fun _=>p2⟩⟩ m1 (by omega))
    unfold SetTable.tooFull at zf
    rw[hfill] at zf
    rw[s1]
    simpa using zf
  split
  ·refine zb (Xi hk hx ?_)
   simp only[zr,ZN]
   exact fin { t1 with plain:=false } (Vb pt) rfl rfl rfl
  ·rename_i hp
   refine zb (zg ?_)
   simp only[QN]
   exact fin t1 pt rfl (by simpa using hp) rfl
end
end S6
end
section
namespace S1
open PySem PySem.Spec PyProof.Rows L2
section
variable {prog:Program} {w:World} {A:Around} {E:VP_} {s:Shared}
theorem QJ {x:Value} (G:List Value->Prop) (kd:SortKind) (rk:List Value->Value->Nat) {Q:VP_} (adn:∀ (E':VP_) (Q':List Value->Shared->Prop),(∀ vs h' d tk,G vs->s.heap.objs.size<=h'.objs.size->(∀ c o,s.heap.get? c=some o->h'.get? c=some o)->Q' vs { s with heap:=h',drawn:=d,toks:=tk })->wpAny (model prog w) A.in1 (collect x) Q' E' s)
  (hK:∀ vs,G vs->2<=vs.length->∀ (E':VP_) (A':Around) (s':Shared),(∀ c o,s.heap.get? c=some o->s'.heap.get? c=some o)->∀ Q:SortKind->Shared->Prop,Q kd s'->wpAny (model prog w) A' (keyKind' vs.toArray) Q E' s') (hC:∀ vs,G vs->∀ (A':Around) (s':Shared),(∀ c o,s.heap.get? c=some o->s'.heap.get? c=some o)->Vw prog w A' s' kd (rk vs) (pairsOf vs)) (h64:∀ vs,G vs->vs.length < 64)
  (h:∀ vs,G vs->∀ (l:Addr) (h':Heap) (d:Drawn) (tk n:Nat) (st:SortSt),(arrOf st).Perm (pairsOf vs)->Up (rk vs) (arrOf st) (pairsOf vs).size->s.heap.objs.size<=l->(∀ c o,s.heap.get? c=some o->h'.get? c=some o)->h'.get? l=some (seqObj "list" ((arrOf st).map (·.2)) n)->Q (.ref l) { s with heap:=h',drawn:=d,toks:=tk }) :
  wpAny (model prog w) A (call (.builtin "sorted") [x]) Q E s:=by
 refine Calls.call_function_entry kind_sorted plain_sorted entry_sorted (args_sorted1 _) ?_;unfold Builtin.«sorted»
 refine zb (m:=checkCount "sorted" 1 1 _) (zg (zb (adn _ _ fun vs h1 d tk hG hle ext=>?_)))
 have ali:=h64 vs hG
 refine zb (wpAny_newList ?_)
 have hoL:(h1.push (seqObj "list" vs.toArray 0)).get? h1.objs.size=some (seqObj "list" vs.toArray 0):=zt _ rfl
 have old:∀ s':Shared,Old h1.objs.size { s with heap:=h1.push (seqObj "list" vs.toArray 0),drawn:=d,toks:=tk } s'->∀ c o,s.heap.get? c=some o->s'.heap.get? c=some o:=fun s' q c o e=>
  q c o (zI (zz (ext c o e))) (zd _ (ext c o e))
 refine zb (QR (JE slot_list_sort ⟨_,hoL,rfl⟩ entry_list_sort (abC hoL (fun q s' o=>hK vs hG q _ _ s' (old s' o)) (fun s' o=>hC vs hG _ s' (old s' o)) (h64 vs hG) fun st q1 q2=>⟨_,rfl,zg ⟨_,rfl,?_⟩⟩) (args_list_sort _)))
 obtain⟨n,en⟩:=sortedHeap_at (out:=(arrOf st).map (·.2)) hoL
 refine h vs hG h1.objs.size _ d tk n st q1 q2 hle (fun c o e=>?_) en
 have hb:=zz (ext c o e)
 rw[sortedHeap_old (zI hb) (by rw[qc];exact QA hb)]
 exact zd _ (ext c o e)
end
end S1
end
section
namespace P1
open PySem PySem.Spec PyProof.Rows L2 S6
section
variable {X:Cx}
def hoS (X:Cx) (a:Addr) (zs:LS_):HO:=.ext fun h=>Tx X.prog X.w h a zs
theorem Vc {pins:List (Addr×Obj)} {σ:L2.St} {H:Hp} {s:Shared} {d:Drawn} (I:Inv X pins σ H s):Inv X pins σ H { s with drawn:=d }:=⟨I.ok,I.os,I.bare,I.base,I.loc,I.cell,I.free,I.qb,I.pin,I.hok,I.len⟩
variable {x:Str} {e:Expr} {f:Ev->Option Bx} {fs:Ev->Option LS_} {p pos:Pos}
end
section
variable {X:Cx}
end
section
variable {X:Cx} {elt tgt iter:Expr} {ifs:List Expr} {scope:Scope} {cl:List (Str×Addr)} {pos:Pos} {xs ts:LS_} {is:List Nat} {gt:Dt->Ev->Option Ev} {p:Ev->Option Bool} {fe:Ev->Option Bx} {fi:Ev->Option (List Dt)}
def AcS (X:Cx) (D:Addr) (_:Hp) (o1:List Dt) (o:HO):Prop:=∃ us,o=hoS X D us/\(∀ z,z∈us↔Dt.str z∈o1)/\us.Nodup/\(∀ z∈us,z.length<=sizeLine)/\us.length<=o1.length
end
section
variable {X:Cx} {elt tgt iter:Expr} {ifs:List Expr} {scope:Scope} {cl:List (Str×Addr)} {pos:Pos} {xs:LS_} {is:List Nat} {gt:Dt->Ev->Option Ev} {p:Ev->Option Bool} {fe:Ev->Option Bx} {fi:Ev->Option (List Dt)}
variable {e:Expr} {f:Ev->Option Bx} {fs:Ev->Option LS_} {p':Pos}
end
end P1
end
section
namespace P1
open PySem PySem.Spec PyProof.Rows L2 S1 S6
section
variable {X:Cx}
def Ts (prog:Program) (w:World) (h:Heap) (a:Addr) (zs:List (List Key×Addr)):Prop:=∃ o es ep t,h.get? a=some o/\o.ExactSet/\o.data=.set es ep t/\es.toList=zs.map (fun z=>(bQ prog w z.1,(.ref z.2:Value)))/\t.fits es.size=true/\(w.params.followText "set-order" = false->t.led=true)/\(0 < es.size->t.plain=false)
theorem Nr {prog:Program} {w:World} {h:Heap}:∀ {zs:List (List Key×Addr)} {l:List (Int×Value)},Paired (TE prog w h) zs l->l=zs.map (fun z=>(bQ prog w z.1,(.ref z.2:Value)))
 |_,_,.nil=>rfl
 |_,_,.cons r t=>by rw[zl,<-Nr t,r.1]
theorem Ts.of {prog:Program} {w:World} {h:Heap} {a:Addr} {zs:List (List Key×Addr)} (x:Tu prog w h a zs):Ts prog w h a zs:=
 let ⟨o,es,ep,t,e,r,d,q⟩:=x;⟨o,es,ep,t,e,r,d,Nr q.rel,q.tok.fits,q.led,q.non⟩
theorem Ts.keep {prog:Program} {w:World} {h h':Heap} {a:Addr} {zs:List (List Key×Addr)} (x:Ts prog w h a zs) (k:∀ o,h.get? a=some o->h'.get? a=some o):Ts prog w h' a zs:=
 let ⟨o,es,ep,t,e,r⟩:=x;⟨o,es,ep,t,k o e,r⟩
def hoU (X:Cx) (a:Addr) (zs:List (List Key×Addr)):HO:=.ext fun h=>Ts X.prog X.w h a zs
theorem Xj (X:Cx) {ks:List Key} {us:List Value} (h:Ks ks us):ItemsAre (bh X.prog X.w) ks us:=by
 induction h with
 |nil=>exact .nil
 |cons r _ ih=>exact .cons r ih
theorem Xk (X:Cx) {ks:List Key} {us:List Value} (h:ItemsAre (bh X.prog X.w) ks us):Ks ks us:=by
 induction h with
 |nil=>exact .nil
 |cons r _ ih=>exact .cons r ih
theorem Nt (X:Cx) {h:Heap} {ks:List Key} {v:Value} (q:kW h ks v):∃ b,v=.ref b/\IsTupleKey (bh X.prog X.w) h ks b:=by
 obtain⟨a,o,its,n,e,g,c,d,p⟩:=q
 exact⟨a,e,o,its.toArray,n,g,c,d,by simpa using Xj X p⟩
theorem Xl (X:Cx) {h:Heap} {ks:List Key} {b:Addr} (q:IsTupleKey (bh X.prog X.w) h ks b):kW h ks (.ref b):=by
 obtain⟨o,its,n,g,c,d,p⟩:=q
 exact⟨b,o,its.toList,n,rfl,g,c,by simpa using d,Xk X p⟩
def afC (X:Cx):List V->Hp->VK->Prop:=fun xs H Q=>∃ v b ds bZ,xs=[v]/\bw X.K H b v/\xT b=some ds/\tR ds=some bZ/\bZ.length<=64/\(∀ k∈bZ,Txs k) ∧
 ∀ a zs H',Same H H'->H' a=some (hoU X a zs)->(∀ k,k∈zs.map (·.1)↔k∈bZ)->(zs.map (·.1)).Nodup->(∀ z∈zs,Rep X.K H' (tupK z.1) (.ref z.2))->Q (.ref a) H'
def CU (X:Cx) (S:Addr) (its:List Value) (h:Heap) (ys:List (List Key)):Prop:=∃ zs,zs.map (·.1)=ys/\Tu X.prog X.w h S zs/\∀ z∈zs,(.ref z.2:Value)∈its
theorem zj {h:Heap}:∀ {bZ:List (List Key)} {vs:List Value},Paired (kW h) bZ vs->∀ {i:Nat} {v:Value},vs[i]?=some v->∃ k,bZ[i]?=some k/\kW h k v
 |_,_,.nil,i,v,q=>by simp at q
 |_,_,.cons r _,0,v,q=>by simp at q;subst q;exact⟨_,rfl,r⟩
 |_,_,.cons _ t,i+1,v,q=>by
  rw[ZO] at q
  obtain⟨z,z1,z2⟩:=zj t q
  exact⟨z,by rw[ZO];exact z1,z2⟩
theorem Nu {h0:Heap} {S:Addr} {bZ:List (List Key)} {its:List Value} (hs:Paired (kW h0) bZ its) (hl:bZ.length<=64) (hx:∀ k∈bZ,Txs k) (hS:h0.objs.size=S):Adds X.prog X.w S [S+1] (fun h zs=>(∀ b o,h0.get? b=some o->h.get? b=some o)/\CU X S its h zs) (fun i v=>its.toArray[i]?=some v) (fun i=>bZ.getD i []) its.length where
 keep:=fun h h' ys t k=>by
  obtain⟨t0,zs,e,t,m⟩:=t
  have k':∀ b o,(b=S\/b < S)->h.get? b=some o->h'.get? b=some o:=fun b o hb e=>k b o (by
   simp only[Qr,QO,or_false]
   rcases hb with rfl|hb
   ·exact zI (qf _)
   ·exact zI (QA hb)) e
  have old:∀ b o,h0.get? b=some o->h'.get? b=some o:=fun b o e=>k' b o (.inr (by rw[<-hS];exact zz e)) (t0 b o e)
  refine⟨old,zs,e,?_,m⟩
  obtain⟨o,es,ep,tt,g,r,d,q⟩:=t
  refine⟨o,es,ep,tt,k' S o (.inl rfl) g,r,d,⟨?_,q.nd,q.tok,q.load,q.led,q.non⟩⟩
  have key:∀ {zs:List (List Key×Addr)} {l:List (Int×Value)},Paired (TE X.prog X.w h) zs l->(∀ z∈zs,(.ref z.2:Value)∈its)->Paired (TE X.prog X.w h') zs l:=by
   intro zs l r
   induction r with
   |nil=>intro _;exact .nil
   |cons q _ ih=>
    intro m
    refine .cons ⟨q.1,SX q.2 fun o e c=>?_⟩ (ih fun z hz=>m z (zh _ hz))
    obtain⟨i,hi,ei⟩:=ja (m _ (ze ..))
    obtain⟨kk,_,tv⟩:=zj hs (show its[i]?=some _ by rw[zD hi,ei])
    obtain⟨b,eb,⟨ob,_,_,gb,_⟩⟩:=Nt X tv
    cases eb
    exact k' _ o (.inr (by rw[<-hS];exact zz gb)) e
  exact key q.rel m
 add:=fun A E s i v ys Q hu hi hP hC hz h=>by
  obtain⟨t0,zs,e,t,m⟩:=hC
  have hP:its[i]?=some v:=by simpa using hP
  obtain⟨ks,e1,tv⟩:=zj hs hP
  have tv':=tv.keep t0
  obtain⟨b,rfl,hk⟩:=Nt X tv'
  have hv:bZ.getD i []=ks:=by simp[List.getD,e1]
  have hlen:its.length=bZ.length:=hs.length.symm
  have hyl:zs.length=ys.length:=by rw[<-e,zi]
  unfold setAdd
  refine QR (zb (wpAny_pyHash_tuple hu hk ?_))
  refine aaw (s:={ s with toks:=s.toks+(ks.length+1) }) hu t hk (hx ks (QE e1)) (by omega) fun r h' zs' sb t' mm l=>?_
  refine h r h' _ (zs'.map (·.1)) sb ⟨fun c o g=>?_,zs',rfl,t',fun z hz=>?_⟩ (fun z=>?_) (by rw[zi];omega) (Nat.le_add_right _ _)
  ·rw[sb.2 c fun q=>by subst q;have:=zz g;rw[hS] at this;exact JA _ this];exact t0 c o g
  ·rcases (mm z).mp hz with q|⟨q,_⟩
   ·exact m z q
   ·subst q;exact QE hP
  ·rw[hv,<-e,kP,kP]
   constructor
   ·rintro⟨y,hy,rfl⟩
    rcases (mm y).mp hy with q|⟨q,_⟩
    ·exact .inl ⟨y,q,rfl⟩
    ·exact .inr (congrArg Prod.fst q)
   ·rintro (⟨y,hy,ey⟩|ez)
    ·exact⟨y,(mm y).mpr (.inl hy),ey⟩
    ·rw[ez]
     by_cases q:ks∈zs.map (·.1)
     ·obtain⟨y,hy,ey⟩:=List.mem_map.mp q
      exact⟨y,(mm y).mpr (.inl hy),ey⟩
     ·exact⟨(ks,b),(mm _).mpr (.inr ⟨rfl,q⟩),rfl⟩
theorem aax (hc:X.calm=true) (hu:X.A.units+100 < cLine):gP X (.type "set") (afC X):=by
 intro pins s σ H xs us Q I r h
 obtain⟨v,b,ds,bZ,rfl,rb,ed,ek,hl,hx,q⟩:=h
 obtain⟨u,rfl,ru⟩:=vals1 r
 obtain⟨p,vs,rfl,sq,rs⟩:=Kv rb ed
 have eds:=Ah ek
 subst eds
 cases ru
 have hh:=I.ok.hd hc
 have fin:∀ (h':Heap) (tk:Nat) (ys:List (List Key)) (its:List Value),Vals vs its->((∀ b o,s.heap.get? b=some o->h'.get? b=some o)/\CU X s.heap.objs.size its h' ys)->(∀ z,z∈ys↔∃ j,j < its.length/\z=bZ.getD j [])->(∀ b ob,s.heap.get? b=some ob->h'.get? b=some ob)->EP X pins σ Q (.ref s.heap.objs.size) { s with heap:=h',toks:=tk }:=by
  intro h' tk ys its rv cu hm k
  obtain⟨_,zs,e,t,m⟩:=cu
  have hfr:=I.hok.fresh (zk s.heap.objs.size)
  have hlen:its.length=bZ.length:=by rw[<-rv.length,rs.length,zi]
  have tv:=qW I rs rv
  refine⟨.ref s.heap.objs.size,_,I.laid (t':=tk) (a:=s.heap.objs.size) (o:=hoU X s.heap.objs.size zs) k (zk _) ?_,rfl,q _ zs _ (bF hfr) aU (fun z=>?_) ?_ fun z hz=>?_⟩
  ·obtain⟨o,es,ep,t',ho,_⟩:=id t
   exact⟨Ts.of t,⟨o,ho⟩,fun h1 h2 t1 k1=>Ts.keep t1 k1⟩
  ·rw[e,hm z]
   constructor
   ·rintro⟨j,hj,rfl⟩
    rw[hlen] at hj
    simp[List.getD,hj]
   ·intro hz
    obtain⟨j,hj,e⟩:=ja hz
    exact⟨j,by rw[hlen];exact hj,by simp[List.getD,hj,e]⟩
  ·obtain⟨o,es,ep,t',ho,_,_,x⟩:=t
   exact x.nd
  ·obtain⟨o,es,ep,t',ho,_,_,x⟩:=t
   obtain⟨i,hi,ei⟩:=ja hz
   obtain⟨ee,_,te⟩:=zc x.rel (show zs[i]?=some z by rw[zD hi,ei])
   have tz:=Xl X te.2
   have hz':=m z hz
   obtain⟨j,hj,ej⟩:=ja hz'
   obtain⟨kk,_,tv1⟩:=zj tv (show its[j]?=some (.ref z.2) by rw[zD hj,ej])
   have ek:kk=z.1:=(tv1.keep k).inj tz
   obtain⟨w1,r1,r2⟩:=Ai I rs rv (Vx:=[kk]) (out:=[.ref z.2]) (.cons tv1 .nil) (fun u hu=>by cases List.mem_singleton.mp hu;exact hz')
   cases r1 with
   |@cons w0 _ _ _ r0 r1=>
    cases r1
    simp only[zl,JU,aJ] at r2
    obtain⟨v0,r',ev,q0,_⟩:=r2
    simp only[JS] at ev
    rw[<-ev.1] at q0
    have hw:w0=V.ref z.2:=by
     have q1:=q0
     simp only[tupK,Rep] at q1
     obtain⟨a0,ws,e0,_⟩:=q1
     subst e0
     cases r0;rfl
    rw[<-ek,<-hw]
    exact q0.kp (.of (bF hfr))
 have Xm:∀ h':Heap,h'.get? s.heap.objs.size=some (blank X.w)->∀ its:List Value,CU X s.heap.objs.size its h' []:=fun h' e its=>
  ⟨[],rfl,⟨_,#[],0,_,e,⟨rfl,rfl,rfl⟩,rfl,⟨.nil,JI,{ mask:=.inl rfl,dum:=rfl,rise:=fun i j _ hj=>absurd hj (ki _),bd:=fun j hj=>by simp[SetTable.fresh] at hj,full:=qE _,size:=rfl,reach:=fun i j e h1=>by simp[SetTable.fresh] at h1 },(show 0 * 5 < 7 * 3 by decide),fun q=>by simp[SetTable.fresh,q],fun q=>absurd q (JA _)⟩⟩,fun z hz=>by cases hz⟩
 rcases sq with sq|sq
 ·obtain⟨its,r',pl,hz⟩:=I.list sq
  obtain⟨o,g,c,n,d⟩:=pl.isList
  refine W8 (by omega) (T := "list") hh g c (.inl rfl) (P:=fun i v=>its.toArray[i]?=some v) (n:=its.length) (fun A' E' Q' h0 hA k0 hq=>?_) (Nu (qW I rs r') hl hx rfl) (fun h' e k=>⟨k,Xm h' e its⟩) fun h' tk zs tx hm k=>fin h' tk zs its r' tx hm k
  refine wpAny_pyIter_list (items:=its.toArray) ⟨o,k0 _ _ g,c,n,d⟩ ?_
  have hne:p≠h0.objs.size:=zI (zz (k0 _ _ g))
  refine hq _ (fun i h=>h.IsListIter h0.objs.size p i/\h.IsList p its.toArray) (fun A' hA=>by have:=Walks.list (prog:=X.prog) (w:=X.w) hA h0.objs.size p hne its.toArray;rw[zC] at this;exact this) ⟨⟨_,zt _ rfl,rfl,rfl⟩,⟨o,zd _ (k0 _ _ g),c,n,d⟩⟩ fun b ob e=>zd _ e
 ·obtain⟨its,r',pl,hz⟩:=I.tuple sq
  obtain⟨o,g,c,n,d⟩:=id pl
  refine W8 (by omega) (T := "tuple") hh g c (.inr rfl) (P:=fun i v=>its.toArray[i]?=some v) (n:=its.length) (fun A' E' Q' h0 hA k0 hq=>?_) (Nu (qW I rs r') hl hx rfl) (fun h' e k=>⟨k,Xm h' e its⟩) fun h' tk zs tx hm k=>fin h' tk zs its r' tx hm k
  refine wpAny_pyIter_tuple (items:=its.toArray) ⟨o,k0 _ _ g,c,n,d⟩ ?_
  have hne:p≠h0.objs.size:=zI (zz (k0 _ _ g))
  refine hq _ (fun i h=>h.IsTupleIter h0.objs.size p i/\h.IsTuple p its.toArray) (fun A' hA=>by have:=Walks.tuple (prog:=X.prog) (w:=X.w) hA h0.objs.size p hne its.toArray;rw[zC] at this;exact this) ⟨⟨_,zt _ rfl,rfl,rfl⟩,⟨o,zd _ (k0 _ _ g),c,n,d⟩⟩ fun b ob e=>zd _ e
theorem ady {pins:List (Addr×Obj)} {σ:L2.St} {H:Hp} {s:Shared} (I:Inv X pins σ H s) {a:Addr} {zs:List (List Key×Addr)} (h:H a=some (hoU X a zs)):Ts X.prog X.w s.heap a zs:=(I.hok _ _ h).1
def afD (X:Cx):List V->Hp->VK->Prop:=fun xs H Q=>∃ a zs,xs=[.ref a]/\H a=some (hoU X a zs)/\Cj (zs.map (·.1))=true/\(∀ z∈zs,Rep X.K H (tupK z.1) (.ref z.2))/\∀ l H' us,Same H H'->H l=none->H' l=some (.lst us)->aJ X.K H' ((mK (zs.map (·.1))).map tupK) us->Q (.ref l) H'
theorem aay (hc:X.calm=true):gP X (.builtin "sorted") (afD X):=by
 intro pins s σ H xs us Q I r h
 obtain⟨a,zs,rfl,ha,hs,hrep,q⟩:=h
 obtain⟨u,rfl,ru⟩:=vals1 r
 cases ru
 simp only[Cj,ZU,z5,QY,qS] at hs
 obtain⟨h64,hne,hsh⟩:=hs
 rw[zi] at h64
 obtain⟨o,es,ep,t,ho,hex,hd,hl',ft,ahD,afE⟩:=ady I ha
 have hz:es.size=zs.length:=by rw[<-ZZ,hl',zi]
 have wk:Wk X.w s.heap a es ep t:=⟨⟨o,ho,hex.1,hd⟩,ft,ahD,fun q=>afE (by omega)⟩
 have rs0:aJ X.K H ((zs.map (·.1)).map tupK) (zs.map fun z=>(V.ref z.2))/\Vals (zs.map fun z=>(V.ref z.2)) (zs.map fun z=>(.ref z.2:Value)):=by
  clear hl' ha q h64 hne hsh hz wk afE
  induction zs with
  |nil=>exact⟨aJ.nil,.nil⟩
  |cons z zs ih=>
   obtain⟨i1,i2⟩:=ih fun y hy=>hrep y (zh _ hy)
   exact⟨aJ.cons (hrep z (ze ..)) i1,.cons rfl i2⟩
 have tv0:=qW I rs0.1 rs0.2
 have tz:∀ z∈zs,kW s.heap z.1 (.ref z.2):=fun z hz'=>by
  have:=qW I (bZ:=[z.1]) (vs:=[V.ref z.2]) (its:=[.ref z.2]) (aJ.cons (hrep z hz') aJ.nil) (.cons rfl .nil)
  cases this with
  |cons q' _=>exact q'
 refine QJ (fun vs=>∃ ys:List (List Key×Addr),ys.Perm zs/\vs=ys.map fun z=>(.ref z.2:Value)) (tuples' true) (fun vs v=>rank (vs.map fun u=>keyOf (zs.map (·.1)) (zs.map fun z=>(.ref z.2:Value)) u) (keyOf (vs.map fun u=>keyOf (zs.map (·.1)) (zs.map fun z=>(.ref z.2:Value)) u) vs v))
  (fun E' Q' hq=>Nj (by exact I.ok.hd hc) wk (by rw[hz,sizeLine_eq];omega) fun ord h1 d tk hp hle ext=>hq ord h1 d tk ?_ hle ext) ?_ ?_ ?_ ?_
 ·rw[hl',Zp] at hp
  have:∀ {ord vs:List Value},ord.Perm vs->∀ zs:List (List Key×Addr),vs=zs.map (fun z=>(.ref z.2:Value))->∃ ys:List (List Key×Addr),ys.Perm zs/\ord=ys.map fun z=>(.ref z.2:Value):=by
   intro ord vs hp
   induction hp with
   |nil=>intro zs e;cases zs with|nil=>exact⟨[],.refl _,rfl⟩|cons _ _=>cases e
   |cons y _ ih=>
    intro zs e
    cases zs with
    |nil=>cases e
    |cons z zs=>
     rw[zl] at e
     injection e with e1 e2
     obtain⟨ys,p1,p2⟩:=ih zs e2
     exact⟨z::ys,p1.cons _,by rw[zl,e1,p2]⟩
   |swap y1 y2 l=>
    intro zs e
    match zs,e with
    |z1::z2::zs,e=>
     simp only[zl,JS] at e
     exact⟨z2::z1::zs,List.Perm.swap _ _ _,by simp only[zl];rw[e.1,e.2.1,e.2.2]⟩
    |[_],e=>simp at e
    |[],e=>cases e
   |trans _ _ ih1 ih2=>
    intro zs e
    obtain⟨ys,p1,p2⟩:=ih2 zs e
    obtain⟨us,q1,q2⟩:=ih1 ys p2
    exact⟨us,q1.trans p1,q2⟩
  exact this hp zs rfl
 all_goals
  intro vs hG
  obtain⟨ys,py,rfl⟩:=hG
  have hm:∀ v∈(ys.map fun z=>(.ref z.2:Value)),v∈(zs.map fun z=>(.ref z.2:Value)):=fun v hv=>((py.map _).mem_iff).mp hv
  have tvK:∀ v∈(ys.map fun z=>(.ref z.2:Value)),kW s.heap (keyOf (zs.map (·.1)) (zs.map fun z=>(.ref z.2:Value)) v) v:=fun v hv=>(nj tv0 v (hm v hv)).2
  have tv:=xZ tvK
  have eks:(ys.map fun z=>(.ref z.2:Value)).map (fun u=>keyOf (zs.map (·.1)) (zs.map fun z=>(.ref z.2:Value)) u)=ys.map (·.1):=by
   rw[Zp]
   refine ZY fun z hz=>?_
   have hz':=py.mem_iff.mp hz
   exact (tvK (.ref z.2) (List.mem_map.mpr ⟨z,hz,rfl⟩)).inj (tz z hz')
  have mk:∀ k∈(ys.map fun z=>(.ref z.2:Value)).map (fun u=>keyOf (zs.map (·.1)) (zs.map fun z=>(.ref z.2:Value)) u),k∈zs.map (·.1):=fun k hk=>by
   rw[eks] at hk;exact ((py.map _).mem_iff).mp hk
 ·intro h2 E' A' s' k Q' hq
  exact Jr (Paired.imp' (fun _ _ z=>kW.keep z k) tv) (fun k hk=>by have:=hne k (mk k hk);cases k with|nil=>cases this|cons _ _=>exact List.cons_ne_nil _ _) (fun k hk l hl=>Ej (hsh k (mk k hk) l (mk l hl))) (by omega) hq
 ·intro A' s' k
  exact M8 (Paired.imp' (fun _ _ z=>kW.keep z k) tv) fun k hk l hl=>Ej (hsh k (mk k hk) l (mk l hl))
 ·rw[zi,py.length_eq];exact h64
 ·intro l h' d tk n st hp up hl ext hL
  have out:=M9 tv hp up
  have mem:∀ u∈((arrOf st).map (·.2)).toList,u∈(ys.map fun z=>(.ref z.2:Value)):=fun u hu=>by
   rw[Array.toList_map] at hu
   obtain⟨pr,hpr,rfl⟩:=List.mem_map.mp hu
   have adq:pr∈(ys.map fun z=>(.ref z.2:Value)).zip (ys.map fun z=>(.ref z.2:Value)):=by rw[<-pairsOf_toList];exact (Array.perm_iff_toList_perm.mp hp).mem_iff.mp hpr
   have:=mem_zip_self adq
   rw[<-this.1];exact this.2
  have hH:H l=none:=I.hok.fresh hl
  have back:∀ {Vx:List (List Key)} {out:List Value},Paired (kW s.heap) Vx out->(∀ u∈out,u∈(ys.map fun z=>(.ref z.2:Value)))->∃ ws,Vals ws out/\aJ X.K H (Vx.map tupK) ws:=by
   intro Vx out pr
   induction pr with
   |nil=>intro _;exact⟨[],.nil,aJ.nil⟩
   |cons q0 _ ih=>
    intro hm'
    obtain⟨ws,w1,w2⟩:=ih fun u hu=>hm' u (zh _ hu)
    obtain⟨z,hz,ez⟩:=List.mem_map.mp (hm' _ (ze ..))
    subst ez
    have hz':=py.mem_iff.mp hz
    have ek:=q0.inj (tz z hz')
    refine⟨.ref z.2::ws,.cons rfl w1,?_⟩
    rw[zl,ek]
    exact aJ.cons (hrep z hz') w2
  obtain⟨ws,w1,w2⟩:=back out mem
  rw[eks] at w2
  have es:mK (ys.map (·.1))=mK (zs.map (·.1)):=sI ((oA _).trans (py.map _)) (vG _)
  rw[es] at w2
  have hzl:ws.length=zs.length:=by rw[w2.length,zi,(oA _).length_eq,zi]
  refine⟨.ref l,_,Vc (d:=d) (I.laid (t':=tk) (a:=l) (o:=.lst ws) ext hl ⟨by rw[hzl,sizeLine_eq];omega,_,n,w1,?_⟩),rfl,q _ _ ws (bF hH) hH aU (w2.kp (.of (bF hH)))⟩
  rw[hL]
end
def Hw {α:Type} [DecidableEq α]:List α->List α
 |[]=>[]
 |y::ys=>if y∈ys then Hw ys else y::Hw ys
section
variable {α:Type} [DecidableEq α]
theorem tW:∀ {ys:List α} {z:α},z∈Hw ys↔z∈ys
 |[],z=>by simp[Hw]
 |y::ys,z=>by
  unfold Hw
  split
  ·rename_i h
   rw[tW,Qr]
   exact⟨.inr,fun q=>q.elim (fun e=>e▸h) id⟩
  ·rw[Qr,Qr,tW]
theorem Et:∀ (ys:List α),(Hw ys).Nodup
 |[]=>JI
 |y::ys=>by
  unfold Hw
  split
  ·exact Et ys
  ·rename_i h
   exact List.nodup_cons.mpr ⟨fun q=>h (tW.mp q),Et ys⟩
theorem Dc:∀ (ys:List α),(Hw ys).length<=ys.length
 |[]=>zk _
 |y::ys=>by
  have:=Dc ys
  unfold Hw
  split<;>simp<;>omega
theorem KN {β:Type} [DecidableEq β] {f:α->β} (hi:∀ a b,f a=f b->a=b):∀ (ys:List α),Hw (ys.map f)=(Hw ys).map f
 |[]=>rfl
 |y::ys=>by
  have hm:f y∈ys.map f↔y∈ys:=⟨fun q=>by obtain⟨z,hz,e⟩:=List.mem_map.mp q;rw[<-hi _ _ e];exact hz,fun q=>List.mem_map.mpr ⟨y,q,rfl⟩⟩
  rw[zl]
  unfold Hw
  by_cases q:y∈ys
  ·rw[zo q,zo (hm.mpr q),KN hi ys]
  ·rw[zv q,zv fun h=>q (hm.mp h),zl,KN hi ys]
end
section
variable {X:Cx}
def Nv (ks:List Key):Bool:=ks.any fun k=>k.isRight
theorem adz {ks:List Key} (h:Nv ks=true):Txs ks:=by
 unfold Nv at h
 rw[kg] at h
 obtain⟨k,hk,e⟩:=h
 cases k with
 |inl i=>cases e
 |inr x=>exact⟨x,hk⟩
def tU (X:Cx) (f:Ev->Option (List (List Key))):L2.TE:=fun σ H Q=>∃ H0 ρ bZ,bf X.K H0 H σ ρ/\f ρ=some bZ/\∀ a zs H',Same H H'->H' a=some (hoU X a zs)->(∀ k,k∈zs.map (·.1)↔k∈bZ)->(zs.map (·.1)).Nodup->(∀ z∈zs,Rep X.K H' (tupK z.1) (.ref z.2))->Q (.ref a) H'
def PVU (X:Cx) (e:Expr) (f:Ev->Option (List (List Key))):Prop:=PE X e (tU X f)
structure QVU (X:Cx) (e:Expr) (f:Ev->Option (List (List Key))):Prop where
 run:PVU X e f
def abD (b:Bx):Option (List (List Key)):=(xT b).bind fun ds=>(tR ds).bind fun bZ=>if bZ.length<=64/\bZ.all Nv=true then some bZ else none
def QK (f:Ev->Option Bx):Ev->Option (List (List Key)):=fun ρ=>(f ρ).bind abD
def Eu (fs:Ev->Option (List (List Key))):Ev->Option Bx:=fun ρ=>(fs ρ).bind fun bZ=>if Cj bZ=true then some (.o ((mK (Hw bZ)).map tupK)) else none
variable {e:Expr} {f:Ev->Option Bx} {fs:Ev->Option (List (List Key))} {p pos:Pos}
theorem S5 (hc:X.calm=true) (hu:X.A.units+100 < cLine) (hg:Gl X "set") (hm:X.mg "set" = none) (ha:QV X e f) (he:starEach (e::[]) X.env=(false,eval e X.env)::starEach [] X.env:=by rfl):QVU X (.Call (.Name "set" p) [e] [] pos) (QK f):=by
 refine⟨J7 (Je (T := "set") (aax hc hu) hg hm rfl (nR ha.run uU he) (he:=he)) fun σ H Q h=>?_⟩
 obtain⟨H0,ρ,bZ,E,ef,q⟩:=h
 obtain⟨b,eb,ef⟩:=bind_some ef
 obtain⟨ds,ed,ef⟩:=bind_some ef
 obtain⟨ks',ek,ef⟩:=bind_some ef
 split at ef
 ·rename_i hl
  cases ef
  rw[QY] at hl
  exact⟨H0,ρ,b,E,eb,fun v H1 s1 n1 r1=>⟨v,b,ds,bZ,rfl,r1,ed,ek,hl.1,fun k hk=>adz (hl.2 k hk),fun a zs H2 s2 e2 m nd hz=>q a zs H2 (s1.trans s2) e2 m nd hz⟩⟩
 ·cases ef
theorem Xn {bZ Vx:List (List Key)} (h:Cj bZ=true) (hl:Vx.length<=bZ.length) (hm:∀ k∈Vx,k∈bZ):Cj Vx=true:=by
 simp only[Cj,ZU,z5,QY,qS] at h ⊢
 exact⟨by omega,fun k hk=>h.2.1 k (hm k hk),fun k hk l hl'=>h.2.2 k (hm k hk) l (hm l hl')⟩
theorem S7 (hc:X.calm=true) (hg:Gl X "sorted") (hm:X.mg "sorted" = none) (ha:QVU X e fs) (he:starEach (e::[]) X.env=(false,eval e X.env)::starEach [] X.env:=by rfl):QV X (.Call (.Name "sorted" p) [e] [] pos) (Eu fs):=by
 refine⟨J7 (Du (id := "sorted") (aay hc) hg hm rfl (nR ha.run uU he) (he:=he)) fun σ H Q h=>?_⟩
 obtain⟨H0,ρ,b,E,ef,q⟩:=h
 obtain⟨bZ,ey,ef⟩:=bind_some ef
 split at ef
 ·rename_i hl
  cases ef
  refine⟨H0,ρ,bZ,E,ey,fun a zs H1 s1 e1 m nd hy=>⟨a,zs,rfl,e1,?_,hy,fun l H2 us s2 hfr e2 rp=>?_⟩⟩
  ·have e3:=(CW nd (Et bZ) fun z=>by rw[m z,tW]).length_eq
   have:=Dc bZ
   exact Xn hl (by omega) fun k hk=>(m k).mp hk
  ·have pm:=CW nd (Et bZ) fun z=>by rw[m z,tW]
   have es:mK (zs.map (·.1))=mK (Hw bZ):=sI ((oA _).trans pm) (vG _)
   rw[es] at rp
   exact q _ H2 (s1.trans s2) (fun a ea=>by cases ea;exact s1.free hfr) ⟨l,us,rfl,e2,rp⟩
 ·cases ef
end
end P1
end
section
namespace P1
open PySem PySem.Spec PyProof.Rows L2
def zm:Bx->Bx->Option Bx
 |.z (.str k),.z d=>some (.z (.tup [.str k,d]))
 |_,_=>none
theorem QL {a b:Bx} {y:Dt} (h:zm a b=some (.z y)):∃ k d,a=.z (.str k)/\b=.z d/\y=.tup [.str k,d]:=by
 unfold zm at h
 split at h
 ·cases h;exact⟨_,_,rfl,rfl,rfl⟩
 ·cases h
def adA (kvs:List (Key×Dt)):Dt->List (Key×Dt)
 |.tup [.str k,d]=>Kq kvs (.inr k) d
 |_=>kvs
def dictOf (out:List Dt):List (Key×Dt):=out.foldl adA []
theorem Nx (out:List Dt) (k:Str) (d:Dt):dictOf (out++[.tup [.str k,d]])=Kq (dictOf out) (.inr k) d:=by
 unfold dictOf
 rw[List.foldl_append]
 rfl
section
variable {X:Cx} {pins:List (Addr×Obj)} {σ:L2.St} {H:Hp} {s:Shared} {a:Addr} {A:Around} {E:VP_}
theorem Vd {kvs:List (Key×V)} {k:Key} {v:V} {u r:Value} {Q:Unit->Shared->Prop} (I:L2.Inv X pins σ H s) (e:H a=some (.dK kvs)) (l:kvs.length < sizeLine) (ry:RelV (kV k) u) (rv:RelV v r) (h:∀ s',L2.Inv X pins σ (upd H a (.dK (putK kvs k v))) s'->Q () s') :
  wpAny (model X.prog X.w) A (dictSet a u r) Q E s:=by
 obtain⟨z,hd,vs,rel,dd⟩:=V3 I.hok e
 have hz:vs.length<=sizeLine:=by rw[<-rel.length];exact z
 have hl:(putK kvs k v).length<=sizeLine:=by have:=ou kvs k v;omega
 refine wpAny_dictSet_pairs (hsz:=hz) (Jf ry) dd fun h' YW hs=>h _ ?_
 have he:∃ q,h'.get? a=some q:=let ⟨q,_,_,hq,_⟩:=YW;⟨q,hq⟩
 exact CJ I (by rw[e];exact True.intro) hs he (Qe hl hd (rel.put k rv) YW)
end
section
variable {X:Cx} {kx vx tgt iter:Expr} {ifs:List Expr} {scope:Scope} {cl:List (Str×Addr)} {pos:Pos} {xs ts:LS_} {is:List Nat} {gt:Dt->Ev->Option Ev} {p:Ev->Option Bool} {fk fv:Ev->Option Bx} {fi:Ev->Option (List Dt)}
def Vy (K:FG_) (_:Addr) (H:Hp) (o1:List Dt) (o:HO):Prop:=∃ us,o=.dK us/\fD K H (dictOf o1) us/\us.length<=o1.length
theorem Vy.kp {K:FG_} {D:Addr} {H H':Hp} {o1:List Dt} {o:HO} (k:Kp H H'):Vy K D H o1 o->Vy K D H' o1 o:=fun ⟨us,e,r,z⟩=>⟨us,e,r.kp k,z⟩
theorem S8 {n:Nat} (hk:PV X kx fk) (hv:PV X vx fv):Ql X (fun D env=>do let kv <-eval kx env;let vv <-holding [kv] (eval vx env);standAt { kx.pos with endLine:=vx.pos.endLine,endCol:=vx.pos.endCol };holding [kv,vv] (dictSet D kv vv)) (Wt (b2 zm fk fv)) (Vy X.K) 999 n:=by
 refine Wq fun pins s σ H H0 ρ D o o1 ys I En eb hD ⟨us,e,r4,hl⟩ hi=>?_
 subst e
 obtain⟨b,e0,e1⟩:=bind_some eb
 obtain⟨y,rfl,rfl⟩:=Aa e1
 obtain⟨bk,ebk,eb⟩:=bind_some e0
 obtain⟨bv,ebv,eb⟩:=bind_some eb
 obtain⟨kt,dv,rfl,rfl,rfl⟩:=QL eb
 refine zb (qo (hk pins s σ H (fun v H9=>Same H H9/\bw X.K H9 (.z (.str kt)) v) I ⟨H0,ρ,_,En,ebk,fun v H9 s9 _ r9=>⟨s9,r9⟩⟩) (fun kv s9a h9=>?_) fun _ _ z=>z)
 obtain⟨k',H9a,I9a,rk,afF,r9a⟩:=h9
 refine zb (QR (qo (hv pins s9a σ H9a (fun v H9=>Same H9a H9/\Rep X.K H9 dv v) I9a ⟨H0,ρ,_,En.grow afF,ebv,fun v H9 s9 _ r9=>⟨s9,r9⟩⟩) (fun v s9 h9=>?_) fun _ _ z=>z))
 obtain⟨v',H9,I9,rv,s9b,r9⟩:=h9
 have s89:=afF.trans s9b
 have hD9:H9 D=some (.dK us):=s89 _ _ hD
 obtain⟨rfl,hkl⟩:k'=.str kt/\kt.length<=sizeLine:=by simpa only[bw,Rep] using r9a
 have kp:Kp H9 (upd H9 D (.dK (putK us (Sum.inr kt) v'))):=.dk hD9
 refine zb (kC (QR ?_))
 simp only[List.length_singleton] at hi
 refine Vd I9 hD9 (by have:(1000:Nat) < sizeLine:=(by decide);omega) (k:=Sum.inr kt) rk rv fun s10 I10=>?_
 have r5:=((r4.kp (.of s89)).put (x:=Sum.inr kt) r9 hkl).kp kp
 exact⟨H9,_,I10,s89,kp,putK us (Sum.inr kt) v',rfl,by rw[Nx];exact r5,by have:=ou us (Sum.inr kt) v';simp;omega⟩
def S9 (fi:Ev->Option (List Dt)) (gt:Dt->Ev->Option Ev) (p:Ev->Option Bool) (fk fv:Ev->Option Bx) (is:List Nat) (n:Nat):Ev->Option Bx:=fun ρ=>(fi ρ).bind fun ds=>
 if ds.length < 1000 then (Bk gt p (b2 zm fk fv) (kj is ρ++List.replicate n none) ds).bind fun out=>some (.m (dictOf out) none) else none
theorem Xo (hu:X.A.units+100 < cLine) (ts:LS_) (O:rH X scope cl xs is) (hcalm:X.calm=true) (hi:QIC X tgt iter fi)
  (Jk:∀ C s₀ H₀ fp,Vv (yw X (xs++ts) scope cl C s₀ H₀ fp) tgt gt) (hif:∀ C s₀ H₀ fp,uY (yw X (xs++ts) scope cl C s₀ H₀ fp) ifs p) (hkx:∀ C s₀ H₀ fp,QV (yw X (xs++ts) scope cl C s₀ H₀ fp) kx fk) (hvx:∀ C s₀ H₀ fp,QV (yw X (xs++ts) scope cl C s₀ H₀ fp) vx fv) (htk:Ur is.length (is.length+ts.length) gt)
  (hs:∀ x,foldedSetIterable iter X.env x=pure x:=by intro _;rfl):QV X (.DictComp kx vx [⟨tgt,iter,ifs,0⟩] scope pos) (S9 fi gt p fk fv is ts.length):=⟨fun pins s σ H Q I h=>by
 obtain⟨H0,ρ,b,E,e,q⟩:=h
 obtain⟨ds,ed,e⟩:=bind_some e
 split at e
 ·rename_i hlen
  obtain⟨out,eo,e⟩:=bind_some e
  cases e
  rw[arm_eval_DictComp]
  refine kb (use:=none) rfl hs O.clos O.kind O.names ?_
  refine j9 (hi.run pins s σ H (fun J H'=>Same H H'/\Yields X.K J ds H') I ⟨H0,ρ,ds,E,ed,fun J H' s' y=>⟨s',y⟩⟩) fun v s1 h1=>j9 h1 fun itv s2 h2=>?_
  obtain⟨it,fp,tn,J,H2,rfl,I2,T,st,hf,s12,Y⟩:=h2
  refine Ab (Ac:=Vy X.K) (O0:=.dK []) (N:=999) (RR:=fun acc C=>compPost (model X.prog X.w) X.A X.xe none (EP X pins σ Q) acc C) (ts:=ts) (xs:=xs) O hcalm (fun C s₀ H₀ fp=>(Jk C s₀ H₀ fp).run) (fun C s₀ H₀ fp=>(hif C s₀ H₀ fp).run) (fun C s₀ H₀ fp=>S8 (hkx C s₀ H₀ fp).run (hvx C s₀ H₀ fp).run) htk (Nat.le_add_right ..) I2 ((E.grow s12).caps is ts.length) T st hf Y eo (Zl (wB eo) (Nat.le_of_lt_succ hlen)) ?_
   qq (fun _=>Dy s2.heap I2.big) (fun _=>⟨[],rfl,fD.nil,zk _⟩) Vy.kp (fun _ _ _=>rfl) codeAny_compStart_dict fun h=>h
  rintro D C s' H' o hD I' fC ⟨m,hn⟩ s2' hD' ⟨us,rfl,rm,_⟩
  refine⟨m,hn,fun h' sb=>⟨.ref D,H',?_,rfl,q (.ref D) H' (s12.trans s2') (fun a ea=>by cases ea;exact s12.free hD) ⟨D,us,rfl,hD',rm,fun b hb=>by cases hb⟩⟩⟩
  obtain⟨f0,f1,f2,f3,f4,f5⟩:=fC
  exact I'.turned (t':=s'.toks) (fun b o hb e=>(sb.2 b hb).trans e) f0 f1 f3 f4 f5
 ·cases e⟩
end
section
variable {X:Cx} {pins:List (Addr×Obj)} {σ:L2.St} {H:Hp} {s:Shared} {a:Addr} {ks:List (Key×V)} {o:Obj}
theorem Ny (hb:∀ ob u,X.H₀ a≠some (.n8 ob u)) (I:L2.Inv X pins σ H s) (e:H a=some (.n8 o (.dK ks))):L2.Inv X pins σ (upd H a (.dK ks)) s:=by
 have ne:∀ {b:Addr} {u:HO},H b=some u->u≠.n8 o (.dK ks)->b≠a:=fun q n z=>by subst z;rw[e] at q;cases q;exact n rfl
 have nn:∀ {b:Addr},H b=none->b≠a:=fun q z=>by subst z;rw[e] at q;cases q
 refine⟨I.ok,I.os,I.bare,⟨I.base.keep,I.base.slot,fun b ob q n hx=>?_,I.base.there,fun b xs q=>?_,fun b ob u q=>?_,fun b ps q=>?_⟩,I.loc,I.cell,?_,fun x c q=>?_,fun p hp=>?_,fun b ob q=>?_,I.len⟩
 ·have:=I.base.free b ob q n hx
  rw[aG (nn this)];exact this
 ·have:=I.base.tups b xs q
  rw[aG (ne this fun z=>by cases z)];exact this
 ·have:=I.base.wM b ob u q
  rw[aG (fun z=>by subst z;exact hb _ _ q)];exact this
 ·obtain⟨m,this⟩:=I.base.yx b ps q
  exact⟨m,by rw[aG (ne this fun z=>by cases z)];exact this⟩
 ·have:=I.free
  rw[aG (nn this)];exact this
 ·have:=I.qb x c q
  rw[aG (nn this)];exact this
 ·obtain⟨p1,p2,p3⟩:=I.pin p hp
  exact⟨p1,by rw[aG (nn p2)];exact p2,p3⟩
 ·have st:∀ {c:Addr} {w:HO},fu X.prog X.w H s.heap c w->fu X.prog X.w (upd H a (.dK ks)) s.heap c w:=fun x=>
   x.stay (fun _ _ _ r=>r) (fun d r=>by rw[aG (ne r fun z=>by cases z)];exact r) fun d xs r=>by rw[aG (ne r fun z=>by cases z)];exact r
  by_cases hba:b=a
  ·subst hba
   rw[aU] at q
   cases q
   exact st (I.hok _ _ e).2
  ·rw[aG hba] at q
   exact st (I.hok _ _ q)
theorem afG (I:L2.Inv X pins σ H s) (e:H a=some (.dK ks)) (ho:s.heap.get? a=some o):L2.Inv X pins σ (upd H a (.n8 o (.dK ks))) s:=by
 have:=I.write (t':=s.toks) (h':=s.heap) (x:=a) (e:=a) (o:=.n8 o (.dK ks)) (by rw[e];exact True.intro) (.inl rfl) (fun _ _ _ z=>z) ⟨o,ho⟩ ⟨ho,(I.hok _ _ e).stay (fun _ _ _ r=>r) (fun d r=>by rw[aG (oh r e (by intro z;cases z))];exact r) fun d xs r=>by rw[aG (oh r e (by intro z;cases z))];exact r⟩
 exact this
theorem aaz (I:L2.Inv X pins σ H s) (e:H a=some (.dK ks)):∀ ob u,X.H₀ a≠some (.n8 ob u):=fun ob u q=>by
 have:=I.base.wM a ob u q
 rw[e] at this;cases this
mutual
theorem Rep.Ny {K:FG_} (e:H a=some (.n8 o (.dK ks))) (hk:ks≠[]):∀ {d:Dt} {v:V},Rep K H d v->Rep K (upd H a (.dK ks)) d v
 |.non,_,h=>by simpa only[Rep] using h
 |.bl _,_,h=>by simpa only[Rep] using h
 |.int _,_,h=>by simpa only[Rep] using h
 |.str _,_,h=>by simpa only[Rep] using h
 |.tup ds,_,h=>by
  simp only[Rep] at h ⊢
  obtain⟨b,vs,e1,q,r⟩:=h
  refine⟨b,vs,e1,?_,aJ.Ny e hk r⟩
  rcases q with (q|⟨ob,q⟩)|q
  ·exact .inl (.inl (by rw[aG (fun z=>by subst z;rw[e] at q;cases q)];exact q))
  ·exact .inl (.inr ⟨ob,by rw[aG (fun z=>by subst z;rw[e] at q;cases q)];exact q⟩)
  ·exact .inr q
 |.lst ds,_,h=>by
  simp only[Rep] at h ⊢
  obtain⟨b,vs,e1,q,r⟩:=h
  refine⟨b,vs,e1,?_,aJ.Ny e hk r⟩
  rcases q with⟨ob,q⟩|q
  ·exact .inl ⟨ob,by rw[aG (fun z=>by subst z;rw[e] at q;cases q)];exact q⟩
  ·exact .inr q
 |.emp,_,h=>by
  simp only[Rep] at h ⊢
  obtain⟨b,ob,e1,q⟩:=h
  exact⟨b,ob,e1,by rw[aG (fun z=>by subst z;rw[e] at q;cases q;exact hk rfl)];exact q⟩
theorem aJ.Ny {K:FG_} (e:H a=some (.n8 o (.dK ks))) (hk:ks≠[]):∀ {ds:List Dt} {vs:List V},aJ K H ds vs->aJ K (upd H a (.dK ks)) ds vs
 |[],_,h=>by simpa only[aJ] using h
 |d::ds,_,h=>by
  simp only[aJ] at h ⊢
  obtain⟨v,r,e1,q,t⟩:=h
  exact⟨v,r,e1,Rep.Ny e hk q,aJ.Ny e hk t⟩
end
def Itd (a:Addr) (o:Obj) (ks:List (Key×V)):It:=
 ⟨fun i H=>H a=some (.n8 o (.dK ks))/\i < ks.length,fun i H x H'=>H'=H/\(ks.map fun k=>kV k.1)[i]?=some x,fun i H=>H a=some (.n8 o (.dK ks))/\ks.length<=i⟩
theorem Tc {P:Program} {w:World} {h:Heap} (x:fu P w H h a (.n8 o (.dK ks))) {es:Array DictEntry} {ep:Nat} (hd:o.data=.dict es ep):∃ vs,KV ks vs/\h.DictAt (bh P w) a vs ep:=by
 obtain⟨e,_,_,vs,kv,ob,es',ep',e2,c,d,r⟩:=x
 rw[e] at e2
 cases e2
 rw[hd] at d
 cases d
 exact⟨vs,kv,o,es,e,c,hd,r⟩
theorem Xp:∀ {ks:List (Key×V)} {vs:List (Key×Value)},KV ks vs->∀ {i:Nat} {p},ks[i]?=some p->∃ x,vs[i]?=some (p.1,x)
 |_,_,.nil,i,p,q=>by simp at q
 |_,_,.cons h _,0,p,q=>by simp at q;subst q;exact⟨_,by rw[List.getElem?_cons_zero,h.1]⟩
 |_,_,.cons _ t,i+1,p,q=>by
  rw[ZO] at q
  obtain⟨x,hx⟩:=Xp t q
  exact⟨x,by rw[ZO];exact hx⟩
theorem Jx {P:Program} {w:World} {K:FG_} {tg:Expr} (it:Addr) {es:Array DictEntry} {ep:Nat} (hd:o.data=.dict es ep) (hne:a≠it):Turn P w K tg (Itd a o ks) [it] it (fun i h=>h.IsKeyIter it a i ks.length ep) where
 mem:=by simp
 obj:=fun i h st b hb=>by
  have e:b=it:=by simpa using hb
  subst e
  obtain⟨ob,e,c,d⟩:=st
  exact⟨ob,e,fun v z=>by rw[d] at z;cases z⟩
 keep:=fun i h h' st k=>st.at fun ob e=>k it (by simp) ob e
 item:=by
  intro X hP hw hK hc i pins s σ H E I hf st hg
  subst hP hw hK
  obtain⟨ha,hi⟩:=hg
  obtain⟨vs,kv,dd⟩:=Tc (I.hok _ _ ha) hd
  have hl:ks.length=vs.length:=kv.length
  obtain⟨x,hx⟩:=Xp kv (show ks[i]?=some ks[i] by simp[hi])
  obtain⟨f0,f1,f2,f3,f4,f5⟩:=hf it (by simp)
  rw[hl] at st
  refine wpAny_pyNext_dict_item st dd hx fun key h' hkey st' sb=>?_
  rw[<-hl] at st'
  have I1:L2.Inv X pins σ H { s with heap:=h' }:=I.turned (t':=s.toks) (fun b ob hb e=>(sb.2 b hb).trans e) f0 f1 f3 f4 f5
  obtain⟨ob,e,c,d⟩:=id st'
  refine⟨key,rfl,IV (s:={ s with heap:=h' }) e c d (by decide) ⟨kV (ks[i]).1,H,I1,?_,⟨rfl,by rw[zS,zD hi];rfl⟩,st',fun b hb=>(hf b hb).1⟩⟩
  have hk':mD (ks[i]).1 key=true:=hkey
  rcases bD hk' with⟨j,t,e2,e3⟩|⟨z,t,e2,e3⟩
  ·rw[e2,e3];exact⟨t,rfl⟩
  ·rw[e2,e3];exact⟨t,rfl⟩
 done:=by
  intro X hP hw hK hc i pins s σ H E I hf st hg
  subst hP hw hK
  obtain⟨ha,hi⟩:=hg
  obtain⟨vs,kv,dd⟩:=Tc (I.hok _ _ ha) hd
  have hl:ks.length=vs.length:=kv.length
  obtain⟨f0,f1,f2,f3,f4,f5⟩:=hf it (by simp)
  rw[hl] at st
  exact wpAny_pyNext_dict_end (I.ok.hd hc) st dd (ZT (by omega)) fun h' eb=>⟨rfl,I.turned (t':=s.toks) (fun b ob hb e=>eb b ob hb e) f0 f1 f3 f4 f5⟩
 self:=fun _ _ _ _ _ st h=>wpAny_pyIter_keyiter st h
def QM:Key->Dt
 |.inl i=>.int i
 |.inr x=>.str x
theorem Xq {K:FG_} {H:Hp} {k:Key} (h:okK k):Rep K H (QM k) (kV k):=by
 cases k with
 |inl i=>unfold QM Rep;rfl
 |inr x=>unfold QM Rep;exact⟨rfl,h⟩
def keyB:Bx->Option (List Dt)
 |.n kvs=>some (kvs.map fun p=>QM p.1)
 |_=>none
theorem Ve {b:Bx} {ds:List Dt} (h:keyB b=some ds):∃ kvs,b=.n kvs/\ds=kvs.map fun p=>QM p.1:=by
 unfold keyB at h
 split at h
 ·cases h;exact⟨_,rfl,rfl⟩
 ·cases h
theorem Bt {K:FG_} {Hs:Hp} {kvs:List (Key×Dt)} (ha:Hs a=some (.n8 o (.dK ks))) (rm:fD K Hs kvs ks):Yields K (Itd a o ks) (kvs.map fun p=>QM p.1) Hs:=.of fun i H s=>by
 have hl:=rm.len
 refine⟨fun d e=>?_,fun e=>⟨s _ _ ha,by rw[zi] at e;omega⟩⟩
 rw[zS] at e
 cases hp:kvs[i]? with
 |none=>rw[hp] at e;cases e
 |some p=>
  rw[hp] at e
  cases e
  have hi:i < kvs.length:=(List.getElem?_eq_some_iff.mp hp).1
  refine⟨⟨s _ _ ha,by omega⟩,fun x H' y=>?_⟩
  obtain⟨y1,y2⟩:=y
  refine⟨y1,?_⟩
  have h1:(ks.map (·.1))[i]?=some p.1:=by rw[rm.1,zS,hp];rfl
  rw[zS] at h1 y2
  cases hk:ks[i]? with
  |none=>rw[hk] at h1;cases h1
  |some q=>
   rw[hk] at h1 y2
   cases y2
   have:q.1=p.1:=by simpa using h1
   show Rep K H (QM p.1) (kV q.1)
   rw[this]
   exact Xq (rm.2.2 p (QE hp))
theorem QS {K:FG_} {H1:Hp} {σ:L2.St} {ρ:Ev} {is:List Nat} {n:Nat} (e:H1 a=some (.dK ks)) (E:bf K H1 H1 (xQ is σ++List.replicate n none) (kj is ρ++List.replicate n none)):bf K (upd H1 a (.n8 o (.dK ks))) (upd H1 a (.n8 o (.dK ks))) (xQ is σ++List.replicate n none) (kj is ρ++List.replicate n none):=by
 have kp:Kp H1 (upd H1 a (.n8 o (.dK ks))):=.dk e
 have YX:∀ (j:Nat) c,(kj is ρ++List.replicate n none)[j]?=some (some c)->rY c=false:=fun j c e=>by
  by_cases hj:j < is.length
  ·rw[ZH (by simp[kj];omega)] at e
   unfold kj at e
   rw[zS] at e
   cases q:is[j]? with
   |none=>rw[q] at e;cases e
   |some i=>
    rw[q] at e
    have:z6 ρ i=some c:=by simpa using e
    exact yH this
  ·rw[qA (by simp[kj];omega),QQ] at e
   split at e<;>cases e
 refine⟨E.len,fun j b eb=>?_,fun j k c a b e ec=>absurd ec (by rw[YX j c e];exact z4),Same.refl _,fun j c a e ec=>absurd ec (by rw[YX j c e];exact z4)⟩
 obtain⟨v,ev,r⟩:=E.val j b eb
 refine⟨v,ev,?_⟩
 cases b with
 |z d=>exact Rep.kp kp r
 |o ds=>have:=YX j _ eb;cases this
 |m ds _=>have:=YX j _ eb;cases this
 |l ds=>
  obtain⟨b,vs,e1,q,r⟩:=r
  refine⟨b,vs,e1,?_,r.kp kp⟩
  rcases q with q|⟨ob,q⟩
  ·exact .inl (by rw[aG (oh q e (by intro z;cases z))];exact q)
  ·exact .inr ⟨ob,by rw[aG (oh q e (by intro z;cases z))];exact q⟩
 |n ds=>
  obtain⟨b,vs,e1,q,r⟩:=r
  refine⟨b,vs,e1,?_,r.kp kp⟩
  by_cases hb:b=a
  ·subst hb
   rcases q with q|⟨ob,q⟩
   ·rw[e] at q;cases q
    exact .inr ⟨o,aU⟩
   ·rw[e] at q;cases q
  ·rcases q with q|⟨ob,q⟩
   ·exact .inl (by rw[aG hb];exact q)
   ·exact .inr ⟨ob,by rw[aG hb];exact q⟩
end
section
variable {X:Cx} {e elt tgt iter:Expr} {ifs:List Expr} {fd:Ev->Option Bx} {scope:Scope} {cl:List (Str×Addr)} {pos:Pos} {xs ts:LS_} {is:List Nat} {gt:Dt->Ev->Option Ev} {p:Ev->Option Bool} {fe:Ev->Option Bx}
def Bu (fd:Ev->Option Bx):Ev->Option (List Dt):=fun ρ=>(fd ρ).bind keyB
theorem Vf (ρ:Ev):Bk gt p fe ρ []=some []:=rfl
theorem Ew (ts:LS_) (O:rH X scope cl xs is) (hcalm:X.calm=true) (hi:QV X iter fd)
  (Jk:∀ C s₀ H₀ fp,Vv (yw X (xs++ts) scope cl C s₀ H₀ fp) tgt gt) (hif:∀ C s₀ H₀ fp,uY (yw X (xs++ts) scope cl C s₀ H₀ fp) ifs p) (helt:∀ C s₀ H₀ fp,QV (yw X (xs++ts) scope cl C s₀ H₀ fp) elt fe) (htk:Ur is.length (is.length+ts.length) gt)
  (hs:∀ x,foldedSetIterable iter X.env x=pure x:=by intro _;rfl):QV X (.ListComp elt [⟨tgt,iter,ifs,0⟩] scope pos) (dW (Bu fd) gt p fe is ts.length):=⟨fun pins s σ H Q I h=>by
 obtain⟨H0,ρ,b,E,e,q⟩:=h
 obtain⟨ds,ed,e⟩:=bind_some e
 split at e
 ·rename_i hlen
  obtain⟨out,eo,e⟩:=bind_some e
  cases e
  obtain⟨bd,ebd,ed⟩:=bind_some ed
  obtain⟨kvs,rfl,rfl⟩:=Ve ed
  rw[eval_ListComp]
  refine kb (use:=none) rfl hs O.clos O.kind O.names ?_
  refine j9 (hi.run pins s σ H (fun v H1=>Same H H1/\bw X.K H1 (.n kvs) v) I ⟨H0,ρ,_,E,ebd,fun v H1 s1 _ r1=>⟨s1,r1⟩⟩) fun v s1 ⟨v',H1,I1,rv,s01,r1⟩=>?_
  obtain⟨a,ks,rfl,rd,rm⟩:=r1
  cases rv
  obtain⟨_,hsys,vs,kv,ob,es,ep,dd⟩:=Mr I1.hok rd
  have hob:=dd.1
  have hdat:=dd.2.2.1
  refine wpAny_pyIter_dict hsys (⟨ob,es,dd⟩:s1.heap.DictAt (bh X.prog X.w) a vs ep) ?_
  have hlt:a < s1.heap.objs.size:=zz hob
  have hl:ks.length=vs.length:=kv.length
  have afH:∀ {H':Hp},L2.Inv X pins σ H' s1->∀ b∈[s1.heap.objs.size],tB X pins H' b:=fun I' b hb=>by
   have e:b=s1.heap.objs.size:=by simpa using hb
   subst e
   exact I'.T4 (zk _) (I'.hok.fresh (zk _))
  have st0:Heap.IsKeyIter (s1.heap.push { cls:=.type "dict_keyiterator", data:=.fields #[.ref a,.int 0 0,.int vs.length 0,.int ep 0] }) s1.heap.objs.size a 0 ks.length ep:=⟨_,zt _ rfl,rfl,by rw[hl];rfl⟩
  rcases rd with rd|⟨o',rd⟩
  ·
   have I2:=afG I1 rd hob
   have I3:L2.Inv X pins σ (upd H1 a (.n8 ob (.dK ks))) { s1 with heap:=s1.heap.push { cls:=.type "dict_keyiterator", data:=.fields #[.ref a,.int 0 0,.int vs.length 0,.int ep 0] } }:=I2.kept (t':=s1.toks) fun b o e=>zd _ e
   have rm2:fD X.K (upd H1 a (.n8 ob (.dK ks))) kvs ks:=rm.kp (.dk rd)
   refine yL (RR:=fun acc C=>compPost (model X.prog X.w) X.A X.xe none (EP X pins σ Q) acc C) (ts:=ts) (xs:=xs) O hcalm (fun C s₀ H₀ fp=>(Jk C s₀ H₀ fp).run) (fun C s₀ H₀ fp=>(hif C s₀ H₀ fp).run) (fun C s₀ H₀ fp=>(helt C s₀ H₀ fp).run) htk I3 (QS rd ((E.grow s01).caps is ts.length)) (Jx s1.heap.objs.size hdat (zI hlt)) st0 (afH I2) (Bt aU rm2) hlen eo ?_
   intro D C s' H' us hD I' fC ⟨m,hn⟩ s2' hD' r'
   have ha':H' a=some (.n8 ob (.dK ks)):=s2' _ _ aU
   have hDa:D≠a:=fun z=>by subst z;rw[aU] at hD;cases hD
   have hD1:H1 D=none:=by rw[aG hDa] at hD;exact hD
   have sm:Same H1 (upd H' a (.dK ks)):=fun b u e=>by
    by_cases hb:b=a
    ·subst hb;rw[rd] at e;cases e;exact aU
    ·rw[aG hb];exact s2' b u (by rw[aG hb];exact e)
   have rr:aJ X.K (upd H' a (.dK ks)) out us:=by
    by_cases hk:ks=[]
    ·have:kvs=[]:=by have:=rm.len;rw[hk] at this;exact List.length_eq_zero_iff.mp (by simpa using this.symm)
     subst this
     simp only[JU] at eo
     rw[Vf] at eo
     cases eo
     simpa only[aJ] using r'
    ·exact aJ.Ny ha' hk r'
   refine⟨m,hn,fun h' sb=>⟨.ref D,upd H' a (.dK ks),?_,rfl,q _ _ (s01.trans sm) (fun a ea=>by cases ea;exact s01.free hD1) ⟨D,us,rfl,by rw[aG hDa];exact hD',rr⟩⟩⟩
   obtain⟨f0,f1,f2,f3,f4,f5⟩:=fC
   have hCa:C≠a:=fun z=>by subst z;rw[ha'] at f0;cases f0
   exact (Ny (aaz I1 rd) I' ha').turned (t':=s'.toks) (fun b o hb e=>(sb.2 b hb).trans e) (by rw[aG hCa];exact f0) f1 f3 f4 f5
  ·have hoo:o'=ob:=by
    have:=(I1.hok _ _ rd).1
    rw[hob] at this;cases this;rfl
   subst hoo
   have I3:L2.Inv X pins σ H1 { s1 with heap:=s1.heap.push { cls:=.type "dict_keyiterator", data:=.fields #[.ref a,.int 0 0,.int vs.length 0,.int ep 0] } }:=I1.kept (t':=s1.toks) fun b o e=>zd _ e
   refine yL (RR:=fun acc C=>compPost (model X.prog X.w) X.A X.xe none (EP X pins σ Q) acc C) (ts:=ts) (xs:=xs) O hcalm (fun C s₀ H₀ fp=>(Jk C s₀ H₀ fp).run) (fun C s₀ H₀ fp=>(hif C s₀ H₀ fp).run) (fun C s₀ H₀ fp=>(helt C s₀ H₀ fp).run) htk I3 ((E.grow s01).caps is ts.length) (Jx s1.heap.objs.size hdat (zI hlt)) st0 (afH I1) (Bt rd rm) hlen eo ?_
   intro D C s' H' us hD I' fC ⟨m,hn⟩ s2' hD' r'
   refine⟨m,hn,fun h' sb=>⟨.ref D,H',?_,rfl,q _ _ (s01.trans s2') (fun a ea=>by cases ea;exact s01.free hD) ⟨D,us,rfl,hD',r'⟩⟩⟩
   obtain⟨f0,f1,f2,f3,f4,f5⟩:=fC
   exact I'.turned (t':=s'.toks) (fun b o hb e=>(sb.2 b hb).trans e) f0 f1 f3 f4 f5
 ·cases e⟩
end
section
variable {prog:Program} {w:World} {A:Around} {E:VP_} {s:Shared}
theorem Nz {R:Result->Shared->Prop} {d:Addr} {kvs:List (Key×Value)} {ep:Nat} (hh:A.handled=none) (hd:(d==sysModules)=false) (hm:s.heap.DictAt (bh prog w) d kvs ep) (hn:kvs.length<=sizeLine) (S:Addr) (hdS:d≠S) (res:Value) (c₀:Nat) (hS0:s.heap.get? S=some { cls:=.type "list", data:=.seq #[] c₀ })
  (hR:∀ h' tk acc' c',(∀ b o,b≠S->s.heap.get? b=some o->h'.get? b=some o)->h'.get? S=some { cls:=.type "list", dict:=none,data:=.seq acc' c',slots:=#[] } →
   ItemsOf (fun i v=>∃ k x,kvs[i]?=some (k,x)/\(bh prog w).is k v=true) acc' kvs.length->R (.ok (.ret res)) { s with heap:=h',toks:=tk }) :
  wpAny (model prog w) A.in1 (Builtin.List.listExtendWith (.ref S) (.ref d) res)
   (fun fin s'=>match fin with|.done f=>R (.ok f) s'|.again c'=>c'.quiet=true/\codeAny (model prog w) A c' R s') (fun e s'=>R (.error e) s') s:=by
 have hlt:d < s.heap.objs.size:=by obtain⟨o,_,ho,_⟩:=hm;exact zz ho
 have hSlt:S < s.heap.objs.size:=zz hS0
 unfold Builtin.List.listExtendWith
 refine zb (QU (T := "dict") hm.dictOf.typeIs ?_)
 have h1:Builtin.List.listSameRef (.ref S) (.ref d)=false:=by simp[Builtin.List.listSameRef];exact fun e=>hdS e.symm
 simp only[h1,show (Value.type "dict" == Value.type "list")=false by decide,show (Value.type "dict" == Value.type "tuple")=false by decide,Bool.or_false,zr,ZN]
 refine zb (wpAny_pyIter_dict hd hm ?_)
 refine zb (QR ?_)
 have hm2:=hm.at' (h':=s.heap.push { cls:=.type "dict_keyiterator", data:=.fields #[.ref d,.int 0 0,.int kvs.length 0,.int ep 0] }) fun o e=>zd _ e
 unfold Builtin.List.listLengthHint
 refine zb (wpAny_specialOf (T := "dict") hm2.dictOf.typeIs F.slot_dict_len.lookup ?_)
 wp_delta
 refine zb (Kn (T := "dict") (b:=true) hm2.dictOf.typeIs (by rw[isSubtype_type];kernel_rfl) ?_)
 show wpAny _ A.in1 (typeOf (Value.ref d) >>= _) _ _ _
 refine zb (QU (T := "dict") hm2.dictOf.typeIs (zg ?_))
 rw[zo (by decide)]
 show wpAny _ A.in1 (Builtin.List.listTouch (Value.ref S) >>= fun _=>again (Code.builtin "list.extend.loop" ⟨[Value.ref S,Value.ref s.heap.objs.size,res],[]⟩)) _ _ _
 generalize hG:s.heap.push { cls:=.type "dict_keyiterator", data:=.fields #[.ref d,.int 0 0,.int kvs.length 0,.int ep 0] }=G at hm2 ⊢
 have hS:G.get? S=some { cls:=.type "list", data:=.seq #[] c₀ }:=by
  rw[<-hG]
  exact zd _ hS0
 have hI:G.get? s.heap.objs.size=some { cls:=.type "dict_keyiterator", data:=.fields #[.ref d,.int 0 0,.int kvs.length 0,.int ep 0] }:=by
  rw[<-hG]
  exact zt _ rfl
 unfold Builtin.List.listTouch
 refine zb (zb (listUpdate_at hS rfl (listUpdate_at (get?_update_seq hS _) rfl ?_ (by show _<=_;decide) (by show _<=_;decide)) (by show _<=_;decide) (by show _<=_;decide)))
 have hIS:s.heap.objs.size≠S:=kA hSlt
 have hS3:=get?_update_seq (get?_update_seq hS (fun x=>x.push Value.none)) (fun x=>x.pop)
 generalize hU:(G.update S (Obj.mapSeq fun x=>x.push Value.none)).update S (Obj.mapSeq fun x=>x.pop)=U at hS3
 have keep:∀ b,b≠S->U.get? b=G.get? b:=fun b hb=>by rw[<-hU,Jn _ _ _ _ hb,Jn _ _ _ _ hb]
 have st0:U.IsKeyIter s.heap.objs.size d 0 kvs.length ep/\U.DictAt (bh prog w) d kvs ep:=⟨⟨_,(keep _ hIS).trans hI,rfl,rfl⟩,hm2.at' fun o e=>(keep d hdS).trans e⟩
 show wpAny _ A.in1 (again _) _ _ { s with heap:=U }
 have hSf:S∉[s.heap.objs.size,d]:=fun h=>by
  simp only[Qr,QO,or_false] at h
  rcases h with h|h
  ·exact hIS h.symm
  ·exact hdS h.symm
 refine zg ⟨plainId_quiet F.plain_extend_loop _,codeAny_extend_loopS (Walks.dictKeys (A:=A.in1) hh s.heap.objs.size d (zI hlt) kvs ep).toS hn S hSf _ kvs.length 0 { s with heap:=U } #[] _ rfl (qE _) st0 hS3 (ItemsOf.nil _) fun s' acc' c' mv hS' hacc=>?_⟩
 rw[Moved.eq_with mv]
 refine hR s'.heap s'.toks acc' c' (fun b ob hb e=>?_) hS' hacc
 have hb':=zz e
 refine mv.heap b ob (fun h=>?_) ((keep b hb).trans ?_)
 ·simp only[Qr,QO,or_false] at h
  rcases h with h|h
  ·exact hb h
  ·exact zI hb' h
 ·rw[<-hG]
  exact zd _ e
theorem Ey {Q:VP_} {d:Addr} {kvs:List (Key×Value)} {ep:Nat} (hh:A.handled=none) (hd:(d==sysModules)=false) (hm:s.heap.DictAt (bh prog w) d kvs ep) (hn:kvs.length<=sizeLine)
  (hQ:∀ h' tk acc' c',(∀ b o,s.heap.get? b=some o->h'.get? b=some o) →
   h'.get? s.heap.objs.size=some { cls:=.type "list", dict:=none,data:=.seq acc' c',slots:=#[] }->ItemsOf (fun i v=>∃ k x,kvs[i]?=some (k,x)/\(bh prog w).is k v=true) acc' kvs.length->Q (.ref s.heap.objs.size) { s with heap:=h',toks:=tk }) :
  wpAny (model prog w) A (call (.type "list") [.ref d]) Q E s:=by
 have hlt:d < s.heap.objs.size:=by obtain⟨o,_,ho,_⟩:=hm;exact zz ho
 refine callType_codes (Q₁:=fun obj s₁=>obj=.ref s.heap.objs.size/\s₁={ s with heap:=s.heap.push { cls:=.type "list", data:=.seq #[] } }) F.called_list (F.typeCall_list_1 _) F.entry_list_init
  (code_list_new _ ⟨rfl,rfl⟩) fun obj s₁ h₁=>?_
 obtain⟨rfl,rfl⟩:=h₁
 have hS:(s.heap.push { cls:=.type "list", data:=.seq #[] }).get? s.heap.objs.size=some { cls:=.type "list", data:=.seq #[] }:=zt _ rfl
 have hm1:=hm.at' (h':=s.heap.push { cls:=.type "list", data:=.seq #[] }) fun o e=>zd _ e
 refine⟨⟨_,hS,rfl⟩,F.args_list_init_2 _ _,?_⟩
 generalize hH:s.heap.push { cls:=.type "list", data:=.seq #[] }=H at hS hm1 ⊢
 show wpAny _ _ (do let old <-Builtin.List.listItems (.ref s.heap.objs.size);Builtin.List.listUpdate (.ref s.heap.objs.size) (fun _=>#[]);letGo old.toList.reverse;Builtin.List.listExtendWith (.ref s.heap.objs.size) (.ref d) .none) _ _ { s with heap:=H }
 refine zb ?_
 unfold Builtin.List.listItems
 refine zb (wpAny_seqItems hS rfl (zg ?_))
 show wpAny _ _ (updateSeq s.heap.objs.size (fun _=>#[]) >>= fun _=>letGo (#[]:Array Value).toList.reverse >>= fun _=>Builtin.List.listExtendWith (.ref s.heap.objs.size) (.ref d) .none) _ _ _
 refine zb (wpAny_updateSeq hS rfl ?_)
 have hS₂:=Kk (Obj.mapSeq (fun _=>(#[]:Array Value))) hS rfl
 have oth:∀ b o,b≠s.heap.objs.size->H.get? b=some o->(H.update s.heap.objs.size (Obj.mapSeq (fun _=>(#[]:Array Value)))).get? b=some o:=
  fun b o hb e=>(Heap.get?_update_other _ _ (kM hb)).trans e
 refine zb (wpAny_letGo ?_)
 refine Nz (A:=A.in1) hh hd (hm1.at' fun o e=>oth d o (zI hlt) e) hn s.heap.objs.size (zI hlt) .none _ hS₂ fun h' tk acc' c' hk hS' hacc=>?_
 exact⟨rfl,hQ h' tk acc' c' (fun b o e=>hk b o (zI (zz e)) (oth b o (zI (zz e)) (by rw[<-hH];exact zd _ e))) hS' hacc⟩
theorem adB {P:Nat->Value->Prop} (val:Nat->Str) (hval:∀ i v,P i v->∃ t,v=.str (val i) t):CmpOf prog w A .Lt P (fun i j=>decide ((val i).cps.toList < (val j).cps.toList)):=fun i j vi vj s Q E hi hj h=>by
 obtain⟨t,rfl⟩:=hval i vi hi
 obtain⟨u,rfl⟩:=hval j vj hj
 exact richCompare_gives (op:=.Lt) (typeIs_str s _ t) (typeIs_str s _ u) F.slot_str_lt F.entry_str_lt (F.args_str_lt_2 _ _) (gives_str_lt _ _ t u) (fun x=>nomatch x) h
def two (a b:Str) (i:Nat):Str:=if i=0 then a else b
theorem adC {a b:Str} {t u:Tok} (i:Nat) (v:Value) (h:(#[Value.str a t,Value.str b u])[i]?=some v):∃ t',v=.str (two a b i) t':=by
 match i,h with
 |0,h=>cases h;exact⟨t,rfl⟩
 |1,h=>cases h;exact⟨u,rfl⟩
 |_+2,h=>simp at h
theorem Xr {a b:Str} {t u:Tok} {op:CmpOp} {Q:VP_} {bt:Nat->Nat->Bool} (hh:A.handled=none) (hc:CmpOf prog w A.in1 op (fun i v=>(#[Value.str a t,Value.str b u])[i]?=some v) bt)
  (h:∀ h' tk,(∀ c o,s.heap.get? c=some o->h'.get? c=some o)->Q (if bt 1 0=true then .str b u else .str a t) { s with heap:=h',toks:=tk }) :
  wpAny (model prog w) A.in1 (pyIter (.ref s.heap.objs.size)) (fun it s₂=>∃ I fp wr n P St bt,it=.ref I/\Walks prog w A.in1 I fp wr n P St/\St 0 s₂.heap/\(∀ b∈fp,b < s₂.heap.objs.size)/\0 < n/\CmpOf prog w A.in1 op P bt ∧
   ∀ v h' tk,P (argBest bt (n - 1)) v->(∀ b o,b∉wr->s₂.heap.get? b=some o->h'.get? b=some o)->Q v { s₂ with heap:=h',toks:=tk }) E
   { s with heap:=s.heap.push { cls:=.type "tuple", data:=.seq #[.str a t,.str b u] } }:=by
 have hT:(s.heap.push { cls:=.type "tuple", data:=.seq #[.str a t,.str b u] }).IsTuple s.heap.objs.size #[.str a t,.str b u]:=⟨_,zt _ rfl,rfl,0,rfl⟩
 refine wpAny_pyIter_tuple hT ?_
 have hsz:(s.heap.push { cls:=.type "tuple", data:=.seq #[.str a t,.str b u] }).objs.size=s.heap.objs.size+1:=qc ..
 refine⟨_,[_,s.heap.objs.size],[_],_,_,_,bt,rfl,Walks.tuple (A:=A.in1) hh _ s.heap.objs.size (by rw[hsz];exact zI (qf _)) #[.str a t,.str b u],
  ⟨⟨_,zt _ rfl,rfl,rfl⟩,hT.push _⟩,fun c hc=>?_,by simp,hc,fun v h' tk hP hk=>?_⟩
 ·show c < ((s.heap.push _).push _).objs.size
  rw[qc,hsz]
  rcases List.mem_cons.mp hc with rfl|hc
  ·rw[hsz];exact qf _
  ·rcases List.mem_cons.mp hc with rfl|hc
   ·exact QA (qf _)
   ·cases hc
 ·have hold:∀ c o,s.heap.get? c=some o->h'.get? c=some o:=fun c o e=>by
   refine hk c o (fun hm=>?_) (zd _ (zd _ e))
   rcases List.mem_cons.mp hm with e1|hm
   ·have:=zz e;rw[e1,hsz] at this;exact JA _ (Nat.lt_of_succ_lt this)
   ·cases hm
  have:=h h' tk hold
  have hv:v=if bt 1 0=true then Value.str b u else Value.str a t:=by
   have hP':(#[Value.str a t,Value.str b u])[argBest bt 1]?=some v:=hP
   unfold argBest argBest at hP'
   by_cases hba:bt 1 0=true
   ·rw[zo hba] at hP' ⊢
    exact (by simpa using hP'.symm)
   ·rw[zv hba] at hP' ⊢
    exact (by simpa using hP'.symm)
  rw[hv];exact this
end
section
variable {X:Cx}
def Ez:List Bx->Option Bx
 |[.z (.str a),.z (.str b)]=>some (.z (.str (if adD b a=true then b else a)))
 |_=>none
where adD (x y:Str):Bool:=decide (x.cps.toList < y.cps.toList)
theorem aaA (hc:X.calm=true):qT X (.builtin "min") Ez:=by
 intro pins s σ H xs us Q I r h
 obtain⟨bs,c,rb,e,q⟩:=h
 unfold Ez at e
 split at e
 ·rename_i a b
  cases e
  obtain⟨v,w,rfl,r1,r2⟩:=WQ rb
  obtain⟨rfl,h1⟩:=R7 r1
  obtain⟨rfl,h2⟩:=R7 r2
  obtain⟨u,u',rfl,ru,ru'⟩:=Vals.two r
  obtain⟨t,rfl⟩:=ru
  obtain⟨t',rfl⟩:=ru'
  refine call_min_two (Xr (I.ok.hd hc) (adB (two a b) adC) fun h' tk kp=>?_)
  show EP X pins σ Q (if Ez.adD b a=true then _ else _) _
  by_cases hb:Ez.adD b a=true
  ·rw[zo hb] at q ⊢
   exact⟨.str b,H,I.kept kp,⟨_,rfl⟩,q _ H (Same.refl H) trivial r2⟩
  ·rw[zv hb] at q ⊢
   exact⟨.str a,H,I.kept kp,⟨_,rfl⟩,q _ H (Same.refl H) trivial r1⟩
 ·cases e
def EY:List Bx->Option Bx
 |[.n kvs]=>(Uz kvs).bind fun ys=>some (.o (ys.map Dt.str))
 |_=>none
theorem Xu (hc:X.calm=true):qT X (.type "list") EY:=by
 intro pins s σ H xs us Q I r h
 obtain⟨bs,c,rb,e,q⟩:=h
 unfold EY at e
 split at e
 ·rename_i kvs
  obtain⟨ys,ey,e⟩:=bind_some e
  cases e
  have hlen:kvs.length=ys.length:=by have:=congrArg List.length (wF ey);simpa using this
  obtain⟨v,rfl,r1⟩:=rep1 rb
  obtain⟨a,ks,rfl,rd,rm⟩:=r1
  obtain⟨u,rfl,ru⟩:=vals1 r
  cases ru
  obtain⟨hz,hsys,vs,kv,o,es,ep,dd⟩:=Mr I.hok rd
  have hk:vs.map (·.1)=ys.map Sum.inr:=by rw[Sq kv,rm.1];exact wF ey
  have hl:ks.length=vs.length:=kv.length
  refine Ey (I.ok.hd hc) hsys ⟨o,es,dd⟩ (by omega) fun h' tk acc c' ext en hit=>?_
  have z1:=Qt hk hit
  have hy:∀ y∈ys,y.length<=sizeLine:=Z9 ey rm.2.2
  have hfr:=I.hok.fresh (zk s.heap.objs.size)
  refine⟨.ref s.heap.objs.size,_,I.laid (t':=tk) (a:=s.heap.objs.size) (o:=.lst (ys.map V.str)) ext (zk _) ?_,rfl,q _ _ (bF hfr) (fun a ea=>by cases ea;exact hfr) ⟨_,_,rfl,aU,yR hy⟩⟩
  refine⟨by rw[zi,<-hlen,<-rm.len];exact hz,acc.toList,c',wD z1,?_⟩
  rw[en]
 ·cases e
end
def hole (H:Hp) (a:Addr):Hp:=fun b=>if b=a then none else H b
theorem Td {H:Hp} {a b:Addr} (h:b≠a):hole H a b=H b:=zv h
theorem Te {H:Hp} {a:Addr}:hole H a a=none:=zo rfl
def isZ:Bx->Bool
 |.z _=>true
 |_=>false
def spM (K:FG_) (n:Nat) (G:Addr->List (Key×Dt)->List Bx->Option (List (Key×Dt))):Sp:=fun vs H Q _=>vs.length=n+1/\∃ a ks kvs rest bs kvs',vs=.ref a::rest/\H a=some (.dK ks)/\fD K H kvs ks/\qd K H bs rest/\bs.all isZ=true/\G a kvs bs=some kvs'/\∀ H' ks',Same (hole H a) H'->H' a=some (.dK ks')->fD K H' kvs' ks'->Q .non H'
def NK (n:Nat) (g:Ev->Option Out):Addr->List (Key×Dt)->List Bx->Option (List (Key×Dt)):=fun a kvs bs=>(g ((Bx.m kvs (some a)::bs).map some++List.replicate (n - (bs.length+1)) none)).bind fun r=>match r with
 |.nx ρ=>match ρ[0]? with
  |some (some (Bx.m kvs' (some b)))=>if b=a then some kvs' else none
  |_=>none
 |_=>none
theorem QT {n:Nat} {g:Ev->Option Out} {a:Addr} {kvs kvs':List (Key×Dt)} {bs:List Bx} (h:NK n g a kvs bs=some kvs'):∃ ρ,g ((Bx.m kvs (some a)::bs).map some++List.replicate (n - (bs.length+1)) none)=some (.nx ρ)/\ρ[0]?=some (some (.m kvs' (some a))):=by
 obtain⟨r,er,h⟩:=bind_some h
 cases r with
 |nx ρ=>
  dsimp only at h
  split at h
  ·rename_i k b e
   split at h
   ·rename_i hb
    cases h
    subst hb
    exact⟨ρ,er,e⟩
   ·cases h
  ·cases h
 |rt _=>cases h
 |bk _=>cases h
 |ct _=>cases h
theorem Fb {α β:Type} {R:α->β->Prop}:∀ {xs:List α} {ys:List β},Paired R xs ys->∀ {i:Nat} {x:α},xs[i]?=some x->∃ y,ys[i]?=some y/\R x y
 |_,_,.nil,i,x,q=>by simp at q
 |_,_,.cons r _,0,x,q=>by simp at q;subst q;exact⟨_,rfl,r⟩
 |_,_,.cons _ t,i+1,x,q=>by
  rw[ZO] at q
  obtain⟨y,y1,y2⟩:=Fb t q
  exact⟨y,by rw[ZO];exact y1,y2⟩
theorem bf.startM {K:FG_} {H:Hp} {N:LS_} {bs:List Bx} {rest:List V} {a:Addr} {ks:List (Key×V)} {kvs:List (Key×Dt)} (ha:H a=some (.dK ks)) (rm:fD K H kvs ks) (r:qd K H bs rest) (hz:bs.all isZ=true):bf K (hole H a) H (L2.start N (.ref a::rest)) ((Bx.m kvs (some a)::bs).map some++List.replicate (N.length - (bs.length+1)) none):=by
 have hl:bs.length=rest.length:=Paired.length r
 have r2:qd K H (.m kvs (some a)::bs) (.ref a::rest):=.cons ⟨a,ks,rfl,ha,rm,fun b h=>by cases h;rfl⟩ r
 have get:∀ (i:Nat) b,((Bx.m kvs (some a)::bs).map some++List.replicate (N.length - (bs.length+1)) none)[i]?=some (some b)->(Bx.m kvs (some a)::bs)[i]?=some b:=fun i b e=>by
  by_cases hi:i < (Bx.m kvs (some a)::bs).length
  ·rw[ZH (by simpa using hi),zS] at e
   cases q:(Bx.m kvs (some a)::bs)[i]? with
   |none=>rw[q] at e;cases e
   |some b'=>rw[q] at e;simpa using e
  ·rw[qA (by simp at hi ⊢;omega),QQ] at e
   split at e<;>cases e
 have noz:∀ (i:Nat) b,((Bx.m kvs (some a)::bs).map some++List.replicate (N.length - (bs.length+1)) none)[i]?=some (some b)->i≠0->loose b=false:=fun i b e hi=>by
  have e2:=get i b e
  cases i with
  |zero=>exact absurd rfl hi
  |succ j=>
   rw[ZO] at e2
   have:=List.all_eq_true.mp hz b (QE e2)
   cases b<;>first|rfl|cases this
 have ol:∀ c,rY c=true->loose c=true:=fun c hc=>by cases c<;>first|rfl|cases hc
 have zero:∀ (i:Nat) c,((Bx.m kvs (some a)::bs).map some++List.replicate (N.length - (bs.length+1)) none)[i]?=some (some c)->loose c=true->i=0:=fun i c e hc=>by
  by_cases hi:i=0
  ·exact hi
  ·rw[noz i c e hi] at hc;cases hc
 have st:∀ i v,(Value.ref a=Value.ref a)->(V.ref a::rest)[i]?=some v->(L2.start N (.ref a::rest))[i]?=some (some v):=fun i v _ e=>by
  have hi:i < (V.ref a::rest).length:=(List.getElem?_eq_some_iff.mp e).1
  unfold L2.start
  rw[ZH (by simpa using hi),zS,e];rfl
 refine⟨by unfold L2.start;simp[hl],fun i b e=>?_,fun i j c x b e1 ec _ e3 hb _=>?_,fun b o e=>?_,fun i c x e ec e2=>?_⟩
 ·obtain⟨v,e1,r1⟩:=Fb r2 (get i b e)
  exact⟨v,st i v rfl e1,r1⟩
 ·rw[zero i c e1 (ol c ec),zero j b e3 hb]
 ·by_cases hb:b=a
  ·subst hb;rw[Te] at e;cases e
  ·rw[Td hb] at e;exact e
 ·have hi:=zero i c e (ol c ec)
  subst hi
  rw[st 0 (.ref a) rfl rfl] at e2
  cases e2
  exact Te
theorem ahF {P:Program} {w:World} {K:FG_} {mg:Str->Option Value} {base:Heap} {x qual:Str} {st:Stmt} {f:Addr} {fd:FuncData} {N ps:LS_} {k n m:Nat} {g:Ev->Option Out} (F:yG K x qual st f fd) (S:bU N ps (aH st)) (hn:N.length=n) (hm:ps.length=m+1)
  (hbody:∀ (cdv:Value) (A:Around) (outer:List Env) (s:Shared) (H:Hp) (E:XK),mV k (A.deeper (envOfC qual (aH st) s.heap.objs.size f cdv))->Uo (Hh mj P w K mg base N qual (aH st) f cdv A outer s H E).Vs (bL st) g) :
  cF P w K mg base mj (k+1) f fd ps (spM K m (NK n g)):=by
 subst hn
 refine F.ok S (fun vs H Q E h=>by rw[hm];exact h.1) fun cdv A outer s H vs Q E hr h=>?_
 obtain⟨hl,a,ks,kvs,rest,bs,kvs',rfl,ha,rm,rb,hz,e,q⟩:=h
 refine⟨_,(hbody cdv A outer s H E hr).run,?_⟩
 obtain⟨ρ,er,e0⟩:=QT e
 refine⟨hole H a,_,_,bf.startM ha rm rb hz,er,?_⟩
 intro σ' H' E'
 obtain⟨v,ev,b,ks',rfl,hb,rm',tie⟩:=E'.val 0 _ e0
 have:=tie a rfl
 subst this
 exact q H' ks' E'.base hb rm'
open Classical in
noncomputable def Fd (i n:Nat) (G:Addr->List (Key×Dt)->List Bx->Option (List (Key×Dt))) (fs:Ev->Option (List Bx)):Ev->Option Out:=fun ρ=>match ρ[i]? with
 |some (some (.m kvs w))=>(fs ρ).bind fun bs=>if h:bs.length=n/\bs.all isZ=true/\∃ kvs',∀ a,G a kvs bs=some kvs' then some (.nx (ρ.set i (some (.m (Classical.choose h.2.2) w)))) else none
 |_=>none
theorem QW {i n:Nat} {G:Addr->List (Key×Dt)->List Bx->Option (List (Key×Dt))} {fs:Ev->Option (List Bx)} {ρ:Ev} {r:Out} (h:Fd i n G fs ρ=some r):∃ kvs w bs kvs',ρ[i]?=some (some (.m kvs w))/\fs ρ=some bs/\bs.length=n/\bs.all isZ=true/\(∀ a,G a kvs bs=some kvs')/\r=.nx (ρ.set i (some (.m kvs' w))):=by
 unfold Fd at h
 split at h
 ·rename_i kvs w e
  obtain⟨bs,eb,h⟩:=bind_some h
  split at h
  ·rename_i hh
   cases h
   exact⟨kvs,w,bs,_,e,eb,hh.1,hh.2.1,Classical.choose_spec hh.2.2,rfl⟩
  ·cases h
 ·cases h
theorem Xv {i n:Nat} {G:Addr->List (Key×Dt)->List Bx->Option (List (Key×Dt))} {fs:Ev->Option (List Bx)} {ρ:Ev} {kvs kvs':List (Key×Dt)} {w:Option Addr} {bs:List Bx} (e:ρ[i]?=some (some (.m kvs w))) (eb:fs ρ=some bs) (hl:bs.length=n) (hz:bs.all isZ=true) (hG:∀ a,G a kvs bs=some kvs'):Fd i n G fs ρ=some (.nx (ρ.set i (some (.m kvs' w)))):=by
 unfold Fd
 rw[e]
 simp only[eb,ahH]
 have hh:bs.length=n/\bs.all isZ=true/\∃ kvs',∀ a,G a kvs bs=some kvs':=⟨hl,hz,kvs',hG⟩
 rw[dif_pos hh]
 have:=Classical.choose_spec hh.2.2 0
 rw[hG 0] at this
 injection this with this
 rw[<-this]
where ahH {α β:Type} (a:α) (f:α->Option β):(some a).bind f=f a:=rfl
theorem bf.afI {K:FG_} {H0 H H':Hp} {σ:L2.St} {ρ:Ev} {i:Nat} {a:Addr} {kvs kvs':List (Key×Dt)} {w:Option Addr} {ks ks':List (Key×V)} (E:bf K H0 H σ ρ) (h:ρ[i]?=some (some (.m kvs w))) (hs:σ[i]?=some (some (.ref a))) (ha:H a=some (.dK ks)) (sm:Same (hole H a) H') (ha':H' a=some (.dK ks')) (rm:fD K H' kvs' ks') (tie:∀ b,w=some b->b=a) :
  bf K H0 H' σ (ρ.set i (some (.m kvs' w))):=by
 have hi:i < ρ.length:=(List.getElem?_eq_some_iff.mp h).1
 have hb:H0 a=none:=E.new i _ a h rfl hs
 have sn:∀ b u,b≠a->H b=some u->H' b=some u:=fun b u hne e=>sm b u (by rw[Td hne];exact e)
 have kp:Kp H H':=⟨fun b xs e=>sn b _ (oh e ha (by intro z;cases z)) e,fun b ob u e=>sn b _ (oh e ha (by intro z;cases z)) e⟩
 refine⟨by rw[jS];exact E.len,fun j b' e=>?_,fun j k' c a' b' e1 ec e2 e3 e4 e5=>?_,fun c o e=>?_,fun j c a' e1 ec e2=>?_⟩
 ·rcases getset e with⟨rfl,e',_⟩|⟨hne,e'⟩
  ·cases e'
   exact⟨_,hs,a,ks',rfl,ha',rm,tie⟩
  ·obtain⟨v,e1,r'⟩:=E.val j b' e'
   refine⟨v,e1,?_⟩
   have away:∀ a',v=.ref a'->loose b'=true->a'≠a:=fun a' ev hl z=>by
    subst z
    exact hne (E.own i j _ _ _ h rfl hs e' hl (by rw[e1,ev])).symm
   cases b' with
   |z d=>exact Rep.kp kp r'
   |l ds'=>
    obtain⟨a',vs',rfl,q,rr⟩:=r'
    have hn:=away a' rfl rfl
    exact⟨a',vs',rfl,q.imp (sn _ _ hn) fun ⟨o,q⟩=>⟨o,sn _ _ hn q⟩,rr.kp kp⟩
   |o ds'=>
    obtain⟨a',vs',rfl,q,rr⟩:=r'
    exact⟨a',vs',rfl,sn _ _ (away a' rfl rfl) q,rr.kp kp⟩
   |n ds'=>
    obtain⟨a',vs',rfl,q,rr⟩:=r'
    have hn:=away a' rfl rfl
    exact⟨a',vs',rfl,q.imp (sn _ _ hn) fun ⟨o,q⟩=>⟨o,sn _ _ hn q⟩,rr.kp kp⟩
   |m ds' _=>
    obtain⟨a',vs',rfl,q,rr,tt⟩:=r'
    exact⟨a',vs',rfl,sn _ _ (away a' rfl rfl) q,rr.kp kp,tt⟩
 ·have back:∀ {j:Nat} {c:Bx},(ρ.set i (some (.m kvs' w)))[j]?=some (some c)->∃ c',ρ[j]?=some (some c')/\(rY c=true->rY c'=true)/\(loose c=true->loose c'=true):=fun {j c} e=>by
   rcases getset e with⟨rfl,e',_⟩|⟨_,e'⟩
   ·exact⟨_,h,fun _=>rfl,fun _=>rfl⟩
   ·exact⟨c,e',id,id⟩
  obtain⟨c',p1,p2,_⟩:=back e1
  obtain⟨b2,q1,_,q3⟩:=back e3
  exact E.own j k' c' a' b2 p1 (p2 ec) e2 q1 (q3 e4) e5
 ·have e2:=E.base c o e
  exact sn c o (fun z=>by subst z;rw[hb] at e;cases e) e2
 ·rcases getset e1 with⟨rfl,e',_⟩|⟨_,e'⟩
  ·exact E.new _ _ a' h rfl e2
  ·exact E.new j c a' e' ec e2
section
variable {X:Cx} {e:Expr} {es:List Expr} {fs:Ev->Option (List Bx)} {p px pos spos:Pos} {x y:Str} {k n:Nat} {f:Addr} {fd:FuncData} {ps:LS_} {G:Addr->List (Key×Dt)->List Bx->Option (List (Key×Dt))}
theorem aaB (i:Nat) (F:cF X.prog X.w X.K X.mg X.base mj k f fd ps (spM X.K n G)) (hr:mV k X.A) (hg:Gl X x) (hm:X.mg x=some (.ref f)) (hk:PySem.W.keepIn X.K (.ref f)=true) (hb:Binds X.K fd ps [])
  (ha:Vt X es fs) (hN:X.N[i]?=some y:=by rfl) (hv:Vr X.env.scope y:=by first|exact JY rfl|exact Q3 (JY rfl)|exact Q3 (Q3 rfl)) (hd:(y==("__debug__" : Str))=false:=by decide)
  (hcd:(y==("__classdict__" : Str))=false:=by decide) (hdb:(x==("__debug__" : Str))=false:=by decide) (he:starEach (.Name y px::es) X.env=(false,eval (.Name y px) X.env)::starEach es X.env:=by rfl) (hpl:(backTo pos (starEach es X.env)).any (·.1)=false:=by rfl) (hs:swapsWith (.Call (.Name x p) (.Name y px::es) [] pos) none spos.line X.env=pure false:=by rfl) :
  R3 X (.Expr (.Call (.Name x p) (.Name y px::es) [] pos) spos) (Fd i n G fs):=⟨Vu (JZ (RM F hr hg hm hk hb .nil abq (nR (tu (i:=i) hN hv hd hcd) ha.run he) hdb he hpl) hs) fun D σ H h=>by
 obtain⟨H0,ρ,r,E,e,q⟩:=h
 obtain⟨kvs,w,bs,kvs',hρ,eb,hl,hz,hG,rfl⟩:=QW e
 obtain⟨v,e1,a,ks,rfl,haa,rm,tie⟩:=E.val i _ hρ
 refine⟨_,e1,H0,ρ,bs,E,eb,fun vs H1 s1 r1=>?_⟩
 have ha1:=s1 _ _ haa
 refine⟨by simp only[km,qh];rw[<-Paired.length r1,hl],a,ks,kvs,vs,bs,kvs',by simp,ha1,rm.kp (.of s1),r1,hz,hG a,fun H' ks' sm hk' rm'=>?_⟩
 exact q σ H' ((E.grow s1).afI hρ e1 ha1 sm hk' rm' tie)⟩
end
def isT:Option Bool->Bool
 |some true=>true
 |_=>false
def Xw (x:Dt) (ys:List Dt):Option Bool:=if (ys.all fun y=>(yM y x).isSome&&decide (min (wR y) (wR x)<=60))=true then some (ys.any fun y=>isT (yM y x)) else none
def Xx (a b:Bx):Option Bx:=match a with
 |.z d=>(xT b).bind fun ys=>(Xw d ys).bind fun k=>some (.z (.bl (!k)))
 |_=>none
section
variable {X:Cx} {pins:List (Addr×Obj)} {σ:L2.St} {H:Hp} {s:Shared}
theorem Xy (I:L2.Inv X pins σ H s) (hu:X.A.units+100 < cLine) {d:Dt} {x:V} {u:Value} (rx:Rep X.K H d x) (ru:RelV x u) {ys:List Dt} {vs:List V} {its:List Value} (rs:aJ X.K H ys vs) (rv:Vals vs its) {k:Bool} (hk:Xw d ys=some k) :
  ∃ e:Value->Bool,(∀ y,y∈its->SeqAt.EqAt X.A.in1 s y u (e y))/\its.any e=k:=by
 unfold Xw at hk
 split at hk
 ·rename_i hall
  injection hk with hk
  rw[QY] at hall
  have at_:∀ (i:Nat) y,its[i]?=some y->∃ c,ys[i]?=some c/\SeqAt.EqAt X.A.in1 s y u (isT (yM c d)):=fun i y hy=>by
   have hl:=rv.length
   have hl2:=rs.length
   have hi:i < its.length:=(List.getElem?_eq_some_iff.mp hy).1
   have hi':i < ys.length:=by omega
   obtain⟨v,ev,r1⟩:=rs.get (show ys[i]?=some ys[i] by simp[hi'])
   obtain⟨y',ey,r2⟩:=rv.get ev
   rw[hy] at ey
   cases ey
   refine⟨ys[i],by simp[hi'],?_⟩
   have hc:=hall ys[i] (List.getElem_mem hi')
   rw[ZU] at hc
   obtain⟨b,hb⟩:=Option.isSome_iff_exists.mp hc.1
   have:=aby I 60 (A:=X.A.in1) (jI hc.2) (by rw[units_in1];omega) r1 rx r2 ru hb
   rw[hb]
   cases b<;>exact this
  classical
  refine⟨fun y=>decide (∃ (i:Nat) (c:Dt),its[i]?=some y/\ys[i]?=some c/\isT (yM c d)=true),fun y hy=>?_,?_⟩
  ·dsimp only
   by_cases q:∃ (i:Nat) (c:Dt),its[i]?=some y/\ys[i]?=some c/\isT (yM c d)=true
   ·rw[qV q]
    obtain⟨i,c,h1,h2,h3⟩:=q
    obtain⟨c',e1,e2⟩:=at_ i y h1
    rw[h2] at e1
    cases e1
    rw[h3] at e2
    exact e2
   ·rw[qk q]
    obtain⟨i,hi,ei⟩:=ja hy
    have h1:its[i]?=some y:=by rw[zD hi,ei]
    obtain⟨c,e1,e2⟩:=at_ i y h1
    have:isT (yM c d)=false:=by
     cases hq:isT (yM c d) with
     |false=>rfl
     |true=>exact absurd ⟨i,c,h1,e1,hq⟩ q
    rw[this] at e2
    exact e2
  ·rw[<-hk,KI,kg,kg]
   constructor
   ·rintro⟨y,hy,h⟩
    obtain⟨i,c,h1,h2,h3⟩:=jI h
    exact⟨c,QE h2,h3⟩
   ·rintro⟨c,hc,h3⟩
    obtain⟨i,hi,ei⟩:=ja hc
    have hl:=rv.length
    have hl2:=rs.length
    have hi':i < its.length:=by omega
    exact⟨its[i],List.getElem_mem hi',qV ⟨i,c,by simp[hi'],by rw[zD hi,ei],h3⟩⟩
 ·cases hk
theorem aaC (hu:X.A.units+100 < cLine):Mu X (compareOp .NotIn) Xx:=by
 intro pins s σ H x y v u Q I rx ry h
 obtain⟨a,b,c,ra,rb,e,q⟩:=h
 unfold Xx at e
 split at e
 ·rename_i d
  obtain⟨ys,ey,e⟩:=bind_some e
  obtain⟨k,ek,e⟩:=bind_some e
  cases e
  obtain⟨p,vs,rfl,sq,rs⟩:=Kv rb ey
  cases ry
  rcases sq with sq|sq
  ·obtain⟨its,r',pl,hz⟩:=I.list sq
   obtain⟨f,f1,f2⟩:=Xy I hu ra rx rs r' ek
   refine SeqAt.notIn_listAt f pl.isList (fun w hw=>f1 w (by simpa using hw)) ⟨.bl (!k),H,I,by rw[show its.toArray.any f=its.any f by simp,f2];rfl,q _ H (Same.refl H) trivial (by simp only[bw,Rep])⟩
  ·obtain⟨its,r',pl,hz⟩:=I.tuple sq
   obtain⟨f,f1,f2⟩:=Xy I hu ra rx rs r' ek
   refine SeqAt.notIn_tupleAt f pl (fun w hw=>f1 w (by simpa using hw)) ⟨.bl (!k),H,I,by rw[show its.toArray.any f=its.any f by simp,f2];rfl,q _ H (Same.refl H) trivial (by simp only[bw,Rep])⟩
 ·cases e
end
section
variable {X:Cx} {g:Ev->Option Out} {st:List Stmt} {i:Nat}
def adE (i:Nat) (ρ:Ev):Option Ev:=match ρ[i]? with
 |some (some (.o ds))=>some (ρ.set i (some (.z (.lst ds))))
 |_=>none
def fzG (i:Nat) (g:Ev->Option Out):Ev->Option Out:=fun ρ=>(adE i ρ).bind g
theorem adF (h:T3 X st g):T3 X st (fzG i g):=by
 intro pins s σ H D I q
 obtain⟨H0,ρ,r,E,e,f⟩:=q
 obtain⟨ρ',e1,e2⟩:=bind_some e
 unfold adE at e1
 split at e1
 ·rename_i ds hr
  cases e1
  obtain⟨v,hv,a,vs,rfl,ha,rs⟩:=E.val i _ hr
  obtain⟨o,I2⟩:=xP I ha
  have kp:Kp H (upd H a (.n8 o (.lst vs))):=.lst ha
  refine h pins s σ _ D I2 ⟨H0,_,r,E.acV hr rfl hv kp ?_,e2,f⟩
  simp only[bw,Rep]
  exact⟨a,vs,rfl,.inl ⟨o,aU⟩,rs.kp kp⟩
 ·cases e1
theorem adG (h:Uo X st g):Uo X st (fzG i g):=⟨adF h.run⟩
end
open AutoSeq1 (wpAny_loadPart')
open SeqAt
section
variable {X:Cx} {pins:List (Addr×Obj)} {σ:L2.St} {H:Hp} {s:Shared}
end
section
variable {X:Cx} {o e:Expr} {fo fx:Ev->Option Bx}
end
section
variable {X:Cx} {c:Expr} {body:List Stmt} {t:Ev->Option Bool} {g:Ev->Option Out} {pos:Pos}
end
section
variable {X:Cx} {pins:List (Addr×Obj)} {σ:L2.St} {H:Hp} {s:Shared} {h':Heap}
theorem aaD {t':Nat} {e it:Addr} {xs:List V} (I:L2.Inv X pins σ H s) (k:∀ b o,b≠e->b≠it->s.heap.get? b=some o->h'.get? b=some o) (fe:tB X pins H e) (fi:tB X pins H it)
  (he:∃ o,h'.get? e=some o) (hi:∃ o,h'.get? it=some o) (new:fu X.prog X.w (upd H s.heap.objs.size (.tup xs)) h' s.heap.objs.size (.tup xs)):L2.Inv X pins σ (upd H s.heap.objs.size (.tup xs)) { s with heap:=h',toks:=t' }:=by
 have hf:H s.heap.objs.size=none:=I.hok.fresh (zk _)
 have nd:∀ b u,H b=some u->b≠s.heap.objs.size:=fun b u q z=>by rw[z,hf] at q;cases q
 have ne:∀ b u,H b=some u->b≠e/\b≠it:=fun b u q=>⟨fun z=>(by rw[z,fe.1] at q;cases q),fun z=>(by rw[z,fi.1] at q;cases q)⟩
 have nc:∀ b,b∉[e,it]->b≠e/\b≠it:=fun b hb=>⟨fun z=>hb (by simp[z]),fun z=>hb (by simp[z])⟩
 refine I.step (g':=s.gens) (d':=s.drawn) (ch:=[e,it]) (fun b hb=>?_) (fun b o _ _ hc q _=>k b o (nc b hc).1 (nc b hc).2 q) (fun b o _ _ hc q _=>⟨o.slots,k b o (nc b hc).1 (nc b hc).2 q⟩) (fun b o _ q n=>?_)
  (fun b o hc q=>⟨o,k b o (nc b hc).1 (nc b hc).2 q⟩) (fun b ys q=>?_) (fun b o u q=>?_) (fun b ps q=>⟨#[],?_⟩) (fun m hm=>?_) (fun b u q=>?_) I.bare
 ·rcases List.mem_cons.mp hb with rfl|hb
  ·exact⟨fe.2.2.2.1,fe.2.1,fe.2.2.2.2.1,fe.2.2.2.2.2⟩
  ·cases List.mem_singleton.mp hb
   exact⟨fi.2.2.2.1,fi.2.1,fi.2.2.2.2.1,fi.2.2.2.2.2⟩
 ·rw[aG (zI (zz q))];exact n
 ·rw[aG (nd b _ q)];exact q
 ·rw[aG (nd b _ q)];exact q
 ·rw[aG (nd b _ q),q];simp
 ·obtain⟨o,es,ep,ho,r⟩:=hm
  exact⟨o,es,ep,k _ o (kM fe.2.1) (kM fi.2.1) ho,r⟩
 ·by_cases hb:b=s.heap.objs.size
  ·subst hb
   rw[aU] at q;cases q
   exact new
  ·rw[aG hb] at q
   refine (I.hok b u q).stay (fun c v hc w=>k c v ?_ ?_ w) (fun c w=>?_) fun c ys w=>?_
   ·rcases hc with rfl|z
    ·exact (ne _ _ q).1
    ·exact (ne _ _ z).1
   ·rcases hc with rfl|z
    ·exact (ne _ _ q).2
    ·exact (ne _ _ z).2
   ·rw[aG (nd c _ w)];exact w
   ·rw[aG (nd c _ w)];exact w
end
def Ite (K:FG_) (l:Addr):It:=
 ⟨fun i H=>∃ xs x,rE K H l xs/\xs[i]?=some x,fun i H v H'=>∃ p x,H p=none/\(∀ xs,rE K H l xs->xs[i]?=some x)/\v=.ref p/\H'=upd H p (.tup [.int i,x]),fun i H=>∃ xs,rE K H l xs/\xs.length<=i⟩
theorem Vg {P:Program} {w:World} {K:FG_} {elts:List Expr} {x1:Nat} {tpos:Pos} (l e it:Addr) (hne:e≠it) :
  Turn P w K (.Tuple elts x1 tpos) (Ite K l) [e,it] e (fun i h=>(∃ old,IsEnum h e it i old)/\h.IsListIter it l i) where
 mem:=by simp
 obj:=fun i h st b hb=>by
  obtain⟨⟨old,h1⟩,o,h2,_,h3⟩:=st
  rcases List.mem_cons.mp hb with rfl|hb
  ·exact⟨_,h1,fun v z=>by cases z⟩
  ·cases List.mem_singleton.mp hb
   exact⟨o,h2,fun v z=>by rw[h3] at z;cases z⟩
 keep:=fun i h h' st k=>by
  obtain⟨⟨old,h1⟩,h2⟩:=st
  exact⟨⟨old,k e (by simp) _ h1⟩,h2.at fun o q=>k it (by simp) o q⟩
 item:=by
  intro X hP hw hK hc i pins s σ H E I hf st hg
  subst hP hw hK
  obtain⟨⟨old,h1⟩,h2⟩:=st
  obtain⟨xs,x,hq,hx⟩:=hg
  obtain⟨its,rv,p,hz⟩:=I.list hq
  obtain⟨u,hu,ru⟩:=rv.get hx
  have fe:=hf e (by simp)
  have fi:=hf it (by simp)
  refine wpAny_pyNext_enum_item h1 h2 p.isList (x:=u) (by simpa using hu) hne fun h1' ho hit' hT hsz hk=>⟨_,rfl,?_⟩
  refine wpAny_letOwnedTupleGo_enum ho fun h2' afJ hsb=>?_
  have elt:e < s.heap.objs.size:=zz h1
  have ilt:it < s.heap.objs.size:=by obtain⟨_,q,_⟩:=h2;exact zz q
  have hT2:h2'.get? s.heap.objs.size=some { cls:=.type "tuple", data:=.seq #[.int i s.toks,u] }:=(hsb.2 _ (kA elt)).trans hT
  have hit2:h2'.IsListIter it l (i+1):=hit'.at fun o q=>(hsb.2 it (kM hne)).trans q
  refine⟨.ref s.heap.objs.size,upd H s.heap.objs.size (.tup [.int i,x]),aaD (t':=s.toks+1) I (fun b o n1 n2 q=>(hsb.2 b n1).trans (hk b o n1 n2 q)) fe fi ⟨_,afJ⟩ (by obtain⟨o,q,_⟩:=hit2;exact⟨o,q⟩) ?_,rfl,⟨_,x,I.hok.fresh (zk _),fun ys hy=>by rw[I.Dq hy hq];exact hx,rfl,rfl⟩,⟨⟨_,by simpa using afJ⟩,hit2⟩,fun b hb=>?_⟩
  ·exact⟨by show 2<=sizeLine;decide,[.int i s.toks,u],.cons ⟨_,rfl⟩ (.cons ru .nil),_,hT2,rfl,⟨_,rfl⟩,rfl⟩
  ·rcases List.mem_cons.mp hb with rfl|hb
   ·rw[aG (zI elt)];exact fe.1
   ·cases List.mem_singleton.mp hb
    rw[aG (zI ilt)];exact fi.1
 done:=by
  intro X hP hw hK hc i pins s σ H E I hf st hg
  subst hP hw hK
  obtain⟨⟨old,h1⟩,h2⟩:=st
  obtain⟨xs,hq,hx⟩:=hg
  obtain⟨its,rv,p,hz⟩:=I.list hq
  obtain⟨f0,f1,f2,f3,f4,f5⟩:=hf it (by simp)
  have hl:=rv.length
  exact wpAny_pyNext_enum_end (I.ok.hd hc) h1 h2 p.isList (by simp;omega) fun h' eb=>⟨rfl,I.turned (t':=s.toks) (fun b o hb e=>eb b o hb e) f0 f1 f3 f4 f5⟩
 self:=fun _ _ _ _ _ st h=>by
  obtain⟨⟨old,h1⟩,_⟩:=st
  exact wpAny_pyIter_enum h1 h
def Bv (ds:List Dt):List Dt:=(List.range ds.length).zipWith (fun k d=>.tup [.int (k:Nat),d]) ds
theorem Jy (ds:List Dt):(Bv ds).length=ds.length:=by simp[Bv]
theorem Vh {ds:List Dt} {i:Nat} {d:Dt} (h:(Bv ds)[i]?=some d):∃ c,ds[i]?=some c/\d=.tup [.int (i:Nat),c]:=by
 have hi:i < ds.length:=by
  have:=(List.getElem?_eq_some_iff.mp h).1
  rwa [Jy] at this
 refine⟨ds[i],by simp[hi],?_⟩
 unfold Bv at h
 rw[Kj] at h
 simp[hi] at h
 exact h.symm
theorem Yields.enum {K:FG_} {Hs:Hp} {l:Addr} {vs:List V} {ds:List Dt} (h:rE K Hs l vs) (r:aJ K Hs ds vs):Yields K (Ite K l) (Bv ds) Hs:=fun i H s=>by
 have h':=s.seq h
 have r':=r.kp (.of s)
 refine⟨fun d e=>?_,fun e=>⟨vs,h',by rw[Jy] at e;rw[r.length];exact e⟩⟩
 obtain⟨c,ec,rfl⟩:=Vh e
 obtain⟨v,ev,rv⟩:=r'.get ec
 refine⟨⟨vs,v,h',ev⟩,fun x H' y=>?_⟩
 obtain⟨p,x0,hp,hq,rfl,rfl⟩:=y
 have:=hq vs h'
 rw[ev] at this;cases this
 have sm:Same H (upd H p (.tup [.int (i:Nat),v])):=fun b o q=>by rw[aG (cL q hp)];exact q
 refine⟨sm,?_⟩
 simp only[Rep]
 exact⟨p,_,rfl,.inl (.inl aU),aJ.cons (by simp only[Rep]) (aJ.cons (Rep.kp (.of sm) rv) aJ.nil)⟩
section
variable {X:Cx} {elts:List Expr} {x1:Nat} {tpos p pos:Pos} {e:Expr} {fs:Ev->Option (List Bx)}
def iEn (K:FG_) (ta:TA):TI:=fun σ H R=>ta σ H fun vs H1=>∃ l,vs=[.ref l]/\(∃ xs,rE K H1 l xs)/\R (Ite K l) H1
theorem aaE {ta:TA} (hg:Gl X "enumerate") (hm:X.mg "enumerate" = none) (ha:PA X [e] ta) (hs:starEach [e] X.env=[(false,eval e X.env)]:=by rfl):PI X (.Tuple elts x1 tpos) (.Call (.Name "enumerate" p) [e] [] pos) (iEn X.K ta):=by
 intro pins s σ H R I h
 refine Call_ (Dp I hg hm boot_enumerate (PyProof.Rows.callWith_type1 (j9 (ha pos pins s σ H _ I h) fun us s1 ⟨vs,H1,I1,r1,q1⟩=>?_) hs rfl))
 obtain⟨l,rfl,⟨xs,hq⟩,q⟩:=q1
 obtain⟨u,rfl,ru⟩:=vals1 r1
 cases ru
 obtain⟨its,rv,p,hz⟩:=I1.list hq
 refine call_enumerate_list p.isList fun h' he hit hsz hk=>?_
 refine wpAny_pyIter_enum he ?_
 refine⟨s1.heap.objs.size+1,[s1.heap.objs.size+1,s1.heap.objs.size],_,_,H1,rfl,I1.kept (t':=s1.toks) hk,Vg l _ _ (kA (qf _)),⟨⟨_,he⟩,hit⟩,fun b hb=>?_,q⟩
 rcases List.mem_cons.mp hb with rfl|hb
 ·exact I1.T4 (kF _) (I1.hok.fresh (kF _))
 ·cases List.mem_singleton.mp hb
  exact I1.T4 (zk _) (I1.hok.fresh (zk _))
def NP:List Bx->Option (List Dt)
 |[b]=>(rW b).bind fun ds=>some (Bv ds)
 |_=>none
theorem Xz (hg:Gl X "enumerate") (hm:X.mg "enumerate" = none) (ha:PVs X [e] fs) (hs:starEach [e] X.env=[(false,eval e X.env)]:=by rfl):PIC X (.Tuple elts x1 tpos) (.Call (.Name "enumerate" p) [e] [] pos) (fun ρ=>(fs ρ).bind NP):=fun pins s σ H R I q=>by
 refine aaE hg hm ha hs pins s σ H R I ?_
 obtain⟨H0,ρ,ds,E,e,q⟩:=q
 obtain⟨bs,eb,e⟩:=bind_some e
 refine⟨H0,ρ,bs,E,eb,fun vs H1 s1 r1=>?_⟩
 unfold NP at e
 split at e
 ·rename_i b
  obtain⟨ds',ed,e⟩:=bind_some e
  cases e
  obtain⟨v,rfl,rb⟩:=rep1 r1
  obtain⟨a,ws,rfl,sq,rs⟩:=rb.Ji ed
  exact⟨a,rfl,⟨ws,sq⟩,q _ _ s1 (.enum sq rs)⟩
 ·cases e
theorem XC (hg:Gl X "enumerate") (hm:X.mg "enumerate" = none) (ha:Vt X [e] fs) (hs:starEach [e] X.env=[(false,eval e X.env)]:=by rfl):QIC X (.Tuple elts x1 tpos) (.Call (.Name "enumerate" p) [e] [] pos) (fun ρ=>(fs ρ).bind NP):=⟨Xz hg hm ha.run hs⟩
end
section
variable {X:Cx} {e:Expr} {f:Ev->Option Bx} {pos:Pos}
end
section
variable {X:Cx} {e:Expr} {f:Ev->Option Bx} {pos:Pos}
end
section
variable {X:Cx}
end
section
variable {X:Cx} {e:Expr} {f:Ev->Option Bx} {pos:Pos}
end
section
variable {X:Cx} {e ek ev:Expr} {f fk fv:Ev->Option Bx} {pos:Pos} {st:Stmt}
end
section
variable {X:Cx} {e st:Expr} {f fs:Ev->Option Bx} {pos p2:Pos}
end
section
variable {prog:Program} {w:World} {A:Around} {E:VP_} {s:Shared}
end
section
variable {prog:Program} {w:World} {A:Around} {E:VP_} {s:Shared}
end
section
variable {prog:Program} {w:World} {A:Around} {E:VP_} {s:Shared}
theorem ad {a b:Nat} (h:a≠b):@Ne Addr a b:=h
end
section
variable {prog:Program} {w:World} {A:Around} {E:VP_} {s:Shared}
end
section
variable {prog:Program} {w:World} {A:Around} {E:VP_} {s:Shared}
end
section
variable {prog:Program} {w:World} {A:Around} {E:VP_} {s:Shared} {K:Type} [DecidableEq K] {knd:KeyKind prog w K}
end
section
variable {prog:Program} {w:World} {A:Around} {E:VP_} {s:Shared} {K:Type} [DecidableEq K] {knd:KeyKind prog w K}
end
section
variable {X:Cx} {ea eb:Expr} {fa fb:Ev->Option Bx} {p1 p2 pos1 pos2:Pos}
end
section
variable {X:Cx}
end
theorem uP {X:Cx} {scope:Scope} {cl:List (Str×Addr)} (xs:LS_) (is:List Nat) (clos:closureFor scope X.env=pure cl:=by with_unfolding_all rfl) (kind:scope.kind=.function:=by rfl) (cell:scope.names.all (fun y=>decide (y.2≠.cell)||(cl.lookup y.1).isNone)=true:=by rfl)
  (names:scope.names.all (fun y=>decide (y.2=.local->scope.names.lookup y.1=some .local))=true:=by decide +kernel) (sub:SubL X.env.cells cl:=by repeat (first|exact trivial|refine⟨rfl,?_⟩))
  (has:(relabel scope X.env).names.all (fun y=>!(y.2==.cell||y.2==.free)||(cl.lookup y.1).isSome||scope.names.contains (y.1,.cell))=true:=by rfl) (cap:Hq X scope cl xs is:=by repeat (first|exact adi|refine Z2 rfl (by first|exact .inl rfl|exact .inr rfl) (by first|exact .inl rfl|exact .inr rfl) ⟨_,rfl⟩ ?_)):rH X scope cl xs is:=adk clos kind cell names sub has cap
theorem sO {N ps:LS_} {sc:Scope} (h1:sc.kind=.function:=by rfl) (h2:sc.isCoroutine=false:=by rfl) (h3:sc.isGenerator=false:=by rfl) (h4:N.Nodup:=by decide +kernel) (h5:N.take ps.length=ps:=by rfl) (h6:∀ x∈ps,sc.names.lookup x=some .local\/sc.names.lookup x=some .cell:=by decide +kernel) (h7:∀ y∈sc.names,y.2≠.free:=by decide +kernel):bU N ps sc:=⟨h1,h2,h3,h4,h5,h6,h7⟩
instance:Inhabited Dt:=⟨.non⟩
theorem bnd {α β:Type} (a:α) (f:α->Option β):(some a).bind f=f a:=(Option.bind_some a f).trans (Eq.refl _)
def hold:Option Prop->Prop
 |none=>True
 |some p=>p
def aY:Option Prop->Option Prop->Option Prop
 |none,q=>q
 |some p,none=>some p
 |some p,some q=>some (p/\q)
def Cm (c:Prop):Option Prop->Option Prop
 |none=>none
 |some p=>some (c->p)
theorem au {p q:Option Prop} (h:hold (aY p q)):hold p/\hold q:=by
 cases p with
 |none=>exact⟨trivial,h⟩
 |some p=>cases q with
  |none=>exact⟨h,trivial⟩
  |some q=>exact h
theorem mL {c:Prop} {p:Option Prop} (h:hold (Cm c p)) (hc:c):hold p:=by
 cases p with
 |none=>trivial
 |some p=>exact h hc
structure R {α β:Type} (f:Ev->Option β) (ρ:Ev) (c:α->β) where
 v:α
 D:Option Prop
 ok:hold D->f ρ=some (c v)
abbrev zE {α:Type} (e:α->Dt):α->Bx:=fun a=>.z (e a)
abbrev oE {α:Type} (e:α->Dt):List α->Bx:=fun xs=>.o (xs.map e)
abbrev lE {α:Type} (e:α->Dt):List α->Bx:=fun xs=>.l (xs.map e)
abbrev tE:Bool->Bool:=fun b=>b
abbrev iE {α:Type} (e:α->Dt):List α->List Dt:=fun xs=>xs.map e
abbrev eI:Int->Dt:=Dt.int
abbrev eB:Bool->Dt:=Dt.bl
abbrev eS:Str->Dt:=Dt.str
abbrev eL {α:Type} (e:α->Dt):List α->Dt:=fun xs=>.lst (xs.map e)
abbrev eT {α:Type} (e:α->Dt):List α->Dt:=fun xs=>.tup (xs.map e)
abbrev eO {α:Type} (e:α->Dt):Option α->Dt:=fun o=>match o with|none=>.non|some a=>e a
abbrev eP1 {α:Type} (a:α->Dt):α->Dt:=fun x=>.tup [a x]
abbrev Vz {α β:Type} (a:α->Dt) (b:β->Dt):α×β->Dt:=fun x=>.tup [a x.1,b x.2]
abbrev eP3 {α β γ:Type} (a:α->Dt) (b:β->Dt) (c:γ->Dt):α×β×γ->Dt:=fun x=>.tup [a x.1,b x.2.1,c x.2.2]
abbrev eP4 {α β γ δ:Type} (a:α->Dt) (b:β->Dt) (c:γ->Dt) (d:δ->Dt):α×β×γ×δ->Dt:=fun x=>.tup [a x.1,b x.2.1,c x.2.2.1,d x.2.2.2]
structure RL {α:Type} (f:Ev->Option Bx) (ρ:Ev) (e:α->Dt) where
 v:List α
 D:Option Prop
 b:Bx
 lk:rW b=some (v.map e)
 ok:hold D->f ρ=some b
section
variable {α β γ δ:Type} {ρ:Ev} {f fa fb fc:Ev->Option Bx} {fs:Ev->Option (List Bx)} {e:α->Dt} {e':β->Dt}
def ju (a:R f ρ (oE e)):RL f ρ e:=⟨a.v,a.D,_,rfl,a.ok⟩
def jz (a:R f ρ (lE e)):RL f ρ e:=⟨a.v,a.D,_,rfl,a.ok⟩
def qt (a:R f ρ (zE (eL e))):RL f ρ e:=⟨a.v,a.D,_,rfl,a.ok⟩
def Lp (b:Bx) (ds:List Dt):Prop:=b=.z (.lst ds)\/b=.l ds
theorem Lp.Ji {b:Bx} {ds:List Dt} (h:Lp b ds):rW b=some ds:=by rcases h with rfl|rfl<;>rfl
theorem Lp.get {b:Bx} {ds:List Dt} {i:Nat} (h:Lp b ds) (hi:ρ[i]?=some (some b)):z6 ρ i=some b:=by
 rcases h with rfl|rfl<;>(unfold z6;rw[hi])
theorem Lp.lend {b:Bx} {ds:List Dt} (h:Lp b ds):P1.lend b=b:=by rcases h with rfl|rfl<;>rfl
theorem sS {b:Bx} {ds:List Dt} (h:rW b=some ds):Lp (P1.lend b) ds:=by
 cases b with
 |z d=>cases d<;>cases h;exact .inl rfl
 |l d=>cases h;exact .inr rfl
 |o d=>cases h;exact .inr rfl
 |n d=>cases h
 |m d _=>cases h
def aq (i:Nat) (c:α->Bx) (a:α) (h:z6 ρ i=some (c a)):R (gv i) ρ c:=⟨a,none,fun _=>h⟩
def gR (i:Nat) (e:α->Dt) (a:List α) {b:Bx} (h:Lp b (a.map e)) (hi:ρ[i]?=some (some b)):RL (gv i) ρ e:=⟨a,none,b,h.Ji,fun _=>h.get hi⟩
def aP (d:Dt) (e:α->Dt) (a:α) (h:d=e a):R (cB d) ρ (zE e):=⟨a,none,fun _=>by rw[h];rfl⟩
def yc (a:R f ρ (oE e)):R (b1 uR f) ρ (zE (eL e)):=⟨a.v,a.D,fun h=>by simp only[b1,a.ok h,bnd,uR]⟩
def vJ (a:R f ρ (zE e)):R (b1 uR f) ρ (zE e):=⟨a.v,a.D,fun h=>by simp only[b1,a.ok h,bnd,uR]⟩
def j8 (a:R fa ρ (zE eI)) (b:R fb ρ (zE eI)):R (b2 gZ fa fb) ρ (zE eI):=⟨a.v+b.v,aY a.D b.D,fun h=>by
 obtain⟨h1,h2⟩:=au h
 simp only[b2,a.ok h1,b.ok h2,bnd,gZ]⟩
def NQ (a:R fa ρ (zE eI)) (b:R fb ρ (zE eI)):R (b2 subB fa fb) ρ (zE eI):=⟨a.v - b.v,aY a.D b.D,fun h=>by
 obtain⟨h1,h2⟩:=au h
 simp only[b2,a.ok h1,b.ok h2,bnd,i2]⟩
def Mul (a b:Int):Prop:=(-18446744073709551616 < a/\a < 18446744073709551616)\/(-18446744073709551616 < b/\b < 18446744073709551616)
def XD (a:R fa ρ (zE eI)) (b:R fb ρ (zE eI)):R (b2 xR fa fb) ρ (zE eI):=⟨a.v * b.v,aY (aY a.D b.D) (some (Mul a.v b.v)),fun h=>by
 obtain⟨h,h3⟩:=au h
 obtain⟨h1,h2⟩:=au h
 simp only[b2,a.ok h1,b.ok h2,bnd]
 exact zo h3⟩
def QX (n:Int) (hn : -18446744073709551616 < n/\n < 18446744073709551616) (b:R fb ρ (zE eI)):R (b2 xR (cB (.int n)) fb) ρ (zE eI):=⟨n * b.v,b.D,fun h=>by
 simp only[b2,b.ok h,bnd,cB]
 exact zo (.inl hn)⟩
def Tf (a:R fa ρ (zE eI)) (n:Int) (hn : -18446744073709551616 < n/\n < 18446744073709551616):R (b2 xR fa (cB (.int n))) ρ (zE eI):=⟨a.v * n,a.D,fun h=>by
 simp only[b2,a.ok h,bnd,cB]
 exact zo (.inr hn)⟩
def XF (a:R fa ρ (zE eI)) (b:R fb ρ (zE eI)):R (b2 yO fa fb) ρ (zE eI):=⟨a.v / b.v,aY (aY a.D b.D) (some (0 < b.v/\b.v < 1073741824)),fun h=>by
 obtain⟨h,h3⟩:=au h
 obtain⟨h1,h2⟩:=au h
 have h3:0 < b.v/\b.v < 1073741824:=h3
 simp only[b2,a.ok h1,b.ok h2,bnd,i2,zo h3]⟩
def Dd (a:R fa ρ (zE eI)) (n:Int) (hn:0 < n/\n < 1073741824):R (b2 yO fa (cB (.int n))) ρ (zE eI):=⟨a.v / n,a.D,fun h=>by
 simp only[b2,a.ok h,bnd,i2,cB,zo hn]⟩
def Fe (a:R fa ρ (zE eI)) (b:R fb ρ (zE eI)):R (b2 jk fa fb) ρ (zE eI):=⟨a.v % b.v,aY (aY a.D b.D) (some (0 < b.v)),fun h=>by
 obtain⟨h,h3⟩:=au h
 obtain⟨h1,h2⟩:=au h
 have h3:0 < b.v:=h3
 simp only[b2,a.ok h1,b.ok h2,bnd,i2,zo h3]⟩
def dU (a:R fa ρ (zE eI)) (n:Int) (hn:0 < n):R (b2 jk fa (cB (.int n))) ρ (zE eI):=⟨a.v % n,a.D,fun h=>by
 simp only[b2,a.ok h,bnd,i2,cB,zo hn]⟩
def adI (a b:Int) (n:Nat) (h:0<=b/\b<=1000/\a.natAbs < 18446744073709551616) (hb:b.toNat=n):R (b2 ac5 (cB (.int a)) (cB (.int b))) ρ (zE eI):=⟨a ^ n,none,fun _=>by
 simp only[b2,bnd,cB]
 show ((if 0<=b/\b<=1000/\a.natAbs < 2 ^ 64 then some (Dt.int (a ^ b.toNat)) else none).bind fun d=>some (Bx.z d))=_
 rw[zo h,hb]
 rfl⟩
def afK (a:R fa ρ (zE eI)) (b:R fb ρ (zE eI)):R (b2 gtB fa fb) ρ (zE eB):=⟨decide (b.v < a.v),aY a.D b.D,fun h=>by
 obtain⟨h1,h2⟩:=au h
 simp only[b2,a.ok h1,b.ok h2,bnd,i2]⟩
def x_ge (a:R fa ρ (zE eI)) (b:R fb ρ (zE eI)):R (b2 geB fa fb) ρ (zE eB):=⟨decide (b.v<=a.v),aY a.D b.D,fun h=>by
 obtain⟨h1,h2⟩:=au h
 simp only[b2,a.ok h1,b.ok h2,bnd,i2]⟩
def abH (a:R fa ρ (zE eI)) (b:R fb ρ (zE eI)):R (b2 ltA fa fb) ρ (zE eB):=⟨decide (a.v < b.v),aY a.D b.D,fun h=>by
 obtain⟨h1,h2⟩:=au h
 simp only[b2,a.ok h1,b.ok h2,bnd,ltA]⟩
def XH (x y:Str):Bool:=decide (x.cps.toList < y.cps.toList)
end
class Eqs {α:Type} [DecidableEq α] (e:α->Dt) (n:outParam Nat):Prop where
 eq:∀ a b,yM (e a) (e b)=some (decide (a=b))
 dp:∀ a,wR (e a)<=n
class Non {α:Type} (e:α->Dt):Prop where
 l:∀ a,yM .non (e a)=some false
 r:∀ a,yM (e a) .non=some false
instance:Eqs eI 1:=⟨fun a b=>rfl,fun a=>by simp[wR]⟩
instance:Eqs eB 1:=⟨fun a b=>rfl,fun a=>by simp[wR]⟩
instance:Eqs eS 1:=⟨fun a b=>rfl,fun a=>by simp[wR]⟩
instance:Non eI:=⟨fun a=>rfl,fun a=>rfl⟩
instance:Non eB:=⟨fun a=>rfl,fun a=>rfl⟩
instance:Non eS:=⟨fun a=>rfl,fun a=>rfl⟩
section
variable {α β γ δ:Type} [DecidableEq α] [DecidableEq β] [DecidableEq γ] [DecidableEq δ] {e:α->Dt} {e':β->Dt} {e'':γ->Dt} {e3:δ->Dt} {n m k l:Nat}
theorem Fg [Eqs e n]:∀ xs ys:List α,mZ (xs.map e) (ys.map e)=some (decide (xs=ys))
 |[],[]=>by simp[mZ]
 |[],y::ys=>by simp[mZ]
 |x::xs,[]=>by simp[mZ]
 |x::xs,y::ys=>by
  simp only[zl,mZ,Eqs.eq,Fg xs ys]
  congr 1
  by_cases h:x=y<;>by_cases h':xs=ys<;>simp[h,h']
theorem Fi [Eqs e n]:∀ xs:List α,uZ (xs.map e)<=n
 |[]=>by simp[uZ]
 |x::xs=>by
  have:=Eqs.dp (e:=e) x
  have:=Fi xs
  simp only[zl,uZ]
  omega
instance [Eqs e n]:Eqs (eL e) (n+1):=⟨fun a b=>Fg a b,fun a=>by simp only[wR];have:=Fi (e:=e) a;omega⟩
instance [Eqs e n]:Eqs (eT e) (n+1):=⟨fun a b=>Fg a b,fun a=>by simp only[wR];have:=Fi (e:=e) a;omega⟩
instance:Non (eL e):=⟨fun a=>rfl,fun a=>rfl⟩
instance:Non (eT e):=⟨fun a=>rfl,fun a=>rfl⟩
instance:Non (eP1 e):=⟨fun a=>rfl,fun a=>rfl⟩
instance:Non (Vz e e'):=⟨fun a=>rfl,fun a=>rfl⟩
instance:Non (eP3 e e' e''):=⟨fun a=>rfl,fun a=>rfl⟩
instance:Non (eP4 e e' e'' e3):=⟨fun a=>rfl,fun a=>rfl⟩
instance [Eqs e n]:Eqs (eP1 e) (n+1):=⟨fun a b=>by
 simp only[CN,mZ,Eqs.eq,Kx],fun a=>by
 have:=Eqs.dp (e:=e) a
 simp only[wR,uZ];omega⟩
instance [Eqs e n] [Eqs e' m]:Eqs (Vz e e') (max n m+1):=⟨fun a b=>by
 obtain⟨a,a'⟩:=a;obtain⟨b,b'⟩:=b
 simp only[CN,mZ,Eqs.eq,Prod.mk.injEq,Bool.decide_and,Kx],fun a=>by
 have:=Eqs.dp (e:=e) a.1;have:=Eqs.dp (e:=e') a.2
 simp only[wR,uZ];omega⟩
instance [Eqs e n] [Eqs e' m] [Eqs e'' k]:Eqs (eP3 e e' e'') (max n (max m k)+1):=⟨fun a b=>by
 obtain⟨a,a',a2⟩:=a;obtain⟨b,b',b2⟩:=b
 simp only[CN,mZ,Eqs.eq,Prod.mk.injEq,Bool.decide_and,Kx],fun a=>by
 have:=Eqs.dp (e:=e) a.1;have:=Eqs.dp (e:=e') a.2.1;have:=Eqs.dp (e:=e'') a.2.2
 simp only[wR,uZ];omega⟩
instance [Eqs e n] [Eqs e' m] [Eqs e'' k] [Eqs e3 l]:Eqs (eP4 e e' e'' e3) (max n (max m (max k l))+1):=⟨fun a b=>by
 obtain⟨a,a',a2,a3⟩:=a;obtain⟨b,b',b2,b3⟩:=b
 simp only[CN,mZ,Eqs.eq,Prod.mk.injEq,Bool.decide_and,Kx],fun a=>by
 have:=Eqs.dp (e:=e) a.1;have:=Eqs.dp (e:=e') a.2.1;have:=Eqs.dp (e:=e'') a.2.2.1;have:=Eqs.dp (e:=e3) a.2.2.2
 simp only[wR,uZ];omega⟩
instance [Eqs e n] [Non e]:Eqs (eO e) (n+1):=⟨fun a b=>by
 cases a with
 |none=>cases b with
  |none=>exact rfl
  |some b=>exact (Non.l (e:=e) b).trans (by simp)
 |some a=>cases b with
  |none=>exact (Non.r (e:=e) a).trans (by simp)
  |some b=>exact (Eqs.eq (e:=e) a b).trans (by simp),fun a=>by
 cases a with
 |none=>show wR .non<=n+1;simp[wR]
 |some a=>exact Nat.le_succ_of_le (Eqs.dp (e:=e) a)⟩
end
section
variable {α β γ δ:Type} {ρ:Ev} {f fa fb fc:Ev->Option Bx} {p q:Ev->Option Bool} {fs:Ev->Option (List Bx)} {e:α->Dt} {e':β->Dt}
def x_eq [DecidableEq α] {n:Nat} [Eqs e n] (hn:n<=100) (a:R fa ρ (zE e)) (b:R fb ρ (zE e)):R (b2 eqB fa fb) ρ (zE eB):=⟨decide (a.v=b.v),aY a.D b.D,fun h=>by
 obtain⟨h1,h2⟩:=au h
 have:=Eqs.dp (e:=e) a.v
 simp only[b2,a.ok h1,b.ok h2,bnd,eqB,sE,toD,zr,or_self,ZN,Eqs.eq]
 rw[zo (by omega)]⟩
def XJ [DecidableEq α] {n:Nat} [Eqs e n] (hn:n<=100) (a:R fa ρ (zE e)) (b:R fb ρ (zE e)):R (b2 Ut fa fb) ρ (zE eB):=⟨!decide (a.v=b.v),aY a.D b.D,fun h=>by
 obtain⟨h1,h2⟩:=au h
 have:=Eqs.dp (e:=e) a.v
 simp only[b2,a.ok h1,b.ok h2,bnd,Ut,sE,toD,zr,or_self,ZN,Eqs.eq]
 rw[zo (by omega)]⟩
theorem qX {b:Bx} {ds:List Dt} (h:rW b=some ds):toD b=.lst ds/\sE b=false:=by
 cases b with
 |z d=>cases d<;>cases h;exact⟨rfl,rfl⟩
 |l d=>cases h;exact⟨rfl,rfl⟩
 |o d=>cases h;exact⟨rfl,rfl⟩
 |n d=>cases h
 |m d _=>cases h
def afL [DecidableEq α] {n:Nat} [Eqs e n] (hn:n+1<=100) (a:RL fa ρ e) (b:RL fb ρ e):R (b2 eqB fa fb) ρ (zE eB):=⟨decide (a.v=b.v),aY a.D b.D,fun h=>by
 obtain⟨h1,h2⟩:=au h
 have:=Eqs.dp (e:=eL e) a.v
 simp only[b2,a.ok h1,b.ok h2,bnd,eqB,(qX a.lk).1,(qX a.lk).2,(qX b.lk).1,(qX b.lk).2,zr,or_self,ZN]
 have e1:=Eqs.eq (e:=eL e) a.v b.v
 rw[zo (Zl (Nat.min_le_left _ _) (Zl (Eqs.dp (e:=eL e) a.v) hn)),e1,bnd]⟩
def XM [DecidableEq α] {n:Nat} [Eqs e n] (hn:n+1<=100) (a:RL fa ρ e) (b:RL fb ρ e):R (b2 Ut fa fb) ρ (zE eB):=⟨!decide (a.v=b.v),aY a.D b.D,fun h=>by
 obtain⟨h1,h2⟩:=au h
 simp only[b2,a.ok h1,b.ok h2,bnd,Ut,(qX a.lk).1,(qX a.lk).2,(qX b.lk).1,(qX b.lk).2,zr,or_self,ZN]
 have e1:=Eqs.eq (e:=eL e) a.v b.v
 rw[zo (Zl (Nat.min_le_left _ _) (Zl (Eqs.dp (e:=eL e) a.v) hn)),e1,bnd]⟩
def afM (a:R fa ρ (zE eB)) (b:R fb ρ (zE eB)):R (ZC fa fb) ρ (zE eB):=⟨a.v&&b.v,aY a.D (Cm (a.v=true) b.D),fun h=>by
 obtain⟨h1,h2⟩:=au h
 simp only[ZC,a.ok h1,bnd,Qf]
 cases hv:a.v with
 |true=>simp only[QN,Bool.true_and];exact b.ok (mL h2 hv)
 |false=>simp only[zr,ZN,Bool.false_and]⟩
def adJ (a:R fa ρ (zE eB)):R (tV fa) ρ tE:=⟨a.v,a.D,fun h=>by simp only[tV,a.ok h,bnd,Uk]⟩
def abI (a:RL fa ρ e):R (tV fa) ρ tE:=⟨!a.v.isEmpty,a.D,fun h=>by
 have:Uk a.b=some (!(a.v.map e).isEmpty):=by
  have:=a.lk
  generalize a.v.map e=ds at this
  revert this
  generalize a.b=b
  intro this
  cases b with
  |z d=>cases d<;>cases this;rfl
  |l d=>cases this;rfl
  |o d=>cases this;rfl
  |n d=>cases this
  |m d _=>cases this
 simp only[tV,a.ok h,bnd,this,List.isEmpty_map]⟩
def fJ {g:Bx->Bx->Option Bx} (a:R (b2 g fa fb) ρ (zE eB)):R (Ci g fa fb) ρ tE:=⟨a.v,a.D,fun h=>by simp only[Ci,a.ok h,bnd,Qf]⟩
def abJ (a:R p ρ tE) (b:R q ρ tE):R (Wb p q) ρ tE:=⟨a.v&&b.v,aY a.D (Cm (a.v=true) b.D),fun h=>by
 obtain⟨h1,h2⟩:=au h
 simp only[Wb,a.ok h1,bnd]
 cases hv:a.v with
 |true=>simp only[QN,Bool.true_and];exact b.ok (mL h2 hv)
 |false=>simp only[zr,ZN,Bool.false_and]⟩
def XQ (a:R p ρ tE) (b:R q ρ tE):R (Zx p q) ρ tE:=⟨a.v||b.v,aY a.D (Cm (a.v=false) b.D),fun h=>by
 obtain⟨h1,h2⟩:=au h
 simp only[Zx,a.ok h1,bnd]
 cases hv:a.v with
 |true=>simp only[QN,Bool.true_or]
 |false=>simp only[zr,ZN,Bool.false_or];exact b.ok (mL h2 hv)⟩
def XR (a:R p ρ tE):R (Ul p) ρ tE:=⟨!a.v,a.D,fun h=>by simp only[Ul,a.ok h,bnd]⟩
end
section
variable {α β γ δ ε:Type} {ρ:Ev} {f fa fb fc fd:Ev->Option Bx} {p q:Ev->Option Bool} {fs:Ev->Option (List Bx)} {e:α->Dt} {e':β->Dt} {e'':γ->Dt} {e3:δ->Dt}
def KQ (a:R fa ρ (zE e)) (b:R fb ρ (zE e')) (c:R fc ρ (zE e'')):R (bM kh (ao fa (ao fb (ao fc aD)))) ρ (zE (eP3 e e' e'')):=⟨(a.v,b.v,c.v),aY a.D (aY b.D c.D),fun h=>by
 obtain⟨h1,h⟩:=au h
 obtain⟨h2,h3⟩:=au h
 simp only[bM,ao,aD,a.ok h1,b.ok h2,c.ok h3,bnd];rfl⟩
def Fj (a:R fa ρ (zE e)) (b:R fb ρ (zE e')) (c:R fc ρ (zE e'')) (d:R fd ρ (zE e3)):R (bM kh (ao fa (ao fb (ao fc (ao fd aD))))) ρ (zE (eP4 e e' e'' e3)):=⟨(a.v,b.v,c.v,d.v),aY a.D (aY b.D (aY c.D d.D)),fun h=>by
 obtain⟨h1,h⟩:=au h
 obtain⟨h2,h⟩:=au h
 obtain⟨h3,h4⟩:=au h
 simp only[bM,ao,aD,a.ok h1,b.ok h2,c.ok h3,d.ok h4,bnd];rfl⟩
def cM (e:α->Dt):R aD ρ (fun xs:List α=>xs.map (zE e)):=⟨[],none,fun _=>rfl⟩
def aW (a:R fa ρ (zE e)) (t:R fs ρ (fun xs:List α=>xs.map (zE e))):R (ao fa fs) ρ (fun xs:List α=>xs.map (zE e)):=⟨a.v::t.v,aY a.D t.D,fun h=>by
 obtain⟨h1,h2⟩:=au h
 simp only[ao,a.ok h1,t.ok h2,bnd,zl]⟩
theorem Fl:∀ xs:List α,J8 (xs.map (zE e))=some (xs.map e)
 |[]=>rfl
 |x::xs=>by simp only[zl,J8,Fl xs,bnd]
def jr (t:R fs ρ (fun xs:List α=>xs.map (zE e))) (hl:t.v.length<=1000):R (bM jx fs) ρ (oE e):=⟨t.v,t.D,fun h=>by
 simp only[bM,t.ok h,bnd,jx,zi,zo hl,Fl]⟩
def Al (t:R fs ρ (fun xs:List α=>xs.map (zE e))) (hl:t.v.length<=1000):R (bM kh fs) ρ (zE (eT e)):=⟨t.v,t.D,fun h=>by
 simp only[bM,t.ok h,bnd,kh,zi,zo hl,Fl]⟩
def at' [Inhabited α] (xs:List α) (i:Int):α:=(Hi xs i).getD default
def In (n:Nat) (i:Int):Prop:=-(n:Int)<=i/\i < n
theorem KR {xs:List α} {i:Int} (h:In xs.length i):∃ x,Hi xs i=some x:=by
 obtain⟨h1,h2⟩:=h
 unfold Hi ixN
 by_cases h0:0<=i
 ·rw[zo h0,zo h2]
  exact⟨xs[i.toNat]'(by omega),zD (by omega)⟩
 ·rw[zv h0,zo h1]
  exact⟨xs[(i+xs.length).toNat]'(by omega),zD (by omega)⟩
theorem adK {xs:List α} {i:Int} {x:α} (h:Hi xs i=some x):Hi (xs.map e) i=some (e x):=by
 unfold Hi at h ⊢
 rw[zi]
 obtain⟨j,ej,h⟩:=bind_some h
 rw[ej,bnd,zS,h]
 rfl
theorem XS [Inhabited α] {xs:List α} {i:Int} (h:In xs.length i):Hi (xs.map e) i=some (e (at' xs i)):=by
 obtain⟨x,hx⟩:=KR h
 rw[adK hx]
 unfold at'
 rw[hx]
 rfl
theorem aaF {b:Bx} {ds:List Dt} {i:Int} (h:rW b=some ds):kJ b (.z (.int i))=(Hi ds i).bind fun d=>some (.z d):=by
 cases b with
 |z d=>cases d<;>cases h;rfl
 |l d=>cases h;rfl
 |o d=>cases h;rfl
 |n d=>cases h
 |m d _=>cases h
def jN [Inhabited α] (a:RL fa ρ e) (b:R fb ρ (zE eI)):R (b2 kJ fa fb) ρ (zE e):=⟨at' a.v b.v,aY (aY a.D b.D) (some (In a.v.length b.v)),fun h=>by
 obtain⟨h,h3⟩:=au h
 obtain⟨h1,h2⟩:=au h
 simp only[b2,a.ok h1,b.ok h2,bnd,aaF a.lk,XS (show In a.v.length b.v from h3)]⟩
def afN [Inhabited α] (a:R fa ρ (zE (eT e))) (b:R fb ρ (zE eI)):R (b2 kJ fa fb) ρ (zE e):=⟨at' a.v b.v,aY (aY a.D b.D) (some (In a.v.length b.v)),fun h=>by
 obtain⟨h,h3⟩:=au h
 obtain⟨h1,h2⟩:=au h
 simp only[b2,a.ok h1,b.ok h2,bnd,kJ,xT,XS (show In a.v.length b.v from h3)]⟩
def ch (x:Str) (i:Int):Str:=⟨#[(Hi x.cps.toList i).getD 0]⟩
def Fo (a:R fa ρ (zE eS)) (b:R fb ρ (zE eI)):R (b2 kJ fa fb) ρ (zE eS):=⟨ch a.v b.v,aY (aY a.D b.D) (some (In a.v.length b.v)),fun h=>by
 obtain⟨h,h3⟩:=au h
 obtain⟨h1,h2⟩:=au h
 obtain⟨x,hx⟩:=KR (xs:=a.v.cps.toList) (i:=b.v) (show In a.v.length b.v from h3)
 simp only[b2,a.ok h1,b.ok h2,bnd,kJ,hx,ch,Option.getD_some]⟩
def Bw (a:R fa ρ (zE e)) (g:α->β) (e':β->Dt) (i:Int) (h:∀ x,kJ (.z (e x)) (.z (.int i))=some (.z (e' (g x)))):R (b2 kJ fa (cB (.int i))) ρ (zE e'):=⟨g a.v,a.D,fun hd=>by
 simp only[b2,a.ok hd,bnd,cB,h]⟩
def KY (a:R fa ρ (zE e)) (g:α->β) (e':β->Dt) (i:Int) (h:∀ x,kJ (.z (e x)) (.z (.int (-i)))=some (.z (e' (g x)))):R (b2 kJ fa (b1 Uu (cB (.int i)))) ρ (zE e'):=⟨g a.v,a.D,fun hd=>by
 simp only[b2,b1,a.ok hd,bnd,cB,Uu,h]⟩
def cut (xs:List α) (lo hi:Option Int):List α:=(xs.drop (HT.jw xs.length 0 lo)).take (HT.jw xs.length xs.length hi - HT.jw xs.length 0 lo)
theorem aaG (xs:List α) (lo hi:Option Int):cutD (xs.map e) lo hi=(cut xs lo hi).map e:=by
 unfold cutD cut
 rw[zi,List.map_take,List.map_drop]
abbrev pE:Option Int->Option Int:=fun o=>o
def QZ:R m7 ρ pE:=⟨none,none,fun _=>rfl⟩
def KZ (a:R fa ρ (zE eI)):R (mX fa) ρ pE:=⟨some a.v,a.D,fun h=>by simp only[mX,a.ok h,bnd,adb]⟩
variable {fl fh:Ev->Option (Option Int)}
theorem aaH {b:Bx} {ds:List Dt} {lo hi:Option Int} (h:rW b=some ds):slB b lo hi=some (.o (cutD ds lo hi)):=by
 cases b with
 |z d=>cases d<;>cases h;rfl
 |l d=>cases h;rfl
 |o d=>cases h;rfl
 |n d=>cases h
 |m d _=>cases h
def adL (a:RL fa ρ e) (l:R fl ρ pE) (u:R fh ρ pE):R (Mh fa fl fh) ρ (oE e):=⟨cut a.v l.v u.v,aY a.D (aY l.D u.D),fun h=>by
 obtain⟨h1,h⟩:=au h
 obtain⟨h2,h3⟩:=au h
 simp only[Mh,a.ok h1,l.ok h2,u.ok h3,bnd,aaH a.lk,aaG]⟩
def NT (a:R fa ρ (zE eS)) (l:R fl ρ pE) (u:R fh ρ pE):R (Mh fa fl fh) ρ (zE eS):=⟨Txt.slice a.v l.v u.v,aY a.D (aY l.D u.D),fun h=>by
 obtain⟨h1,h⟩:=au h
 obtain⟨h2,h3⟩:=au h
 simp only[Mh,a.ok h1,l.ok h2,u.ok h3,bnd,slB]⟩
def NZ (n:Nat):Prop:=n<=1000000
def X3 (a:R fa ρ (zE eS)) (b:R fb ρ (zE eS)):R (b2 gZ fa fb) ρ (zE eS):=⟨a.v++b.v,aY (aY a.D b.D) (some (NZ (a.v.length+b.v.length))),fun h=>by
 obtain⟨h,h3⟩:=au h
 obtain⟨h1,h2⟩:=au h
 simp only[b2,a.ok h1,b.ok h2,bnd,gZ,zo (show a.v.length+b.v.length<=Uv from h3)]⟩
theorem X4 {b b':Bx} {ds ds':List Dt} (h:rW b=some ds) (h':rW b'=some ds') (hl:ds.length+ds'.length<=Uv):gZ b b'=some (.o (ds++ds')):=by
 cases b with
 |z d=>
  cases d<;>cases h
  cases b' with
  |z d'=>cases d'<;>cases h';exact zo hl
  |l d'=>cases h';exact zo hl
  |o d'=>cases h';exact zo hl
  |n d'=>cases h'
  |m d'=>cases h'
 |l d=>
  cases h
  cases b' with
  |z d'=>cases d'<;>cases h';exact zo hl
  |l d'=>cases h';exact zo hl
  |o d'=>cases h';exact zo hl
  |n d'=>cases h'
  |m d'=>cases h'
 |o d=>
  cases h
  cases b' with
  |z d'=>cases d'<;>cases h';exact zo hl
  |l d'=>cases h';exact zo hl
  |o d'=>cases h';exact zo hl
  |n d'=>cases h'
  |m d'=>cases h'
 |n d=>cases h
 |m d _=>cases h
def Am (a:RL fa ρ e) (b:RL fb ρ e):R (b2 gZ fa fb) ρ (oE e):=⟨a.v++b.v,aY (aY a.D b.D) (some (NZ (a.v.length+b.v.length))),fun h=>by
 obtain⟨h,h3⟩:=au h
 obtain⟨h1,h2⟩:=au h
 simp only[b2,a.ok h1,b.ok h2,bnd]
 rw[X4 a.lk b.lk (by rw[zi,zi];exact h3)]
 simp only[oE,ZE]⟩
def adM (a:R fa ρ (zE eS)) (b:R fb ρ (zE eI)):R (b2 xR fa fb) ρ (zE eS):=⟨Txt.mul a.v b.v,aY (aY a.D b.D) (some (b.v<=1000 ∧ -1000<=b.v/\a.v.length<=1000)),fun h=>by
 obtain⟨h,h3⟩:=au h
 obtain⟨h1,h2⟩:=au h
 simp only[b2,a.ok h1,b.ok h2,bnd]
 exact zo h3⟩
theorem X5 {b:Bx} {ds:List Dt} (h:rW b=some ds):uO [b]=some (.z (.int ds.length)):=by
 cases b with
 |z d=>cases d<;>cases h;rfl
 |l d=>cases h;rfl
 |o d=>cases h;rfl
 |n d=>cases h
 |m d _=>cases h
theorem N5 {b:Bx} {ds:List Dt} (h:rW b=some ds):xT b=some ds:=by
 cases b with
 |z d=>cases d<;>cases h;rfl
 |l d=>cases h;rfl
 |o d=>cases h;rfl
 |n d=>cases h
 |m d _=>cases h
def x_len (a:RL fa ρ e):R (bM uO (ao fa aD)) ρ (zE eI):=⟨(a.v.length:Int),a.D,fun h=>by
 simp only[bM,ao,aD,a.ok h,bnd,X5 a.lk,zi]⟩
def Q0 (a:R fa ρ (zE (eT e))):R (bM uO (ao fa aD)) ρ (zE eI):=⟨(a.v.length:Int),a.D,fun h=>by
 simp only[bM,ao,aD,a.ok h,bnd,uO,xT,zi]⟩
def adN (a:R fa ρ (zE eS)):R (bM uO (ao fa aD)) ρ (zE eI):=⟨(a.v.length:Int),a.D,fun h=>by
 simp only[bM,ao,aD,a.ok h,bnd,uO]⟩
def qY (a:RL fa ρ e):R (bM lD (ao fa aD)) ρ (zE (eT e)):=⟨a.v,a.D,fun h=>by
 simp only[bM,ao,aD,a.ok h,bnd,lD,N5 a.lk]⟩
def X6 (a:RL fa ρ e):R (bM Jo (ao fa aD)) ρ (oE e):=⟨a.v,a.D,fun h=>by
 simp only[bM,ao,aD,a.ok h,bnd,Jo,N5 a.lk]⟩
def afO (a:R fa ρ (zE eI)):R (bM Wz (ao fa aD)) ρ (zE eI):=⟨if a.v < 0 then -a.v else a.v,a.D,fun h=>by
 simp only[bM,ao,aD,a.ok h,bnd,Wz]⟩
def adO (a:R fa ρ (zE eB)):R (bM WD (ao fa aD)) ρ (zE eI):=⟨if a.v=true then 1 else 0,a.D,fun h=>by
 simp only[bM,ao,aD,a.ok h,bnd,WD]⟩
def Fp (a:R fa ρ (zE eI)) (b:R fb ρ (zE eI)):R (bM Ed (ao fa (ao fb aD))) ρ (zE eI):=⟨if b.v > a.v then b.v else a.v,aY a.D b.D,fun h=>by
 obtain⟨h1,h2⟩:=au h
 simp only[bM,ao,aD,a.ok h1,b.ok h2,bnd,Ed]⟩
def abK (a:R fa ρ (zE eI)) (b:R fb ρ (zE eI)):R (bM Uy (ao fa (ao fb aD))) ρ (zE eI):=⟨if b.v < a.v then b.v else a.v,aY a.D b.D,fun h=>by
 obtain⟨h1,h2⟩:=au h
 simp only[bM,ao,aD,a.ok h1,b.ok h2,bnd,Uy]⟩
def abL (P:Dt->Bool) (a:R fa ρ (zE e)):R (Sg P fa) ρ (zE eB):=⟨P (e a.v),a.D,fun h=>by
 simp only[Sg,b1,a.ok h,bnd,sE,toD,zr,ZN]⟩
theorem strs_map:∀ l:LS_,Ea (l.map eS)=some l
 |[]=>rfl
 |a::l=>by simp only[zl,Ea,strs_map l,bnd]
def adP (s:Str) (a:RL fa ρ eS):R (b1 (M5 s) fa) ρ (zE eS):=⟨Txt.join s a.v,aY a.D (some ((a.v.map (·.length)).sum+a.v.length * s.length<=100000)),fun h=>by
 obtain⟨h,h4⟩:=au h
 simp only[b1,a.ok h,bnd,M5,a.lk,strs_map]
 exact zo h4⟩
def Dg (a:RL fa ρ eS):R (bM Bo (ao fa aD)) ρ (oE eS):=⟨fB a.v,aY a.D (some (a.v.length < 64)),fun h=>by
 obtain⟨h,h4⟩:=au h
 simp only[bM,ao,aD,a.ok h,bnd,Bo,a.lk,strs_map]
 exact zo h4⟩
class Flat {α:Type} (e:α->Dt):Prop where
 f:∀ a,yP (e a)=true
instance:Flat eI:=⟨fun _=>rfl⟩
instance:Flat eB:=⟨fun _=>rfl⟩
instance:Flat eS:=⟨fun _=>rfl⟩
theorem N6 [DecidableEq α] {n:Nat} [Eqs e n] [Flat e] (x:α) (ys:List α):memD (e x) (ys.map e)=some (decide (x∈ys)):=by
 unfold memD
 rw[zo ⟨Flat.f x,by rw[List.all_map];exact List.all_eq_true.mpr fun y _=>Flat.f y⟩,KO]
 congr 1
 rw[KI,kg,decide_eq_true_iff]
 constructor
 ·rintro⟨y,hy,h⟩
  simp only[Function.comp,Eqs.eq] at h
  by_cases e1:y=x
  ·rw[<-e1];exact hy
  ·simp only[e1,kz] at h
   cases h
 ·intro h
  exact⟨x,h,by simp only[Function.comp,Eqs.eq,KA]⟩
theorem aaI {b:Bx} {d:Dt} {ds:List Dt} (h:rW b=some ds):inB (.z d) b=memD d ds:=by
 cases b with
 |z d'=>cases d'<;>cases h;cases d<;>rfl
 |l d'=>cases h;cases d<;>rfl
 |o d'=>cases h;cases d<;>rfl
 |n d'=>cases h
 |m d'=>cases h
theorem aaJ {d:Dt} {ds:List Dt}:inB (.z d) (.z (.tup ds))=memD d ds:=by cases d<;>rfl
def aaK [DecidableEq α] {n:Nat} [Eqs e n] [Flat e] (a:R fa ρ (zE e)) (b:RL fb ρ e):R (b2 inF fa fb) ρ (zE eB):=⟨decide (a.v∈b.v),aY a.D b.D,fun h=>by
 obtain⟨h1,h2⟩:=au h
 simp only[b2,a.ok h1,b.ok h2,bnd,inF,aaI b.lk,N6]⟩
def Tg [DecidableEq α] {n:Nat} [Eqs e n] [Flat e] (a:R fa ρ (zE e)) (b:R fb ρ (zE (eT e))):R (b2 inF fa fb) ρ (zE eB):=⟨decide (a.v∈b.v),aY a.D b.D,fun h=>by
 obtain⟨h1,h2⟩:=au h
 simp only[b2,a.ok h1,b.ok h2,bnd,inF,aaJ,N6]⟩
end
structure AR {γ:Type} (cA:γ->List Bx->Prop) (fs:Ev->Option (List Bx)) (ρ:Ev) where
 v:γ
 D:Option Prop
 bs:List Bx
 h:cA v bs
 ok:hold D->fs ρ=some bs
section
variable {α β γ δ ε σ:Type} {ρ:Ev} {f fa fb fc fd:Ev->Option Bx} {p q:Ev->Option Bool} {fs:Ev->Option (List Bx)} {e:α->Dt} {e':β->Dt} {e'':γ->Dt} {e3:δ->Dt}
def aN:Unit->List Bx->Prop:=fun _ bs=>bs=[]
def aZ (e:α->Dt) (t:γ->List Bx->Prop):α×γ->List Bx->Prop:=fun x bs=>∃ r,bs=.z (e x.1)::r/\t x.2 r
def aL (e:α->Dt) (t:γ->List Bx->Prop):List α×γ->List Bx->Prop:=fun x bs=>∃ b r,bs=b::r/\rW b=some (x.1.map e)/\t x.2 r
def cI:AR aN aD ρ:=⟨(),none,[],rfl,fun _=>rfl⟩
def gC {t:γ->List Bx->Prop} (a:R fa ρ (zE e)) (r:AR t fs ρ):AR (aZ e t) (ao fa fs) ρ:=⟨(a.v,r.v),aY a.D r.D,_,⟨_,rfl,r.h⟩,fun h=>by
 obtain⟨h1,h2⟩:=au h
 simp only[ao,a.ok h1,r.ok h2,bnd]⟩
def tX {t:γ->List Bx->Prop} (a:RL fa ρ e) (r:AR t fs ρ):AR (aL e t) (ao fa fs) ρ:=⟨(a.v,r.v),aY a.D r.D,_,⟨_,_,rfl,a.lk,r.h⟩,fun h=>by
 obtain⟨h1,h2⟩:=au h
 simp only[ao,a.ok h1,r.ok h2,bnd]⟩
def x_call {cA:γ->List Bx->Prop} {F:List Bx->Option Bx} {n:Nat} {c:α->Bx} {T:γ->α} {Df:γ->Option Prop} (S:∀ v bs,cA v bs->bs.length=n/\(hold (Df v)->F (bs.map lend)=some (c (T v)))) (a:AR cA fs ρ):R (cZ n F fs) ρ c:=⟨T a.v,aY a.D (Df a.v),fun h=>by
 obtain⟨h1,h2⟩:=au h
 obtain⟨h3,h4⟩:=S a.v a.bs a.h
 simp only[cZ,a.ok h1,bnd,zo h3,h4 h2]⟩
theorem adQ {g:Ev->Option Out} {n:Nat} {bs:List Bx} {c:α->Bx} (x:R g (bs.map some++List.replicate (n - bs.length) none) (fun r=>Out.rt (c r))) (h:hold x.D):iR n g bs=some (c x.v):=by
 unfold iR
 rw[x.ok h]
 rfl
variable {fi:Ev->Option (List Dt)} {gt:Dt->Ev->Option Ev} {fe:Ev->Option Bx} {is:List Nat} {n:Nat}
def X7 (xs:List α) (P:α->Option Prop):Option Prop:=some (∀ x∈xs,hold (P x))
theorem Fq {fs:Ev->Option (List Dt)} {ρ1:Ev} {g:α->List Dt} {π:α->Bool}:∀ xs:List α,(∀ x∈xs,∃ ρ2,gt (e x) ρ1=some ρ2/\p ρ2=some (π x)/\(π x=true->fs ρ2=some (g x)))->z9 gt p fs ρ1 (xs.map e)=some ((xs.filter π).flatMap g)
 |[],_=>rfl
 |x::xs,h=>by
  obtain⟨ρ2,h1,h2,h3⟩:=h x (ze ..)
  have ih:=Fq (g:=g) (π:=π) xs fun y hy=>h y (zh _ hy)
  cases hp:π x with
  |true=>simp only[zl,z9,h1,bnd,h2,hp,QN,h3 hp,ih,yo,ya]
  |false=>simp only[zl,z9,h1,bnd,h2,hp,ih,yo,zr,ZN]
theorem N7 {g:α->β}:∀ xs:List α,xs.flatMap (fun x=>[e' (g x)])=(xs.map g).map e'
 |[]=>rfl
 |x::xs=>by rw[ya,N7 xs];rfl
theorem Ft {ρ1:Ev} {g:α->β} {π:α->Bool} (xs:List α) (h:∀ x∈xs,∃ ρ2,gt (e x) ρ1=some ρ2/\p ρ2=some (π x)/\(π x=true->fe ρ2=some (.z (e' (g x))))):Bk gt p fe ρ1 (xs.map e)=some (((xs.filter π).map g).map e'):=by
 rw[<-N7]
 exact Fq xs fun x hx=>let ⟨ρ2,h1,h2,h3⟩:=h x hx;⟨ρ2,h1,h2,fun hp=>by rw[h3 hp];rfl⟩
theorem comp_map {ρ1:Ev} {g:α->β} (xs:List α) (h:∀ x∈xs,∃ ρ2,gt (e x) ρ1=some ρ2/\fe ρ2=some (.z (e' (g x)))):Bk gt rJ fe ρ1 (xs.map e)=some ((xs.map g).map e'):=
 (Ft (π:=fun _=>true) xs fun x hx=>let ⟨ρ2,h1,h2⟩:=h x hx;⟨ρ2,h1,rfl,fun _=>h2⟩).trans (by rw[List.filter_eq_self.mpr fun _ _=>rfl])
def X8 (it:R fi ρ (iE e)) (ρ2:α->Ev) (hg:∀ x,gt (e x) (kj is ρ++List.replicate n none)=some (ρ2 x)) (b:∀ x,R fe (ρ2 x) (zE e')):R (dW fi gt rJ fe is n) ρ (oE e'):=⟨it.v.map fun x=>(b x).v,aY (aY it.D (some (it.v.length<=100000))) (X7 it.v fun x=>(b x).D),fun h=>by
 obtain⟨h,h3⟩:=au h
 obtain⟨h1,h2⟩:=au h
 have h3:∀ x∈it.v,hold (b x).D:=h3
 simp only[dW,it.ok h1,bnd,zi,zo (show it.v.length<=100000 from h2),comp_map it.v fun x hx=>⟨ρ2 x,hg x,(b x).ok (h3 x hx)⟩]⟩
def pI (it:R fi ρ (iE e)) (ρ2:α->Ev) (hg:∀ x,gt (e x) (kj is ρ++List.replicate n none)=some (ρ2 x)) (b:∀ x,R fe (ρ2 x) (zE e')) (hb:∀ x,(b x).D=none):R (dW fi gt rJ fe is n) ρ (oE e'):=⟨it.v.map fun x=>(b x).v,aY it.D (some (it.v.length<=100000)),fun h=>by
 obtain⟨h1,h2⟩:=au h
 simp only[dW,it.ok h1,bnd,zi,zo (show it.v.length<=100000 from h2),comp_map it.v fun x hx=>⟨ρ2 x,hg x,(b x).ok (by rw[hb x];trivial)⟩]⟩
def Dh (it:R fi ρ (iE e)) (ρ2:α->Ev) (hg:∀ x,gt (e x) (kj is ρ++List.replicate n none)=some (ρ2 x)) (t:∀ x,R p (ρ2 x) tE) (b:∀ x,R fe (ρ2 x) (zE e')):R (dW fi gt p fe is n) ρ (oE e'):=⟨(it.v.filter fun x=>(t x).v).map fun x=>(b x).v,aY (aY it.D (some (it.v.length<=100000))) (X7 it.v fun x=>aY (t x).D (Cm ((t x).v=true) (b x).D)),fun h=>by
 obtain⟨h,h3⟩:=au h
 obtain⟨h1,h2⟩:=au h
 have h3:∀ x∈it.v,hold (aY (t x).D (Cm ((t x).v=true) (b x).D)):=h3
 simp only[dW,it.ok h1,bnd,zi,zo (show it.v.length<=100000 from h2),Ft it.v fun x hx=>⟨ρ2 x,hg x,(t x).ok (au (h3 x hx)).1,fun ht=>(b x).ok (mL (au (h3 x hx)).2 ht)⟩]⟩
def oF (it:R fi ρ (iE e)) (ρ2:α->Ev) (hg:∀ x,gt (e x) (kj is ρ++List.replicate n none)=some (ρ2 x)) (t:∀ x,R p (ρ2 x) tE) (b:∀ x,R fe (ρ2 x) (zE e')) (ht:∀ x,(t x).D=none) (hb:∀ x,(b x).D=none):R (dW fi gt p fe is n) ρ (oE e'):=⟨(it.v.filter fun x=>(t x).v).map fun x=>(b x).v,aY it.D (some (it.v.length<=100000)),fun h=>by
 obtain⟨h1,h2⟩:=au h
 simp only[dW,it.ok h1,bnd,zi,zo (show it.v.length<=100000 from h2),Ft it.v fun x hx=>⟨ρ2 x,hg x,(t x).ok (by rw[ht x];trivial),fun _=>(b x).ok (by rw[hb x];trivial)⟩]⟩
def Hx (a:RL fa ρ e):R (DY fa) ρ (iE e):=⟨a.v,a.D,fun h=>by
 have:Wu a.b=some (a.v.map e):=by
  have:=a.lk
  revert this
  generalize a.b=b
  generalize a.v.map e=ds
  intro this
  cases b with
  |z d=>cases d<;>cases this;rfl
  |l d=>cases this;rfl
  |o d=>cases this;rfl
  |n d=>cases this
  |m d _=>cases this
 simp only[DY,a.ok h,bnd,this]⟩
def K1 (a:R fa ρ (zE (eT e))):R (DY fa) ρ (iE e):=⟨a.v,a.D,fun h=>by simp only[DY,a.ok h,bnd,Wu]⟩
def chars (x:Str):LS_:=x.cps.toList.map fun c=>⟨#[c]⟩
theorem Fv (x:Str):signs x=(chars x).map eS:=by
 unfold signs chars
 rw[Zp]
 rfl
def ahI (a:R fa ρ (zE eS)):R (DY fa) ρ (iE eS):=⟨chars a.v,a.D,fun h=>by simp only[DY,a.ok h,bnd,Wu,Fv]⟩
def aaL (a:R fa ρ (oE e)):R (WK fa) ρ (iE e):=⟨a.v,a.D,fun h=>by simp only[WK,a.ok h,bnd,Wj]⟩
def ahJ (a:R fa ρ (zE (eT e))):R (WK fa) ρ (iE e):=⟨a.v,a.D,fun h=>by simp only[WK,a.ok h,bnd,Wj]⟩
def rng (i:Int) (n:Nat):List Int:=(List.range n).map fun k:Nat=>i+(k:Int)
theorem Ti (i:Int) (n:Nat):Ka i n=(rng i n).map eI:=by
 unfold Ka rng
 rw[Zp]
 rfl
def Rg (j:Int):Prop:=-4611686018427387904<=j/\j < 4611686018427387904
def Jz (a:R fa ρ (zE eI)):R (Pq (ao fa aD)) ρ (iE eI):=⟨rng 0 a.v.toNat,aY a.D (some (Rg a.v)),fun h=>by
 obtain⟨h,h4⟩:=au h
 simp only[Pq,ao,aD,a.ok h,bnd]
 show (if -(2 ^ 62)<=a.v/\a.v < 2 ^ 62 then some (Ka 0 a.v.toNat) else none)=_
 exact (zo h4).trans (by rw[Ti])⟩
def adR (n:Int) (m:Nat) (hm:n.toNat=m) (hn:Rg n):R (Pq (ao (cB (.int n)) aD)) ρ (iE eI):=⟨rng 0 m,none,fun _=>by
 simp only[Pq,ao,aD,bnd,cB]
 show (if -(2 ^ 62)<=n/\n < 2 ^ 62 then some (Ka 0 n.toNat) else none)=_
 exact (zo hn).trans (by rw[Ti,hm])⟩
end
section
variable {α β γ δ ε σ τ:Type} {ρ:Ev} {f fa fb fc fd:Ev->Option Bx} {p q:Ev->Option Bool} {fs:Ev->Option (List Bx)} {e:α->Dt} {e':β->Dt} {g g1 g2 k:Ev->Option Out} {cO:γ->Out} {gt:Dt->Ev->Option Ev}
theorem nq {ρ':Ev} (h:g1 ρ=some (.nx ρ')):aF g1 k ρ=k ρ':=by
 unfold aF
 rw[h]
 rfl
def cg (x:R (aF g (aF g1 k)) ρ cO):R (aF (aF g g1) k) ρ cO:=⟨x.v,x.D,fun h=>by
 rw[<-x.ok h]
 unfold aF
 cases g ρ with
 |none=>rfl
 |some o=>cases o<;>rfl⟩
def dM (x:R k ρ cO):R (aF mz k) ρ cO:=⟨x.v,x.D,fun h=>x.ok h⟩
def bR {is:List Nat} (x:γ) (h:cO x=.nx (kill is ρ)):R (fH is) ρ cO:=⟨x,none,fun _=>by rw[h];rfl⟩
def jA {c:α->Bx} (inj:α->γ) (a:R f ρ c) (h:∀ x,cO (inj x)=.rt (c x)) (hc:∀ x,Wg (c x)=some (.rt (c x))):R (aF (ni f) k) ρ cO:=⟨inj a.v,a.D,fun hd=>by
 have:ni f ρ=some (.rt (c a.v)):=by unfold ni;rw[a.ok hd,bnd,hc]
 unfold aF
 rw[this,h]
 rfl⟩
def Q5 {c:α->Bx} (i:Nat) (inj:α->γ) (a:α) (hi:ρ[i]?=some (some (c a))) (h:∀ x,cO (inj x)=.rt (c x)) (hc:∀ x,Wg (c x)=some (.rt (c x))):R (aF (Ho i) k) ρ cO:=⟨inj a,none,fun hd=>by
 have:Ho i ρ=some (.rt (c a)):=by unfold Ho;rw[hi];exact hc a
 unfold aF
 rw[this,h]
 rfl⟩
def bK {c:α->Bx} (i:Nat) (a:R f ρ c) (hc:∀ x,Wh ρ i (c x)=some (ρ.set i (some (c x)))) (K:∀ x,R k (ρ.set i (some (c x))) cO):R (aF (setG i f) k) ρ cO:=⟨(K a.v).v,aY a.D (K a.v).D,fun hd=>by
 obtain⟨h1,h2⟩:=au hd
 rw[nq (ρ':=ρ.set i (some (c a.v))) (by unfold setG;rw[a.ok h1,bnd,hc,bnd])]
 exact (K a.v).ok h2⟩
def afP (a:R f ρ (zE e)) (ρ2:α->Ev) (hg:∀ x,gt (e x) ρ=some (ρ2 x)) (K:∀ x,R k (ρ2 x) cO):R (aF (adh gt f) k) ρ cO:=⟨(K a.v).v,aY a.D (K a.v).D,fun hd=>by
 obtain⟨h1,h2⟩:=au hd
 rw[nq (ρ':=ρ2 a.v) (by unfold adh;rw[a.ok h1,bnd];simp only[hg,bnd])]
 exact (K a.v).ok h2⟩
def abM (i j:Nat) (a:R fa ρ (zE e)) (b:R fb ρ (zE e')) (K:∀ x y,R k ((ρ.set i (some (.z (e x)))).set j (some (.z (e' y)))) cO):R (aF (Z1 i j (ao fa (ao fb aD))) k) ρ cO:=⟨(K a.v b.v).v,aY (aY a.D b.D) (K a.v b.v).D,fun hd=>by
 obtain⟨h1,h3⟩:=au hd
 obtain⟨h1,h2⟩:=au h1
 rw[nq (ρ':=(ρ.set i (some (.z (e a.v)))).set j (some (.z (e' b.v)))) (by unfold Z1;simp only[ao,aD,a.ok h1,b.ok h2,bnd,ZJ])]
 exact (K a.v b.v).ok h3⟩
def N8 (i:Nat) (xs:List α) (hi:ρ[i]?=some (some (.o (xs.map e)))) (a:R f ρ (zE e)) (K:∀ ys:List α,R k (ρ.set i (some (.o (ys.map e)))) cO):R (aF (Qp i f) k) ρ cO:=⟨(K (xs++[a.v])).v,aY (aY a.D (some (NZ xs.length))) (K (xs++[a.v])).D,fun hd=>by
 obtain⟨h1,h3⟩:=au hd
 obtain⟨h1,h2⟩:=au h1
 have h2:xs.length<=1000000:=h2
 rw[nq (ρ':=ρ.set i (some (.o ((xs++[a.v]).map e)))) (by
  unfold Qp
  rw[a.ok h1,bnd]
  simp only[ZK,hi,zi,ZE,zl,JU]
  rw[zo (kD h2 (by decide))])]
 exact (K _).ok h3⟩
def Oa (t:R p ρ tE) (a:R (aF g1 k) ρ cO) (b:R (aF g2 k) ρ cO):R (aF (Mz p g1 g2) k) ρ cO:=⟨if t.v=true then a.v else b.v,aY t.D (aY (Cm (t.v=true) a.D) (Cm (t.v=false) b.D)),fun hd=>by
 obtain⟨h1,h2⟩:=au hd
 obtain⟨h2,h3⟩:=au h2
 have e1:∀ c,t.v=c->aF (Mz p g1 g2) k ρ=aF (if c=true then g1 else g2) k ρ:=fun c hc=>by
  unfold aF Mz
  rw[t.ok h1,bnd,hc]
  cases c<;>rfl
 cases hv:t.v with
 |true=>rw[e1 true hv];simp only[QN];exact a.ok (mL h2 hv)
 |false=>rw[e1 false hv];simp only[zr,ZN];exact b.ok (mL h3 hv)⟩
def Fw (E:σ->Ev) (t:R p ρ tE) (a:R g1 ρ (fun s=>Out.nx (E s))) (b:R g2 ρ (fun s=>Out.nx (E s))) (K:∀ s,R k (E s) cO):R (aF (Mz p g1 g2) k) ρ cO:=⟨(K (if t.v=true then a.v else b.v)).v,aY (aY t.D (aY (Cm (t.v=true) a.D) (Cm (t.v=false) b.D))) (K (if t.v=true then a.v else b.v)).D,fun hd=>by
 obtain⟨h,h4⟩:=au hd
 obtain⟨h1,h2⟩:=au h
 obtain⟨h2,h3⟩:=au h2
 rw[nq (ρ':=E (if t.v=true then a.v else b.v)) (by
  unfold Mz
  rw[t.ok h1,bnd]
  cases hv:t.v with
  |true=>simp only[QN];exact a.ok (mL h2 hv)
  |false=>simp only[zr,ZN];exact b.ok (mL h3 hv))]
 exact (K _).ok h4⟩
def qu (step:σ->α->σ) (P:σ->α->Option Prop):List α->σ->Prop
 |[],_=>True
 |x::xs,s=>hold (P s x)/\qu step P xs (step s x)
theorem zp {gb:Ev->Option Out} (E:σ->Ev) (ρ2:σ->α->Ev) (hg:∀ s x,gt (e x) (E s)=some (ρ2 s x)) (body:∀ s x,R gb (ρ2 s x) (fun s=>Out.nx (E s))):∀ (xs:List α) (s:σ),qu (fun s x=>(body s x).v) (fun s x=>(body s x).D) xs s->qQ gt gb (xs.map e) (E s)=some (.nx (E (xs.foldl (fun s x=>(body s x).v) s)))
 |[],s,_=>rfl
 |x::xs,s,h=>by
  simp only[zl,qQ,hg,bnd,(body s x).ok h.1,QI]
  exact zp E ρ2 hg body xs _ h.2
variable {fi:Ev->Option (List Dt)} {gb:Ev->Option Out}
def Fy (E:σ->Ev) (s0:σ) (hE:ρ=E s0) (it:R fi ρ (iE e)) (ρ2:σ->α->Ev) (hg:∀ s x,gt (e x) (E s)=some (ρ2 s x)) (body:∀ s x,R gb (ρ2 s x) (fun s=>Out.nx (E s))) (K:∀ s,R k (E s) cO):R (aF (qm fi gt gb) k) ρ cO:=⟨(K (it.v.foldl (fun s x=>(body s x).v) s0)).v,aY (aY it.D (some (qu (fun s x=>(body s x).v) (fun s x=>(body s x).D) it.v s0))) (K (it.v.foldl (fun s x=>(body s x).v) s0)).D,fun hd=>by
 obtain⟨h,h4⟩:=au hd
 obtain⟨h1,h2⟩:=au h
 rw[nq (ρ':=E (it.v.foldl (fun s x=>(body s x).v) s0)) (by
  unfold qm
  rw[it.ok h1,bnd]
  subst hE
  exact zp E ρ2 hg body it.v s0 h2)]
 exact (K _).ok h4⟩
def adS (E:σ->Ev) (s0:σ) (hE:ρ=E s0) (it:R fi ρ (iE e)) (ρ2:σ->α->Ev) (hg:∀ s x,gt (e x) (E s)=some (ρ2 s x)) (body:∀ s x,R gb (ρ2 s x) (fun s=>Out.nx (E s))) (hb:∀ s x,(body s x).D=none) (K:∀ s,R k (E s) cO):R (aF (qm fi gt gb) k) ρ cO:=⟨(K (it.v.foldl (fun s x=>(body s x).v) s0)).v,aY it.D (K (it.v.foldl (fun s x=>(body s x).v) s0)).D,fun hd=>by
 obtain⟨h1,h4⟩:=au hd
 have h2:∀ (xs:List α) (s:σ),qu (fun s x=>(body s x).v) (fun s x=>(body s x).D) xs s:=fun xs=>by
  induction xs with
  |nil=>intro s;trivial
  |cons x xs ih=>intro s;exact⟨by show hold (body s x).D;rw[hb s x];trivial,ih _⟩
 rw[nq (ρ':=E (it.v.foldl (fun s x=>(body s x).v) s0)) (by
  unfold qm
  rw[it.ok h1,bnd]
  subst hE
  exact zp E ρ2 hg body it.v s0 (h2 _ _))]
 exact (K _).ok h4⟩
inductive wV (σ τ:Type) where
 |nx (s:σ)|rt (r:τ)|bk (s:σ)|ct (s:σ)
def cC (E:σ->Ev) (c:τ->Bx):wV σ τ->Out
 |.nx s=>.nx (E s)
 |.rt r=>.rt (c r)
 |.bk s=>.bk (E s)
 |.ct s=>.ct (E s)
def qw (step:σ->α->wV σ τ):List α->σ->wV σ τ
 |[],s=>.nx s
 |x::xs,s=>match step s x with
  |.nx s'=>qw step xs s'
  |.ct s'=>qw step xs s'
  |.bk s'=>.nx s'
  |.rt r=>.rt r
def wW (step:σ->α->wV σ τ) (P:σ->α->Option Prop):List α->σ->Prop
 |[],_=>True
 |x::xs,s=>hold (P s x)/\match step s x with
  |.nx s'=>wW step P xs s'
  |.ct s'=>wW step P xs s'
  |.bk _=>True
  |.rt _=>True
theorem Di {c:τ->Bx} (E:σ->Ev) (ρ2:σ->α->Ev) (hg:∀ s x,gt (e x) (E s)=some (ρ2 s x)) (body:∀ s x,R gb (ρ2 s x) (cC E c)):∀ (xs:List α) (s:σ),wW (fun s x=>(body s x).v) (fun s x=>(body s x).D) xs s->qQ gt gb (xs.map e) (E s)=some (cC E c (qw (fun s x=>(body s x).v) xs s))
 |[],s,_=>rfl
 |x::xs,s,h=>by
  obtain⟨h1,h2⟩:=h
  dsimp only at h2
  simp only[zl,qQ,hg,bnd,(body s x).ok h1,qw]
  revert h2
  cases (body s x).v with
  |nx s'=>intro h2;exact Di E ρ2 hg body xs s' h2
  |ct s'=>intro h2;exact Di E ρ2 hg body xs s' h2
  |bk s'=>intro _;rfl
  |rt r=>intro _;rfl
theorem zq (step:σ->α->wV σ τ):∀ (xs:List α) (s:σ),(∃ s',qw step xs s=.nx s')\/∃ r,qw step xs s=.rt r
 |[],s=>.inl ⟨s,rfl⟩
 |x::xs,s=>by
  unfold qw
  cases step s x with
  |nx s'=>exact zq step xs s'
  |ct s'=>exact zq step xs s'
  |bk s'=>exact .inl ⟨s',rfl⟩
  |rt r=>exact .inr ⟨r,rfl⟩
def behind (r:wV σ τ) (inj:τ->γ) (K:σ->γ):γ:=match r with
 |.rt r=>inj r
 |.nx s=>K s
 |.bk s=>K s
 |.ct s=>K s
def wH (r:wV σ τ) (K:σ->Prop):Prop:=match r with
 |.rt _=>True
 |.nx s=>K s
 |.bk s=>K s
 |.ct s=>K s
def Tj (r:wV σ τ) (K:σ->Option Prop):Option Prop:=some (wH r fun s=>hold (K s))
def R.to {α β:Type} {f:Ev->Option β} {ρ:Ev} {c:α->β} (x:R f ρ c) (v':α) (D':Option Prop) (hv:x.v=v':=by kernel_rfl) (hD:x.D=D':=by kernel_rfl):R f ρ c:=⟨v',D',fun h=>by
 subst hv hD
 exact x.ok h⟩
def adT {c:τ->Bx} (E:σ->Ev) (s0:σ) (hE:ρ=E s0) (it:R fi ρ (iE e)) (ρ2:σ->α->Ev) (hg:∀ s x,gt (e x) (E s)=some (ρ2 s x)) (body:∀ s x,R gb (ρ2 s x) (cC E c)) (inj:τ->γ) (hj:∀ r,cO (inj r)=.rt (c r)) (K:∀ s,R k (E s) cO):R (aF (qm fi gt gb) k) ρ cO:=⟨behind (qw (fun s x=>(body s x).v) it.v s0) inj fun s=>(K s).v,aY (aY it.D (some (wW (fun s x=>(body s x).v) (fun s x=>(body s x).D) it.v s0))) (Tj (qw (fun s x=>(body s x).v) it.v s0) fun s=>(K s).D),fun hd=>by
 obtain⟨h,h4⟩:=au hd
 obtain⟨h1,h2⟩:=au h
 have e1:qm fi gt gb ρ=some (cC E c (qw (fun s x=>(body s x).v) it.v s0)):=by
  unfold qm
  rw[it.ok h1,bnd]
  subst hE
  exact Di E ρ2 hg body it.v s0 h2
 rcases zq (fun s x=>(body s x).v) it.v s0 with⟨s',es⟩|⟨r,es⟩
 ·rw[es] at e1 h4 ⊢
  rw[nq e1]
  exact (K s').ok h4
 ·rw[es] at e1 ⊢
  show aF (qm fi gt gb) k ρ=some (cO (inj r))
  unfold aF
  rw[e1,hj]
  rfl⟩
theorem adU {i:Nat} {ds:List Dt} (h:ρ[i]?=some (some (.o ds))):qR i gt gb ρ=qQ gt gb ds (ρ.set i (some (.l ds))):=by unfold qR;rw[h]
theorem adV {i:Nat} {ds:List Dt} (h:ρ[i]?=some (some (.l ds))):qR i gt gb ρ=qQ gt gb ds ρ:=by unfold qR;rw[h]
theorem adW {i:Nat} {ds:List Dt} (h:ρ[i]?=some (some (.z (.tup ds)))):qR i gt gb ρ=qQ gt gb ds ρ:=by unfold qR;rw[h];rfl
theorem adX {i:Nat} {ds:List Dt} (h:ρ[i]?=some (some (.z (.lst ds)))):qR i gt gb ρ=qQ gt gb ds ρ:=by unfold qR;rw[h];rfl
theorem Q6 {i:Nat} {ds:List Dt} {b:Bx} (hp:Lp b ds) (h:ρ[i]?=some (some b)):qR i gt gb ρ=qQ gt gb ds ρ:=by
 rcases hp with rfl|rfl
 ·exact adX h
 ·exact adV h
def Q7 (i:Nat) {ρ':Ev} (xs:List α) (hv:qR i gt gb ρ=qQ gt gb (xs.map e) ρ') (E:σ->Ev) (s0:σ) (hE:ρ'=E s0) (ρ2:σ->α->Ev) (hg:∀ s x,gt (e x) (E s)=some (ρ2 s x)) (body:∀ s x,R gb (ρ2 s x) (fun s=>Out.nx (E s))) (K:∀ s,R k (E s) cO):R (aF (qR i gt gb) k) ρ cO:=⟨(K (xs.foldl (fun s x=>(body s x).v) s0)).v,aY (some (qu (fun s x=>(body s x).v) (fun s x=>(body s x).D) xs s0)) (K (xs.foldl (fun s x=>(body s x).v) s0)).D,fun hd=>by
 obtain⟨h2,h4⟩:=au hd
 rw[nq (ρ':=E (xs.foldl (fun s x=>(body s x).v) s0)) (by
  rw[hv,hE]
  exact zp E ρ2 hg body xs s0 h2)]
 exact (K _).ok h4⟩
def Tn {c:τ->Bx} (i:Nat) {ρ':Ev} (xs:List α) (hv:qR i gt gb ρ=qQ gt gb (xs.map e) ρ') (E:σ->Ev) (s0:σ) (hE:ρ'=E s0) (ρ2:σ->α->Ev) (hg:∀ s x,gt (e x) (E s)=some (ρ2 s x)) (body:∀ s x,R gb (ρ2 s x) (cC E c)) (inj:τ->γ) (hj:∀ r,cO (inj r)=.rt (c r)) (K:∀ s,R k (E s) cO):R (aF (qR i gt gb) k) ρ cO:=⟨behind (qw (fun s x=>(body s x).v) xs s0) inj fun s=>(K s).v,aY (some (wW (fun s x=>(body s x).v) (fun s x=>(body s x).D) xs s0)) (Tj (qw (fun s x=>(body s x).v) xs s0) fun s=>(K s).D),fun hd=>by
 obtain⟨h2,h4⟩:=au hd
 have e1:qR i gt gb ρ=some (cC E c (qw (fun s x=>(body s x).v) xs s0)):=by
  rw[hv,hE]
  exact Di E ρ2 hg body xs s0 h2
 rcases zq (fun s x=>(body s x).v) xs s0 with⟨s',es⟩|⟨r,es⟩
 ·rw[es] at e1 h4 ⊢
  rw[nq e1]
  exact (K s').ok h4
 ·rw[es] at e1 ⊢
  show aF (qR i gt gb) k ρ=some (cO (inj r))
  unfold aF
  rw[e1,hj]
  rfl⟩
class Ky {κ:Type} (c:κ->Key):Prop where
 inj:∀ a b,c a=c b->a=b
abbrev kS:Str->Key:=Sum.inr
abbrev kI:Int->Key:=Sum.inl
instance:Ky kS:=⟨fun _ _ h=>by cases h;rfl⟩
instance:Ky kI:=⟨fun _ _ h=>by cases h;rfl⟩
abbrev mE (e:α->Dt):List (Str×α)->Bx:=fun m=>.m (m.map fun q=>(kS q.1,e q.2)) none
abbrev nE (e:α->Dt):List (Str×α)->Bx:=fun m=>.n (m.map fun q=>(kS q.1,e q.2))
section
variable {κ:Type} [DecidableEq κ] {c:κ->Key}
def look [Inhabited α] (m:List (κ×α)) (x:κ):α:=((m.find? fun q=>decide (q.1=x)).map (·.2)).getD default
def has (m:List (κ×α)) (x:κ):Bool:=m.any fun q=>decide (q.1=x)
def put (m:List (κ×α)) (x:κ) (a:α):List (κ×α):=if has m x=true then m.map (fun q=>if q.1=x then (q.1,a) else q) else m++[(x,a)]
theorem abN [Ky c] (a b:κ):decide (c a=c b)=decide (a=b):=by
 by_cases h:a=b
 ·rw[h];simp
 ·rw[qk h,qk fun z=>h (Ky.inj (c:=c) _ _ z)]
theorem Yc [Ky c] (m:List (κ×α)) (x:κ):Ef (m.map fun q=>(c q.1,e q.2)) (c x)=((m.find? fun q=>decide (q.1=x)).map (·.2)).map e:=by
 unfold Ef
 rw[List.find?_map]
 simp only[Option.map_map,Function.comp_def,abN]
theorem Ob [Ky c] [Inhabited α] {m:List (κ×α)} {x:κ} (h:has m x=true):Ef (m.map fun q=>(c q.1,e q.2)) (c x)=some (e (look m x)):=by
 rw[Yc]
 unfold look
 unfold has at h
 rw[kg] at h
 obtain⟨q,hq,hx⟩:=h
 cases hf:m.find? fun q=>decide (q.1=x) with
 |none=>exact absurd hx (by simpa using List.find?_eq_none.mp hf q hq)
 |some q=>rfl
theorem Tp [Ky c] (m:List (κ×α)) (x:κ) (a:α):Kq (m.map fun q=>(c q.1,e q.2)) (c x) (e a)=(put m x a).map fun q=>(c q.1,e q.2):=by
 unfold Kq put has
 rw[KO]
 simp only[Function.comp_def,abN]
 by_cases h:(m.any fun q=>decide (q.1=x))=true
 ·rw[zo h,zo h]
  rw[Zp,Zp]
  refine ZY fun q _=>?_
  simp only[Function.comp]
  by_cases hq:q.1=x
  ·simp[hq]
  ·have h':¬ c q.1=c x:=fun z=>hq (Ky.inj (c:=c) _ _ z)
   simp[hq,h']
 ·rw[zv h,zv h]
  simp
end
theorem Oc:∀ m:List (Str×α),Uz (m.map fun q=>(kS q.1,e q.2))=some (m.map (·.1))
 |[]=>rfl
 |q::m=>by rw[zl,Uz,Oc m,bnd];rfl
def rM [Inhabited α] (a:R fa ρ (nE e)) (b:R fb ρ (zE eS)):R (b2 mY fa fb) ρ (zE e):=⟨look a.v b.v,aY (aY a.D b.D) (some (has a.v b.v=true)),fun h=>by
 obtain⟨h,h3⟩:=au h
 obtain⟨h1,h2⟩:=au h
 simp only[b2,a.ok h1,b.ok h2,bnd,mY,Z7,Ob (c:=kS) (show has a.v b.v=true from h3)]⟩
end
section
variable {α β:Type} {ρ:Ev} {fa f:Ev->Option Bx} {fs:Ev->Option LS_} {fi:Ev->Option (List Dt)} {e:α->Dt}
theorem Dj {b:Bx} {ds:List Dt} (h:rW b=some ds):xT b=some ds:=by
 cases b with
 |z d=>cases d<;>first|exact h|(cases h;done)
 |l _=>exact h
 |o _=>exact h
 |n _=>cases h
 |m _ _=>cases h
theorem abO (n:Nat):∃ m,m=n:=⟨n,rfl⟩
noncomputable def kN (n:Nat):Nat:=Classical.choose (abO n)
theorem abP (n:Nat):kN n=n:=Classical.choose_spec (abO n)
noncomputable def adY (n:Int) (m:Nat) (hm:n.toNat=m) (hn:Rg n):R (Pq (ao (cB (.int n)) aD)) ρ (iE eI):=⟨rng 0 (kN m),none,fun h=>by rw[abP];exact (adR n m hm hn).ok h⟩
end
end P1
end
section
namespace P1
open PySem PySem.Spec PyProof.Rows L2 S1 S6
class qZ {α:Type} (e:α->Dt) where
 k:α->Key
 ok:∀ a,aag (e a)=some (k a)
 inj:∀ a b,k a=k b->a=b
 same:∀ a b,Sv (k a) (k b)=true
instance:qZ eI:=⟨fun i=>.inl i,fun _=>rfl,fun a b h=>by cases h;rfl,fun _ _=>rfl⟩
instance:qZ eS:=⟨fun i=>.inr i,fun _=>rfl,fun a b h=>by cases h;rfl,fun _ _=>rfl⟩
class tY {α:Type} (e:α->Dt) where
 k:α->List Key
 ok:∀ a,Ei (e a)=some (k a)
 inj:∀ a b,k a=k b->a=b
 shp:∀ a b,Ku (k a) (k b)=true
 ne:∀ a,(k a).isEmpty=false
class Yd {α:Type} (e:α->Dt) [tY e]:Prop where
 tx:∀ a,Nv (tY.k e a)=true
section
variable {α β γ δ:Type} {e:α->Dt} {e':β->Dt} {e'':γ->Dt} {e3:δ->Dt}
instance [qZ e] [qZ e']:tY (Vz e e'):=⟨fun q=>[qZ.k e q.1,qZ.k e' q.2],fun q=>by simp only[Ei,Bq,qZ.ok,bnd],fun a b h=>by
 simp only[JS,and_true] at h
 exact Prod.ext (qZ.inj _ _ h.1) (qZ.inj _ _ h.2),fun a b=>by simp[Ku,qZ.same],fun _=>rfl⟩
instance [qZ e] [qZ e'] [qZ e'']:tY (eP3 e e' e''):=⟨fun q=>[qZ.k e q.1,qZ.k e' q.2.1,qZ.k e'' q.2.2],fun q=>by simp only[Ei,Bq,qZ.ok,bnd],fun a b h=>by
 simp only[JS,and_true] at h
 exact Prod.ext (qZ.inj _ _ h.1) (Prod.ext (qZ.inj _ _ h.2.1) (qZ.inj _ _ h.2.2)),fun a b=>by simp[Ku,qZ.same],fun _=>rfl⟩
instance [qZ e] [qZ e'] [qZ e''] [qZ e3]:tY (eP4 e e' e'' e3):=⟨fun q=>[qZ.k e q.1,qZ.k e' q.2.1,qZ.k e'' q.2.2.1,qZ.k e3 q.2.2.2],fun q=>by simp only[Ei,Bq,qZ.ok,bnd],fun a b h=>by
 simp only[JS,and_true] at h
 exact Prod.ext (qZ.inj _ _ h.1) (Prod.ext (qZ.inj _ _ h.2.1) (Prod.ext (qZ.inj _ _ h.2.2.1) (qZ.inj _ _ h.2.2.2))),fun a b=>by simp[Ku,qZ.same],fun _=>rfl⟩
instance [qZ e]:Yd (Vz e eS):=⟨fun a=>by simp[tY.k,Nv,qZ.k]⟩
instance [qZ e] [qZ e']:Yd (eP3 e eS e'):=⟨fun a=>by simp[tY.k,Nv,qZ.k]⟩
instance [qZ e] [qZ e'] [qZ e'']:Yd (eP4 e eS e' e''):=⟨fun a=>by simp[tY.k,Nv,qZ.k]⟩
variable {ρ:Ev} {fa f:Ev->Option Bx} {fs:Ev->Option (List (List Key))}
theorem yd [tY e]:∀ xs:List α,tR (xs.map e)=some (xs.map (tY.k e))
 |[]=>rfl
 |x::xs=>by simp only[zl,tR,tY.ok,bnd,yd xs]
def leT (e:α->Dt) [tY e] (a b:α):Bool:=vD (tY.k e a) (tY.k e b)
def qx (e:α->Dt) [tY e] (xs:List α):List α:=xs.mergeSort (leT e)
theorem lF [tY e] (xs:List α):(qx e xs).Perm xs:=KL ..
theorem Q8 [tY e] (xs:List α):(qx e xs).Pairwise (fun a b=>leT e a b=true):=kL (le:=leT e) (fun a b c=>xX (tY.k e a) (tY.k e b) (tY.k e c)) (fun a b=>xY (tY.k e a) (tY.k e b)) xs
theorem JB [tY e] (xs:List α):mK (xs.map (tY.k e))=(qx e xs).map (tY.k e):=by
 refine (sI ((lF xs).map _) (List.pairwise_map.mpr (Q8 xs))).symm
theorem Ye [tY e] (xs:List α):(xs.map (tY.k e)).map tupK=xs.map e:=by
 rw[Zp]
 exact ZY fun a _=>(Nf (tY.ok a)).symm
theorem Od [tY e] (xs:List α) (h:xs.length < 64):Cj (xs.map (tY.k e))=true:=by
 simp only[Cj,ZU,z5,QY,qS,zi,kP,forall_exists_index,and_imp,forall_apply_eq_imp_iff₂]
 exact⟨h,fun a _=>tY.ne a,fun a _ b _=>tY.shp a b⟩
def adZ [tY e] (a:RL fa ρ e):R (bM rK (ao fa aD)) ρ (oE e):=⟨qx e a.v,aY a.D (some (a.v.length < 64)),fun h=>by
 obtain⟨h,h4⟩:=au h
 simp only[bM,ao,aD,a.ok h,bnd,rK,Dj a.lk,yd,Od a.v h4,QN,JB,Ye]⟩
abbrev uE (e:α->Dt) [tY e]:List α->List (List Key):=fun xs=>xs.map (tY.k e)
def Yg [tY e] [Yd e] (a:RL fa ρ e):R (QK fa) ρ (uE e):=⟨a.v,aY a.D (some (a.v.length<=64)),fun h=>by
 obtain⟨h,h4⟩:=au h
 have h4:a.v.length<=64:=h4
 have ht:(a.v.map (tY.k e)).all Nv=true:=by
  rw[List.all_map,QY];exact fun x _=>Yd.tx x
 simp only[QK,a.ok h,bnd,abD,Dj a.lk,yd]
 rw[zo ⟨by rw[zi];exact h4,ht⟩]⟩
def Yh [DecidableEq α] [tY e] (a:R fs ρ (uE e)):R (Eu fs) ρ (oE e):=⟨qx e (Hw a.v),aY a.D (some (a.v.length < 64)),fun h=>by
 obtain⟨h,h4⟩:=au h
 simp only[Eu,a.ok h,bnd,Od a.v h4,QN,KN tY.inj,JB,Ye]⟩
end
end P1
end
section
namespace P1
open PySem PySem.Spec PyProof.Rows L2
section
variable {α β γ:Type} {ρ:Ev} {fa fb fd f fk fv:Ev->Option Bx} {fs:Ev->Option (List Bx)} {fi:Ev->Option (List Dt)} {e:α->Dt} {e':β->Dt} {g k:Ev->Option Out} {cO:γ->Out} {gt:Dt->Ev->Option Ev} {p:Ev->Option Bool} {is:List Nat} {n:Nat}
abbrev mW (w:Option Addr) (e:α->Dt):List (Str×α)->Bx:=fun m=>.m (m.map fun q=>(kS q.1,e q.2)) w
def aM (e:α->Dt) (t:γ->List Bx->Prop):List (Str×α)×γ->List Bx->Prop:=fun x bs=>∃ b r,bs=b::r/\(b=nE e x.1\/b=mE e x.1)/\t x.2 r
def ahL {t:γ->List Bx->Prop} (a:R fa ρ (nE e)) (r:AR t fs ρ):AR (aM e t) (ao fa fs) ρ:=⟨(a.v,r.v),aY a.D r.D,_,⟨_,_,rfl,.inl rfl,r.h⟩,fun h=>by
 obtain⟨h1,h2⟩:=au h
 simp only[ao,a.ok h1,r.ok h2,bnd]⟩
def afQ {t:γ->List Bx->Prop} (a:R fa ρ (mE e)) (r:AR t fs ρ):AR (aM e t) (ao fa fs) ρ:=⟨(a.v,r.v),aY a.D r.D,_,⟨_,_,rfl,.inr rfl,r.h⟩,fun h=>by
 obtain⟨h1,h2⟩:=au h
 simp only[ao,a.ok h1,r.ok h2,bnd]⟩
def aaM (w:Option Addr) (i:Nat) (m:List (Str×α)) (hi:ρ[i]?=some (some (mW w e m))) (a:R fa ρ (zE e)) (b:R fb ρ (zE eS)) (K:∀ m':List (Str×α),R k (ρ.set i (some (mW w e m'))) cO):R (aF (WW i fa fb) k) ρ cO:=⟨(K (put m b.v a.v)).v,aY (aY (aY a.D b.D) (some (m.length < 1000))) (K (put m b.v a.v)).D,fun hd=>by
 obtain⟨h,h4⟩:=au hd
 obtain⟨h,h3⟩:=au h
 obtain⟨h1,h2⟩:=au h
 rw[nq (ρ':=ρ.set i (some (mW w e (put m b.v a.v)))) (by
  unfold WW
  rw[a.ok h1,bnd,b.ok h2,bnd]
  simp only[M6,Z7,bnd,hi,mW,zi,zo (show m.length < 1000 from h3),Tp])]
 exact (K _).ok h4⟩
def mkD (qs:List (Str×β)):List (Str×β):=qs.foldl (fun m q=>put m q.1 q.2) []
theorem Fz (qs:List (Str×β)):dictOf (qs.map (Vz eS e'))=(mkD qs).map fun q=>(kS q.1,e' q.2):=by
 unfold dictOf mkD
 have:∀ (qs:List (Str×β)) (m:List (Str×β)),(qs.map (Vz eS e')).foldl adA (m.map fun q=>(kS q.1,e' q.2))=(qs.foldl (fun m q=>put m q.1 q.2) m).map fun q=>(kS q.1,e' q.2):=by
  intro qs
  induction qs with
  |nil=>intro m;rfl
  |cons q qs ih=>
   intro m
   rw[zl,QI,QI]
   show (qs.map (Vz eS e')).foldl adA (Kq (m.map fun q=>(kS q.1,e' q.2)) (kS q.1) (e' q.2))=_
   rw[Tp (c:=kS)]
   exact ih _
 exact this qs []
def Tq (a:R fk ρ (zE eS)) (b:R fv ρ (zE e)):R (b2 zm fk fv) ρ (zE (Vz eS e)):=⟨(a.v,b.v),aY a.D b.D,fun h=>by
 obtain⟨h1,h2⟩:=au h
 simp only[b2,a.ok h1,b.ok h2,bnd,zm]⟩
def aaN (i:R fi ρ (iE e)) (a:R (dW fi gt p (b2 zm fk fv) is n) ρ (oE (Vz eS e'))):R (S9 fi gt p fk fv is n) ρ (mE e'):=⟨mkD a.v,aY (aY i.D (some (i.v.length < 1000))) a.D,fun h=>by
 obtain⟨h,h3⟩:=au h
 obtain⟨h1,h2⟩:=au h
 have h2:i.v.length < 1000:=h2
 have ha:=a.ok h3
 unfold dW at ha
 unfold S9
 rw[i.ok h1,bnd] at ha ⊢
 rw[zo (by rw[zi];omega)] at ha
 rw[zo (by rw[zi];exact h2)]
 obtain⟨out,eo,ha⟩:=bind_some ha
 rw[eo,bnd]
 injection ha with ha
 injection ha with ha
 rw[ha,Fz]⟩
def afR (a:R fd ρ (nE e)):R (Bu fd) ρ (iE eS):=⟨a.v.map (·.1),a.D,fun h=>by
 simp only[Bu,a.ok h,bnd,keyB,Zp]
 rfl⟩
def aaO (a:R fa ρ (nE e)):R (bM EY (ao fa aD)) ρ (oE eS):=⟨a.v.map (·.1),a.D,fun h=>by
 simp only[bM,ao,aD,a.ok h,bnd,EY,Oc]⟩
def ad1 (a:R fa ρ (zE eS)) (b:R fb ρ (zE eS)):R (bM Ez (ao fa (ao fb aD))) ρ (zE eS):=⟨if XH b.v a.v=true then b.v else a.v,aY a.D b.D,fun h=>by
 obtain⟨h1,h2⟩:=au h
 simp only[bM,ao,aD,a.ok h1,b.ok h2,bnd,Ez]
 rfl⟩
theorem aaP {n:Nat} {bs:List Bx} {a:Addr} {m:List (Str×α)} {ρ2:List (Str×α)->Ev} (x:R g ((mW (some a) e m::bs).map some++List.replicate (n - (bs.length+1)) none) (fun m'=>Out.nx (ρ2 m'))) (h:hold x.D) (h0:∀ m',(ρ2 m')[0]?=some (some (mW (some a) e m'))):NK n g a (m.map fun q=>(kS q.1,e q.2)) bs=some (x.v.map fun q=>(kS q.1,e q.2)):=by
 unfold NK
 rw[x.ok h,bnd]
 simp only[h0,QN]
def ad2 {cA:γ->List Bx->Prop} {δ:Type} {cO:δ->Out} {G:Addr->List (Key×Dt)->List Bx->Option (List (Key×Dt))} {n:Nat} {T:List (Str×α)->γ->List (Str×α)} {Df:List (Str×α)->γ->Option Prop} (w:Option Addr) (i:Nat) (m:List (Str×α)) (hi:ρ[i]?=some (some (mW w e m)))
  (S:∀ m v bs,cA v bs->bs.length=n/\bs.all isZ=true/\(hold (Df m v)->∀ a,G a (m.map fun q=>(kS q.1,e q.2)) bs=some ((T m v).map fun q=>(kS q.1,e q.2)))) (a:AR cA fs ρ) (K:∀ m':List (Str×α),R k (ρ.set i (some (mW w e m'))) cO):R (aF (Fd i n G fs) k) ρ cO:=⟨(K (T m a.v)).v,aY (aY a.D (Df m a.v)) (K (T m a.v)).D,fun hd=>by
 obtain⟨h,h4⟩:=au hd
 obtain⟨h1,h2⟩:=au h
 obtain⟨s1,s2,s3⟩:=S m a.v a.bs a.h
 rw[nq (Xv hi (a.ok h1) s1 s2 (s3 h2))]
 exact (K _).ok h4⟩
end
section
variable {α:Type} {ρ:Ev} {fa fb:Ev->Option Bx} {e:α->Dt}
def FJ [DecidableEq α] (x:α) (ys:List α):Bool:=decide (x∈ys)
theorem Oe [DecidableEq α] {x:α} {ys:List α}:FJ x ys=true↔x∈ys:=by unfold FJ;rw[z5]
theorem Yi [DecidableEq α] {n:Nat} [Eqs e n] (hn:n<=60) (x:α) (ys:List α):Xw (e x) (ys.map e)=some (decide (x∈ys)):=by
 unfold Xw
 rw[zo]
 ·congr 1
  rw[KO,KI,kg,z5]
  constructor
  ·rintro⟨y,hy,h⟩
   simp only[Function.comp,Eqs.eq] at h
   by_cases q:y=x
   ·exact q▸hy
   ·simp[q,isT] at h
  ·intro h
   exact⟨x,h,by simp[Function.comp,Eqs.eq,isT]⟩
 ·rw[List.all_map,QY]
  intro y _
  have:=Eqs.dp (e:=e) y
  simp only[Function.comp,Eqs.eq,Option.isSome_some,Bool.true_and,z5]
  omega
def Yj [DecidableEq α] {n:Nat} [Eqs e n] (hn:n<=60) (a:R fa ρ (zE e)) (b:RL fb ρ e):R (b2 Xx fa fb) ρ (zE eB):=⟨!FJ a.v b.v,aY a.D b.D,fun h=>by
 obtain⟨h1,h2⟩:=au h
 simp only[b2,a.ok h1,b.ok h2,bnd,Xx,Dj b.lk,Yi hn,FJ]⟩
end
end P1
end
section
namespace P1
open PySem PySem.Spec PyProof.Rows L2 S1 S6
section
variable {ρ:Ev} {fa:Ev->Option Bx}
def kT (xs:LS_):List Key:=xs.map Sum.inr
theorem ad3 {a b:LS_} (h:kT a=kT b):a=b:=by
 unfold kT at h
 induction a generalizing b with
 |nil=>cases b with|nil=>rfl|cons _ _=>simp at h
 |cons x a ih=>cases b with
  |nil=>simp at h
  |cons y b=>
   simp only[zl,JS] at h
   rw[Sum.inr.inj h.1,ih h.2]
theorem Og:∀ (xs:LS_),Bq (xs.map eS)=some (kT xs)
 |[]=>rfl
 |x::xs=>by simp only[zl,Bq,aag,bnd,Og xs];rfl
theorem JC:∀ (xss:List LS_),tR (xss.map (eT eS))=some (xss.map kT)
 |[]=>rfl
 |x::xss=>by simp only[zl,tR,Ei,eT,Og,bnd,JC xss]
def K3 (a b:LS_):Bool:=vD (kT a) (kT b)
def fV (xss:List LS_):List LS_:=xss.mergeSort K3
theorem fK (xs:List LS_):(fV xs).Perm xs:=KL ..
theorem oG (xs:List LS_):(fV xs).Pairwise (fun a b=>K3 a b=true):=kL (le:=K3) (fun a b c=>xX (kT a) (kT b) (kT c)) (fun a b=>xY (kT a) (kT b)) xs
theorem JD {a b:LS_} (h:K3 a b=true) (h':K3 b a=true):a=b:=ad3 (Jp h h')
theorem Vi {xs out:List LS_} (hp:out.Perm xs) (hs:out.Pairwise (fun a b=>K3 a b=true)):out=fV xs:=qU (fun _ _=>JD) (hp.trans (fK xs).symm) hs (oG xs)
theorem Q9 (xs:List LS_):mK (xs.map kT)=(fV xs).map kT:=(sI ((fK xs).map _) (List.pairwise_map.mpr (oG xs))).symm
theorem aaQ (xs:List LS_):(xs.map kT).map tupK=xs.map (eT eS):=by
 rw[Zp]
 refine ZY fun a _=>?_
 show Dt.tup ((kT a).map dK)=Dt.tup (a.map eS)
 unfold kT
 rw[Zp]
 rfl
theorem ad4 (a b:LS_):Ku (kT a) (kT b)=true:=by
 unfold Ku kT
 rw[QY]
 rintro⟨x,y⟩ h
 obtain⟨h1,h2⟩:=List.of_mem_zip h
 obtain⟨p,_,rfl⟩:=List.mem_map.mp h1
 obtain⟨q,_,rfl⟩:=List.mem_map.mp h2
 rfl
theorem aaR (xs:List LS_) (h:xs.length < 64) (hn:∀ x∈xs,x.isEmpty=false):Cj (xs.map kT)=true:=by
 simp only[Cj,ZU,z5,QY,qS,zi,kP,forall_exists_index,and_imp,forall_apply_eq_imp_iff₂]
 refine⟨h,fun a ha=>?_,fun a _ b _=>ad4 a b⟩
 have:=hn a ha
 cases a with
 |nil=>cases this
 |cons _ _=>rfl
def Dk (a:RL fa ρ (eT eS)):R (bM rK (ao fa aD)) ρ (oE (eT eS)):=⟨fV a.v,aY a.D (some (a.v.length < 64/\∀ x∈a.v,x.isEmpty=false)),fun h=>by
 obtain⟨h,h4⟩:=au h
 obtain⟨h4,h5⟩:a.v.length < 64/\∀ x∈a.v,x.isEmpty=false:=h4
 simp only[bM,ao,aD,a.ok h,bnd,rK,Dj a.lk,JC,aaR a.v h4 h5,QN,Q9,aaQ]⟩
end
section
variable {α:Type} {ρ:Ev} {f:Ev->Option Bx} {e:α->Dt}
theorem map_some (e:α->Dt) (xs:List α):(xs.map some).map (eO e)=xs.map e:=by rw[Zp];rfl
end
end P1
end
section
namespace P1
open PySem PySem.Spec PyProof.Rows L2
section
variable {α:Type} {k g:Ev->Option Out} {ρ:Ev} {cO:α->Out}
def ahM (i:Nat) (E:Ev) (hE:adE i ρ=some E) (K:R k E cO):R (fzG i k) ρ cO:=⟨K.v,K.D,fun h=>by
 unfold fzG;rw[hE];exact K.ok h⟩
end
section
variable {α:Type} {e:α->Dt} {ρ:Ev} {fa fb:Ev->Option Bx}
end
section
variable {σ τ γ:Type} {p:Ev->Option Bool} {gb k:Ev->Option Out} {ρ:Ev} {cO:γ->Out}
end
section
variable {α:Type} {e:α->Dt} {ρ:Ev} {fa:Ev->Option Bx}
def enC (fs:Ev->Option (List Bx)):Ev->Option (List Dt):=fun ρ=>(fs ρ).bind NP
def vK (xs:List α):List (Int×α):=(List.range xs.length).zipWith (fun (k:Nat) x=>((k:Int),x)) xs
theorem Vj (xs:List α):Bv (xs.map e)=(vK xs).map (Vz eI e):=by
 unfold Bv vK
 rw[zi,List.zipWith_map_right,List.map_zipWith]
def aaS (a:RL fa ρ e):R (enC (ao fa aD)) ρ (iE (Vz eI e)):=⟨vK a.v,a.D,fun h=>by
 simp only[enC,ao,aD,a.ok h,bnd,NP,a.lk,Vj]⟩
end
section
variable {α β σ τ:Type}
theorem K4 {step:σ->α->σ} {P:σ->α->Option Prop} (I:Nat->σ->Prop):∀ (xs:List α) (m:Nat) (s0:σ),I m s0->(∀ k x s,xs[k]?=some x->I (m+k) s->hold (P s x)/\I (m+k+1) (step s x))->qu step P xs s0/\I (m+xs.length) (xs.foldl step s0)
 |[],m,s0,h0,_=>⟨trivial,h0⟩
 |x::xs,m,s0,h0,hs=>by
  obtain⟨h1,h2⟩:=hs 0 x s0 rfl h0
  have:=K4 I xs (m+1) (step s0 x) h2 fun k y s e h=>by
   have:=hs (k+1) y s (by simpa using e) (by rw[show m+(k+1)=m+1+k by omega];exact h)
   rw[show m+(k+1)+1=m+1+k+1 by omega] at this
   exact this
  refine⟨⟨h1,this.1⟩,?_⟩
  rw[qh,show m+(xs.length+1)=m+1+xs.length by omega]
  exact this.2
theorem aaT {i:Int} {n k:Nat} {x:Int} (h:(rng i n)[k]?=some x):x=i+k/\k < n:=by
 unfold rng at h
 rw[zS] at h
 cases hk:(List.range n)[k]? with
 |none=>rw[hk] at h;cases h
 |some j=>
  rw[hk] at h
  have hl:k < n:=by simpa using (List.getElem?_eq_some_iff.mp hk).1
  have:j=k:=by
   rw[j0 hl] at hk
   cases hk;rfl
  subst this
  cases h
  exact⟨rfl,hl⟩
theorem wI (i:Int) (n:Nat):(rng i n).length=n:=by unfold rng;simp
theorem vL {step:σ->Int->σ} {P:σ->Int->Option Prop} (I:Nat->σ->Prop) (n:Nat) (s0:σ) (h0:I 0 s0) (hs:∀ (k:Nat) s,k < n->I k s->hold (P s k)/\I (k+1) (step s k)):qu step P (rng 0 n) s0/\I n ((rng 0 n).foldl step s0):=by
 have:=K4 (P:=P) I (rng 0 n) 0 s0 h0 fun k x s e h=>by
  obtain⟨rfl,hk⟩:=aaT e
  rw[KM] at h ⊢
  rw[Int.zero_add]
  exact hs k s hk h
 rw[wI,KM] at this
 exact this
theorem FN {step:Unit->α->wV Unit Bool} {P:Unit->α->Option Prop}:∀ xs:List α,(∀ x∈xs,hold (P () x)/\(step () x=.nx ()\/step () x=.ct ()))->qw step xs ()=.nx ()/\wW step P xs ()
 |[],_=>⟨rfl,trivial⟩
 |x::xs,h=>by
  obtain⟨h1,h2⟩:=h x (ze ..)
  have ih:=FN (P:=P) xs fun y hy=>h y (zh _ hy)
  rcases h2 with h2|h2
  ·exact⟨by unfold qw;rw[h2];exact ih.1,h1,by rw[h2];exact ih.2⟩
  ·exact⟨by unfold qw;rw[h2];exact ih.1,h1,by rw[h2];exact ih.2⟩
theorem Ao [Inhabited α] {xs:List α} {i:Int} (h:In xs.length i):at' xs i∈xs:=by
 obtain⟨x,hx⟩:=KR h
 unfold at'
 rw[hx]
 unfold Hi at hx
 obtain⟨j,_,hx⟩:=bind_some hx
 exact QE hx
theorem ad5 [Inhabited α] {xs:List α} {k:Nat} {x:α} (h:xs[k]?=some x):at' xs (k:Int)=x:=by
 have hl:k < xs.length:=(List.getElem?_eq_some_iff.mp h).1
 unfold at' Hi ixN
 rw[zo (by omega),zo (by omega),bnd,Int.toNat_natCast,h]
 rfl
theorem ad6 [Inhabited α] (xs:List α) (k:Nat) (h:k < xs.length):at' xs (k:Int)=xs[k]:=ad5 (zD h)
theorem in_of {n:Nat} {i:Int} (h0:0<=i) (h1:i < n):In n i:=⟨by omega,h1⟩
theorem Aq {n k:Nat} (h:k < n):In n (k:Int):=⟨by omega,by omega⟩
theorem Ar {n:Nat} {x m:Int} (hm:0 < m) (h:m<=n):In n (x % m):=in_of (Int.emod_nonneg _ (by omega)) (Int.lt_of_lt_of_le (Int.emod_lt_of_pos _ hm) h)
theorem qy (x:Int) {m:Int} (hm:0 < m):0<=x % m/\x % m < m:=⟨Int.emod_nonneg _ (by omega),Int.emod_lt_of_pos _ hm⟩
theorem JF {j:Int} (h0:0<=j) (h1:j<=1000000):Rg j:=⟨by omega,by omega⟩
theorem Yk {a b:Int} (h0:0<=a) (h1:a < 18446744073709551616):Mul a b:=.inl ⟨by omega,h1⟩
theorem aaU (xs:List α) (lo hi:Option Int):(cut xs lo hi).length<=xs.length:=by
 unfold cut
 rw[kf,Kt]
 omega
theorem vM (x y:Str):(x++y).length=x.length+y.length:=by
 show (x.cps++y.cps).size=_
 rw[kX]
 rfl
theorem K5 (x:Str) (i:Int):(ch x i).length=1:=rfl
theorem slice_le (x:Str) (l u:Option Int):(Txt.slice x l u).length<=x.length:=PyProof.Txt.length_slice_le x l u
theorem Av (x:Str):(chars x).length=x.length:=by unfold chars;rw[zi,ZZ];rfl
end
section
variable {α γ:Type} [Inhabited α] {e:α->Dt} {ρ:Ev} {f:Ev->Option Bx} {k:Ev->Option Out} {cO:γ->Out}
end
section
variable {ρ:Ev} {fa:Ev->Option Bx}
end
section
variable {α γ:Type} {e:α->Dt} {ρ:Ev} {f:Ev->Option Bx} {k:Ev->Option Out} {cO:γ->Out}
end
section
variable {α β γ:Type} {e:α->Dt} {f fa fb:Ev->Option Bx} {k g:Ev->Option Out} {ρ:Ev} {cO:γ->Out}
end
section
variable {α:Type} {e:α->Dt} {f fa fb:Ev->Option Bx} {ρ:Ev}
end
section
variable {α β γ:Type} {e:α->Dt} {e':β->Dt} {fa fb:Ev->Option Bx} {ρ:Ev}
end
def RP {α β:Type} (f:Ev->Option β) (ρ:Ev) (c:α->β) (v:α) (D:Option Prop):Prop:=hold D->f ρ=some (c v)
theorem R.tp {α β:Type} {f:Ev->Option β} {ρ:Ev} {c:α->β} {v':α} {D':Option Prop} (x:R f ρ c) (hv:x.v=v':=by kernel_rfl) (hD:x.D=D':=by kernel_rfl):RP f ρ c v' D':=fun h=>by
 subst hv hD
 exact x.ok h
def RP.r {α β:Type} {f:Ev->Option β} {ρ:Ev} {c:α->β} {v:α} {D:Option Prop} (h:RP f ρ c v D):R f ρ c:=⟨v,D,h⟩
theorem len1 {α:Type} {p:List α->Prop} (h:∀ a,p [a]):∀ us:List α,us.length=1->p us
 |[a],_=>h a
theorem len2 {α:Type} {p:List α->Prop} (h:∀ a b,p [a,b]):∀ us:List α,us.length=2->p us
 |[a,b],_=>h a b
theorem ahO {α:Type} {p:List α->Prop} (h:∀ a b c,p [a,b,c]):∀ us:List α,us.length=3->p us
 |[a,b,c],_=>h a b c
theorem ahP {α:Type} {p:List α->Prop} (h:∀ a b c d e,p [a,b,c,d,e]):∀ us:List α,us.length=5->p us
 |[a,b,c,d,e],_=>h a b c d e
end P1
end
section
namespace P1
open PySem PySem.Spec PyProof.Rows L2 S1
section
variable {prog:Program} {w:World} {A:Around} {E:VP_} {s:Shared}
end
section
variable {X:Cx}
end
section
variable {fa:Ev->Option Bx} {ρ:Ev}
end
end P1
end
section
namespace P1
open PySem PySem.Spec PyProof.Rows L2
section
variable {i n:Nat} {is:List Nat} {f:Ev->Option Bx} {fs:Ev->Option (List Bx)} {p:Ev->Option Bool} {gt:Dt->Ev->Option Ev} {g1 g2 gb:Ev->Option Out}
end
section
variable {X:Cx} {st:Stmt} {rest:List Stmt} {g1 g2:Ev->Option Out}
end
section
variable {P:Program} {w:World} {K:FG_} {mg:Str->Option Value} {base:Heap}
end
section
variable {X:Cx} {pins:List (Addr×Obj)} {σ:L2.St} {H:Hp} {s:Shared} {a:Addr} {ks:List V} {o:Obj}
end
def Fr3 (Hb Hc H:Hp) (σ:L2.St) (i:Nat):Prop:=∃ (t p0 p1 p2:Addr) (x0 x1 x2:List V) (o0 o1 o2:Obj),(x0.length < 1000/\x2.length < 1000)/\σ[i]?=some (some (.ref t))/\H t=some (.tup [.ref p0,.ref p1,.ref p2])/\(H p0=some (.n8 o0 (.lst x0))/\H p1=some (.n8 o1 (.lst x1))/\H p2=some (.n8 o2 (.lst x2)))/\(Hc p0=none/\Hc p1=none/\Hc p2=none)/\(p0≠p1/\p0≠p2/\p1≠p2)/\(∀ ob u,Hb p0≠some (.n8 ob u))/\(∀ ob u,Hb p1≠some (.n8 ob u))/\∀ ob u,Hb p2≠some (.n8 ob u)
theorem Fr3.grow {Hb Hc H H':Hp} {σ σ':L2.St} {i:Nat} (h:Fr3 Hb Hc H σ i) (s:Same H H') (hs:σ'[i]?=σ[i]?):Fr3 Hb Hc H' σ' i:=by
 obtain⟨t,p0,p1,p2,x0,x1,x2,o0,o1,o2,l,e,ht,⟨h0,h1,h2⟩,r⟩:=h
 exact⟨t,p0,p1,p2,x0,x1,x2,o0,o1,o2,l,by rw[hs];exact e,s _ _ ht,⟨s _ _ h0,s _ _ h1,s _ _ h2⟩,r⟩
section
variable {X:Cx} {i:Nat} {M0 M1 M2 er:Expr} {f0 f2 f:Ev->Option Bx} {d0 d2:Dt} {z0 z1 z2 z3:Pos}
end
theorem bf.sl {K:FG_} {H0 H:Hp} {σ:L2.St} {ρ:Ev} (E:bf K H0 H σ ρ) {i:Nat} (h:∀ c,ρ[i]?≠some (some c)) (v:Option V):bf K H0 H (σ.set i v) ρ:=by
 have ne:∀ {j:Nat} {c:Bx},ρ[j]?=some (some c)->(σ.set i v)[j]?=σ[j]?:=fun e=>List.getElem?_set_ne (fun z=>h _ (z▸e))
 exact⟨by rw[jS];exact E.len,fun j b e=>by rw[ne e];exact E.val j b e,fun j k c a b e1 e2 e3 e4 e5 e6=>E.own j k c a b e1 e2 (by rw[<-ne e1];exact e3) e4 e5 (by rw[<-ne e4];exact e6),E.base,fun j c a e1 e2 e3=>E.new j c a e1 e2 (by rw[<-ne e1];exact e3)⟩
section
variable {X:Cx} {st:List Stmt} {g:Ev->Option Out} {f fr fe:Ev->Option Bx} {p:Ev->Option Bool} {i i':Nat} {W:List Nat} {c e:Expr} {pos z:Pos}
end
section
variable {a b c g g1 g2 gb:Ev->Option Out} {f:Ev->Option Bx} {p:Ev->Option Bool} {i k:Nat} {gt:Dt->Ev->Option Ev}
end
end P1
end
section
namespace P1
open PySem PySem.Spec PyProof.Rows L2 S6
section
variable {X:Cx} {elt kx vx t1 i1 t2 i2:Expr} {f1 f2:List Expr} {scope:Scope} {cl:List (Str×Addr)} {pos:Pos} {xs:LS_} {is:List Nat} {g1 g2:Dt->Ev->Option Ev} {p1 p2:Ev->Option Bool} {fe fk fv:Ev->Option Bx} {fi1 fi2:Ev->Option (List Dt)} {fs:Ev->Option (List Dt)} {N m:Nat} {Ac:Addr->Hp->List Dt->HO->Prop} {el:Addr->Env->Sem Unit}
def cls2 (fi:Ev->Option (List Dt)) (gt:Dt->Ev->Option Ev) (p:Ev->Option Bool) (fs:Ev->Option (List Dt)) (is:List Nat) (n:Nat):Ev->Option (List Dt):=fun ρ=>(fi ρ).bind fun ds=>z9 gt p fs (kj is ρ++List.replicate n none) ds
structure Two (X:Cx) (ts:LS_) (m:Nat) (scope:Scope) (cl:List (Str×Addr)) (xs:LS_) (is:List Nat) (t1 i1:Expr) (f1:List Expr) (t2 i2:Expr) (f2:List Expr) (fi1 fi2:Ev->Option (List Dt)) (g1 g2:Dt->Ev->Option Ev) (p1 p2:Ev->Option Bool):Prop where
 ok:rH X scope cl xs is
 calm:X.calm=true
 it1:QIC X t1 i1 fi1
 tg1:∀ C s₀ H₀ fp,Vv (yw X (xs++ts) scope cl C s₀ H₀ fp) t1 g1
 c1:∀ C s₀ H₀ fp,uY (yw X (xs++ts) scope cl C s₀ H₀ fp) f1 p1
 k1:Ur is.length m g1
 it2:∀ C s₀ H₀ fp,QIF (yw X (xs++ts) scope cl C s₀ H₀ fp) t2 i2 fi2
 tg2:∀ C s₀ H₀ fp,Vv (yw X (xs++ts) scope cl C s₀ H₀ fp) t2 g2
 c2:∀ C s₀ H₀ fp,uY (yw X (xs++ts) scope cl C s₀ H₀ fp) f2 p2
 k2:Ur m (is.length+ts.length) g2
 hm:is.length<=m:=by decide
 hm2:m<=is.length+ts.length:=by decide
 hs:∀ x,foldedSetIterable i1 X.env x=pure x:=by intro _;rfl
 hs2:∀ C x,foldedSetIterable i2 (compEnvC scope (cellsFrom (C+1) scope.names cl) C X.env) x=pure x:=by intro _ _;rfl
theorem AcL.no {K:FG_} {D:Addr} {H:Hp} {o1:List Dt} {o:HO}:AcL K D H o1 o->(∀ ob u,o≠.n8 ob u)/\∀ vs,o≠.tup vs:=fun ⟨_,e,_⟩=>by subst e;exact⟨fun _ _ z=>(by cases z),fun _ z=>(by cases z)⟩
theorem AcS.no {D:Addr} {H:Hp} {o1:List Dt} {o:HO}:AcS X D H o1 o->(∀ ob u,o≠.n8 ob u)/\∀ vs,o≠.tup vs:=fun ⟨_,e,_⟩=>by subst e;exact⟨fun _ _ z=>(by cases z),fun _ z=>(by cases z)⟩
end
end P1
end
section
namespace P1
open PySem PySem.Spec PyProof.Rows L2
section
variable {α β:Type} {ρ:Ev} {e:α->Dt} {e':β->Dt} {p:Ev->Option Bool} {fi fs:Ev->Option (List Dt)} {gt:Dt->Ev->Option Ev} {fe:Ev->Option Bx} {is:List Nat} {n:Nat}
theorem Oh {g:α->List β}:∀ xs:List α,(xs.flatMap g).map e'=xs.flatMap fun x=>(g x).map e'
 |[]=>rfl
 |x::xs=>by rw[ya,ZE,Oh xs];rfl
def afU (it:R fi ρ (iE e)) (ρ2:α->Ev) (hg:∀ x,gt (e x) (kj is ρ++List.replicate n none)=some (ρ2 x)) (b:∀ x,R fs (ρ2 x) (iE e')):R (cls2 fi gt rJ fs is n) ρ (iE e'):=⟨it.v.flatMap fun x=>(b x).v,aY it.D (X7 it.v fun x=>(b x).D),fun h=>by
 obtain⟨h1,h2⟩:=au h
 have h2:∀ x∈it.v,hold (b x).D:=h2
 simp only[cls2,it.ok h1,bnd]
 rw[Fq (π:=fun _=>true) (g:=fun x=>(b x).v.map e') it.v fun x hx=>⟨ρ2 x,hg x,rfl,fun _=>(b x).ok (h2 x hx)⟩,List.filter_eq_self.mpr fun _ _=>rfl]
 rw[iE,Oh]⟩
def afV (it:R fi ρ (iE e)) (ρ2:α->Ev) (hg:∀ x,gt (e x) ρ=some (ρ2 x)) (b:∀ x,R fe (ρ2 x) (zE e')):R (inC fi gt rJ (Wt fe)) ρ (iE e'):=⟨it.v.map fun x=>(b x).v,aY it.D (X7 it.v fun x=>(b x).D),fun h=>by
 obtain⟨h1,h2⟩:=au h
 have h2:∀ x∈it.v,hold (b x).D:=h2
 simp only[inC,it.ok h1,bnd]
 exact comp_map it.v fun x hx=>⟨ρ2 x,hg x,(b x).ok (h2 x hx)⟩⟩
end
section
variable {X:Cx}
def abQ:V->List V->Hp->VK->Prop:=fun x vs H Q=>∃ l ks k v,x=.ref l/\vs=[kV k,v]/\H l=some (.dK ks)/\ks.length < sizeLine/\(∀ w,qP ks k=some w->Q w H)/\(qP ks k=none->Q v (upd H l (.dK (putK ks k v))))
theorem aaV:MtM X "dict.setdefault" abQ:=by
 intro pins s σ H x vs v us Q I rx rv h
 obtain⟨l,ks,k,y,rfl,rfl,hH,hz,q1,q2⟩:=h
 cases rx
 obtain⟨uk,uy,rfl,rk,ry⟩:=rv.two
 obtain⟨z,hd,vs,rel,dd⟩:=V3 I.hok hH
 have hvl:vs.length<=sizeLine:=by rw[<-rel.length];exact z
 refine JE PySem.F.slot_dict_setdefault dd.typeIs PySem.F.entry_dict_setdefault ?_ (PySem.F.args_dict_setdefault_3 _ _ _)
 unfold Builtin.«dict.setdefault»
 refine zb ?_
 unfold Builtin.Dict.keyAndDefault
 refine zb (wpAny_notOrdered_dict dd.typeIs ?_)
 show wpAny _ _ (pure (l,uk,some uy)) _ _ s
 refine zg ?_
 show wpAny _ _ (if (l==sysModules)=true then _ else (dictSetDefault l uk uy >>= _)) _ _ s
 rw[zv (by rw[hd];exact z4)]
 refine zb (kt_dictSetDefault_pairs (hsz:=hvl) (Jf rk) dd (fun w hw=>?_) fun hn h' YW hs=>?_)
 ·have hr:=rel.val k
  rw[hw] at hr
  cases hv:qP ks k with
  |none=>rw[hv] at hr;exact hr.elim
  |some w'=>
   rw[hv] at hr
   exact zg ⟨w,rfl,w',H,I.kept (t':=s.toks+1) fun _ _ e=>e,hr,q1 w' hv⟩
 ·have hv:qP ks k=none:=by
   have hr:=rel.val k
   rw[hn] at hr
   cases hv:qP ks k with
   |none=>rfl
   |some w'=>rw[hv] at hr;exact hr.elim
  have hl:(putK ks k y).length<=sizeLine:=by have:=ou ks k y;omega
  have he:∃ q,h'.get? l=some q:=let ⟨q,_,_,hq,_⟩:=YW;⟨q,hq⟩
  exact zg ⟨uy,rfl,y,_,CJ (t':=s.toks+1) I (by rw[hH];exact True.intro) hs he (Qe hl hd (rel.put k ry) YW),ry,q2 hv⟩
end
section
variable {ρ:Ev} {fa fb:Ev->Option Bx}
end
def hx (h:Heap) (a:Addr):HO:=.ext fun h'=>h'.get? a=h.get? a
def LD (o:Option HO):Prop:=(∃ xs,o=some (.lst xs))\/∃ ks,o=some (.dK ks)
def Sep (as:List Addr) (σ:L2.St) (ρ:Ev):Prop:=∀ (j:Nat) c a,ρ[j]?=some (some c)->loose c=true->σ[j]?=some (some (.ref a))->a∉as
section
variable {X:Cx} {pins:List (Addr×Obj)} {σ:L2.St} {H H2:Hp} {s:Shared} {as:List Addr}
theorem LD.at {P:Program} {w:World} {H H':Hp} {h h':Heap} {a:Addr} {o:HO} (k:LD (some o)) (e:h'.get? a=h.get? a) (x:fu P w H h a o):fu P w H' h' a o:=by
 rcases k with⟨xs,hk⟩|⟨ks,hk⟩
 ·cases hk
  obtain⟨z,its,n,v,g⟩:=x
  exact⟨z,its,n,v,e.trans g⟩
 ·cases hk
  obtain⟨z,hd,vs,kv,o,es,ep,ho,r⟩:=x
  exact⟨z,hd,vs,kv,o,es,ep,e.trans ho,r⟩
theorem LD.obj {P:Program} {w:World} {H:Hp} {h:Heap} {a:Addr} (k:LD (H a)) (x:xM P w H h):∃ o,h.get? a=some o:=by
 rcases k with⟨xs,hk⟩|⟨ks,hk⟩
 ·obtain⟨_,its,n,_,g⟩:=x a _ hk
  exact⟨_,g⟩
 ·obtain⟨_,_,vs,_,o,es,ep,ho,_⟩:=x a _ hk
  exact⟨o,ho⟩
theorem bf.move {K:FG_} {Hb Hb' H H':Hp} {σ:L2.St} {ρ:Ev} (E:bf K Hb H σ ρ) (S:Sep as σ ρ) (kp:Kp H H') (ho:∀ b,b∉as->H' b=H b) (hb:Same Hb' H') (hn:∀ (j:Nat) c a,ρ[j]?=some (some c)->rY c=true->σ[j]?=some (some (.ref a))->Hb' a=none):bf K Hb' H' σ ρ:=by
 refine⟨E.len,fun j b e=>?_,E.own,hb,hn⟩
 obtain⟨v,ev,rb⟩:=E.val j b e
 refine⟨v,ev,?_⟩
 cases b with
 |z d=>exact Rep.kp kp rb
 |l dz=>
  obtain⟨a,vs,rfl,q,rr⟩:=rb
  have ha:=ho a (S j _ a e rfl ev)
  exact⟨a,vs,rfl,q.imp (fun q=>ha.trans q) fun ⟨o,q⟩=>⟨o,ha.trans q⟩,rr.kp kp⟩
 |o dz=>
  obtain⟨a,vs,rfl,q,rr⟩:=rb
  exact⟨a,vs,rfl,(ho a (S j _ a e rfl ev)).trans q,rr.kp kp⟩
 |n dz=>
  obtain⟨a,vs,rfl,q,rr⟩:=rb
  have ha:=ho a (S j _ a e rfl ev)
  exact⟨a,vs,rfl,q.imp (fun q=>ha.trans q) fun ⟨o,q⟩=>⟨o,ha.trans q⟩,rr.kp kp⟩
 |m dz _=>
  obtain⟨a,vs,rfl,q,rr⟩:=rb
  exact⟨a,vs,rfl,(ho a (S j _ a e rfl ev)).trans q,rr.1.kp kp,rr.2⟩
end
section
variable {X:Cx} {pins:List (Addr×Obj)} {σ:L2.St} {H:Hp} {s:Shared}
theorem BJ:∀ {as:List Addr} {H:Hp},L2.Inv X pins σ H s->(∀ a∈as,∃ vs,H a=some (.lst vs))->as.Nodup->∃ H',L2.Inv X pins σ H' s/\Kp H H'/\(∀ b,b∉as->H' b=H b)/\∀ a∈as,∃ o vs,H a=some (.lst vs)/\H' a=some (.n8 o (.lst vs))
 |[],H,I,_,_=>⟨H,I,⟨fun _ _ e=>e,fun _ _ _ e=>e⟩,fun _ _=>rfl,fun _ h=>by cases h⟩
 |a::as,H,I,h,nd=>by
  obtain⟨na,nd⟩:=List.nodup_cons.mp nd
  obtain⟨vs,hv⟩:=h a (ze ..)
  obtain⟨o,I1⟩:=xP I hv
  have kp1:Kp H (upd H a (.n8 o (.lst vs))):=.lst hv
  obtain⟨H',I',kp2,h1,h2⟩:=BJ (as:=as) I1 (fun b hb=>by
   obtain⟨ws,e⟩:=h b (zh _ hb)
   exact⟨ws,by rw[aG (show b≠a from fun z=>na (by rw[<-z];exact hb))];exact e⟩) nd
  refine⟨H',I',⟨fun b xs e=>kp2.t _ _ (kp1.t _ _ e),fun b ob u e=>kp2.f _ _ _ (kp1.f _ _ _ e)⟩,fun b hb=>?_,fun b hb=>?_⟩
  ·rw[h1 b fun z=>hb (zh _ z),aG (show b≠a from fun z=>hb (by rw[z];exact ze ..))]
  ·rcases List.mem_cons.mp hb with rfl|hb
   ·exact⟨o,vs,hv,by rw[h1 _ na];exact aU⟩
   ·obtain⟨ob,ws,e1,e2⟩:=h2 b hb
    rw[aG (show b≠a from fun z=>na (by rw[<-z];exact hb))] at e1
    exact⟨ob,ws,e1,e2⟩
def Fzn (P:L2.St->Hp->Prop):L2.St->Hp->Prop:=fun σ H=>∃ as:List Addr,as.Nodup/\(∀ a∈as,∃ vs,H a=some (.lst vs))/\∀ H',Kp H H'->(∀ b,b∉as->H' b=H b)->(∀ a∈as,∃ o vs,H a=some (.lst vs)/\H' a=some (.n8 o (.lst vs)))->P σ H'
theorem ad7 {st:Stmt} {t:TS} (h:PS X st t):PS X st (fun D σ H=>t { D with nx:=Fzn D.nx } σ H):=fun pins s σ H D I q=>by
 refine j9 (h pins s σ H _ I q) fun f s1 q=>?_
 cases f with
 |next=>
  obtain⟨σ',H',I',as,nd,k,q⟩:=q
  obtain⟨H2,I2,kp,h1,h2⟩:=BJ I' k nd
  exact⟨σ',H2,I2,q H2 kp h1 h2⟩
 |ret v=>exact q
 |brk=>exact q
 |cont=>exact q
def vN {α:Type} (m:List (Int×List α)) (k:Int) (d:α):List (Int×List α):=if (m.any fun q=>decide (q.1=k))=true then m.map fun q=>if q.1=k then (q.1,q.2++[d]) else q else m++[(k,[d])]
def K6 (k j:Nat) (f1:Ev->Option Bx) (p:Ev->Option Bool) (f2 fv:Ev->Option Bx) (ρ:Ev):List Dt->List (Int×List Dt)->Option (List (Int×List Dt))
 |[],m=>some m
 |d::ds,m=>(f1 (ρ.set k (some (.z d)))).bind fun b1=>match b1 with
  |.z d1=>(p ((ρ.set k (some (.z d))).set j (some (.z d1)))).bind fun t=>(if t=true then f2 ((ρ.set k (some (.z d))).set j (some (.z d1))) else some (.z d1)).bind fun b2=>match b2 with
   |.z (.int y)=>(fv (((ρ.set k (some (.z d))).set j (some (.z d1))).set j (some (.z (.int y))))).bind fun v=>match v with
    |.z x=>if m.length < 1000/\(∀ q∈m,q.2.length < 1000) then K6 k j f1 p f2 fv ρ ds (vN m y x) else none
    |_=>none
   |_=>none
  |_=>none
def FP (i j k:Nat) (fi:Ev->Option (List Dt)) (f1:Ev->Option Bx) (p:Ev->Option Bool) (f2 fv:Ev->Option Bx):Ev->Option Out:=fun ρ=>match ρ[i]? with
 |some (some (.m [] none))=>if j < ρ.length then (fi (((ρ.set i none).set j none).set k none)).bind fun ds=>(K6 k j f1 p f2 fv (((ρ.set i none).set j none).set k none) ds []).bind fun m=>
  some (.nx ((((ρ.set i none).set j none).set k none).set i (some (.m (m.map fun q=>(Sum.inl q.1,Dt.lst q.2)) none)))) else none
 |_=>none
structure Gp (K:FG_) (H:Hp) (D:Addr) (gs:List (Int×Addr×List Dt)):Prop where
 d:H D=some (.dK (gs.map fun g=>(Sum.inl g.1,V.ref g.2.1)))
 l:∀ g∈gs,∃ vs,H g.2.1=some (.lst vs)/\aJ K H g.2.2 vs
 k:(gs.map (·.1)).Nodup
 a:(gs.map (·.2.1)).Nodup
def FQ (D:Addr) (gs:List (Int×Addr×List Dt)):List Addr:=D::gs.map (·.2.1)
def JG (gs:List (Int×Addr×List Dt)):List (Int×List Dt):=gs.map fun g=>(g.1,g.2.2)
theorem Gp.ld {K:FG_} {H:Hp} {D:Addr} {gs:List (Int×Addr×List Dt)} (G:Gp K H D gs):∀ a∈FQ D gs,LD (H a):=fun a ha=>by
 rcases List.mem_cons.mp ha with rfl|ha
 ·exact .inr ⟨_,G.d⟩
 ·obtain⟨g,hg,rfl⟩:=List.mem_map.mp ha
  obtain⟨vs,e,_⟩:=G.l g hg
  exact .inl ⟨vs,e⟩
theorem Gp.kept {K:FG_} {H H':Hp} {D:Addr} {gs:List (Int×Addr×List Dt)} (G:Gp K H D gs) (h:∀ a∈FQ D gs,H' a=H a) (r:∀ ds vs,aJ K H ds vs->aJ K H' ds vs):Gp K H' D gs:=
 ⟨(h D (ze ..)).trans G.d,fun g hg=>let ⟨vs,e,q⟩:=G.l g hg;⟨vs,(h _ (zh _ (List.mem_map.mpr ⟨g,hg,rfl⟩))).trans e,r _ _ q⟩,G.k,G.a⟩
theorem Gp.same {K:FG_} {H H':Hp} {D:Addr} {gs:List (Int×Addr×List Dt)} (G:Gp K H D gs) (s:Same H H'):Gp K H' D gs:=
 ⟨s _ _ G.d,fun g hg=>let ⟨vs,e,q⟩:=G.l g hg;⟨vs,s _ _ e,q.kp (.of s)⟩,G.k,G.a⟩
theorem Gp.val {gs:List (Int×Addr×List Dt)} {k:Int}:∀ {w:V},qP (gs.map fun g=>((Sum.inl g.1:Key),V.ref g.2.1)) (Sum.inl k)=some w->∃ g∈gs,g.1=k/\w=.ref g.2.1:=by
 induction gs with
 |nil=>intro w e;cases e
 |cons g gs ih=>
  intro w e
  rw[zl] at e
  by_cases hk:g.1=k
  ·rw[uV (by rw[hk])] at e
   cases e
   exact⟨g,ze ..,hk,rfl⟩
  ·rw[uW (by simpa using hk)] at e
   obtain⟨g',h1,h2,h3⟩:=ih e
   exact⟨g',zh _ h1,h2,h3⟩
theorem aaW {gs:List (Int×Addr×List Dt)} {k:Int}:((JG gs).any fun q=>decide (q.1=k))=(qP (gs.map fun g=>((Sum.inl g.1:Key),V.ref g.2.1)) (Sum.inl k)).isSome:=by
 rw[<-yF,JG,KO,KO]
 congr 1
 funext g
 simp
end
section
variable {K:FG_} {H:Hp} {D l:Addr} {gs:List (Int×Addr×List Dt)} {k:Int} {x:Dt} {u:V}
theorem zu {α β:Type} {f:α->β}:∀ {xs:List α},(xs.map f).Nodup->∀ {a b:α},a∈xs->b∈xs->f a=f b->a=b
 |y::ys,h,a,b,ha,hb,e=>by
  obtain⟨h1,h2⟩:=List.nodup_cons.mp (show (f y::ys.map f).Nodup from h)
  rcases List.mem_cons.mp ha with q|q<;>rcases List.mem_cons.mp hb with t|t
  ·rw[q,t]
  ·exact absurd (List.mem_map.mpr ⟨b,t,by rw[<-e,q]⟩) h1
  ·exact absurd (List.mem_map.mpr ⟨a,q,by rw[e,t]⟩) h1
  ·exact zu h2 q t e
def uJ (gs:List (Int×Addr×List Dt)) (k:Int) (x:Dt):List (Int×Addr×List Dt):=gs.map fun g=>if g.1=k then (g.1,g.2.1,g.2.2++[x]) else g
theorem Gp.app (G:Gp K H D gs) {g:Int×Addr×List Dt} (hg:g∈gs) (hk:g.1=k) {vs:List V} (hv:H g.2.1=some (.lst vs)) (r:aJ K H g.2.2 vs) (rx:Rep K H x u) :
  Gp K (upd H g.2.1 (.lst (vs++[u]))) D (uJ gs k x)/\FQ D (uJ gs k x)=FQ D gs/\JG (uJ gs k x)=vN (JG gs) k x:=by
 have kp:Kp H (upd H g.2.1 (.lst (vs++[u]))):=.lst hv
 have e1:(uJ gs k x).map (·.1)=gs.map (·.1):=by unfold uJ;rw[Zp];exact ZY fun g _=>by simp only[Function.comp];split<;>rfl
 have e2:(uJ gs k x).map (·.2.1)=gs.map (·.2.1):=by unfold uJ;rw[Zp];exact ZY fun g _=>by simp only[Function.comp];split<;>rfl
 have e3:((uJ gs k x).map fun g=>((Sum.inl g.1:Key),V.ref g.2.1))=gs.map fun g=>(Sum.inl g.1,V.ref g.2.1):=by unfold uJ;rw[Zp];exact ZY fun g _=>by simp only[Function.comp];split<;>rfl
 refine⟨⟨?_,fun g' hg'=>?_,by rw[e1];exact G.k,by rw[e2];exact G.a⟩,by unfold FQ;rw[e2],?_⟩
 ·rw[e3,aG (oh G.d hv (by intro z;cases z))];exact G.d
 ·obtain⟨g0,h0,rfl⟩:=List.mem_map.mp hg'
  by_cases hk0:g0.1=k
  ·have:g0=g:=zu G.k h0 hg (by rw[hk0,hk])
   subst this
   rw[zo hk0]
   exact⟨_,aU,(r.append (aJ.cons rx aJ.nil)).kp kp⟩
  ·rw[zv hk0]
   obtain⟨ws,ew,Pn⟩:=G.l g0 h0
   refine⟨ws,?_,Pn.kp kp⟩
   rw[aG fun z=>hk0 (by rw[zu (f:=fun g:Int×Addr×List Dt=>g.2.1) G.a h0 hg z];exact hk)]
   exact ew
 ·unfold vN
  have:((JG gs).any fun q=>decide (q.1=k))=true:=List.any_eq_true.mpr ⟨(g.1,g.2.2),List.mem_map.mpr ⟨g,hg,rfl⟩,by simpa using hk⟩
  rw[zo this]
  unfold JG uJ
  rw[Zp,Zp]
  exact ZY fun g _=>by simp only[Function.comp];split<;>rfl
theorem Gp.new (G:Gp K H D gs) (hn:qP (gs.map fun g=>((Sum.inl g.1:Key),V.ref g.2.1)) (Sum.inl k)=none) (hl:H l=some (.lst [])) (hla:l∉FQ D gs) :
  Gp K (upd H D (.dK (putK (gs.map fun g=>(Sum.inl g.1,V.ref g.2.1)) (Sum.inl k) (.ref l)))) D (gs++[(k,l,[])]):=by
 have kp:Kp H (upd H D (.dK (putK (gs.map fun g=>(Sum.inl g.1,V.ref g.2.1)) (Sum.inl k) (.ref l)))):=.dk G.d
 have hany:((gs.map fun g=>((Sum.inl g.1:Key),V.ref g.2.1)).any fun kv=>decide (kv.1=Sum.inl k))=false:=by rw[yF,hn];rfl
 have hlD:l≠D:=fun z=>hla (by rw[z];exact ze ..)
 have hkn:k∉gs.map (·.1):=fun z=>by
  obtain⟨g,hg,e⟩:=List.mem_map.mp z
  have:=List.any_eq_false.mp hany _ (List.mem_map.mpr ⟨g,hg,rfl⟩)
  simp only[z5] at this
  exact this (by rw[e])
 refine⟨?_,fun g hg=>?_,?_,?_⟩
 ·rw[aU,putK,zv (by rw[hany];exact z4),ZE];rfl
 ·rcases List.mem_append.mp hg with hg|hg
  ·obtain⟨vs,e,r⟩:=G.l g hg
   exact⟨vs,by rw[aG fun z=>by rw[z,G.d] at e;cases e];exact e,r.kp kp⟩
  ·cases List.mem_singleton.mp hg
   exact⟨[],by rw[aG hlD];exact hl,aJ.nil⟩
 ·rw[ZE,qr]
  exact⟨G.k,by simp,fun a ha b hb=>by cases List.mem_singleton.mp hb;exact fun z=>hkn (by rw[z] at ha;exact ha)⟩
 ·rw[ZE,qr]
  exact⟨G.a,by simp,fun a ha b hb=>by cases List.mem_singleton.mp hb;exact fun z=>hla (zh _ (by rw[z] at ha;exact ha))⟩
theorem Yl (hn:qP (gs.map fun g=>((Sum.inl g.1:Key),V.ref g.2.1)) (Sum.inl k)=none):vN (JG gs) k x=JG (uJ (gs++[(k,l,[])]) k x):=by
 have hany:((JG gs).any fun q=>decide (q.1=k))=false:=by rw[aaW,hn];rfl
 unfold vN
 rw[zv (by rw[hany];exact z4)]
 unfold JG uJ
 rw[ZE,ZE]
 congr 1
 ·rw[Zp]
  refine ZY fun g hg=>?_
  have:=List.any_eq_false.mp hany (g.1,g.2.2) (List.mem_map.mpr ⟨g,hg,rfl⟩)
  simp only[z5] at this
  simp only[Function.comp,zv this]
 ·simp
end
section
variable {X:Cx} {iter e1 e2 c ev:Expr} {fi:Ev->Option (List Dt)} {f1 f2 fv:Ev->Option Bx} {p:Ev->Option Bool} {x y w:Str} {pw py py2 py3 px p1 p2 p3 p4 pl a1 a2 c1 c2 pos:Pos}
def Ym (X:Cx) (i j:Nat) (fv:Ev->Option Bx):TE:=tBM X.K "list" RW (tBM X.K "dict" abQ (Y7 i) (IW (Y7 j) (IW (aeZ VP) VP))) (IW (tF X.K fv) VP)
theorem aaX {i j:Nat} {Hs H5:Hp} {σ5:L2.St} {ρ5:Ev} {D:Addr} {gs:List (Int×Addr×List Dt)} {k:Int} {d:Dt} {Q:L2.St->Hp->Prop} (E5:bf X.K Hs H5 σ5 ρ5) (hj:ρ5[j]?=some (some (.z (.int k)))) (hi:σ5[i]?=some (some (.ref D))) (ev:fv ρ5=some (.z d)) (G:Gp X.K H5 D gs) (hHs:∀ a∈FQ D gs,Hs a=none) (S:Sep (FQ D gs) σ5 ρ5)
  (hl:gs.length < 1000) (hll:∀ g∈gs,g.2.2.length < 1000)
  (q:∀ H' gs',bf X.K Hs H' σ5 ρ5->Gp X.K H' D gs'->(∀ a∈FQ D gs',Hs a=none)->Sep (FQ D gs') σ5 ρ5->JG gs'=vN (JG gs) k d->Q σ5 H'):Ym X i j fv σ5 H5 (fun _ H'=>Q σ5 H'):=by
 obtain⟨vk,hvk,rk⟩:=E5.val j _ hj
 have rk:vk=.int k:=by simpa only[bw,Rep] using rk
 subst rk
 have sz:(1000:Nat) < sizeLine:=by decide
 refine⟨_,hi,.inr (.inr (.inl ⟨rfl,.inl ⟨_,G.d⟩⟩)),_,hvk,qE _,fun l hln=>?_⟩
 have sl:Same H5 (upd H5 l (.lst [])):=bF hln
 have G1:=G.same sl
 have E6:=E5.grow sl
 refine⟨D,_,Sum.inl k,.ref l,rfl,rfl,G1.d,by rw[zi];omega,fun w hw=>?_,fun hn=>?_⟩
 ·obtain⟨g,hg,hk,rfl⟩:=Gp.val hw
  obtain⟨vs,hvs,rvs⟩:=G1.l g hg
  refine⟨.inl ⟨rfl,vs,.inl (.inl hvs)⟩,Hs,ρ5,_,E6,ev,fun u H7 s7 n7 r7=>?_⟩
  have G2:=G1.same s7
  have hv7:=s7 _ _ hvs
  have r7':Rep X.K H7 d u:=r7
  obtain⟨G3,eA,eM⟩:=G2.app hg hk hv7 (rvs.kp (.of s7)) r7'
  refine⟨_,vs,u,rfl,rfl,hv7,by rw[rvs.length];have:=hll g hg;omega,q _ _ ?_ G3 (by rw[eA];exact hHs) (by rw[eA];exact S) eM⟩
  have ha:g.2.1∈FQ D gs:=zh _ (List.mem_map.mpr ⟨g,hg,rfl⟩)
  exact (E6.grow s7).move (as:=[g.2.1]) (fun j c a e1 e2 e3 z=>S j c a e1 e2 e3 (by rw[List.mem_singleton.mp z];exact ha)) (.lst hv7) (fun b hb=>aG fun z=>hb (by rw[z];simp)) (fun b o eb=>by
   rw[aG fun z=>by rw[z,hHs _ ha] at eb;cases eb]
   exact (E6.grow s7).base b o eb) E6.new
 ·have hla:l∉FQ D gs:=fun z=>by
   have:=G.ld l z
   rcases this with⟨_,q⟩|⟨_,q⟩<;>(rw[hln] at q;cases q)
  have G2:=G1.new hn aU hla
  have E7:=E6.move (as:=[D]) (fun j c a e1 e2 e3 z=>S j c a e1 e2 e3 (by rw[List.mem_singleton.mp z];exact ze ..)) (.dk G1.d) (fun b hb=>aG (o:=.dK (putK (gs.map fun g=>(Sum.inl g.1,V.ref g.2.1)) (Sum.inl k) (.ref l))) fun z=>hb (by rw[z];simp)) (fun b o eb=>by
   rw[aG fun z=>by rw[z,hHs _ (ze ..)] at eb;cases eb]
   exact E6.base b o eb) E6.new
  have hlD:l≠D:=fun z=>hla (by rw[z];exact ze ..)
  refine⟨.inl ⟨rfl,[],.inl (.inl (by rw[aG hlD];exact aU))⟩,Hs,ρ5,_,E7,ev,fun u H7 s7 n7 r7=>?_⟩
  have G3:=G2.same s7
  have r7':Rep X.K H7 d u:=r7
  have hg:(k,l,([]:List Dt))∈gs++[(k,l,[])]:=ZI _ (List.mem_singleton.mpr rfl)
  have hv7:H7 l=some (.lst []):=s7 _ _ (by rw[aG hlD];exact aU)
  obtain⟨G4,eA,eM⟩:=G3.app hg rfl hv7 aJ.nil r7'
  have hHl:Hs l=none:=E5.base.free hln
  have Yn:∀ (j:Nat) c a,ρ5[j]?=some (some c)->loose c=true->σ5[j]?=some (some (.ref a))->a≠l:=fun j c a e1 e2 e3 z=>known E5 j c a e1 e2 e3 (by rw[z];exact hln)
  have afW:∀ {a:Addr},a∈FQ D (gs++[(k,l,[])])->a∈FQ D gs\/a=l:=fun {a} h=>by
   unfold FQ at h ⊢
   rw[ZE] at h
   rcases List.mem_cons.mp h with z|z
   ·exact .inl (by rw[z];exact ze ..)
   ·rcases List.mem_append.mp z with z|z
    ·exact .inl (zh _ z)
    ·exact .inr (by simpa using z)
  refine⟨l,[],u,rfl,rfl,hv7,Zs (Nat.zero_lt_succ _) (Q4 sz),q _ _ ?_ G4 (by rw[eA];exact fun a ha=>(afW ha).elim (hHs a) fun z=>by rw[z];exact hHl) (by rw[eA];exact fun j c a e1 e2 e3 ha=>(afW ha).elim (S j c a e1 e2 e3) (Yn j c a e1 e2 e3)) (Yl (l:=l) hn).symm⟩
  exact (E7.grow s7).move (as:=[l]) (fun j c a e1 e2 e3 z=>Yn j c a e1 e2 e3 (List.mem_singleton.mp z)) (.lst hv7) (fun b hb=>aG fun z=>hb (by rw[z];simp)) (fun b o eb=>by
   rw[aG fun z=>by rw[z,hHl] at eb;cases eb]
   exact (E7.grow s7).base b o eb) E7.new
end
section
variable {X:Cx} {iter e1 e2 c ev:Expr} {fi:Ev->Option (List Dt)} {f1 f2 fv:Ev->Option Bx} {p:Ev->Option Bool} {x y w:Str} {pw py py2 py3 px p1 p2 p3 p4 pl a1 a2 c1 c2 pos:Pos}
theorem K7 {ρ:Ev} {i q:Nat} {b:Bx} (h:(ρ.set i none)[q]?=some (some b)):q≠i/\ρ[q]?=some (some b):=by
 rcases getset h with⟨_,z,_⟩|⟨h1,h2⟩
 ·cases z
 ·exact⟨h1,h2⟩
theorem Yo (i j k:Nat) (hp:PassesOwn (model X.prog X.w) X.A X.env X.xe) (hc:X.calm=true) (hN:X.N.Nodup) (hi:QIF X (.Name w pw) iter fi) (h1:QV X e1 f1) (hcn:QB X c p) (h2:QV X e2 f2) (hv:QV X ev fv)
  (hij:i≠j:=by decide) (hik:i≠k:=by decide) (hjk:j≠k:=by decide) (xi:X.N[i]?=some x:=by rfl) (xj:X.N[j]?=some y:=by rfl) (xk:X.N[k]?=some w:=by rfl)
  (vi:Vr X.env.scope x:=by first|exact JY rfl|exact Q3 (JY rfl)|exact Q3 (Q3 rfl)) (vj:Vr X.env.scope y:=by first|exact JY rfl|exact Q3 (JY rfl)|exact Q3 (Q3 rfl))
  (lj:Loc X.env.scope y:=by first|exact JY rfl|exact Q3 rfl) (lk:Loc X.env.scope w:=by first|exact JY rfl|exact Q3 rfl)
  (fj:X.fn y=true\/X.env.scope.names.lookup y=some .local:=by first|exact .inl rfl|exact .inr rfl) (fk:X.fn w=true\/X.env.scope.names.lookup w=some .local:=by first|exact .inl rfl|exact .inr rfl)
  (dx:(x==("__debug__" : Str))=false:=by decide) (cx:(x==("__classdict__" : Str))=false:=by decide) (dy:(y==("__debug__" : Str))=false:=by decide) (cy:(y==("__classdict__" : Str))=false:=by decide)
  (hs:∀ z,foldedSetIterable iter X.env z=pure z:=by intro _;rfl) (s1:swapsWith e1 (some (.Name y py)) p1.line X.env=pure false:=by rfl) (s2:swapsWith e2 (some (.Name y py2)) p2.line X.env=pure false:=by rfl)
  (st1:starEach [.Name y py3,.List [] pl] X.env=[(false,eval (.Name y py3) X.env),(false,eval (.List [] pl) X.env)]:=by rfl) (st2:starEach [ev] X.env=[(false,eval ev X.env)]:=by rfl)
  (hb1:attributeBase (.Name x px) "setdefault" X.env (eval (.Name x px) X.env)=eval (.Name x px) X.env:=by rfl)
  (hb2:attributeBase (.Call (.Attribute (.Name x px) "setdefault" a1) [.Name y py3,.List [] pl] [] c1) "append" X.env (eval (.Call (.Attribute (.Name x px) "setdefault" a1) [.Name y py3,.List [] pl] [] c1) X.env)=eval (.Call (.Attribute (.Name x px) "setdefault" a1) [.Name y py3,.List [] pl] [] c1) X.env:=by rfl)
  (hw1:((backTo c1 (starEach [.Name y py3,.List [] pl] X.env)).all (fun x=>!x.1)&&(backToKw c1 (keywordEach [] X.env)).all (fun x=>x.1.isSome)&&decide ([Expr.Name y py3,.List [] pl].length+([]:List Keyword).length+(if ([]:List Keyword).isEmpty then 0 else 1) < 30))=true:=by rfl)
  (hw2:((backTo c2 (starEach [ev] X.env)).all (fun x=>!x.1)&&(backToKw c2 (keywordEach [] X.env)).all (fun x=>x.1.isSome)&&decide ([ev].length+([]:List Keyword).length+(if ([]:List Keyword).isEmpty then 0 else 1) < 30))=true:=by rfl)
  (hl1:(a1.endLine==c1.line)=true:=by rfl) (hl2:(a2.endLine==c2.line)=true:=by rfl)
  (s4:swapsWith (.Call (.Attribute (.Call (.Attribute (.Name x px) "setdefault" a1) [.Name y py3,.List [] pl] [] c1) "append" a2) [ev] [] c2) none p4.line X.env=pure false:=by rfl) :
  R3 X (.For (.Name w pw) iter [.Assign [.Name y py] e1 p1,.If c [.Assign [.Name y py2] e2 p2] [] p3,.Expr (.Call (.Attribute (.Call (.Attribute (.Name x px) "setdefault" a1) [.Name y py3,.List [] pl] [] c1) "append" a2) [ev] [] c2) p4] [] pos) (FP i j k fi f1 p f2 fv):=by
 have hrow:PE X (.Call (.Attribute (.Call (.Attribute (.Name x px) "setdefault" a1) [.Name y py3,.List [] pl] [] c1) "append" a2) [ev] [] c2) (Ym X i j fv):=
  RV PySem.F.plainAttrs_list PySem.F.slot_list_append PySem.F.type_list_append zZ
   (RV PySem.F.plainAttrs_dict PySem.F.slot_dict_setdefault PySem.F.type_dict_setdefault aaV (tu (i:=i) xi vi dx cx) (nR (tu (i:=j) xj vj dy cy) (nR (VR uU) uU rfl) (by rw[st1]<;>rfl)) hb1 hw1 hl1 (by rw[st1]<;>rfl) rfl)
   (nR hv.run uU (by rw[st2]<;>rfl)) hb2 hw2 hl2 (by rw[st2]<;>rfl) rfl
 refine⟨Vu (ad7 (Pz hp hc hi.run (L2.J0 hN xk lk fk) (Dr (Pu (pos:=p1) (pos':=py) hN xj lj h1.run s1 fj) (Dr (abh (pos:=p3) hcn.run (RJ (Pu (pos:=p2) (pos':=py2) hN xj lj h2.run s2 fj)) RG) (RJ (JZ hrow s4)))) hs)) fun De σ H h=>?_⟩
 obtain⟨H0,ρ,r,E,e,q⟩:=h
 unfold FP at e
 split at e
 ·rename_i hρ
  split at e
  rotate_left
  ·cases e
  rename_i hjL
  obtain⟨ds,ed,e⟩:=bind_some e
  obtain⟨m,em,e⟩:=bind_some e
  cases e
  obtain⟨v,hσi,D,ks,rfl,hD,rm,_⟩:=E.val i _ hρ
  have hks:ks=[]:=List.length_eq_zero_iff.mp (by rw[rm.len];rfl)
  subst hks
  have hiL:i < ρ.length:=(List.getElem?_eq_some_iff.mp hρ).1
  have fr:∀ (q:Nat) b,(((ρ.set i none).set j none).set k none)[q]?=some (some b)->q≠i/\q≠j/\q≠k/\ρ[q]?=some (some b):=fun q b e=>by
   obtain⟨n1,e⟩:=K7 e
   obtain⟨n2,e⟩:=K7 e
   obtain⟨n3,e⟩:=K7 e
   exact⟨n3,n2,n1,e⟩
  have hl0:(((ρ.set i none).set j none).set k none).length=ρ.length:=by simp
  generalize ((ρ.set i none).set j none).set k none=ρ0 at *
  have E0:bf X.K H0 H σ ρ0:=E.forget hl0.symm fun q b e=>(fr q b e).2.2.2
  refine⟨H0,ρ0,ds,E0,ed,fun J H1 sm1 y=>?_⟩
  have E1:=E0.grow sm1
  have hD1:=sm1 _ _ hD
  have ad9:∀ (q:Nat) c a,ρ0[q]?=some (some c)->loose c=true->σ[q]?=some (some (.ref a))->a≠D:=fun q c a e1 e2 e3 z=>by
   subst z
   obtain⟨n1,_,_,e⟩:=fr q c e1
   exact n1 (E.own i q _ a c hρ rfl hσi e e2 e3).symm
  have Y:Yields X.K J ds (sy (dF H1 σ ρ0) D):=by
   refine y _ (tK.trans pH) (fun a ha=>?_) (fun a o u ha=>?_) fun a vs ha=>?_
   ·rw[mF fun z=>by rw[z,hD] at ha;cases ha]
    unfold dF
    rw[zv]
    rintro⟨q,c,e1,ec,e2⟩
    obtain⟨v,e3,rc⟩:=E0.val q _ e1
    exact known E0 q c a e1 (by cases c<;>first|rfl|cases ec) e2 ha
   ·rw[mF fun z=>by rw[z,hD1] at ha;cases ha]
    exact fG E1 (fun vs z=>by rw[ha] at z;cases z) fun vs z=>by rw[ha] at z;cases z
   ·rw[mF fun z=>by rw[z,hD1] at ha;cases ha]
    exact fG E1 (fun vs z=>by rw[ha] at z;cases z) fun vs z=>by rw[ha] at z;cases z
  have sub:Same H0 (sy (dF H1 σ ρ0) D):=fun b o eb=>by
   rw[mF fun z=>by rw[z,E.new i _ D hρ rfl hσi] at eb;cases eb]
   exact E1.sub b o eb
  have ES:bf X.K (sy (dF H1 σ ρ0) D) H1 σ ρ0:=by
   have:=E1.sans
   exact⟨this.len,this.val,this.own,tK.trans pH,fun q c a e1 ec e2=>by
    unfold sy
    split
    ·rfl
    ·exact this.new q c a e1 ec e2⟩
  generalize hHs:sy (dF H1 σ ρ0) D=Hs at Y sub ES
  have hsD:Hs D=none:=by rw[<-hHs];exact zo rfl
  clear hHs
  refine⟨fun n m' σ' H'=>m'=ds.length - n/\n<=ds.length/\(∀ q,q≠j->q≠k->σ'[q]?=σ[q]?)/\∃ gs,bf X.K Hs H' σ' ρ0/\Gp X.K H' D gs/\(∀ a∈FQ D gs,Hs a=none)/\Sep (FQ D gs) σ ρ0/\K6 k j f1 p f2 fv ρ0 (ds.drop n) (JG gs)=some m,⟨ds.length,by simp,qE _,fun _ _ _=>rfl,[],ES,⟨hD1,fun g hg=>(by cases hg),JI,JI⟩,fun a ha=>by rw[List.mem_singleton.mp ha];exact hsD,fun q c a e1 e2 e3 z=>ad9 q c a e1 e2 e3 (List.mem_singleton.mp z),em⟩,?_⟩
  rintro n m' σ' H' ⟨rfl,hn,hσ,gs,E',G,hg0,S,em'⟩
  obtain⟨y1,y2⟩:=Y n H' E'.base
  by_cases hlt:n < ds.length
  ·right
   have hd:ds[n]?=some ds[n]:=by simp[hlt]
   obtain⟨go,yl⟩:=y1 _ hd
   rw[KW hlt] at em'
   simp only[K6] at em'
   obtain⟨b1,eb1,em'⟩:=bind_some em'
   refine⟨go,fun σ2 H2=>(∀ q,q≠j->q≠k->σ2[q]?=σ[q]?)/\∃ gs,bf X.K Hs H2 σ2 ρ0/\Gp X.K H2 D gs/\(∀ a∈FQ D gs,Hs a=none)/\Sep (FQ D gs) σ ρ0/\K6 k j f1 p f2 fv ρ0 (ds.drop (n+1)) (JG gs)=some m,fun σ2 H2 ⟨z1,z2⟩=>⟨ds.length - (n+1),by omega,rfl,hlt,z1,z2⟩,fun xv H2 yy=>?_⟩
   obtain⟨sm2,rx⟩:=yl xv H2 yy
   have Ek:bf X.K Hs H2 (σ'.set k (some xv)) (ρ0.set k (some (.z ds[n]))):=(E'.grow sm2).set (b:=.z ds[n]) (Same.refl H2) rx (.inr rfl) trivial
   cases b1 with
   |z d1=>
    obtain⟨t,et,em'⟩:=bind_some em'
    obtain⟨b2,eb2,em'⟩:=bind_some em'
    refine⟨Hs,_,_,Ek,eb1,fun v1 H3 s3 n3 r3=>?_⟩
    have E3:bf X.K Hs H3 ((σ'.set k (some xv)).set j (some v1)) ((ρ0.set k (some (.z ds[n]))).set j (some (.z d1))):=Ek.set (b:=.z d1) s3 r3 (.inr rfl) trivial
    have G3:=(G.same sm2).same s3
    split at em'
    ·rename_i yk
     obtain⟨v,ev',em'⟩:=bind_some em'
     split at em'
     ·rename_i xd
      split at em'
      ·rename_i hlen
       have fin:∀ σ5 H5,bf X.K Hs H5 σ5 (((ρ0.set k (some (.z ds[n]))).set j (some (.z d1))).set j (some (.z (.int yk))))->Same H3 H5->(∀ q,q≠j->q≠k->σ5[q]?=σ'[q]?)->Ym X i j fv σ5 H5 (fun _ H'=>(∀ q,q≠j->q≠k->σ5[q]?=σ[q]?)/\∃ gs,bf X.K Hs H' σ5 ρ0/\Gp X.K H' D gs/\(∀ a∈FQ D gs,Hs a=none)/\Sep (FQ D gs) σ ρ0/\K6 k j f1 p f2 fv ρ0 (ds.drop (n+1)) (JG gs)=some m):=fun σ5 H5 E5 s5 a5=>by
        have ag:∀ q,q≠j->q≠k->σ5[q]?=σ[q]?:=fun q n1 n2=>(a5 q n1 n2).trans (hσ q n1 n2)
        have up:∀ (q:Nat) b,ρ0[q]?=some (some b)->(((ρ0.set k (some (.z ds[n]))).set j (some (.z d1))).set j (some (.z (.int yk))))[q]?=some (some b):=fun q b e=>by
         obtain⟨_,n1,n2,_⟩:=fr q b e
         rw[rZ _ n1,rZ _ n1,rZ _ n2];exact e
        have dn:∀ (q:Nat) b,loose b=true->(((ρ0.set k (some (.z ds[n]))).set j (some (.z d1))).set j (some (.z (.int yk))))[q]?=some (some b)->ρ0[q]?=some (some b):=fun q b hl e=>by
         rcases getset e with⟨_,z,_⟩|⟨_,e⟩
         ·cases z;cases hl
         ·rcases getset e with⟨_,z,_⟩|⟨_,e⟩
          ·cases z;cases hl
          ·rcases getset e with⟨_,z,_⟩|⟨_,e⟩
           ·cases z;cases hl
           ·exact e
        refine aaX (Q:=fun σ5 H'=>(∀ q,q≠j->q≠k->σ5[q]?=σ[q]?)/\∃ gs,bf X.K Hs H' σ5 ρ0/\Gp X.K H' D gs/\(∀ a∈FQ D gs,Hs a=none)/\Sep (FQ D gs) σ ρ0/\K6 k j f1 p f2 fv ρ0 (ds.drop (n+1)) (JG gs)=some m) E5 (z7 _ (by simp;omega)) ((ag i hij hik).trans hσi) ev' (G3.same s5) hg0 (fun q c a e1 e2 e3=>?_) (by have:=hlen.1;simpa [JG] using this) (fun g hg=>hlen.2 _ (List.mem_map.mpr ⟨g,hg,rfl⟩)) fun H6 gs' E6 G6 h6 S6 eM=>⟨ag,gs',E6.forget (by simp) up,G6,h6,fun q c a e1 e2 e3=>?_,by rw[eM];exact em'⟩
        ·have e0:=dn q c e2 e1
         obtain⟨_,n1,n2,_⟩:=fr q c e0
         exact S q c a e0 e2 (by rw[<-ag q n1 n2];exact e3)
        ·obtain⟨_,n1,n2,_⟩:=fr q c e1
         exact S6 q c a (up q c e1) e2 (by rw[ag q n1 n2];exact e3)
       have a3:∀ q,q≠j->q≠k->((σ'.set k (some xv)).set j (some v1))[q]?=σ'[q]?:=fun q n1 n2=>by rw[rZ _ n1,rZ _ n2]
       refine⟨Hs,_,t,E3,et,fun H4 sm4=>?_⟩
       cases t with
       |true=>
        rw[zo rfl] at eb2 ⊢
        refine⟨Hs,_,_,E3.grow sm4,eb2,fun v2 H5 s5 n5 r5=>?_⟩
        exact fin _ _ ((E3.grow sm4).set (b:=.z (.int yk)) s5 r5 (.inr rfl) trivial) (sm4.trans s5) fun q n1 n2=>by rw[rZ _ n1];exact a3 q n1 n2
       |false=>
        rw[zv z4] at eb2 ⊢
        cases eb2
        exact fin _ _ (by rw[List.set_set];exact E3.grow sm4) sm4 a3
      ·cases em'
     ·cases em'
    ·cases em'
   |l _=>cases em'
   |o _=>cases em'
   |n _=>cases em'
   |m _ _=>cases em'
  ·left
   have hge:ds.length<=n:=by omega
   rw[List.drop_eq_nil_of_le hge] at em'
   cases em'
   refine⟨y2 hge,gs.map (·.2.1),G.a,fun a ha=>?_,fun H2 kp o1 o2=>?_⟩
   ·obtain⟨g,hg,rfl⟩:=List.mem_map.mp ha
    obtain⟨vs,e,_⟩:=G.l g hg
    exact⟨vs,e⟩
   ·have agL:∀ (q:Nat) c,ρ0[q]?=some (some c)->σ'[q]?=σ[q]?:=fun q c e=>let ⟨_,n1,n2,_⟩:=fr q c e;hσ q n1 n2
    have hDa:D∉gs.map (·.2.1):=fun z=>by
     obtain⟨g,hg,e⟩:=List.mem_map.mp z
     obtain⟨vs,e2,_⟩:=G.l g hg
     rw[e,G.d] at e2;cases e2
    have E2:bf X.K H0 H2 σ' ρ0:=E'.move (as:=gs.map (·.2.1)) (fun q c a e1 e2 e3 z=>S q c a e1 e2 (by rw[<-agL q c e1];exact e3) (zh _ z)) kp o1 (fun b o eb=>by
     have eb':=sub b o eb
     rw[o1 b fun z=>by rw[hg0 b (zh _ z)] at eb';cases eb']
     exact E'.base b o eb') fun q c a e1 ec e2=>sub.free (E'.new q c a e1 ec e2)
    have hi':σ'[i]?=some (some (.ref D)):=(hσ i hij hik).trans hσi
    have rD:bw X.K H2 (.m ((JG gs).map fun q=>(Sum.inl q.1,Dt.lst q.2)) none) (.ref D):=by
     refine⟨D,_,rfl,(o1 D hDa).trans G.d,⟨?_,?_,?_⟩,fun b h=>by cases h⟩
     ·unfold JG;rw[Zp,Zp,Zp];rfl
     ·have:∀ gs':List (Int×Addr×List Dt),(∀ g∈gs',g∈gs)->aJ X.K H2 (((JG gs').map fun q=>((Sum.inl q.1:Key),Dt.lst q.2)).map (·.2)) ((gs'.map fun g=>((Sum.inl g.1:Key),V.ref g.2.1)).map (·.2)):=by
       intro gs'
       induction gs' with
       |nil=>intro _;exact aJ.nil
       |cons g gs' ih=>
        intro h
        refine aJ.cons ?_ (ih fun g hg=>h g (zh _ hg))
        obtain⟨vs,e1,r1⟩:=G.l g (h g (ze ..))
        obtain⟨o,vs',e2,e3⟩:=o2 g.2.1 (List.mem_map.mpr ⟨g,h g (ze ..),rfl⟩)
        rw[e1] at e2;cases e2
        simp only[Rep]
        exact⟨g.2.1,vs,rfl,.inl ⟨o,e3⟩,r1.kp kp⟩
      exact this gs fun _ h=>h
     ·intro pr hpr
      obtain⟨g,_,rfl⟩:=List.mem_map.mp hpr
      trivial
    refine q σ' H2 ⟨by rw[jS];exact E2.len,fun q b e=>?_,fun q1 q2 c a b g1 g2 g3 g4 g5 g6=>?_,E2.base,fun q c a g1 g2 g3=>?_⟩
    ·rcases getset e with⟨rfl,z,_⟩|⟨n1,e⟩
     ·cases z;exact⟨_,hi',rD⟩
     ·exact E2.val q b e
    ·rcases getset g1 with⟨rfl,z,_⟩|⟨n1,k1⟩
     ·cases z
      rw[hi'] at g3;cases g3
      rcases getset g4 with⟨rfl,_,_⟩|⟨n2,k4⟩
      ·rfl
      ·exact absurd rfl (ad9 q2 b _ k4 g5 (by rw[<-agL q2 b k4];exact g6))
     ·rcases getset g4 with⟨rfl,z,_⟩|⟨n2,k4⟩
      ·cases z
       rw[hi'] at g6;cases g6
       exact absurd rfl (ad9 q1 c _ k1 (by cases c<;>first|rfl|cases g2) (by rw[<-agL q1 c k1];exact g3))
      ·exact E2.own q1 q2 c a b k1 g2 g3 k4 g5 g6
    ·rcases getset g1 with⟨rfl,z,_⟩|⟨n1,g1⟩
     ·rw[hi'] at g3;cases g3
      exact E.new _ _ _ hρ rfl hσi
     ·exact E2.new q c a g1 g2 g3
 ·cases e
end
end P1
end
section
namespace P1
open PySem PySem.Spec PyProof.Rows L2 S6
section
variable {X:Cx} {kx vx t1 i1 t2 i2:Expr} {f1 f2:List Expr} {scope:Scope} {cl:List (Str×Addr)} {pos:Pos} {xs:LS_} {is:List Nat} {g1 g2:Dt->Ev->Option Ev} {p1 p2:Ev->Option Bool} {fk fv:Ev->Option Bx} {fi1 fi2:Ev->Option (List Dt)} {m:Nat}
def K8 (fi:Ev->Option (List Dt)) (gt:Dt->Ev->Option Ev) (p:Ev->Option Bool) (fs:Ev->Option (List Dt)) (is:List Nat) (n:Nat):Ev->Option Bx:=fun ρ=>(cls2 fi gt p fs is n ρ).bind fun out=>if out.length < 1000 then some (.m (dictOf out) none) else none
theorem Vy.no {K:FG_} {D:Addr} {H:Hp} {o1:List Dt} {o:HO}:Vy K D H o1 o->(∀ ob u,o≠.n8 ob u)/\∀ vs,o≠.tup vs:=fun ⟨_,e,_⟩=>by subst e;exact⟨fun _ _ z=>(by cases z),fun _ z=>(by cases z)⟩
theorem Vk (ts:LS_) (W:Two X ts m scope cl xs is t1 i1 f1 t2 i2 f2 fi1 fi2 g1 g2 p1 p2) (hkx:∀ C s₀ H₀ fp,QV (yw X (xs++ts) scope cl C s₀ H₀ fp) kx fk) (hvx:∀ C s₀ H₀ fp,QV (yw X (xs++ts) scope cl C s₀ H₀ fp) vx fv) :
  QV X (.DictComp kx vx [⟨t1,i1,f1,0⟩,⟨t2,i2,f2,0⟩] scope pos) (K8 fi1 g1 p1 (inC fi2 g2 p2 (Wt (b2 zm fk fv))) is ts.length):=⟨fun pins s σ H Q I h=>by
 obtain⟨H0,ρ,b,E,e,q⟩:=h
 obtain⟨out,eo,e⟩:=bind_some e
 obtain⟨ds,ed,eo⟩:=bind_some eo
 split at e
 ·rename_i hlen
  cases e
  rw[arm_eval_DictComp]
  refine kb (use:=none) rfl W.hs W.ok.clos W.ok.kind W.ok.names ?_
  refine j9 (W.it1.run pins s σ H (fun J H'=>Same H H'/\Yields X.K J ds H') I ⟨H0,ρ,ds,E,ed,fun J H' s' y=>⟨s',y⟩⟩) fun v s1 h1=>j9 h1 fun itv s2 h2=>?_
  obtain⟨it,fp,tn,J,H2,rfl,I2,T,st,hf,s12,Y⟩:=h2
  refine Ab (Ac:=Vy X.K) (O0:=.dK []) (N:=999) (RR:=fun acc C=>compPost (model X.prog X.w) X.A X.xe none (EP X pins σ Q) acc C) (ts:=ts) (xs:=xs) W.ok W.calm (fun C s₀ H₀ fp=>(W.tg1 C s₀ H₀ fp).run) (fun C s₀ H₀ fp=>(W.c1 C s₀ H₀ fp).run)
   (fun C s₀ H₀ fp=>Ws (X:=yw X (xs++ts) scope cl C s₀ H₀ fp) (comp:=.DictComp kx vx [⟨t1,i1,f1,0⟩,⟨t2,i2,f2,0⟩] scope pos) (d:=1) W.calm rfl (W.it2 C s₀ H₀ fp).run (W.tg2 C s₀ H₀ fp).run (W.c2 C s₀ H₀ fp).run (S8 (hkx C s₀ H₀ fp).run (hvx C s₀ H₀ fp).run) W.k2 W.hm2 Vy.kp Vy.no (W.hs2 C) (fun _ _ _=>rfl) (Us rfl fun h=>h) fun h=>h)
   W.k1 W.hm I2 ((E.grow s12).caps is ts.length) T st hf Y eo (Nat.le_of_lt_succ hlen) ?_
   qq (fun _=>Dy s2.heap I2.big) (fun _=>⟨[],rfl,fD.nil,zk _⟩) Vy.kp (fun _ _ _=>by simp only[bind_assoc,pure_bind];rfl) codeAny_compStart_dict fun h=>h
  rintro D C s' H' o hD I' fC ⟨m,hn⟩ s2' hD' ⟨us,rfl,rm,_⟩
  refine⟨m,hn,fun h' sb=>⟨.ref D,H',?_,rfl,q (.ref D) H' (s12.trans s2') (fun a ea=>by cases ea;exact s12.free hD) ⟨D,us,rfl,hD',rm,fun b hb=>by cases hb⟩⟩⟩
  obtain⟨f0,f1,f2,f3,f4,f5⟩:=fC
  exact I'.turned (t':=s'.toks) (fun b o hb e=>(sb.2 b hb).trans e) f0 f1 f3 f4 f5
 ·cases e⟩
end
end P1
end
section
namespace P1
open PySem PySem.Spec PyProof.Rows L2
section
variable {α β γ:Type} {ρ:Ev} {e:α->Dt} {e0:β->Dt} {fa fb fd f1 f2 fv:Ev->Option Bx} {p:Ev->Option Bool} {fi:Ev->Option (List Dt)} {kk:Ev->Option Out} {cO:γ->Out}
abbrev mI (e:α->Dt):List (Int×α)->Bx:=fun m=>.m (m.map fun q=>(kI q.1,e q.2)) none
abbrev nI (e:α->Dt):List (Int×α)->Bx:=fun m=>.n (m.map fun q=>(kI q.1,e q.2))
def aaY (e:α->Dt):R (fun _=>some (.m [] none)) ρ (mI e):=⟨[],none,fun _=>rfl⟩
def aaZ [Inhabited α] (a:R fa ρ (nI e)) (b:R fb ρ (zE eI)):R (b2 mY fa fb) ρ (zE e):=⟨look a.v b.v,aY (aY a.D b.D) (some (has a.v b.v=true)),fun h=>by
 obtain⟨h,h3⟩:=au h
 obtain⟨h1,h2⟩:=au h
 simp only[b2,a.ok h1,b.ok h2,bnd,mY,Z7,Ob (c:=kI) (show has a.v b.v=true from h3)]⟩
def afZ (a:R fd ρ (nI e)):R (Bu fd) ρ (iE eI):=⟨a.v.map (·.1),a.D,fun h=>by
 simp only[Bu,a.ok h,bnd,keyB,Zp]
 rfl⟩
def Oi (k:β->Int) (v:β->α) (xs:List β):List (Int×List α):=xs.foldl (fun m x=>vN m (k x) (v x)) []
theorem Yp (m:List (Int×List α)) (k:Int) (x:α):vN (m.map fun q=>(q.1,q.2.map e)) k (e x)=(vN m k x).map fun q=>(q.1,q.2.map e):=by
 unfold vN
 rw[KO]
 simp only[Function.comp_def]
 by_cases h:(m.any fun q=>decide (q.1=k))=true
 ·rw[zo h,zo h,Zp,Zp]
  refine ZY fun q _=>?_
  simp only[Function.comp]
  split<;>simp
 ·rw[zv h,zv h]
  simp
theorem Yq (m:List (Int×List α)) (k:Int) (x:α) (n:Nat) (h:m.length<=n/\∀ q∈m,q.2.length<=n):(vN m k x).length<=n+1/\∀ q∈vN m k x,q.2.length<=n+1:=by
 unfold vN
 split
 ·refine⟨by rw[zi];omega,fun q hq=>?_⟩
  obtain⟨q',h',rfl⟩:=List.mem_map.mp hq
  have:=h.2 q' h'
  split
  ·simp;omega
  ·omega
 ·refine⟨by simp;omega,fun q hq=>?_⟩
  rcases List.mem_append.mp hq with hq|hq
  ·have:=h.2 q hq;omega
  ·cases List.mem_singleton.mp hq;simp
theorem Yr {k j:Nat} {K:β->Int} {V:β->α}:∀ (xs:List β) (m:List (Int×List α)) (n:Nat),(∀ x∈xs,∃ y1 t,f1 (ρ.set k (some (.z (e0 x))))=some (.z (.int y1))/\p ((ρ.set k (some (.z (e0 x)))).set j (some (.z (.int y1))))=some t/\(if t=true then f2 ((ρ.set k (some (.z (e0 x)))).set j (some (.z (.int y1)))) else some (.z (.int y1)))=some (.z (.int (K x)))/\fv (((ρ.set k (some (.z (e0 x)))).set j (some (.z (.int y1)))).set j (some (.z (.int (K x)))))=some (.z (e (V x)))) →
  (m.length<=n/\∀ q∈m,q.2.length<=n)->n+xs.length < 1000->K6 k j f1 p f2 fv ρ (xs.map e0) (m.map fun q=>(q.1,q.2.map e))=some ((xs.foldl (fun m x=>vN m (K x) (V x)) m).map fun q=>(q.1,q.2.map e))
 |[],m,n,_,_,_=>rfl
 |x::xs,m,n,h,hm,hl=>by
  obtain⟨y1,t,h1,h2,h3,h4⟩:=h x (ze ..)
  rw[zl,QI]
  simp only[K6,h1,bnd,h2,h3,h4]
  simp only[qh] at hl
  rw[zo ⟨by rw[zi];have:=hm.1;omega,fun q hq=>by
   obtain⟨q',h',rfl⟩:=List.mem_map.mp hq
   have:=hm.2 q' h'
   simp only[zi];omega⟩,Yp]
  exact Yr xs _ (n+1) (fun y hy=>h y (zh _ hy)) (Yq m _ _ n hm) (by omega)
def aa0 (i j k:Nat) (m0:List (Int×List α)) (hi:ρ[i]?=some (some (mI (eL e) m0))) (hj:j < ρ.length) {ρ0:Ev} (h0:((ρ.set i none).set j none).set k none=ρ0) (it:R fi ρ0 (iE e0)) (a:∀ x,R f1 (ρ0.set k (some (.z (e0 x)))) (zE eI)) (c:∀ x (y:Int),R p ((ρ0.set k (some (.z (e0 x)))).set j (some (.z (.int y)))) tE) (b:∀ x (y:Int),R f2 ((ρ0.set k (some (.z (e0 x)))).set j (some (.z (.int y)))) (zE eI))
  (v:∀ x (y1 y:Int),R fv (((ρ0.set k (some (.z (e0 x)))).set j (some (.z (.int y1)))).set j (some (.z (.int y)))) (zE e)) (K:∀ m:List (Int×List α),R kk (ρ0.set i (some (mI (eL e) m))) cO):R (aF (FP i j k fi f1 p f2 fv) kk) ρ cO:=
 let ky:=fun x=>if (c x (a x).v).v=true then (b x (a x).v).v else (a x).v
 ⟨(K (Oi ky (fun x=>(v x (a x).v (ky x)).v) it.v)).v,aY (aY (aY (aY (some (m0=[])) it.D) (some (it.v.length < 1000))) (X7 it.v fun x=>aY (a x).D (aY (c x (a x).v).D (aY (Cm ((c x (a x).v).v=true) (b x (a x).v).D) (v x (a x).v (ky x)).D)))) (K (Oi ky (fun x=>(v x (a x).v (ky x)).v) it.v)).D,fun hd=>by
 obtain⟨h,h4⟩:=au hd
 obtain⟨h,h3⟩:=au h
 obtain⟨h',h2⟩:=au h
 obtain⟨hm,h1⟩:=au h'
 have hm:m0=[]:=hm
 rw[hm] at hi
 have h2:it.v.length < 1000:=h2
 have h3:∀ x∈it.v,hold (aY (a x).D (aY (c x (a x).v).D (aY (Cm ((c x (a x).v).v=true) (b x (a x).v).D) (v x (a x).v (ky x)).D))):=h3
 rw[nq (ρ':=ρ0.set i (some (mI (eL e) (Oi ky (fun x=>(v x (a x).v (ky x)).v) it.v)))) (by
  unfold FP
  rw[show ρ[i]?=some (some (Bx.m [] none)) from hi]
  simp only[zo hj,h0,it.ok h1,bnd]
  have:=Yr (ρ:=ρ0) (k:=k) (j:=j) (f1:=f1) (p:=p) (f2:=f2) (fv:=fv) (e:=e) (e0:=e0) (K:=ky) (V:=fun x=>(v x (a x).v (ky x)).v) it.v [] 0 (fun x hx=>by
   obtain⟨d1,d2⟩:=au (h3 x hx)
   obtain⟨d2,d3⟩:=au d2
   obtain⟨d3,d4⟩:=au d3
   refine⟨(a x).v,(c x (a x).v).v,(a x).ok d1,(c x (a x).v).ok d2,?_,(v x (a x).v (ky x)).ok d4⟩
   by_cases ht:(c x (a x).v).v=true
   ·rw[zo ht,(b x (a x).v).ok (mL d3 ht)]
    simp only[ky,zo ht]
   ·rw[zv ht]
    simp only[ky,zv ht]) ⟨zk _,fun q hq=>by cases hq⟩ (by simpa using h2)
  rw[JU] at this
  rw[show (iE e0) it.v=it.v.map e0 from rfl,this,bnd]
  congr 5
  rw[Zp]
  rfl)]
 exact (K _).ok h4⟩
end
section
variable {X:Cx}
def q8:List Bx->Option Bx
 |[.z (.str x)]=>some (.z (.tup (signs x)))
 |_=>none
theorem zx (hc:X.calm=true):qT X (.type "tuple") q8:=by
 intro pins s σ H xs us Q I rx h
 obtain⟨bs,c,rb,e,q⟩:=h
 unfold q8 at e
 split at e
 ·rename_i x
  cases e
  obtain⟨v,rfl,r1⟩:=rep1 rb
  obtain⟨rfl,hx⟩:=R7 r1
  obtain⟨u,rfl,t,rfl⟩:=vals1 rx
  have hs:x.cps.size<=sizeLine:=hx
  refine call_tuple_str (I.ok.hd hc) x t (fun h' tk acc kp it=>?_) hs
  have I1:Inv X pins σ H { s with heap:=h',toks:=tk }:=I.kept (t':=tk) kp
  have sa:StrsAre acc.toList (chars x):=vB _ _ (by rw[ZZ,it.1,Av];rfl) fun j v hv=>by
   obtain⟨c,u,ec,ev⟩:=it.2 j v (by simpa using hv)
   refine⟨⟨#[c]⟩,u,?_,ev⟩
   unfold chars
   rw[zS,qB,ec];rfl
  have I2:Inv X pins σ (upd H h'.objs.size (.tup ((chars x).map V.str))) { s with heap:=h'.push { cls:=.type "tuple", data:=.seq acc },toks:=tk }:=
   I1.laid (t':=tk) (fun b o e=>zd _ e) (zk _) (show fu X.prog X.w _ _ _ (.tup _) from⟨by rw[zi,Av];exact hx,acc.toList,wD sa,by rw[Array.toArray_toList];exact sZ.new _ _⟩)
  refine⟨.ref h'.objs.size,_,I2,rfl,q _ _ (bF (I1.hok.fresh (zk _))) trivial ?_⟩
  unfold bw Rep
  refine⟨_,_,rfl,.inl (.inl aU),?_⟩
  rw[Fv]
  exact yR fun y hy=>by
   unfold chars at hy
   obtain⟨c,_,rfl⟩:=List.mem_map.mp hy
   exact Zl (zk 1) (by decide)
 ·cases e
end
section
variable {α β:Type} {e:α->Dt} {ρ:Ev} {fa:Ev->Option Bx} {p:Ev->Option Bool} {fi fs:Ev->Option (List Dt)} {gt:Dt->Ev->Option Ev} {is:List Nat} {n:Nat}
def FT (a:R fa ρ (zE eS)):R (bM q8 (ao fa aD)) ρ (zE (eT eS)):=⟨chars a.v,a.D,fun h=>by
 simp only[bM,ao,aD,a.ok h,bnd,q8,Fv]⟩
def Ys (a:R (cls2 fi gt p fs is n) ρ (iE (Vz eS e))):R (K8 fi gt p fs is n) ρ (mE e):=⟨mkD a.v,aY a.D (some (a.v.length < 1000)),fun h=>by
 obtain⟨h1,h2⟩:=au h
 simp only[K8,a.ok h1,bnd,iE,zi,zo (show a.v.length < 1000 from h2),Fz]⟩
end
section
variable {X:Cx} {a:Expr} {fa:Ev->Option Bx} {pos:Pos}
def aa1 (fa:Ev->Option Bx):Ev->Option Bx:=fun ρ=>((fa ρ).bind Uk).bind fun c=>some (.z (.bl (!c)))
theorem aa2 (ha:QV X a fa):QV X (.UnaryOp .Not a pos) (aa1 fa):=⟨fun pins s σ H Q I h=>by
 obtain⟨H0,ρ,k,E,e,w⟩:=h
 obtain⟨c,ec,e⟩:=bind_some e
 obtain⟨x,ex,ec⟩:=bind_some ec
 cases e
 refine UnaryOp_ (j9 (ha.run pins s σ H (fun v H1=>Same H H1/\bw X.K H1 x v) I ⟨H0,ρ,x,E,ex,fun v H1 s1 _ r1=>⟨s1,r1⟩⟩) fun v s1 ⟨x',H1,I1,r1,s1',q1⟩=>?_)
 exact not_of (j9 (VJ pins s1 σ H1 x' v (fun k H2=>k=c/\H2=H1) I1 r1 ⟨c,RZ q1 ec,rfl,rfl⟩) fun k s2 h2=>by
  obtain⟨H2,I2,rfl,rfl⟩:=h2
  exact⟨.bl (!k),H2,I2,rfl,w _ H2 s1' trivial (by simp only[bw,Rep])⟩)⟩
end
theorem dG {α:Type} {g:Ev->Option Out} {n:Nat} {bs:List Bx} {c:α->Bx} {v:α} {D:Option Prop} (x:RP g (bs.map some++List.replicate (n - bs.length) none) (fun r=>Out.rt (c r)) v D) (h:hold D):iR n g bs=some (c v):=adQ x.r h
section
variable {α:Type} {e:α->Dt} {ρ:Ev} {fa:Ev->Option Bx}
def aea (a:RL fa ρ e):R (aa1 fa) ρ (zE eB):=⟨a.v.isEmpty,a.D,fun h=>by
 have h1:=(abI a).ok h
 unfold tV at h1
 unfold aa1
 rw[h1]
 simp[abI,bnd]⟩
end
theorem lt_iff (a b:Str):XH a b=true↔qO a b/\a≠b:=by
 unfold XH qO
 rw[ltCps_eq]
 simp only[z5,Qb]
 constructor
 ·intro h
  exact⟨List.lt_asymm h,fun e=>by subst e;exact List.lt_irrefl _ h⟩
 ·intro ⟨h,hn⟩
  by_cases q:a.cps.toList < b.cps.toList
  ·exact q
  ·exact absurd (Eb (a:=a) (b:=b) (by unfold qO;rw[ltCps_eq];simpa using h) (by unfold qO;rw[ltCps_eq];simpa using q)) hn
theorem Tr {n:Nat} {i:Int} (h:i∈rng 0 n):∃ k:Nat,k < n/\i=(k:Int):=by
 unfold rng at h
 obtain⟨k,hk,rfl⟩:=List.mem_map.mp h
 exact⟨k,List.mem_range.mp hk,by omega⟩
end P1
end
section
namespace P1
open PySem PySem.Spec PyProof.Rows L2 S1 S6
theorem FW {α:Type} [DecidableEq α]:∀ {xs ys:List α},xs.Nodup->(∀ x∈xs,x∈ys)->xs.length<=ys.length
 |[],_,_,_=>qE _
 |x::xs,ys,nd,h=>by
  obtain⟨h1,h2⟩:=List.nodup_cons.mp nd
  have hx:=h x (ze ..)
  have:=FW (ys:=ys.erase x) h2 fun y hy=>(KB fun e=>h1 (by rw[<-e];exact hy)).mpr (h y (zh _ hy))
  rw[yf hx] at this
  have:=Kb hx
  simp only[qh]
  omega
theorem yg {α:Type} [DecidableEq α] {xs ys:List α} (h1:xs.Nodup) (h2:ys.Nodup) (h:∀ x,x∈xs↔x∈ys):xs.Perm ys:=by
 rw[List.perm_iff_count]
 intro a
 by_cases ha:a∈xs
 ·rw[h1.count,h2.count,zo ha,zo ((h a).mp ha)]
 ·rw[h1.count,h2.count,zv ha,zv fun z=>ha ((h a).mpr z)]
structure Wd (U:LS_) (w:List LS_):Prop where
 ne:∀ s∈w,s≠[]
 so:∀ s∈w,s.Pairwise qO
 nd:w.flatten.Nodup
 sub:∀ x∈w.flatten,x∈U
 st:w.Pairwise (fun a b=>K3 a b=true)
def same (w:List LS_) (x y:Str):Prop:=∃ s∈w,x∈s/\y∈s
theorem zy {α:Type}:∀ {w:List (List α)},w.flatten.Nodup->∀ {s t:List α} {x:α},s∈w->t∈w->x∈s->x∈t->s=t
 |a::w,h,s,t,x,hs,ht,xs,xt=>by
  rw[qi,qr] at h
  rcases List.mem_cons.mp hs with e1|e1<;>rcases List.mem_cons.mp ht with e2|e2
  ·rw[e1,e2]
  ·exact absurd rfl (h.2.2 x (by rw[<-e1];exact xs) x (List.mem_flatten.mpr ⟨t,e2,xt⟩))
  ·exact absurd rfl (h.2.2 x (by rw[<-e2];exact xt) x (List.mem_flatten.mpr ⟨s,e1,xs⟩))
  ·exact zy h.2.1 e1 e2 xs xt
theorem Oj {α:Type}:∀ {w:List (List α)},w.flatten.Nodup->∀ {s:List α},s∈w->s.Nodup
 |a::w,h,s,hs=>by
  rw[qi,qr] at h
  rcases List.mem_cons.mp hs with e|e
  ·rw[e];exact h.1
  ·exact Oj h.2.1 e
theorem FZ {α:Type}:∀ {w:List (List α)},w.flatten.Nodup->(∀ s∈w,s≠[])->w.Nodup
 |[],_,_=>JI
 |a::w,h,hn=>by
  have h':=h
  rw[qi,qr] at h
  refine List.nodup_cons.mpr ⟨fun z=>?_,FZ h.2.1 fun s hs=>hn s (zh _ hs)⟩
  obtain⟨x,hx⟩:=jv a (hn a (ze ..))
  exact absurd rfl (h.2.2 x hx x (List.mem_flatten.mpr ⟨a,z,hx⟩))
section
variable {α β:Type}
structure GOk (m:List (Int×List α)) (xs:List α):Prop where
 k:(m.map (·.1)).Nodup
 ne:∀ q∈m,q.2≠[]
 p:(m.map (·.2)).flatten.Perm xs
theorem GOk.put {m:List (Int×List α)} {xs:List α} (h:GOk m xs) (k:Int) (x:α):GOk (vN m k x) (xs++[x]):=by
 unfold vN
 split
 ·rename_i hk
  obtain⟨q0,hq,e⟩:=List.any_eq_true.mp hk
  have e:q0.1=k:=jI e
  obtain⟨pre,rest,rfl⟩:=List.append_of_mem hq
  have nk:=h.k
  rw[ZE,zl,qr] at nk
  have fix:∀ l:List (Int×List α),k∉l.map (·.1)->l.map (fun q=>if q.1=k then (q.1,q.2++[x]) else q)=l:=fun l hl=>by
   conv=>rhs;rw[<-K0 l]
   exact ZY fun q hq=>by rw[zv fun z=>hl (List.mem_map.mpr ⟨q,hq,z⟩)];rfl
  have f1:=fix pre fun z=>nk.2.2 _ z _ (ze ..) e.symm
  have f2:=fix rest fun z=>(List.nodup_cons.mp nk.2.1).1 (by rw[e];exact z)
  have f3:(pre++q0::rest).map (fun q=>if q.1=k then (q.1,q.2++[x]) else q)=pre++(q0.1,q0.2++[x])::rest:=by rw[ZE,zl,f1,f2,zo e]
  rw[f3]
  refine⟨by have:=h.k;simpa using this,fun q hq=>?_,?_⟩
  ·rcases List.mem_append.mp hq with hq|hq
   ·exact h.ne q (ku _ hq)
   ·rcases List.mem_cons.mp hq with z|hq
    ·rw[z];simp
    ·exact h.ne q (ZI _ (zh _ hq))
  ·refine List.Perm.trans ?_ (h.p.append_right [x])
   simp only[ZE,zl,List.flatten_append,qi,QP]
   refine List.Perm.append_left _ (List.Perm.append_left _ ?_)
   exact List.perm_append_comm
 ·rename_i hk
  refine⟨?_,fun q hq=>?_,?_⟩
  ·rw[ZE,qr]
   refine⟨h.k,by simp,fun a ha b hb=>?_⟩
   have hb:b=k:=by simpa using hb
   subst hb
   intro z
   subst z
   obtain⟨q,hq,e⟩:=List.mem_map.mp ha
   exact hk (List.any_eq_true.mpr ⟨q,hq,qV e⟩)
  ·rcases List.mem_append.mp hq with hq|hq
   ·exact h.ne q hq
   ·cases List.mem_singleton.mp hq;simp
  ·rw[ZE,List.flatten_append]
   simpa using h.p.append_right [x]
theorem aa3 (k:β->Int) (v:β->α) (xs:List β):GOk (Oi k v xs) (xs.map v):=by
 unfold Oi
 have:∀ (ys:List β) (m:List (Int×List α)) (zs:List α),GOk m zs->GOk (ys.foldl (fun m x=>vN m (k x) (v x)) m) (zs++ys.map v):=by
  intro ys
  induction ys with
  |nil=>intro m zs h;simpa using h
  |cons y ys ih=>
   intro m zs h
   have:=ih _ _ (h.put (k y) (v y))
   simpa [QP] using this
 simpa using this xs [] [] ⟨JI,fun _ h=>(by cases h),.nil⟩
theorem Ga [Inhabited α] {m:List (Int×α)} (nd:(m.map (·.1)).Nodup) {q:Int×α} (h:q∈m):look m q.1=q.2:=by
 unfold look
 cases hf:m.find? fun p=>decide (p.1=q.1) with
 |none=>exact absurd (List.find?_eq_none.mp hf q h) (by simp)
 |some p=>
  have h1:=List.mem_of_find?_eq_some hf
  have h2:p.1=q.1:=by simpa using List.find?_some hf
  have:p=q:=zu (f:=fun p:Int×α=>p.1) nd h1 h h2
  rw[this];rfl
end
theorem Gb:∀ {m:List LS_},(m.map fB).flatten.Perm m.flatten
 |[]=>.nil
 |s::m=>by rw[zl,qi,qi];exact (eV s).append Gb
theorem JH {w w':List LS_} (h:w.Perm w'):w.flatten.Perm w'.flatten:=by
 induction h with
 |nil=>exact .nil
 |cons x _ ih=>rw[qi,qi];exact ih.append_left x
 |swap x y l=>
  simp only[qi,<-QP]
  exact List.perm_append_comm.append_right _
 |trans _ _ h1 h2=>exact h1.trans h2
theorem aec {m:List (Int×LS_)} {xs U:LS_} (h:GOk m xs) (nd:xs.Nodup) (hU:∀ x∈xs,x∈U):Wd U (fV ((m.map (·.1)).map fun k:Int=>fB (look m k)))/\(fV ((m.map (·.1)).map fun k:Int=>fB (look m k))).flatten.Perm xs:=by
 have e:((m.map (·.1)).map fun k:Int=>fB (look m k))=(m.map (·.2)).map fB:=by
  rw[Zp,Zp]
  exact ZY fun q hq=>by simp only[Function.comp,Ga h.k hq]
 rw[e]
 have pm:=fK ((m.map (·.2)).map fB)
 have pf:(fV ((m.map (·.2)).map fB)).flatten.Perm xs:=(JH pm).trans (Gb.trans h.p)
 have mem:∀ s∈fV ((m.map (·.2)).map fB),∃ q∈m,s=fB q.2:=fun s hs=>by
  obtain⟨t,ht,rfl⟩:=List.mem_map.mp (pm.mem_iff.mp hs)
  obtain⟨q,hq,rfl⟩:=List.mem_map.mp ht
  exact⟨q,hq,rfl⟩
 refine⟨⟨fun s hs z=>?_,fun s hs=>?_,pf.nodup_iff.mpr nd,fun x hx=>hU x (pf.mem_iff.mp hx),oG _⟩,pf⟩
 ·obtain⟨q,hq,rfl⟩:=mem s hs
  exact h.ne q hq (by have:=(eV q.2).length_eq;rw[z] at this;exact List.length_eq_zero_iff.mp this.symm)
 ·obtain⟨q,hq,rfl⟩:=mem s hs
  exact tM _
end P1
end
section
set_option synthInstance.maxSize 100000
namespace G29
open PySem PySem.Spec PyProof.Rows L2 P1
noncomputable section
abbrev aV:Type:=Int×Str×Str×Int
abbrev bI:aV->Dt:=eP4 eI eS eS eI
abbrev jo:Type:=Str×Str×Int
abbrev mC:jo->Dt:=eP3 eS eS eI
abbrev jO:Type:=LS_×(List aV)×(List jo)
abbrev gO:jO->Dt:=eP3 (eT eS) (eT bI) (eT mC)
abbrev aed:Type:=Int×LS_
def top (i:Nat):Stmt:=PySem.Challenge.pw_onefolk_k29_good_joinings.main.body.getD i (.Pass ⟨0,0,0,0⟩)
abbrev nu:Stmt:=top 13
abbrev iW:Stmt:=top 14
abbrev nA:Stmt:=top 11
abbrev eG:Stmt:=top 9
abbrev iY:Stmt:=top 10
abbrev jP:Stmt:=top 3
abbrev jQ:Stmt:=top 4
abbrev nC:Stmt:=top 2
abbrev iZ:Stmt:=top 6
abbrev jR:Stmt:=top 5
abbrev nD:Stmt:=top 1
abbrev pZ:Stmt:=top 8
abbrev jT:Stmt:=top 18
abbrev lR:Stmt:=top 17
abbrev nF:Stmt:=top 19
abbrev dN:Stmt:=top 21
abbrev lU:Stmt:=top 15
abbrev jU:Stmt:=top 16
abbrev jc:Stmt:=top 20
abbrev zA:Stmt:=top 22
def fuel:Nat:=4
def wX:Ev->Option Out:=(aF (aF (setG 2 (b2 jk (b2 gZ (b2 xR (gv 2) (cB (.int 69621))) (gv 3)) (cB (.int 2147483647)))) mz) (fH [3]))
def tZ:Ev->Option Out:=(aF (Mz (Ci ltA (gv 1) (bM uO (ao (gv 0) aD))) (aF (ni (b2 kJ (gv 0) (gv 1))) mz) mz) (aF (setG 2 (b2 jk (b2 xR (cB (.int 48271)) (b2 gZ (b2 gZ (b2 xR (gv 1) (gv 1)) (b2 xR (cB (.int 7)) (gv 1))) (cB (.int 11)))) (cB (.int 2147483647)))) (aF (qm (WK (Mh (gv 0) m7 (mX (cB (.int 3))))) (kO 3) wX) (aF (ni (gv 2)) mz))))
def dj:List Bx->Option Bx:=iR 4 tZ
def nG:Ev->Option Out:=(aF (aF (setG 3 (b2 jk (b2 gZ (b2 gZ (b2 xR (gv 3) (b2 gZ (b2 jk (gv 3) (cB (.int 65521))) (cB (.int 40487)))) (b2 xR (cB (.int 7)) (gv 5))) (cB (.int 5))) (cB (.int 1999999973)))) (aF (Qp 2 (b2 kJ (bM jx (ao (gv 3) (ao (b2 jk (gv 4) (cB (.int 1000000))) aD))) (bM WD (ao (b2 gtB (gv 4) (cB (.int 0))) aD)))) (aF (setG 4 (b2 yO (gv 4) (cB (.int 1000000)))) mz))) (fH [5]))
def nT:Ev->Option Out:=(aF (setG 2 (bM jx aD)) (aF (setG 3 (b2 jk (b2 xR (b2 gZ (b2 jk (gv 0) (cB (.int 1999999973))) (cB (.int 31))) (cB (.int 765432101))) (cB (.int 1999999973)))) (aF (setG 4 (cB (.int 0))) (aF (Mz (Zx (Ci ltA (gv 0) (cB (.int 0))) (Ci geB (gv 0) (b2 ac5 (cB (.int 10)) (cB (.int 18))))) (aF (aF (setG 4 (bM Wz (ao (gv 0) aD))) mz) (fH [])) (aF mz (fH []))) (aF (qm (Pq (ao (gv 1) aD)) (kO 5) nG) (aF (Ho 2) mz))))))
def bW:List Bx->Option Bx:=iR 6 nT
def uc:Ev->Option Out:=(aF (ni (K8 (enC (ao (gv 0) aD)) (uI 2 (cj (kO 0) (cj (kO 1) wQ))) rJ (inC (WK (gv 1)) (kO 2) rJ (Wt (b2 zm (gv 2) (gv 0)))) [] 3)) mz)
def g8:List Bx->Option Bx:=iR 1 uc
def jV:Ev->Option Out:=(aF (setG 2 (cZ 1 g8 (ao (gv 0) aD))) (aF (ni (dW (DY (gv 1)) (kO 1) (Ci eqB (b2 mY (gv 0) (b2 kJ (gv 1) (cB (.int 1)))) (b2 mY (gv 0) (b2 kJ (gv 1) (cB (.int 2))))) (gv 1) [2] 1)) mz))
def dw:List Bx->Option Bx:=iR 3 jV
def nU:Ev->Option Out:=(aF (setG 2 (cZ 1 g8 (ao (gv 0) aD))) (aF (ni (dW (DY (gv 1)) (kO 1) (Ci eqB (b2 mY (gv 0) (b2 kJ (gv 1) (cB (.int 0)))) (b2 mY (gv 0) (b2 kJ (gv 1) (cB (.int 1))))) (gv 1) [2] 1)) mz))
def fW:List Bx->Option Bx:=iR 3 nU
def pJ:Ev->Option Out:=(aF (ni (S9 (DY (gv 0)) (kO 0) rJ (gv 0) (gv 0) [] 1)) mz)
def ig:List Bx->Option Bx:=iR 1 pJ
def uK:Ev->Option Out:=(aF (aF (Mz (Zx (Ci eqB (b2 mY (gv 0) (gv 4)) (gv 1)) (Ci eqB (b2 mY (gv 0) (gv 4)) (gv 2))) (aF (aF (WW 0 (gv 3) (gv 4)) mz) (fH [])) (aF mz (fH []))) mz) (fH [4]))
def pK:Ev->Option Out:=(aF (aF (setG 3 (bM Ez (ao (gv 1) (ao (gv 2) aD)))) (aF (qm (WK (bM EY (ao (gv 0) aD))) (kO 4) uK) mz)) (fH [3,4]))
def iu:Addr->List (Key×Dt)->List Bx->Option (List (Key×Dt)):=NK 5 pK
def wY:Ev->Option Out:=(aF (aF (Fd 2 2 iu (ao (b2 mY (gv 2) (gv 4)) (ao (b2 mY (gv 2) (gv 5)) aD))) mz) (fH [3,4,5,6]))
def ud:Ev->Option Out:=(aF (setG 2 (cZ 1 ig (ao (gv 0) aD))) (aF (qR 1 (uI 4 (cj (kO 3) (cj (kO 4) (cj (kO 5) (cj (kO 6) wQ))))) wY) (aF (Ho 2) mz)))
def lG:List Bx->Option Bx:=iR 7 ud
def nW:Ev->Option Out:=(aF (ni (bM lD (ao (dW (Bu (gv 0)) (kO 2) (Ci eqB (b2 mY (gv 1) (gv 2)) (gv 0)) (gv 2) [1,0] 1) aD))) mz)
def fX:List Bx->Option Bx:=iR 2 nW
def pN:Ev->Option Out:=(aF (ni (dW (Bu (gv 0)) (kO 1) (Ci eqB (b2 mY (gv 0) (gv 1)) (gv 1)) (b1 uR (cZ 2 fX (ao (gv 0) (ao (gv 1) aD)))) [0] 1)) mz)
def iw:List Bx->Option Bx:=iR 1 pN
def uf:Ev->Option Out:=(aF (ni (cZ 1 iw (ao (cZ 2 lG (ao (gv 0) (ao (gv 1) aD))) aD))) mz)
def lH:List Bx->Option Bx:=iR 2 uf
def wJ:Ev->Option Out:=(aF (adh (uI 3 (cj (kO 2) (cj (kO 3) (cj (kO 4) wQ)))) (gv 0)) (aF (setG 5 (cZ 2 dw (ao (gv 1) (ao (gv 3) aD)))) (aF (ni (ZC (aa1 (cZ 2 fW (ao (gv 1) (ao (gv 4) aD)))) (b2 eqB (cZ 2 lH (ao (gv 2) (ao (gv 5) aD))) (bM rK (ao (gv 1) aD))))) mz)))
def jW:List Bx->Option Bx:=iR 6 wJ
def jX:Ev->Option Out:=(aF (ni (dW (DY (gv 1)) (kO 1) (Wb (Ci inF (b2 kJ (gv 1) (b1 Uu (cB (.int 3)))) (gv 0)) (Ci inF (b2 kJ (gv 1) (b1 Uu (cB (.int 2)))) (gv 0))) (gv 1) [0] 1)) mz)
def dX:List Bx->Option Bx:=iR 2 jX
def qz:Ev->Option Out:=(aF (aF (setG 7 (b2 kJ (dW (DY (gv 2)) (kO 1) (Ci inF (gv 0) (gv 1)) (gv 1) [4] 1) (cB (.int 0)))) (aF (setG 8 (b2 kJ (dW (DY (gv 2)) (kO 1) (Ci inF (gv 0) (gv 1)) (gv 1) [5] 1) (cB (.int 0)))) (aF (Mz (Ci Ut (gv 7) (gv 8)) (aF (aF (setG 2 (b2 gZ (dW (DY (gv 2)) (kO 2) (Ci Xx (gv 2) (bM jx (ao (gv 0) (ao (gv 1) aD)))) (gv 2) [7,8] 1) (bM jx (ao (b1 uR (bM Bo (ao (b2 gZ (gv 7) (gv 8)) aD))) aD)))) mz) (fH [])) (aF mz (fH []))) mz))) (fH [3,4,5,6,7,8]))
def lV:Ev->Option Out:=(aF (setG 2 (dW (DY (gv 0)) (kO 0) rJ (b1 uR (bM jx (ao (gv 0) aD))) [] 1)) (aF (qR 1 (uI 4 (cj (kO 3) (cj (kO 4) (cj (kO 5) (cj (kO 6) wQ))))) qz) (aF (ni (bM rK (ao (dW (DY (gv 2)) (kO 0) rJ (bM lD (ao (gv 0) aD)) [] 1) aD))) mz)))
def dI:List Bx->Option Bx:=iR 9 lV
def wZ:Ev->Option Out:=(aF (aF (Mz (Zx (Ci Ut (cZ 2 dX (ao (gv 2) (ao (b2 kJ (gv 0) (cB (.int 2))) aD))) (bM jx aD)) (Ci Ut (bM uO (ao (cZ 2 dI (ao (gv 2) (ao (b1 uR (cZ 2 dX (ao (gv 2) (ao (b2 kJ (gv 0) (cB (.int 1))) aD)))) aD))) aD)) (cB (.int 1)))) (aF (ni (cB (.bl false))) mz) mz) mz) (fH [2]))
def ug:Ev->Option Out:=(aF (qR 1 (kO 2) wZ) (aF (ni (cB (.bl true))) mz))
def iy:List Bx->Option Bx:=iR 3 ug
def oH:Ev->Option Out:=(aF (aF (setG 4 (b2 gZ (cB (.int 1)) (b2 xR (b2 jk (b2 yO (gv 0) (cB (.int 8))) (cB (.int 9))) (gv 3)))) (aF (setG 2 (b2 gZ (gv 2) (bM jx (ao (bM kh (ao (b2 subB (cB (.int 0)) (gv 4)) (ao (b2 kJ (gv 1) (gv 3)) (ao (b2 kJ (gv 1) (b2 gZ (gv 3) (cB (.int 1)))) (ao (cB (.int 0)) aD))))) (ao (bM kh (ao (b2 subB (cB (.int 0)) (gv 4)) (ao (b2 kJ (gv 1) (gv 3)) (ao (b2 kJ (gv 1) (b2 gZ (gv 3) (cB (.int 1)))) (ao (cB (.int 2)) aD))))) aD))))) mz)) (fH [3,4]))
def jB:Ev->Option Out:=(aF (aF (setG 9 (cZ 2 jW (ao (gv 5) (ao (b1 uR (bM Jo (ao (gv 8) aD))) aD)))) (aF (Mz (Zx (Ul (tV (Sg is_bool (gv 9)))) (Ci Ut (gv 9) (cZ 2 iy (ao (gv 5) (ao (gv 8) aD))))) (aF (ni (cB (.bl false))) mz) mz) mz)) (fH [8,9]))
def jt:Ev->Option Out:=(aF (setG 1 (cB (.str "abcdefghi"))) (aF (setG 2 (bM jx aD)) (aF (qm (Pq (ao (cB (.int 8)) aD)) (kO 3) oH) (aF (setG 2 (bM rK (ao (gv 2) aD))) (aF (setG 5 (bM kh (ao (bM q8 (ao (gv 1) aD)) (ao (bM lD (ao (dW (DY (gv 2)) (uI 4 (cj (kO 0) (cj (kO 1) (cj (kO 2) (cj (kO 3) wQ))))) rJ (bM kh (ao (b2 subB (cB (.int 0)) (gv 0)) (ao (gv 1) (ao (gv 2) (ao (gv 3) aD))))) [] 4) aD)) (ao (bM kh (ao (bM kh (ao (cB (.str "a")) (ao (cB (.str "i")) (ao (cB (.int 2)) aD)))) aD)) aD))))) (aF (setG 6 (b2 gZ (cB (.int 1)) (b2 jk (gv 0) (cB (.int 8))))) (aF (setG 7 (bM jx (ao (bM q8 (ao (Mh (gv 1) m7 (mX (gv 6))) aD)) (ao (bM q8 (ao (Mh (gv 1) (mX (gv 6)) m7) aD)) aD)))) (fzG 7 (aF (qm (WK (bM jx (ao (gv 7) (ao (b1 uR (bM jx (ao (bM q8 (ao (gv 1) aD)) aD))) (ao (b1 uR (dW (DY (gv 1)) (kO 0) rJ (bM kh (ao (gv 0) aD)) [] 1)) (ao (b1 uR (bM jx (ao (bM q8 (ao (Mh (gv 1) m7 (mX (cB (.int 4)))) aD)) (ao (bM kh (ao (cB (.str "e")) (ao (cB (.str "g")) aD))) (ao (bM kh (ao (cB (.str "f")) aD)) (ao (bM kh (ao (cB (.str "h")) (ao (cB (.str "i")) aD))) aD)))))) aD)))))) (kO 8) jB) (aF (ni (cB (.bl true))) mz))))))))))
def cN:List Bx->Option Bx:=iR 10 jt
def qC:Ev->Option Out:=(aF (aF (setG 7 (b2 kJ (gv 2) (b2 jk (b2 gZ (gv 6) (b2 kJ (gv 0) (cB (.int 2)))) (cB (.int 15))))) (aF (setG 8 (b2 gZ (b2 gZ (Mh (gv 3) m7 (mX (gv 4))) (gv 7)) (Mh (gv 3) (mX (gv 4)) m7))) (aF (Mz (Ci eqB (b2 jk (b2 kJ (gv 0) (cB (.int 3))) (cB (.int 3))) (cB (.int 1))) (aF (aF (setG 8 (b2 xR (b2 kJ (gv 2) (b2 yO (gv 6) (cB (.int 8)))) (b2 gZ (cB (.int 1)) (b2 jk (gv 6) (cB (.int 8)))))) mz) (fH [])) (aF mz (fH []))) (aF (Qp 5 (gv 8)) mz)))) (fH [6,7,8]))
def q9:Ev->Option Out:=(aF (setG 2 (cB (.str "abcdefghijklmnopqrstuvwxyz"))) (aF (setG 3 (b1 (M5 "") (dW (Pq (ao (b2 jk (b2 kJ (gv 0) (cB (.int 0))) (cB (.int 6))) aD)) (kO 2) rJ (b2 kJ (gv 0) (b2 jk (b2 yO (b2 kJ (gv 1) (gv 2)) (cB (.int 40))) (cB (.int 26)))) [2,0] 1))) (aF (setG 4 (b2 jk (b2 kJ (gv 0) (cB (.int 1))) (b2 gZ (bM uO (ao (gv 3) aD)) (cB (.int 1))))) (aF (setG 5 (bM jx aD)) (aF (qm (Pq (ao (gv 1) aD)) (kO 6) qC) (aF (Ho 5) mz))))))
def gU:List Bx->Option Bx:=iR 9 q9
def o8:Ev->Option Out:=(aF (aF (setG 9 (cZ 2 bW (ao (b1 uR (cZ 2 dj (ao (gv 0) (ao (b1 uR (b2 gZ (b2 gZ (gv 1) (cB (.int 1))) (gv 8))) aD)))) (ao (cB (.int 4)) aD)))) (aF (Z1 10 11 (ao (b2 jk (b2 kJ (gv 9) (cB (.int 0))) (bM Ed (ao (cB (.int 1)) (ao (gv 2) aD)))) (ao (b2 jk (b2 kJ (gv 9) (cB (.int 1))) (bM Ed (ao (cB (.int 1)) (ao (gv 2) aD)))) aD))) (aF (setG 12 (b2 kJ (bM jx (ao (b1 uR (b2 gZ (cB (.int 1)) (b2 jk (b2 kJ (gv 9) (cB (.int 2))) (cB (.int 3))))) (ao (b1 uR (b2 gZ (cB (.int 1)) (b2 jk (b2 kJ (gv 9) (cB (.int 2))) (cB (.int 9))))) (ao (b1 uR (b2 gZ (cB (.int 1)) (b2 jk (b2 kJ (gv 9) (cB (.int 2))) (cB (.int 1000))))) aD)))) (b2 jk (b2 kJ (gv 5) (cB (.int 4))) (cB (.int 3))))) (aF (Mz (Ci Ut (gv 10) (gv 11)) (aF (aF (Qp 7 (bM kh (ao (b2 subB (cB (.int 0)) (gv 12)) (ao (b2 kJ (gv 6) (bM Uy (ao (gv 10) (ao (gv 11) aD)))) (ao (b2 kJ (gv 6) (bM Ed (ao (gv 10) (ao (gv 11) aD)))) (ao (b2 kJ (bM jx (ao (cB (.int 0)) (ao (cB (.int 2)) (ao (cB (.int 10)) aD)))) (b2 jk (b2 kJ (gv 9) (cB (.int 3))) (cB (.int 3)))) aD)))))) mz) (fH [])) (aF mz (fH []))) mz)))) (fH [8,9,10,11,12]))
def o9:Ev->Option Out:=(aF (aF (setG 9 (cZ 2 bW (ao (b1 uR (cZ 2 dj (ao (gv 0) (ao (b1 uR (b2 gZ (b2 gZ (gv 1) (cB (.int 1))) (gv 8))) aD)))) (ao (cB (.int 8)) aD)))) (aF (Z1 10 11 (ao (b2 jk (b2 kJ (gv 9) (cB (.int 5))) (bM Ed (ao (cB (.int 1)) (ao (gv 2) aD)))) (ao (b2 jk (b2 kJ (gv 9) (cB (.int 6))) (bM Ed (ao (cB (.int 1)) (ao (gv 2) aD)))) aD))) (aF (Mz (Ci Ut (gv 10) (gv 11)) (aF (aF (Qp 14 (bM kh (ao (b2 kJ (gv 6) (bM Uy (ao (gv 10) (ao (gv 11) aD)))) (ao (b2 kJ (gv 6) (bM Ed (ao (gv 10) (ao (gv 11) aD)))) (ao (b2 kJ (bM jx (ao (cB (.int 2)) (ao (cB (.int 10)) aD))) (b2 jk (b2 kJ (gv 9) (cB (.int 7))) (cB (.int 2)))) aD))))) mz) (fH [])) (aF mz (fH []))) mz))) (fH [8,9,10,11]))
def pP:Ev->Option Out:=(aF (setG 5 (cZ 2 bW (ao (b1 uR (cZ 2 dj (ao (gv 0) (ao (gv 1) aD)))) (ao (cB (.int 6)) aD)))) (aF (setG 6 (bM Bo (ao (cZ 2 gU (ao (gv 5) (ao (gv 2) aD))) aD))) (aF (setG 7 (bM jx aD)) (aF (qm (Pq (ao (gv 3) aD)) (kO 8) o8) (aF (setG 13 (dW (DY (Eu (QK (gv 7)))) (uI 4 (cj (kO 0) (cj (kO 1) (cj (kO 2) (cj (kO 3) wQ))))) rJ (bM kh (ao (b2 subB (cB (.int 0)) (gv 0)) (ao (gv 1) (ao (gv 2) (ao (gv 3) aD))))) [] 4)) (aF (setG 14 (bM jx aD)) (aF (qm (Pq (ao (gv 4) aD)) (kO 8) o9) (aF (ni (bM kh (ao (bM lD (ao (gv 6) aD)) (ao (bM lD (ao (gv 13) aD)) (ao (bM lD (ao (Eu (QK (gv 14))) aD)) aD))))) mz))))))))
def iz:List Bx->Option Bx:=iR 15 pP
def nY:Ev->Option Out:=(aF (setG 2 (fun _=>some (.m [] none))) (aF (FP 2 4 3 (Pq (ao (bM uO (ao (gv 0) aD)) aD)) (b2 jk (b2 yO (b2 kJ (gv 1) (b2 jk (gv 3) (bM uO (ao (gv 1) aD)))) (b2 gZ (cB (.int 1)) (b2 yO (gv 3) (bM uO (ao (gv 1) aD))))) (bM Ed (ao (cB (.int 1)) (ao (bM uO (ao (gv 0) aD)) aD)))) (Ci gtB (b2 jk (b2 kJ (gv 1) (cB (.int 0))) (cB (.int 3))) (cB (.int 0))) (b2 jk (gv 4) (cB (.int 3))) (b2 kJ (gv 0) (gv 3))) (aF (ni (bM rK (ao (dW (Bu (gv 2)) (kO 1) rJ (bM lD (ao (bM Bo (ao (b2 mY (gv 0) (gv 1)) aD)) aD)) [2] 1) aD))) mz)))
def fY:List Bx->Option Bx:=iR 5 nY
def Gd:Ev->Option Out:=(aF (aF (Qp 4 (b1 uR (cZ 2 fY (ao (gv 3) (ao (b1 uR (cZ 2 bW (ao (gv 5) (ao (cB (.int 8)) aD)))) aD))))) mz) (fH [5]))
def Ge:Ev->Option Out:=(aF (aF (setG 7 (cZ 2 jW (ao (gv 2) (ao (b1 uR (bM Jo (ao (gv 6) aD))) aD)))) (aF (Mz (Zx (Ul (tV (Sg is_bool (gv 7)))) (Ci Ut (gv 7) (cZ 2 iy (ao (gv 2) (ao (gv 6) aD))))) (aF (ni (cB (.bl false))) mz) mz) mz)) (fH [6,7]))
def Tt:Ev->Option Out:=(aF (setG 1 (cZ 2 bW (ao (b1 uR (cZ 2 dj (ao (gv 0) (ao (cB (.int 0)) aD)))) (ao (cB (.int 9)) aD)))) (aF (Mz (Ul (tV (cZ 1 cN (ao (b2 kJ (gv 1) (cB (.int 5))) aD)))) (aF (ni (cB (.bl false))) mz) mz) (aF (setG 2 (cZ 5 iz (ao (gv 0) (ao (cB (.int 0)) (ao (b2 jk (b2 kJ (gv 1) (cB (.int 6))) (cB (.int 8))) (ao (b2 jk (b2 kJ (gv 1) (cB (.int 7))) (cB (.int 11))) (ao (b2 jk (b2 kJ (gv 1) (cB (.int 8))) (cB (.int 4))) aD))))))) (aF (setG 3 (b2 kJ (gv 2) (cB (.int 0)))) (aF (setG 4 (bM jx (ao (b1 uR (cZ 2 dI (ao (gv 3) (ao (b2 kJ (gv 2) (cB (.int 1))) aD)))) (ao (b1 uR (dW (DY (gv 3)) (kO 0) rJ (bM kh (ao (gv 0) aD)) [] 1)) (ao (b1 uR (Mh (bM jx (ao (gv 3) aD)) m7 (mX (bM uO (ao (gv 3) aD))))) aD))))) (aF (qm (WK (b2 gZ (bM jx (ao (b1 uR (cZ 2 dj (ao (gv 0) (ao (cB (.int 1)) aD)))) aD)) (Mh (gv 0) (mX (cB (.int 2))) (mX (cB (.int 9)))))) (kO 5) Gd) (aF (qR 4 (kO 6) Ge) (aF (ni (cB (.bl true))) mz))))))))
def rz:List Bx->Option Bx:=iR 8 Tt
end
end G29
end
section
set_option synthInstance.maxSize 100000
namespace G29
open PySem PySem.Spec PyProof.Rows L2 P1
structure T (K:FG_) (mg:Str->Option Value) (jC:Addr) (jD:FuncData) (d7:Addr) (eX:FuncData) (jE:Addr) (jF:FuncData) (dB:Addr) (dO:FuncData) (fZ:Addr) (gF:FuncData) (iB:Addr) (jd:FuncData) (iD:Addr) (je:FuncData) (lJ:Addr) (lW:FuncData) (gj:Addr) (gJ:FuncData) (iG:Addr) (jf:FuncData) (lK:Addr) (lX:FuncData) (lY:Addr) (lM:FuncData) (iH:Addr) (jg:FuncData) (gW:Addr) (iI:FuncData) (jG:Addr) (jH:FuncData) (cP:Addr) (dD:FuncData) (jJ:Addr) (jY:FuncData) (iJ:Addr) (jh:FuncData) (gk:Addr) (gK:FuncData) (JK:Addr) (Gf:FuncData):Prop where
 dj:yG K "_law_cell" "_law_cell" nu jC jD
 qD:Binds K jD ["_law_script", "_law_k"] []
 qF:mg "_law_cell" = some (.ref jC)
 qG:PySem.W.keepIn K (.ref jC)=true
 bW:yG K "_law_numbers" "_law_numbers" iW d7 eX
 kY:Binds K eX ["_law_cell_here", "_law_many"] []
 kZ:mg "_law_numbers" = some (.ref d7)
 lg:PySem.W.keepIn K (.ref d7)=true
 g8:yG K "homes_of" "homes_of" nA jE jF
 Gg:Binds K jF ["sets"] []
 Gh:mg "homes_of" = some (.ref jE)
 Gi:PySem.W.keepIn K (.ref jE)=true
 dw:yG K "reasons_within" "reasons_within" eG dB dO
 Aw:Binds K dO ["sets", "reasons"] []
 Ax:mg "reasons_within" = some (.ref dB)
 Ay:PySem.W.keepIn K (.ref dB)=true
 fW:yG K "bars_within" "bars_within" iY fZ gF
 Hy:Binds K gF ["sets", "bars"] []
 Hz:mg "bars_within" = some (.ref fZ)
 HB:PySem.W.keepIn K (.ref fZ)=true
 ig:yG K "lone_heads" "lone_heads" jP iB jd
 K9:Binds K jd ["names"] []
 La:mg "lone_heads" = some (.ref iB)
 Lb:PySem.W.keepIn K (.ref iB)=true
 iu:yG K "join_heads" "join_heads" jQ iD je
 Ld:Binds K je ["heads", "one", "other"] []
 Le:mg "join_heads" = some (.ref iD)
 Lf:PySem.W.keepIn K (.ref iD)=true
 lG:yG K "heads_by" "heads_by" nC lJ lW
 Ra:Binds K lW ["names", "reasons"] []
 Rb:mg "heads_by" = some (.ref lJ)
 Rc:PySem.W.keepIn K (.ref lJ)=true
 fX:yG K "names_under" "names_under" iZ gj gJ
 HD:Binds K gJ ["heads", "head"] []
 HF:mg "names_under" = some (.ref gj)
 HJ:PySem.W.keepIn K (.ref gj)=true
 iw:yG K "sets_under" "sets_under" jR iG jf
 Lg:Binds K jf ["heads"] []
 Lh:mg "sets_under" = some (.ref iG)
 Li:PySem.W.keepIn K (.ref iG)=true
 lH:yG K "parts_by" "parts_by" nD lK lX
 Rf:Binds K lX ["names", "reasons"] []
 Rh:mg "parts_by" = some (.ref lK)
 Ri:PySem.W.keepIn K (.ref lK)=true
 jW:yG K "is_good" "is_good" pZ lY lM
 JL:Binds K lM ["ground", "sets"] []
 JM:mg "is_good" = some (.ref lY)
 JN:PySem.W.keepIn K (.ref lY)=true
 dX:yG K "_law_inside" "_law_inside" jT iH jg
 zB:Binds K jg ["_law_names_here", "_law_rows"] []
 zF:mg "_law_inside" = some (.ref iH)
 zG:PySem.W.keepIn K (.ref iH)=true
 dI:yG K "_law_parts" "_law_parts" lR gW iI
 BK:Binds K iI ["_law_names_here", "_law_reasons"] []
 BL:mg "_law_parts" = some (.ref gW)
 BP:PySem.W.keepIn K (.ref gW)=true
 iy:yG K "_law_good" "_law_good" nF jG jH
 Gj:Binds K jH ["_law_ground_here", "_law_sets"] []
 Gk:mg "_law_good" = some (.ref jG)
 Gm:PySem.W.keepIn K (.ref jG)=true
 cN:yG K "_law_chain_right" "_law_chain_right" dN cP dD
 zH:Binds K dD ["_law_x"] []
 zJ:mg "_law_chain_right" = some (.ref cP)
 zK:PySem.W.keepIn K (.ref cP)=true
 gU:yG K "_law_names" "_law_names" lU jJ jY
 Ol:Binds K jY ["_law_xs", "_law_many"] []
 Om:mg "_law_names" = some (.ref jJ)
 Oo:PySem.W.keepIn K (.ref jJ)=true
 iz:yG K "_law_ground" "_law_ground" jU iJ jh
 Lj:Binds K jh ["_law_script", "_law_at", "_law_many", "_law_reasons", "_law_bars"] []
 Lk:mg "_law_ground" = some (.ref iJ)
 Ln:PySem.W.keepIn K (.ref iJ)=true
 fY:yG K "_law_joining" "_law_joining" jc gk gK
 HN:Binds K gK ["_law_names_here", "_law_xs"] []
 HS:mg "_law_joining" = some (.ref gk)
 HW:PySem.W.keepIn K (.ref gk)=true
 rz:yG K "law" "law" zA JK Gf
 akv:Binds K Gf ["_law_script"] []
 akx:mg "law" = some (.ref JK)
 aky:PySem.W.keepIn K (.ref JK)=true
 Oq:mg "abs" = none
 Az:mg "bool" = none
 oJ:mg "enumerate" = none
 Ot:mg "int" = none
 jZ:mg "isinstance" = none
 uL:mg "len" = none
 yh:mg "list" = none
 vO:mg "max" = none
 Gn:mg "min" = none
 mO:mg "range" = none
 JQ:mg "set" = none
 gM:mg "sorted" = none
 gw:mg "tuple" = none
section
variable {P:Program} {w:World} {K:FG_} {mg:Str->Option Value} {base:Heap} {jC:Addr} {jD:FuncData} {d7:Addr} {eX:FuncData} {jE:Addr} {jF:FuncData} {dB:Addr} {dO:FuncData} {fZ:Addr} {gF:FuncData} {iB:Addr} {jd:FuncData} {iD:Addr} {je:FuncData} {lJ:Addr} {lW:FuncData} {gj:Addr} {gJ:FuncData} {iG:Addr} {jf:FuncData} {lK:Addr} {lX:FuncData} {lY:Addr} {lM:FuncData} {iH:Addr} {jg:FuncData} {gW:Addr} {iI:FuncData} {jG:Addr} {jH:FuncData} {cP:Addr} {dD:FuncData} {jJ:Addr} {jY:FuncData} {iJ:Addr} {jh:FuncData} {gk:Addr} {gK:FuncData} {JK:Addr} {Gf:FuncData} (t:T K mg jC jD d7 eX jE jF dB dO fZ gF iB jd iD je lJ lW gj gJ iG jf lK lX lY lM iH jg gW iI jG jH cP dD jJ jY iJ jh gk gK JK Gf)
theorem BR:bU ["_law_script", "_law_k", "_law_state", "_law_cell_here"] ["_law_script", "_law_k"] (aH nu):=sO
include t in
theorem Ou:cF P w K mg base mj 1 jC jD ["_law_script", "_law_k"] (oZ K 2 dj):=by
 unfold dj
 refine tQ (k:=0) (g:=tZ) t.dj BR rfl rfl fun cdv A outer s H E hr=>?_
 have hu:=dJ hr
 have nd:=BR.nd
 exact (aB (uX (eN WL (ak 1) (bG vA rfl t.uL u9 (aj (ak 0) aA)) (gA _)) (aB (fU (bO (ak 0) (ak 1))) aX) aX) (aB (bB 2 nd (aQ cH (aQ tL aC (aQ cY (aQ cY (aQ tL (ak 1) (ak 1)) (aQ tL aC (ak 1))) aC)) aC)) (aB (tH PassesOwn.never rfl (yJ (Bm (ak 0) qg (mH aC))) (aR 3 nd) (bH [3] (aB (bB 2 nd (aQ cH (aQ cY (aQ tL (ak 2) aC) (ak 3)) aC)) aX))) (aB (fU (ak 2)) aX))))
theorem vP:bU ["_law_cell_here", "_law_many", "_law_found", "_law_state", "_law_digits", "_law_k"] ["_law_cell_here", "_law_many"] (aH iW):=sO
include t in
theorem Gq:cF P w K mg base mj 1 d7 eX ["_law_cell_here", "_law_many"] (oZ K 2 bW):=by
 unfold bW
 refine tQ (k:=0) (g:=nT) t.bW vP rfl rfl fun cdv A outer s H E hr=>?_
 have hu:=dJ hr
 have nd:=vP.nd
 exact (aB (bB 2 nd (fQ aA)) (aB (bB 3 nd (aQ cH (aQ tL (aQ cY (aQ cH (ak 0) aC) aC) aC) aC)) (aB (bB 4 nd aC) (aB (uX (Um (DG (eN WL (ak 0) aC (gA _)) (yI (eN afp (ak 0) (aQ ac6 aC aC) (gA _))))) (bH [] (aB (bB 4 nd (bG adf rfl t.Oq ada (aj (ak 0) aA))) aX)) (bH [] aX)) (aB (tH PassesOwn.never rfl (qe rfl t.mO (aj (ak 1) aA)) (aR 5 nd) (bH [5] (aB (bB 3 nd (aQ cH (aQ cY (aQ cY (aQ tL (ak 3) (aQ cY (aQ cH (ak 3) aC) aC)) (aQ tL aC (ak 5))) aC) aC)) (aB (DP 2 (bO (fQ (aj (ak 3) (aj (aQ cH (ak 4) aC) aA))) (cT adg rfl t.Ot ac9 (aj (V9 abz (ak 4) aC (gA _)) aA)))) (aB (bB 4 nd (aQ wC (ak 4) aC)) aX))))) (aB (J9 2) aX))))))
theorem BW:bU ["sets"] ["sets"] (aH nA):=sO
include t in
theorem Ov:cF P w K mg base mj 1 jE jF ["sets"] (oZ K 1 g8):=by
 unfold g8
 refine tQ (k:=0) (g:=uc) t.g8 BW rfl rfl fun cdv A outer s H E hr=>?_
 have hu:=dJ hr
 have nd:=BW.nd
 exact (aB (fU (Vk ["at", "names", "name"] (Two.mk (m:=2) (uP [] []) rfl (XC rfl t.oJ (aj (ak 0) aA)) (fun _ _ _ _=>(z8 rfl (cG (aR 0 (by show List.Nodup (_++_);decide +kernel)) (cG (aR 1 (by show List.Nodup (_++_);decide +kernel)) wA)))) (fun _ _ _ _=>eU) (Qk (kE (cD) (kE (cD) Kd))) (fun _ _ _ _=>(yJ (ak 1))) (fun _ _ _ _=>(aR 2 (by show List.Nodup (_++_);decide +kernel))) (fun _ _ _ _=>eU) (cD)) (fun _ _ _ _=>(ak 2)) (fun _ _ _ _=>(ak 0)))) aX)
theorem rA:bU ["sets", "reasons", "homes"] ["sets", "reasons"] (aH eG):=sO
include t in
theorem zL (nH:cF P w K mg base mj 1 jE jF ["sets"] (oZ K 1 g8)):cF P w K mg base mj 2 dB dO ["sets", "reasons"] (oZ K 2 dw):=by
 unfold dw
 refine tQ (k:=1) (g:=jV) t.dw rA rfl rfl fun cdv A outer s H E hr=>?_
 have hu:=dJ hr
 have nd:=rA.nd
 exact (aB (bB 2 nd (bJ nH (hr.mono (by decide)) rfl t.Gh t.Gi t.Gg (aj (ak 0) aA))) (aB (fU (mG ["reason"] (uP ["homes"] [2]) rfl (jL (ak 1)) (fun _ _ _ _=>(aR 1 (by show List.Nodup (_++_);decide +kernel))) (fun _ _ _ _=>(jy (eN (of_eq hu) (mJ hu (ak 0) (bO (ak 1) aC)) (mJ hu (ak 0) (bO (ak 1) aC)) (gA _)))) (fun _ _ _ _=>(ak 1)) (cD))) aX))
theorem vQ:bU ["sets", "bars", "homes"] ["sets", "bars"] (aH iY):=sO
include t in
theorem Gs (nH:cF P w K mg base mj 1 jE jF ["sets"] (oZ K 1 g8)):cF P w K mg base mj 2 fZ gF ["sets", "bars"] (oZ K 2 fW):=by
 unfold fW
 refine tQ (k:=1) (g:=nU) t.fW vQ rfl rfl fun cdv A outer s H E hr=>?_
 have hu:=dJ hr
 have nd:=vQ.nd
 exact (aB (bB 2 nd (bJ nH (hr.mono (by decide)) rfl t.Gh t.Gi t.Gg (aj (ak 0) aA))) (aB (fU (mG ["bar"] (uP ["homes"] [2]) rfl (jL (ak 1)) (fun _ _ _ _=>(aR 1 (by show List.Nodup (_++_);decide +kernel))) (fun _ _ _ _=>(jy (eN (of_eq hu) (mJ hu (ak 0) (bO (ak 1) aC)) (mJ hu (ak 0) (bO (ak 1) aC)) (gA _)))) (fun _ _ _ _=>(ak 1)) (cD))) aX))
theorem w5:bU ["names"] ["names"] (aH jP):=sO
include t in
theorem HX:cF P w K mg base mj 1 iB jd ["names"] (oZ K 1 ig):=by
 unfold ig
 refine tQ (k:=0) (g:=pJ) t.ig w5 rfl rfl fun cdv A outer s H E hr=>?_
 have hu:=dJ hr
 have nd:=w5.nd
 exact (aB (fU (Xo hu ["name"] (uP [] []) rfl (jL (ak 0)) (fun _ _ _ _=>(aR 0 (by show List.Nodup (_++_);decide +kernel))) (fun _ _ _ _=>eU) (fun _ _ _ _=>(ak 0)) (fun _ _ _ _=>(ak 0)) (cD))) aX)
theorem w6:bU ["heads", "one", "other", "head", "name"] ["heads", "one", "other"] (aH jQ):=sO
include t in
theorem HY:cF P w K mg base mj 1 iD je ["heads", "one", "other"] (spM K 2 iu):=by
 unfold iu
 refine ahF (k:=0) (g:=pK) t.iu w6 rfl rfl fun cdv A outer s H E hr=>?_
 have hu:=dJ hr
 have nd:=w6.nd
 exact (bH [3,4] (aB (bB 3 nd (bG (aaA rfl) rfl t.Gn Qo (aj (ak 1) (aj (ak 2) aA)))) (aB (tH PassesOwn.never rfl (yJ (cT (Xu rfl) rfl t.yh Kh (aj (ak 0) aA))) (aR 4 nd) (bH [4] (aB (uX (Um (DG (eN (of_eq hu) (mJ hu (ak 0) (ak 4)) (ak 1) (gA _)) (yI (eN (of_eq hu) (mJ hu (ak 0) (ak 4)) (ak 2) (gA _))))) (bH [] (aB (Z8 0 hu (ak 3) (ak 4)) aX)) (bH [] aX)) aX))) aX)))
theorem BX:bU ["names", "reasons", "heads", "weight", "one", "other", "number"] ["names", "reasons"] (aH nC):=sO
include t in
theorem Ox (uh:cF P w K mg base mj 1 iD je ["heads", "one", "other"] (spM K 2 iu)) (um:cF P w K mg base mj 1 iB jd ["names"] (oZ K 1 ig)):cF P w K mg base mj 2 lJ lW ["names", "reasons"] (oZ K 2 lG):=by
 unfold lG
 refine tQ (k:=1) (g:=ud) t.lG BX rfl rfl fun cdv A outer s H E hr=>?_
 have hu:=dJ hr
 have nd:=BX.nd
 exact (aB (bB 2 nd (bJ um (hr.mono (by decide)) rfl t.La t.Lb t.K9 (aj (ak 0) aA))) (aB (CK 1 PassesOwn.never rfl (z8 rfl (cG (aR 3 nd) (cG (aR 4 nd) (cG (aR 5 nd) (cG (aR 6 nd) wA))))) (bH [3,4,5,6] (aB (aaB 2 uh (hr.mono (by decide)) rfl t.Le t.Lf t.Ld (aj (mJ hu (ak 2) (ak 4)) (aj (mJ hu (ak 2) (ak 5)) aA))) aX))) (aB (J9 2) aX)))
theorem vR:bU ["heads", "head"] ["heads", "head"] (aH iZ):=sO
include t in
theorem Gu:cF P w K mg base mj 1 gj gJ ["heads", "head"] (oZ K 2 fX):=by
 unfold fX
 refine tQ (k:=0) (g:=nW) t.fX vR rfl rfl fun cdv A outer s H E hr=>?_
 have hu:=dJ hr
 have nd:=vR.nd
 exact (aB (fU (cT qj rfl t.gw iT (aj (Ew ["name"] (uP ["head", "heads"] [1,0]) rfl (ak 0) (fun _ _ _ _=>(aR 2 (by show List.Nodup (_++_);decide +kernel))) (fun _ _ _ _=>(jy (eN (of_eq hu) (mJ hu (ak 1) (ak 2)) (ak 0) (gA _)))) (fun _ _ _ _=>(ak 2)) (cD)) aA))) aX)
theorem xg:bU ["heads"] ["heads"] (aH jR):=sO
include t in
theorem Ia (rN:cF P w K mg base mj 1 gj gJ ["heads", "head"] (oZ K 2 fX)):cF P w K mg base mj 2 iG jf ["heads"] (oZ K 1 iw):=by
 unfold iw
 refine tQ (k:=1) (g:=pN) t.iw xg rfl rfl fun cdv A outer s H E hr=>?_
 have hu:=dJ hr
 have nd:=xg.nd
 exact (aB (fU (Ew ["name"] (uP ["heads"] [0]) rfl (ak 0) (fun _ _ _ _=>(aR 1 (by show List.Nodup (_++_);decide +kernel))) (fun _ _ _ _=>(jy (eN (of_eq hu) (mJ hu (ak 0) (ak 1)) (ak 1) (gA _)))) (fun _ _ _ _=>(jq (bJ rN (hr.mono (by decide)) rfl t.HF t.HJ t.HD (aj (ak 0) (aj (ak 1) aA))))) (cD))) aX)
theorem BZ:bU ["names", "reasons"] ["names", "reasons"] (aH nD):=sO
include t in
theorem Oz (yj:cF P w K mg base mj 2 lJ lW ["names", "reasons"] (oZ K 2 lG)) (uo:cF P w K mg base mj 2 iG jf ["heads"] (oZ K 1 iw)):cF P w K mg base mj 3 lK lX ["names", "reasons"] (oZ K 2 lH):=by
 unfold lH
 refine tQ (k:=2) (g:=uf) t.lH BZ rfl rfl fun cdv A outer s H E hr=>?_
 have hu:=dJ hr
 have nd:=BZ.nd
 exact (aB (fU (bJ uo (hr.mono (by decide)) rfl t.Lh t.Li t.Lg (aj (bJ yj (hr.mono (by decide)) rfl t.Rb t.Rc t.Ra (aj (ak 0) (aj (ak 1) aA))) aA))) aX)
theorem Gv:bU ["ground", "sets", "names", "reasons", "bars", "inner"] ["ground", "sets"] (aH pZ):=sO
include t in
theorem Rj (rO:cF P w K mg base mj 2 fZ gF ["sets", "bars"] (oZ K 2 fW)) (yp:cF P w K mg base mj 3 lK lX ["names", "reasons"] (oZ K 2 lH)) (nJ:cF P w K mg base mj 2 dB dO ["sets", "reasons"] (oZ K 2 dw)):cF P w K mg base mj 4 lY lM ["ground", "sets"] (oZ K 2 jW):=by
 unfold jW
 refine tQ (k:=3) (g:=wJ) t.jW Gv rfl rfl fun cdv A outer s H E hr=>?_
 have hu:=dJ hr
 have nd:=Gv.nd
 exact (aB (acU (ak 0) (z8 rfl (cG (aR 2 nd) (cG (aR 3 nd) (cG (aR 4 nd) wA))))) (aB (bB 5 nd (bJ nJ (hr.mono (by decide)) rfl t.Ax t.Ay t.Aw (aj (ak 1) (aj (ak 3) aA)))) (aB (fU (acT (aa2 (bJ rO (hr.mono (by decide)) rfl t.Hz t.HB t.Hy (aj (ak 1) (aj (ak 4) aA)))) (acS (V9 (of_eq hu) (bJ yp (hr.mono (by decide)) rfl t.Rh t.Ri t.Rf (aj (ak 2) (aj (ak 5) aA))) (bG yW rfl t.gM m5 (aj (ak 1) aA)) (gA _))))) aX)))
theorem xr:bU ["_law_names_here", "_law_rows"] ["_law_names_here", "_law_rows"] (aH jT):=sO
include t in
theorem Ib:cF P w K mg base mj 1 iH jg ["_law_names_here", "_law_rows"] (oZ K 2 dX):=by
 unfold dX
 refine tQ (k:=0) (g:=jX) t.dX xr rfl rfl fun cdv A outer s H E hr=>?_
 have hu:=dJ hr
 have nd:=xr.nd
 exact (aB (fU (mG ["_law_row"] (uP ["_law_names_here"] [0]) rfl (jL (ak 1)) (fun _ _ _ _=>(aR 1 (by show List.Nodup (_++_);decide +kernel))) (fun _ _ _ _=>(jy (Um (Zz (eN R9 (bO (ak 1) (abt Wv aC)) (ak 0) (by with_unfolding_all rfl)) (Wc (eN R9 (bO (ak 1) (abt Wv aC)) (ak 0) (by with_unfolding_all rfl))))))) (fun _ _ _ _=>(ak 1)) (cD))) aX)
theorem zM:bU ["_law_names_here", "_law_reasons", "_law_found", "_law_weight", "_law_a", "_law_b", "_law_k", "_law_one", "_law_other"] ["_law_names_here", "_law_reasons"] (aH lR):=sO
include t in
theorem Lq:cF P w K mg base mj 1 gW iI ["_law_names_here", "_law_reasons"] (oZ K 2 dI):=by
 unfold dI
 refine tQ (k:=0) (g:=lV) t.dI zM rfl rfl fun cdv A outer s H E hr=>?_
 have hu:=dJ hr
 have nd:=zM.nd
 exact (aB (R4 2 ["_law_name"] (uP [] []) rfl nd (jL (ak 0)) (fun _ _ _ _=>(aR 0 (by show List.Nodup (_++_);decide +kernel))) (fun _ _ _ _=>eU) (fun _ _ _ _=>(jq (fQ (aj (ak 0) aA)))) (cD)) (aB (CK 1 PassesOwn.never rfl (z8 rfl (cG (aR 3 nd) (cG (aR 4 nd) (cG (aR 5 nd) (cG (aR 6 nd) wA))))) (bH [3,4,5,6,7,8] (aB (bB 7 nd (bO (mG ["_law_part"] (uP ["_law_a"] [4]) rfl (jL (ak 2)) (fun _ _ _ _=>(aR 1 (by show List.Nodup (_++_);decide +kernel))) (fun _ _ _ _=>(jy (eN R9 (ak 0) (ak 1) (by with_unfolding_all rfl)))) (fun _ _ _ _=>(ak 1)) (cD)) aC)) (aB (bB 8 nd (bO (mG ["_law_part"] (uP ["_law_b"] [5]) rfl (jL (ak 2)) (fun _ _ _ _=>(aR 1 (by show List.Nodup (_++_);decide +kernel))) (fun _ _ _ _=>(jy (eN R9 (ak 0) (ak 1) (by with_unfolding_all rfl)))) (fun _ _ _ _=>(ak 1)) (cD)) aC)) (aB (uX (eN (DW hu) (ak 7) (ak 8) (gA _)) (bH [] (aB (bB 2 nd (aQ cY (mG ["_law_part"] (uP ["_law_one", "_law_other"] [7,8]) rfl (jL (ak 2)) (fun _ _ _ _=>(aR 2 (by show List.Nodup (_++_);decide +kernel))) (fun _ _ _ _=>(jy (eN (aaC hu) (ak 2) (fQ (aj (ak 0) (aj (ak 1) aA))) (by with_unfolding_all rfl)))) (fun _ _ _ _=>(ak 2)) (cD)) (fQ (aj (jq (bG Ag rfl t.gM m5 (aj (aQ cY (ak 7) (ak 8)) aA))) aA)))) aX)) (bH [] aX)) aX))))) (aB (fU (bG yW rfl t.gM m5 (aj (mG ["_law_part"] (uP [] []) rfl (jL (ak 2)) (fun _ _ _ _=>(aR 0 (by show List.Nodup (_++_);decide +kernel))) (fun _ _ _ _=>eU) (fun _ _ _ _=>(cT qj rfl t.gw iT (aj (ak 0) aA))) (cD)) aA))) aX)))
theorem Ca:bU ["_law_ground_here", "_law_sets", "_law_part"] ["_law_ground_here", "_law_sets"] (aH nF):=sO
include t in
theorem OD (pQ:cF P w K mg base mj 1 iH jg ["_law_names_here", "_law_rows"] (oZ K 2 dX)) (lZ:cF P w K mg base mj 1 gW iI ["_law_names_here", "_law_reasons"] (oZ K 2 dI)):cF P w K mg base mj 2 jG jH ["_law_ground_here", "_law_sets"] (oZ K 2 iy):=by
 unfold iy
 refine tQ (k:=1) (g:=ug) t.iy Ca rfl rfl fun cdv A outer s H E hr=>?_
 have hu:=dJ hr
 have nd:=Ca.nd
 exact (aB (CK 1 PassesOwn.never rfl (aR 2 nd) (bH [2] (aB (uX (Um (DG (eN (DW hu) (bJ pQ (hr.mono (by decide)) rfl t.zF t.zG t.zB (aj (ak 2) (aj (bO (ak 0) aC) aA))) (fQ aA) (gA _)) (yI (eN (DW hu) (bG vA rfl t.uL u9 (aj (bJ lZ (hr.mono (by decide)) rfl t.BL t.BP t.BK (aj (ak 2) (aj (jq (bJ pQ (hr.mono (by decide)) rfl t.zF t.zG t.zB (aj (ak 2) (aj (bO (ak 0) aC) aA)))) aA))) aA)) aC (gA _))))) (aB (fU Dz) aX) aX) aX))) (aB (fU Dz) aX))
theorem qH:bU ["_law_x", "_law_names_here", "_law_rows", "_law_k", "_law_weight", "_law_ground_here", "_law_at", "_law_cut", "_law_sets", "_law_found"] ["_law_x"] (aH dN):=sO
include t in
theorem yr (nM:cF P w K mg base mj 2 jG jH ["_law_ground_here", "_law_sets"] (oZ K 2 iy)) (p7:cF P w K mg base mj 4 lY lM ["ground", "sets"] (oZ K 2 jW)):cF P w K mg base mj 5 cP dD ["_law_x"] (oZ K 1 cN):=by
 unfold cN
 refine tQ (k:=4) (g:=jt) t.cN qH rfl rfl fun cdv A outer s H E hr=>?_
 have hu:=dJ hr
 have nd:=qH.nd
 exact (aB (bB 1 nd tO) (aB (bB 2 nd (fQ aA)) (aB (tH PassesOwn.never rfl (qe rfl t.mO (aj aC aA)) (aR 3 nd) (bH [3,4] (aB (bB 4 nd (aQ cY aC (aQ tL (aQ cH (aQ wC (ak 0) aC) aC) (ak 3)))) (aB (bB 2 nd (aQ cY (ak 2) (fQ (aj (lC (aj (aQ DX aC (ak 4)) (aj (bO (ak 1) (ak 3)) (aj (bO (ak 1) (aQ cY (ak 3) aC)) (aj aC aA))))) (aj (lC (aj (aQ DX aC (ak 4)) (aj (bO (ak 1) (ak 3)) (aj (bO (ak 1) (aQ cY (ak 3) aC)) (aj aC aA))))) aA))))) aX)))) (aB (bB 2 nd (bG yW rfl t.gM m5 (aj (ak 2) aA))) (aB (bB 5 nd (lC (aj (cT (zx rfl) rfl t.gw iT (aj (ak 1) aA)) (aj (cT qj rfl t.gw iT (aj (mG ["_law_weight", "_law_a", "_law_b", "_law_kind"] (uP [] []) rfl (jL (ak 2)) (fun _ _ _ _=>(z8 rfl (cG (aR 0 (by show List.Nodup (_++_);decide +kernel)) (cG (aR 1 (by show List.Nodup (_++_);decide +kernel)) (cG (aR 2 (by show List.Nodup (_++_);decide +kernel)) (cG (aR 3 (by show List.Nodup (_++_);decide +kernel)) wA)))))) (fun _ _ _ _=>eU) (fun _ _ _ _=>(lC (aj (aQ DX aC (ak 0)) (aj (ak 1) (aj (ak 2) (aj (ak 3) aA)))))) (Qk (kE (cD) (kE (cD) (kE (cD) (kE (cD) Kd)))))) aA)) (aj (lC (aj (lC (aj tO (aj tO (aj aC aA)))) aA)) aA))))) (aB (bB 6 nd (aQ cY aC (aQ cH (ak 0) aC))) (aB (bB 7 nd (fQ (aj (cT (zx rfl) rfl t.gw iT (aj (Bm (ak 1) qg (mH (ak 6))) aA)) (aj (cT (zx rfl) rfl t.gw iT (aj (Bm (ak 1) (mH (ak 6)) qg) aA)) aA)))) (adG (i:=7) (aB (tH PassesOwn.never rfl (yJ (fQ (aj (ak 7) (aj (jq (fQ (aj (cT (zx rfl) rfl t.gw iT (aj (ak 1) aA)) aA))) (aj (jq (mG ["_law_name"] (uP [] []) rfl (jL (ak 1)) (fun _ _ _ _=>(aR 0 (by show List.Nodup (_++_);decide +kernel))) (fun _ _ _ _=>eU) (fun _ _ _ _=>(lC (aj (ak 0) aA))) (cD))) (aj (jq (fQ (aj (cT (zx rfl) rfl t.gw iT (aj (Bm (ak 1) qg (mH aC)) aA)) (aj (lC (aj tO (aj tO aA))) (aj (lC (aj tO aA)) (aj (lC (aj tO (aj tO aA))) aA)))))) aA)))))) (aR 8 nd) (bH [8,9] (aB (bB 9 nd (bJ p7 (hr.mono (by decide)) rfl t.JM t.JN t.JL (aj (ak 5) (aj (jq (cT Sd rfl t.yh Kh (aj (ak 8) aA))) aA)))) (aB (uX (Um (DG (Qh (Qg (Bl (ak 9) rfl t.jZ rfl t.Az))) (yI (eN (DW hu) (ak 9) (bJ nM (hr.mono (by decide)) rfl t.Gk t.Gm t.Gj (aj (ak 5) (aj (ak 8) aA))) (gA _))))) (aB (fU Dz) aX) aX) aX)))) (aB (fU Dz) aX))))))))))
theorem zN:bU ["_law_xs", "_law_many", "_law_letters", "_law_stem", "_law_at", "_law_found", "_law_k", "_law_mark", "_law_name"] ["_law_xs", "_law_many"] (aH lU):=sO
include t in
theorem Lr:cF P w K mg base mj 1 jJ jY ["_law_xs", "_law_many"] (oZ K 2 gU):=by
 unfold gU
 refine tQ (k:=0) (g:=q9) t.gU zN rfl rfl fun cdv A outer s H E hr=>?_
 have hu:=dJ hr
 have nd:=zN.nd
 exact (aB (bB 2 nd tO) (aB (bB 3 nd (Z5 (mG ["_law_k"] (uP ["_law_letters", "_law_xs"] [2,0]) rfl (ac3 (qe rfl t.mO (aj (aQ cH (bO (ak 0) aC) aC) aA))) (fun _ _ _ _=>(aR 2 (by show List.Nodup (_++_);decide +kernel))) (fun _ _ _ _=>eU) (fun _ _ _ _=>(bO (ak 0) (aQ cH (aQ wC (bO (ak 1) (ak 2)) aC) aC))) (cD)))) (aB (bB 4 nd (aQ cH (bO (ak 0) aC) (aQ cY (bG vA rfl t.uL u9 (aj (ak 3) aA)) aC))) (aB (bB 5 nd (fQ aA)) (aB (tH PassesOwn.never rfl (qe rfl t.mO (aj (ak 1) aA)) (aR 6 nd) (bH [6,7,8] (aB (bB 7 nd (bO (ak 2) (aQ cH (aQ cY (ak 6) (bO (ak 0) aC)) aC))) (aB (bB 8 nd (aQ cY (aQ cY (Bm (ak 3) qg (mH (ak 4))) (ak 7)) (Bm (ak 3) (mH (ak 4)) qg))) (aB (uX (eN (of_eq hu) (aQ cH (bO (ak 0) aC) aC) aC (gA _)) (bH [] (aB (bB 8 nd (aQ tL (bO (ak 2) (aQ wC (ak 6) aC)) (aQ cY aC (aQ cH (ak 6) aC)))) aX)) (bH [] aX)) (aB (DP 5 (ak 8)) aX)))))) (aB (J9 5) aX))))))
theorem xG:bU ["_law_script", "_law_at", "_law_many", "_law_reasons", "_law_bars", "_law_head", "_law_names_here", "_law_told", "_law_k", "_law_xs", "_law_a", "_law_b", "_law_weight", "_law_found", "_law_shut"] ["_law_script", "_law_at", "_law_many", "_law_reasons", "_law_bars"] (aH jU):=sO
include t in
theorem Ie (iK:cF P w K mg base mj 1 jC jD ["_law_script", "_law_k"] (oZ K 2 dj)) (vU:cF P w K mg base mj 1 jJ jY ["_law_xs", "_law_many"] (oZ K 2 gU)) (dH:cF P w K mg base mj 1 d7 eX ["_law_cell_here", "_law_many"] (oZ K 2 bW)):cF P w K mg base mj 2 iJ jh ["_law_script", "_law_at", "_law_many", "_law_reasons", "_law_bars"] (oZ K 5 iz):=by
 unfold iz
 refine tQ (k:=1) (g:=pP) t.iz xG rfl rfl fun cdv A outer s H E hr=>?_
 have hu:=dJ hr
 have nd:=xG.nd
 exact (aB (bB 5 nd (bJ dH (hr.mono (by decide)) rfl t.kZ t.lg t.kY (aj (jq (bJ iK (hr.mono (by decide)) rfl t.qF t.qG t.qD (aj (ak 0) (aj (ak 1) aA)))) (aj aC aA)))) (aB (bB 6 nd (bG Ag rfl t.gM m5 (aj (bJ vU (hr.mono (by decide)) rfl t.Om t.Oo t.Ol (aj (ak 5) (aj (ak 2) aA))) aA))) (aB (bB 7 nd (fQ aA)) (aB (tH PassesOwn.never rfl (qe rfl t.mO (aj (ak 3) aA)) (aR 8 nd) (bH [8,9,10,11,12] (aB (bB 9 nd (bJ dH (hr.mono (by decide)) rfl t.kZ t.lg t.kY (aj (jq (bJ iK (hr.mono (by decide)) rfl t.qF t.qG t.qD (aj (ak 0) (aj (jq (aQ cY (aQ cY (ak 1) aC) (ak 8))) aA)))) (aj aC aA)))) (aB (Wi 10 11 rfl nd (aj (aQ cH (bO (ak 9) aC) (bG (xW rfl) rfl t.vO xU (aj aC (aj (ak 2) aA)))) (aj (aQ cH (bO (ak 9) aC) (bG (xW rfl) rfl t.vO xU (aj aC (aj (ak 2) aA)))) aA))) (aB (bB 12 nd (bO (fQ (aj (jq (aQ cY aC (aQ cH (bO (ak 9) aC) aC))) (aj (jq (aQ cY aC (aQ cH (bO (ak 9) aC) aC))) (aj (jq (aQ cY aC (aQ cH (bO (ak 9) aC) aC))) aA)))) (aQ cH (bO (ak 5) aC) aC))) (aB (uX (eN (DW hu) (ak 10) (ak 11) (gA _)) (bH [] (aB (DP 7 (lC (aj (aQ DX aC (ak 12)) (aj (bO (ak 6) (bG (WR rfl) rfl t.Gn Qo (aj (ak 10) (aj (ak 11) aA)))) (aj (bO (ak 6) (bG (xW rfl) rfl t.vO xU (aj (ak 10) (aj (ak 11) aA)))) (aj (bO (fQ (aj aC (aj aC (aj aC aA)))) (aQ cH (bO (ak 9) aC) aC)) aA)))))) aX)) (bH [] aX)) aX)))))) (aB (R4 13 ["_law_weight", "_law_a", "_law_b", "_law_k"] (uP [] []) rfl nd (jL (S7 rfl rfl t.gM (S5 rfl hu rfl t.JQ (ak 7)))) (fun _ _ _ _=>(z8 rfl (cG (aR 0 (by show List.Nodup (_++_);decide +kernel)) (cG (aR 1 (by show List.Nodup (_++_);decide +kernel)) (cG (aR 2 (by show List.Nodup (_++_);decide +kernel)) (cG (aR 3 (by show List.Nodup (_++_);decide +kernel)) wA)))))) (fun _ _ _ _=>eU) (fun _ _ _ _=>(lC (aj (aQ DX aC (ak 0)) (aj (ak 1) (aj (ak 2) (aj (ak 3) aA)))))) (Qk (kE (cD) (kE (cD) (kE (cD) (kE (cD) Kd)))))) (aB (bB 14 nd (fQ aA)) (aB (tH PassesOwn.never rfl (qe rfl t.mO (aj (ak 4) aA)) (aR 8 nd) (bH [8,9,10,11] (aB (bB 9 nd (bJ dH (hr.mono (by decide)) rfl t.kZ t.lg t.kY (aj (jq (bJ iK (hr.mono (by decide)) rfl t.qF t.qG t.qD (aj (ak 0) (aj (jq (aQ cY (aQ cY (ak 1) aC) (ak 8))) aA)))) (aj aC aA)))) (aB (Wi 10 11 rfl nd (aj (aQ cH (bO (ak 9) aC) (bG (xW rfl) rfl t.vO xU (aj aC (aj (ak 2) aA)))) (aj (aQ cH (bO (ak 9) aC) (bG (xW rfl) rfl t.vO xU (aj aC (aj (ak 2) aA)))) aA))) (aB (uX (eN (DW hu) (ak 10) (ak 11) (gA _)) (bH [] (aB (DP 14 (lC (aj (bO (ak 6) (bG (WR rfl) rfl t.Gn Qo (aj (ak 10) (aj (ak 11) aA)))) (aj (bO (ak 6) (bG (xW rfl) rfl t.vO xU (aj (ak 10) (aj (ak 11) aA)))) (aj (bO (fQ (aj aC (aj aC aA))) (aQ cH (bO (ak 9) aC) aC)) aA))))) aX)) (bH [] aX)) aX))))) (aB (fU (lC (aj (cT qj rfl t.gw iT (aj (ak 6) aA)) (aj (cT qj rfl t.gw iT (aj (ak 13) aA)) (aj (cT qj rfl t.gw iT (aj (S7 rfl rfl t.gM (S5 rfl hu rfl t.JQ (ak 14))) aA)) aA))))) aX))))))))
theorem vV:bU ["_law_names_here", "_law_xs", "_law_found", "_law_k", "_law_spot"] ["_law_names_here", "_law_xs"] (aH jc):=sO
include t in
theorem Gw:cF P w K mg base mj 1 gk gK ["_law_names_here", "_law_xs"] (oZ K 2 fY):=by
 unfold fY
 refine tQ (k:=0) (g:=nY) t.fY vV rfl rfl fun cdv A outer s H E hr=>?_
 have hu:=dJ hr
 have nd:=vV.nd
 exact (aB (bB 2 nd Z6) (aB (Yo 2 4 3 PassesOwn.never rfl nd (qe rfl t.mO (aj (bG vA rfl t.uL u9 (aj (ak 0) aA)) aA)) (aQ cH (aQ wC (bO (ak 1) (aQ cH (ak 3) (bG vA rfl t.uL u9 (aj (ak 1) aA)))) (aQ cY aC (aQ wC (ak 3) (bG vA rfl t.uL u9 (aj (ak 1) aA))))) (bG (xW rfl) rfl t.vO xU (aj aC (aj (bG vA rfl t.uL u9 (aj (ak 0) aA)) aA)))) (eN abz (aQ cH (bO (ak 1) aC) aC) aC (gA _)) (aQ cH (ak 4) aC) (bO (ak 0) (ak 3))) (aB (fU (bG yW rfl t.gM m5 (aj (Ew ["_law_spot"] (uP ["_law_found"] [2]) rfl (ak 2) (fun _ _ _ _=>(aR 1 (by show List.Nodup (_++_);decide +kernel))) (fun _ _ _ _=>eU) (fun _ _ _ _=>(cT qj rfl t.gw iT (aj (bG Ag rfl t.gM m5 (aj (mJ hu (ak 0) (ak 1)) aA)) aA))) (cD)) aA))) aX)))
theorem Yt:bU ["_law_script", "_law_head", "_law_ground_here", "_law_names_here", "_law_some", "_law_cell_here", "_law_sets", "_law_found"] ["_law_script"] (aH zA):=sO
include t in
theorem aee (iK:cF P w K mg base mj 1 jC jD ["_law_script", "_law_k"] (oZ K 2 dj)) (mQ:cF P w K mg base mj 5 cP dD ["_law_x"] (oZ K 1 cN)) (nM:cF P w K mg base mj 2 jG jH ["_law_ground_here", "_law_sets"] (oZ K 2 iy)) (uq:cF P w K mg base mj 2 iJ jh ["_law_script", "_law_at", "_law_many", "_law_reasons", "_law_bars"] (oZ K 5 iz)) (rP:cF P w K mg base mj 1 gk gK ["_law_names_here", "_law_xs"] (oZ K 2 fY)) (dH:cF P w K mg base mj 1 d7 eX ["_law_cell_here", "_law_many"] (oZ K 2 bW)) (lZ:cF P w K mg base mj 1 gW iI ["_law_names_here", "_law_reasons"] (oZ K 2 dI)) (p7:cF P w K mg base mj 4 lY lM ["ground", "sets"] (oZ K 2 jW)):cF P w K mg base mj 6 JK Gf ["_law_script"] (oZ K 1 rz):=by
 unfold rz
 refine tQ (k:=5) (g:=Tt) t.rz Yt rfl rfl fun cdv A outer s H E hr=>?_
 have hu:=dJ hr
 have nd:=Yt.nd
 exact (aB (bB 1 nd (bJ dH (hr.mono (by decide)) rfl t.kZ t.lg t.kY (aj (jq (bJ iK (hr.mono (by decide)) rfl t.qF t.qG t.qD (aj (ak 0) (aj aC aA)))) (aj aC aA)))) (aB (uX (Qh (Qg (bJ mQ (hr.mono (by decide)) rfl t.zJ t.zK t.zH (aj (bO (ak 1) aC) aA)))) (aB (fU Dz) aX) aX) (aB (bB 2 nd (bJ uq (hr.mono (by decide)) rfl t.Lk t.Ln t.Lj (aj (ak 0) (aj aC (aj (aQ cH (bO (ak 1) aC) aC) (aj (aQ cH (bO (ak 1) aC) aC) (aj (aQ cH (bO (ak 1) aC) aC) aA))))))) (aB (bB 3 nd (bO (ak 2) aC)) (aB (bB 4 nd (fQ (aj (jq (bJ lZ (hr.mono (by decide)) rfl t.BL t.BP t.BK (aj (ak 3) (aj (bO (ak 2) aC) aA)))) (aj (jq (mG ["_law_name"] (uP [] []) rfl (jL (ak 3)) (fun _ _ _ _=>(aR 0 (by show List.Nodup (_++_);decide +kernel))) (fun _ _ _ _=>eU) (fun _ _ _ _=>(lC (aj (ak 0) aA))) (cD))) (aj (jq (Bm (fQ (aj (ak 3) aA)) qg (mH (bG vA rfl t.uL u9 (aj (ak 3) aA))))) aA))))) (aB (tH PassesOwn.never rfl (yJ (aQ cY (fQ (aj (jq (bJ iK (hr.mono (by decide)) rfl t.qF t.qG t.qD (aj (ak 0) (aj aC aA)))) aA)) (Bm (ak 0) (mH aC) (mH aC)))) (aR 5 nd) (bH [5] (aB (DP 4 (jq (bJ rP (hr.mono (by decide)) rfl t.HS t.HW t.HN (aj (ak 3) (aj (jq (bJ dH (hr.mono (by decide)) rfl t.kZ t.lg t.kY (aj (ak 5) (aj aC aA)))) aA))))) aX))) (aB (CK 4 PassesOwn.never rfl (aR 6 nd) (bH [6,7] (aB (bB 7 nd (bJ p7 (hr.mono (by decide)) rfl t.JM t.JN t.JL (aj (ak 2) (aj (jq (cT Sd rfl t.yh Kh (aj (ak 6) aA))) aA)))) (aB (uX (Um (DG (Qh (Qg (Bl (ak 7) rfl t.jZ rfl t.Az))) (yI (eN (DW hu) (ak 7) (bJ nM (hr.mono (by decide)) rfl t.Gk t.Gm t.Gj (aj (ak 2) (aj (ak 6) aA))) (gA _))))) (aB (fU Dz) aX) aX) aX)))) (aB (fU Dz) aX))))))))
end
theorem all_mk {l:PySem.W.OpenLaw} {w:World} {K:FG_} {h:Heap} {mg:Str->Option Value} {fa:Addr} {f0:Addr} {od0 an0:Option Addr} {sl0:Array (Option Value)} {oc0 kV0 dc0 pm0 cd0 ct0:Value} {f1:Addr} {od1 an1:Option Addr} {sl1:Array (Option Value)} {oc1 kV1 dc1 pm1 cd1 ct1:Value} {f2:Addr} {od2 an2:Option Addr} {sl2:Array (Option Value)} {oc2 kV2 dc2 pm2 cd2 ct2:Value} {f3:Addr} {od3 an3:Option Addr} {sl3:Array (Option Value)} {oc3 kV3 dc3 pm3 cd3 ct3:Value} {f4:Addr} {od4 an4:Option Addr} {sl4:Array (Option Value)} {oc4 kV4 dc4 pm4 cd4 ct4:Value} {f5:Addr} {od5 an5:Option Addr} {sl5:Array (Option Value)} {oc5 kV5 dc5 pm5 cd5 ct5:Value} {f6:Addr} {od6 an6:Option Addr} {sl6:Array (Option Value)} {oc6 kV6 dc6 pm6 cd6 ct6:Value} {f7:Addr} {od7 an7:Option Addr} {sl7:Array (Option Value)} {oc7 kV7 dc7 pm7 cd7 ct7:Value} {f8:Addr} {od8 an8:Option Addr} {sl8:Array (Option Value)} {oc8 kV8 dc8 pm8 cd8 ct8:Value} {f9:Addr} {od9 an9:Option Addr} {sl9:Array (Option Value)} {oc9 kV9 dc9 pm9 cd9 ct9:Value} {f10:Addr} {ahU ahV:Option Addr} {ahW:Array (Option Value)} {ahX ahY ahZ ah0 af0 ah1:Value} {f11:Addr} {ah2 ah3:Option Addr} {ah4:Array (Option Value)} {ah5 ah6 ah7 ah8 af2 ah9:Value} {f12:Addr} {aib aic:Option Addr} {aie:Array (Option Value)} {aif aii aij aik af3 ail:Value} {f13:Addr} {aio aip:Option Addr} {aiq:Array (Option Value)} {air ais ait aiu af4 aiv:Value} {f14:Addr} {aix aiy:Option Addr} {aiz:Array (Option Value)} {aiA aiB aiC aiD af5 aiE:Value} {f15:Addr} {aiG aiH:Option Addr} {aiI:Array (Option Value)} {aiJ aiK aiL aiM af6 aiN:Value} {f16:Addr} {aiP aiQ:Option Addr} {aiR:Array (Option Value)} {aiS aiT aiU aiV af7 aiW:Value} {f17:Addr} {aiY aiZ:Option Addr} {ai0:Array (Option Value)} {ai1 ai2 ai3 ai4 af8 ai5:Value} {f18:Addr} {ai7 ai8:Option Addr} {ai9:Array (Option Value)} {aja ajb ajc ajd af9 aje:Value} {f19:Addr} {ajg aga:Option Addr} {ajh:Array (Option Value)} {aji agb agc agd aef agf:Value} (X:K.In h) (G:h.Ns mainGlobals mg) (hfa:mg "law" = some (.ref fa))
  (a0:PySem.W.nsIn K mainGlobals "_law_cell" = some (some (.ref f0))) (l0:K.lookup f0=some ⟨oc0,od0,.func (PySem.W.fnOf "_law_cell" "_law_cell" (cJ nu) (bL nu) (aH nu) .none kV0 dc0 pm0 an0 cd0 ct0),sl0⟩) (c0:PySem.W.codeIn K cd0 "_law_cell" = true) (k0:PySem.W.keepIn K (.ref f0)=true)
  (a1:PySem.W.nsIn K mainGlobals "_law_numbers" = some (some (.ref f1))) (l1:K.lookup f1=some ⟨oc1,od1,.func (PySem.W.fnOf "_law_numbers" "_law_numbers" (cJ iW) (bL iW) (aH iW) .none kV1 dc1 pm1 an1 cd1 ct1),sl1⟩) (c1:PySem.W.codeIn K cd1 "_law_numbers" = true) (k1:PySem.W.keepIn K (.ref f1)=true)
  (a2:PySem.W.nsIn K mainGlobals "homes_of" = some (some (.ref f2))) (l2:K.lookup f2=some ⟨oc2,od2,.func (PySem.W.fnOf "homes_of" "homes_of" (cJ nA) (bL nA) (aH nA) .none kV2 dc2 pm2 an2 cd2 ct2),sl2⟩) (c2:PySem.W.codeIn K cd2 "homes_of" = true) (k2:PySem.W.keepIn K (.ref f2)=true)
  (a3:PySem.W.nsIn K mainGlobals "reasons_within" = some (some (.ref f3))) (l3:K.lookup f3=some ⟨oc3,od3,.func (PySem.W.fnOf "reasons_within" "reasons_within" (cJ eG) (bL eG) (aH eG) .none kV3 dc3 pm3 an3 cd3 ct3),sl3⟩) (c3:PySem.W.codeIn K cd3 "reasons_within" = true) (k3:PySem.W.keepIn K (.ref f3)=true)
  (a4:PySem.W.nsIn K mainGlobals "bars_within" = some (some (.ref f4))) (l4:K.lookup f4=some ⟨oc4,od4,.func (PySem.W.fnOf "bars_within" "bars_within" (cJ iY) (bL iY) (aH iY) .none kV4 dc4 pm4 an4 cd4 ct4),sl4⟩) (c4:PySem.W.codeIn K cd4 "bars_within" = true) (k4:PySem.W.keepIn K (.ref f4)=true)
  (a5:PySem.W.nsIn K mainGlobals "lone_heads" = some (some (.ref f5))) (l5:K.lookup f5=some ⟨oc5,od5,.func (PySem.W.fnOf "lone_heads" "lone_heads" (cJ jP) (bL jP) (aH jP) .none kV5 dc5 pm5 an5 cd5 ct5),sl5⟩) (c5:PySem.W.codeIn K cd5 "lone_heads" = true) (k5:PySem.W.keepIn K (.ref f5)=true)
  (a6:PySem.W.nsIn K mainGlobals "join_heads" = some (some (.ref f6))) (l6:K.lookup f6=some ⟨oc6,od6,.func (PySem.W.fnOf "join_heads" "join_heads" (cJ jQ) (bL jQ) (aH jQ) .none kV6 dc6 pm6 an6 cd6 ct6),sl6⟩) (c6:PySem.W.codeIn K cd6 "join_heads" = true) (k6:PySem.W.keepIn K (.ref f6)=true)
  (a7:PySem.W.nsIn K mainGlobals "heads_by" = some (some (.ref f7))) (l7:K.lookup f7=some ⟨oc7,od7,.func (PySem.W.fnOf "heads_by" "heads_by" (cJ nC) (bL nC) (aH nC) .none kV7 dc7 pm7 an7 cd7 ct7),sl7⟩) (c7:PySem.W.codeIn K cd7 "heads_by" = true) (k7:PySem.W.keepIn K (.ref f7)=true)
  (a8:PySem.W.nsIn K mainGlobals "names_under" = some (some (.ref f8))) (l8:K.lookup f8=some ⟨oc8,od8,.func (PySem.W.fnOf "names_under" "names_under" (cJ iZ) (bL iZ) (aH iZ) .none kV8 dc8 pm8 an8 cd8 ct8),sl8⟩) (c8:PySem.W.codeIn K cd8 "names_under" = true) (k8:PySem.W.keepIn K (.ref f8)=true)
  (a9:PySem.W.nsIn K mainGlobals "sets_under" = some (some (.ref f9))) (l9:K.lookup f9=some ⟨oc9,od9,.func (PySem.W.fnOf "sets_under" "sets_under" (cJ jR) (bL jR) (aH jR) .none kV9 dc9 pm9 an9 cd9 ct9),sl9⟩) (c9:PySem.W.codeIn K cd9 "sets_under" = true) (k9:PySem.W.keepIn K (.ref f9)=true)
  (a10:PySem.W.nsIn K mainGlobals "parts_by" = some (some (.ref f10))) (l10:K.lookup f10=some ⟨ahX,ahU,.func (PySem.W.fnOf "parts_by" "parts_by" (cJ nD) (bL nD) (aH nD) .none ahY ahZ ah0 ahV af0 ah1),ahW⟩) (c10:PySem.W.codeIn K af0 "parts_by" = true) (k10:PySem.W.keepIn K (.ref f10)=true)
  (a11:PySem.W.nsIn K mainGlobals "is_good" = some (some (.ref f11))) (l11:K.lookup f11=some ⟨ah5,ah2,.func (PySem.W.fnOf "is_good" "is_good" (cJ pZ) (bL pZ) (aH pZ) .none ah6 ah7 ah8 ah3 af2 ah9),ah4⟩) (c11:PySem.W.codeIn K af2 "is_good" = true) (k11:PySem.W.keepIn K (.ref f11)=true)
  (a12:PySem.W.nsIn K mainGlobals "_law_inside" = some (some (.ref f12))) (l12:K.lookup f12=some ⟨aif,aib,.func (PySem.W.fnOf "_law_inside" "_law_inside" (cJ jT) (bL jT) (aH jT) .none aii aij aik aic af3 ail),aie⟩) (c12:PySem.W.codeIn K af3 "_law_inside" = true) (k12:PySem.W.keepIn K (.ref f12)=true)
  (a13:PySem.W.nsIn K mainGlobals "_law_parts" = some (some (.ref f13))) (l13:K.lookup f13=some ⟨air,aio,.func (PySem.W.fnOf "_law_parts" "_law_parts" (cJ lR) (bL lR) (aH lR) .none ais ait aiu aip af4 aiv),aiq⟩) (c13:PySem.W.codeIn K af4 "_law_parts" = true) (k13:PySem.W.keepIn K (.ref f13)=true)
  (a14:PySem.W.nsIn K mainGlobals "_law_good" = some (some (.ref f14))) (l14:K.lookup f14=some ⟨aiA,aix,.func (PySem.W.fnOf "_law_good" "_law_good" (cJ nF) (bL nF) (aH nF) .none aiB aiC aiD aiy af5 aiE),aiz⟩) (c14:PySem.W.codeIn K af5 "_law_good" = true) (k14:PySem.W.keepIn K (.ref f14)=true)
  (a15:PySem.W.nsIn K mainGlobals "_law_chain_right" = some (some (.ref f15))) (l15:K.lookup f15=some ⟨aiJ,aiG,.func (PySem.W.fnOf "_law_chain_right" "_law_chain_right" (cJ dN) (bL dN) (aH dN) .none aiK aiL aiM aiH af6 aiN),aiI⟩) (c15:PySem.W.codeIn K af6 "_law_chain_right" = true) (k15:PySem.W.keepIn K (.ref f15)=true)
  (a16:PySem.W.nsIn K mainGlobals "_law_names" = some (some (.ref f16))) (l16:K.lookup f16=some ⟨aiS,aiP,.func (PySem.W.fnOf "_law_names" "_law_names" (cJ lU) (bL lU) (aH lU) .none aiT aiU aiV aiQ af7 aiW),aiR⟩) (c16:PySem.W.codeIn K af7 "_law_names" = true) (k16:PySem.W.keepIn K (.ref f16)=true)
  (a17:PySem.W.nsIn K mainGlobals "_law_ground" = some (some (.ref f17))) (l17:K.lookup f17=some ⟨ai1,aiY,.func (PySem.W.fnOf "_law_ground" "_law_ground" (cJ jU) (bL jU) (aH jU) .none ai2 ai3 ai4 aiZ af8 ai5),ai0⟩) (c17:PySem.W.codeIn K af8 "_law_ground" = true) (k17:PySem.W.keepIn K (.ref f17)=true)
  (a18:PySem.W.nsIn K mainGlobals "_law_joining" = some (some (.ref f18))) (l18:K.lookup f18=some ⟨aja,ai7,.func (PySem.W.fnOf "_law_joining" "_law_joining" (cJ jc) (bL jc) (aH jc) .none ajb ajc ajd ai8 af9 aje),ai9⟩) (c18:PySem.W.codeIn K af9 "_law_joining" = true) (k18:PySem.W.keepIn K (.ref f18)=true)
  (a19:PySem.W.nsIn K mainGlobals "law" = some (some (.ref f19))) (l19:K.lookup f19=some ⟨aji,ajg,.func (PySem.W.fnOf "law" "law" (cJ zA) (bL zA) (aH zA) .none agb agc agd aga aef agf),ajh⟩) (c19:PySem.W.codeIn K aef "law" = true) (k19:PySem.W.keepIn K (.ref f19)=true)
  (Oq:PySem.W.nsIn K mainGlobals "abs" = some none)
  (Az:PySem.W.nsIn K mainGlobals "bool" = some none)
  (oJ:PySem.W.nsIn K mainGlobals "enumerate" = some none)
  (Ot:PySem.W.nsIn K mainGlobals "int" = some none)
  (jZ:PySem.W.nsIn K mainGlobals "isinstance" = some none)
  (uL:PySem.W.nsIn K mainGlobals "len" = some none)
  (yh:PySem.W.nsIn K mainGlobals "list" = some none)
  (vO:PySem.W.nsIn K mainGlobals "max" = some none)
  (Gn:PySem.W.nsIn K mainGlobals "min" = some none)
  (mO:PySem.W.nsIn K mainGlobals "range" = some none)
  (JQ:PySem.W.nsIn K mainGlobals "set" = some none)
  (gM:PySem.W.nsIn K mainGlobals "sorted" = some none)
  (gw:PySem.W.nsIn K mainGlobals "tuple" = some none) :
  ∃ fd:FuncData,(∀ (s:Shared) (v:Value),BindsTo s fd ⟨[v],[]⟩ [("_law_script", v)])/\∀ base:Heap,K.In base->base.Ns mainGlobals mg->cF l.prog w K mg base mj 6 fa fd ["_law_script"] (oZ K 1 rz):=by
 have e:=hfa.symm.trans (qa X G a19)
 cases e
 have F0:=gB (st:=nu) l0 c0 k0
 have b0:=F0.binds (ps:=["_law_script", "_law_k"]) fun _ _ _ _ _ _=>len2 fun _ _=>rfl
 have F1:=gB (st:=iW) l1 c1 k1
 have b1:=F1.binds (ps:=["_law_cell_here", "_law_many"]) fun _ _ _ _ _ _=>len2 fun _ _=>rfl
 have F2:=gB (st:=nA) l2 c2 k2
 have b2:=F2.binds (ps:=["sets"]) fun _ _ _ _ _ _=>len1 fun _=>rfl
 have F3:=gB (st:=eG) l3 c3 k3
 have b3:=F3.binds (ps:=["sets", "reasons"]) fun _ _ _ _ _ _=>len2 fun _ _=>rfl
 have F4:=gB (st:=iY) l4 c4 k4
 have b4:=F4.binds (ps:=["sets", "bars"]) fun _ _ _ _ _ _=>len2 fun _ _=>rfl
 have F5:=gB (st:=jP) l5 c5 k5
 have b5:=F5.binds (ps:=["names"]) fun _ _ _ _ _ _=>len1 fun _=>rfl
 have F6:=gB (st:=jQ) l6 c6 k6
 have b6:=F6.binds (ps:=["heads", "one", "other"]) fun _ _ _ _ _ _=>ahO fun _ _ _=>rfl
 have F7:=gB (st:=nC) l7 c7 k7
 have b7:=F7.binds (ps:=["names", "reasons"]) fun _ _ _ _ _ _=>len2 fun _ _=>rfl
 have F8:=gB (st:=iZ) l8 c8 k8
 have b8:=F8.binds (ps:=["heads", "head"]) fun _ _ _ _ _ _=>len2 fun _ _=>rfl
 have F9:=gB (st:=jR) l9 c9 k9
 have b9:=F9.binds (ps:=["heads"]) fun _ _ _ _ _ _=>len1 fun _=>rfl
 have F10:=gB (st:=nD) l10 c10 k10
 have b10:=F10.binds (ps:=["names", "reasons"]) fun _ _ _ _ _ _=>len2 fun _ _=>rfl
 have F11:=gB (st:=pZ) l11 c11 k11
 have b11:=F11.binds (ps:=["ground", "sets"]) fun _ _ _ _ _ _=>len2 fun _ _=>rfl
 have F12:=gB (st:=jT) l12 c12 k12
 have b12:=F12.binds (ps:=["_law_names_here", "_law_rows"]) fun _ _ _ _ _ _=>len2 fun _ _=>rfl
 have F13:=gB (st:=lR) l13 c13 k13
 have b13:=F13.binds (ps:=["_law_names_here", "_law_reasons"]) fun _ _ _ _ _ _=>len2 fun _ _=>rfl
 have F14:=gB (st:=nF) l14 c14 k14
 have b14:=F14.binds (ps:=["_law_ground_here", "_law_sets"]) fun _ _ _ _ _ _=>len2 fun _ _=>rfl
 have F15:=gB (st:=dN) l15 c15 k15
 have b15:=F15.binds (ps:=["_law_x"]) fun _ _ _ _ _ _=>len1 fun _=>rfl
 have F16:=gB (st:=lU) l16 c16 k16
 have b16:=F16.binds (ps:=["_law_xs", "_law_many"]) fun _ _ _ _ _ _=>len2 fun _ _=>rfl
 have F17:=gB (st:=jU) l17 c17 k17
 have b17:=F17.binds (ps:=["_law_script", "_law_at", "_law_many", "_law_reasons", "_law_bars"]) fun _ _ _ _ _ _=>ahP fun _ _ _ _ _=>rfl
 have F18:=gB (st:=jc) l18 c18 k18
 have b18:=F18.binds (ps:=["_law_names_here", "_law_xs"]) fun _ _ _ _ _ _=>len2 fun _ _=>rfl
 have F19:=gB (st:=zA) l19 c19 k19
 have b19:=F19.binds (ps:=["_law_script"]) fun _ _ _ _ _ _=>len1 fun _=>rfl
 have t:T K mg _ _ _ _ _ _ _ _ _ _ _ _ _ _ _ _ _ _ _ _ _ _ _ _ _ _ _ _ _ _ _ _ _ _ _ _ _ _ _ _:=⟨F0,b0,qa X G a0,k0,F1,b1,qa X G a1,k1,F2,b2,qa X G a2,k2,F3,b3,qa X G a3,k3,F4,b4,qa X G a4,k4,F5,b5,qa X G a5,k5,F6,b6,qa X G a6,k6,F7,b7,qa X G a7,k7,F8,b8,qa X G a8,k8,F9,b9,qa X G a9,k9,F10,b10,qa X G a10,k10,F11,b11,qa X G a11,k11,F12,b12,qa X G a12,k12,F13,b13,qa X G a13,k13,F14,b14,qa X G a14,k14,F15,b15,qa X G a15,k15,F16,b16,qa X G a16,k16,F17,b17,qa X G a17,k17,F18,b18,qa X G a18,k18,F19,b19,qa X G a19,k19,qv X G Oq,qv X G Az,qv X G oJ,qv X G Ot,qv X G jZ,qv X G uL,qv X G yh,qv X G vO,qv X G Gn,qv X G mO,qv X G JQ,qv X G gM,qv X G gw⟩
 refine⟨PySem.W.fnOf "law" "law" (cJ zA) (bL zA) (aH zA) .none agb agc agd aga aef agf,fun s v=>.of_eq rfl,fun base _ _=>?_⟩
 have iK:=Ou (P:=l.prog) (w:=w) (base:=base) t
 have dH:=Gq (P:=l.prog) (w:=w) (base:=base) t
 have nH:=Ov (P:=l.prog) (w:=w) (base:=base) t
 have nJ:=zL (P:=l.prog) (w:=w) (base:=base) t nH
 have rO:=Gs (P:=l.prog) (w:=w) (base:=base) t nH
 have um:=HX (P:=l.prog) (w:=w) (base:=base) t
 have uh:=HY (P:=l.prog) (w:=w) (base:=base) t
 have yj:=Ox (P:=l.prog) (w:=w) (base:=base) t uh um
 have rN:=Gu (P:=l.prog) (w:=w) (base:=base) t
 have uo:=Ia (P:=l.prog) (w:=w) (base:=base) t rN
 have yp:=Oz (P:=l.prog) (w:=w) (base:=base) t yj uo
 have p7:=Rj (P:=l.prog) (w:=w) (base:=base) t rO yp nJ
 have pQ:=Ib (P:=l.prog) (w:=w) (base:=base) t
 have lZ:=Lq (P:=l.prog) (w:=w) (base:=base) t
 have nM:=OD (P:=l.prog) (w:=w) (base:=base) t pQ lZ
 have mQ:=yr (P:=l.prog) (w:=w) (base:=base) t nM p7
 have vU:=Lr (P:=l.prog) (w:=w) (base:=base) t
 have uq:=Ie (P:=l.prog) (w:=w) (base:=base) t iK vU dH
 have rP:=Gw (P:=l.prog) (w:=w) (base:=base) t
 have agg:=aee (P:=l.prog) (w:=w) (base:=base) t iK mQ nM uq rP dH lZ p7
 exact agg
theorem walk {l:PySem.W.OpenLaw} {q:Program} {loose:LS_} {XP:(Str->Option Value)->Heap->Prop} {YP:World->Heap->Prop} {d:DefRec} {K:Params->FG_} (hn:l.most=some 63) (hdf:d.params.defaults=[])
  (h1:∀ ns:List Int,ns.length<=63->rz [.z (.lst (ns.map .int))]=some (.z (.bl true))) (h2:∀ ns:List Int,ns.length<=63->rz [.l (ns.map .int)]=some (.z (.bl true)))
  (hY:∀ (w:World) (h:Heap),YP w h->(K w.params).In h)
  (F:∀ (w:World) (mg:Str->Option Value) (fa:Addr) (h:Heap),(K w.params).In h->h.Ns mainGlobals mg->mg d.name=some (.ref fa) →
   ∃ fd:FuncData,(∀ (s:Shared) (u:Value),BindsTo s fd ⟨[u],[]⟩ [("_law_script", u)])/\∀ base:Heap,(K w.params).In base->base.Ns mainGlobals mg->cF l.prog w (K w.params) mg base mj 6 fa fd ["_law_script"] (oZ (K w.params) 1 rz)) :
  PySem.W.WalkO q loose XP YP l.row.toRowW d [] (fun f vs=>PySem.call f vs):=
 L2.V7 (n:=63) (k:=6) (x := "_law_script") (CX:=mj) (sp:=fun K=>oZ K 1 rz) hn (by decide) hdf ⟨rfl,by decide,by decide⟩ hY F (fun K H a ns hl hO hS=>adl h1 h2 K H a ns hl hO hS) fun _ _ _ _ z=>z
end G29
end
section
set_option synthInstance.maxSize 100000
namespace G29
open PySem PySem.Spec PyProof.Rows L2 P1
noncomputable section
def xH  (v3:Int) (v4:Int):Int:=(let v3:=(((v3 * (69621:Int))+v4) % (2147483647:Int));v3)
theorem Ig (v0:(List Int)) {gq:Bx} (lN:Lp gq (v0.map eI)) (v2:Int) (v3:Int) (v4:Int):RP wX [some gq,some ((zE eI) v2),some ((zE eI) v3),some ((zE eI) v4)] (fun s=>Out.nx ((fun v3:Int=>[some gq,some ((zE eI) v2),some ((zE eI) v3),none]) s)) (xH  v3 v4) (none):=R.tp (cg (bK 2 (dU (j8 (Tf (aq 2 (zE eI) v3 rfl) 69621 (by decide)) (aq 3 (zE eI) v4 rfl)) 2147483647 (by decide)) (fun _=>rfl) fun v3=>(dM (bR v3 rfl))))
def aO (v0:(List Int)) (v2:Int):Int:=(if (decide (v2 < (v0.length:Int)))=true then (at' v0 v2) else (let v3:=(((48271:Int) * (((v2 * v2)+((7:Int) * v2))+(11:Int))) % (2147483647:Int));(let v3:Int:=((cut v0 none (some (3:Int))).foldl (fun (v3:Int) (v4:Int)=>(xH  v3 v4)) v3);v3)))
def iM (v0:(List Int)) (v2:Int):Prop:=(((decide (v2 < (v0.length:Int)))=true->In v0.length v2)/\((decide (v2 < (v0.length:Int)))=false->Mul v2 v2))
theorem Rk (v0:(List Int)) {gq:Bx} (lN:Lp gq (v0.map eI)) (v2:Int):RP tZ [some gq,some ((zE eI) v2),none,none] (fun r=>Out.rt ((zE eI) r)) (aO v0 v2) (some (iM v0 v2)):=R.tp (Oa (fJ (abH (aq 1 (zE eI) v2 rfl) (x_len (gR 0 eI v0 lN rfl)))) (cg (jA (fun r=>r) (jN (gR 0 eI v0 lN rfl) (aq 1 (zE eI) v2 rfl)) (fun _=>rfl) fun _=>rfl)) (dM (bK 2 (dU (QX 48271 (by decide) (j8 (j8 (XD (aq 1 (zE eI) v2 rfl) (aq 1 (zE eI) v2 rfl)) (QX 7 (by decide) (aq 1 (zE eI) v2 rfl))) (aP (.int 11) eI (11:Int) rfl))) 2147483647 (by decide)) (fun _=>rfl) fun v3=>(adS (fun v3:Int=>[some gq,some ((zE eI) v2),some ((zE eI) v3),none]) v3 rfl (aaL (adL (gR 0 eI v0 lN rfl) QZ (KZ (aP (.int 3) eI (3:Int) rfl)))) _ (fun _ _=>rfl) (fun (v3:Int) (v4:Int)=>(Ig v0 lN v2 v3 v4).r) (fun _ _=>rfl) fun v3=>(jA (fun r=>r) (aq 2 (zE eI) v3 rfl) (fun _=>rfl) fun _=>rfl)))))
theorem qI:∀ v bs,(aL eI (aZ eI aN)) v bs->bs.length=2/\(hold (some (iM v.1 v.2.1))->dj (bs.map lend)=some ((zE eI) (aO v.1 v.2.1))):=by
 rintro⟨v0,v2,_⟩ _ ⟨gq,_,rfl,lN,⟨_,rfl,rfl⟩⟩
 exact⟨rfl,fun h=>dG (g:=tZ) (n:=4) (bs:=[lend gq,.z (eI v2)]) (Rk v0 (sS lN) v2) h⟩
def bY  (s1:Int×(List Int)×Int) (v2:Int):Int×(List Int)×Int:=(let v3:=((((s1.1 * ((s1.1 % (65521:Int))+(40487:Int)))+((7:Int) * v2))+(5:Int)) % (1999999973:Int));(let v6:=s1.2.1++[(at' [v3,(s1.2.2 % (1000000:Int))] (if (decide ((0:Int) < s1.2.2))=true then (1:Int) else 0))];(let v7:=(s1.2.2 / (1000000:Int));(v3,v6,v7))))
def j4  (s1:Int×(List Int)×Int) (v2:Int):Prop:=(Mul s1.1 ((s1.1 % (65521:Int))+(40487:Int))/\(let v3:=((((s1.1 * ((s1.1 % (65521:Int))+(40487:Int)))+((7:Int) * v2))+(5:Int)) % (1999999973:Int));(In [v3,(s1.2.2 % (1000000:Int))].length (if (decide ((0:Int) < s1.2.2))=true then (1:Int) else 0)/\NZ s1.2.1.length)))
theorem Ba (v4:Int) (v5:Int) (s1:Int×(List Int)×Int) (v2:Int):RP nG [some ((zE eI) v4),some ((zE eI) v5),some ((oE eI) s1.2.1),some ((zE eI) s1.1),some ((zE eI) s1.2.2),some ((zE eI) v2)] (fun s=>Out.nx ((fun s1:Int×(List Int)×Int=>[some ((zE eI) v4),some ((zE eI) v5),some ((oE eI) s1.2.1),some ((zE eI) s1.1),some ((zE eI) s1.2.2),none]) s)) (bY  s1 v2) (some (j4  s1 v2)):=R.tp (cg (bK 3 (dU (j8 (j8 (XD (aq 3 (zE eI) s1.1 rfl) (j8 (dU (aq 3 (zE eI) s1.1 rfl) 65521 (by decide)) (aP (.int 40487) eI (40487:Int) rfl))) (QX 7 (by decide) (aq 5 (zE eI) v2 rfl))) (aP (.int 5) eI (5:Int) rfl)) 1999999973 (by decide)) (fun _=>rfl) fun v3=>(cg (N8 2 s1.2.1 rfl (jN (ju (jr (aW (aq 3 (zE eI) v3 rfl) (aW (dU (aq 4 (zE eI) s1.2.2 rfl) 1000000 (by decide)) (cM eI))) (zw rfl))) (adO (afK (aq 4 (zE eI) s1.2.2 rfl) (aP (.int 0) eI (0:Int) rfl)))) fun v6=>(cg (bK 4 (Dd (aq 4 (zE eI) s1.2.2 rfl) 1000000 (by decide)) (fun _=>rfl) fun v7=>(dM (bR (v3,v6,v7) rfl))))))))
def j5 (v4:Int) (v5:Int) (v6:(List Int)) (v3:Int) (v7:Int):(List Int):=(let s1:Int×(List Int)×Int:=((rng 0 v5.toNat).foldl (fun (s1:Int×(List Int)×Int) (v2:Int)=>(bY  s1 v2)) (v3,v6,v7));s1.2.1)
def nO (v4:Int) (v5:Int) (v6:(List Int)) (v3:Int) (v7:Int):Prop:=(Rg v5/\qu (fun (s1:Int×(List Int)×Int) (v2:Int)=>(bY  s1 v2)) (fun (s1:Int×(List Int)×Int) (v2:Int)=>some (j4  s1 v2)) (rng 0 v5.toNat) (v3,v6,v7))
def Bb:Ev->Option Out:=(aF (qm (Pq (ao (gv 1) aD)) (kO 5) nG) (aF (Ho 2) mz))
theorem Bc (v4:Int) (v5:Int) (v6:(List Int)) (v3:Int) (v7:Int):RP Bb [some ((zE eI) v4),some ((zE eI) v5),some ((oE eI) v6),some ((zE eI) v3),some ((zE eI) v7),none] (fun r=>Out.rt ((oE eI) r)) (j5 v4 v5 v6 v3 v7) (some (nO v4 v5 v6 v3 v7)):=R.tp (Fy (fun s1:Int×(List Int)×Int=>[some ((zE eI) v4),some ((zE eI) v5),some ((oE eI) s1.2.1),some ((zE eI) s1.1),some ((zE eI) s1.2.2),none]) (v3,v6,v7) rfl (Jz (aq 1 (zE eI) v5 rfl)) _ (fun _ _=>rfl) (fun (s1:Int×(List Int)×Int) (v2:Int)=>(Ba v4 v5 s1 v2).r) fun s1=>(Q5 2 (fun r=>r) s1.2.1 rfl (fun _=>rfl) fun _=>rfl))
def aK (v4:Int) (v5:Int):(List Int):=(let v6:=([]:List Int);(let v3:=((((v4 % (1999999973:Int))+(31:Int)) * (765432101:Int)) % (1999999973:Int));(let v7:=(0:Int);(let v7:Int:=(if ((decide (v4 < (0:Int)))||(decide (((10:Int) ^ 18)<=v4)))=true then (let v7:=(if v4 < 0 then -v4 else v4);v7) else v7);(j5 v4 v5 v6 v3 v7)))))
def d8 (v4:Int) (v5:Int):Prop:=(let v6:=([]:List Int);(let v3:=((((v4 % (1999999973:Int))+(31:Int)) * (765432101:Int)) % (1999999973:Int));(let v7:=(0:Int);(let v7:Int:=(if ((decide (v4 < (0:Int)))||(decide (((10:Int) ^ 18)<=v4)))=true then (let v7:=(if v4 < 0 then -v4 else v4);v7) else v7);(nO v4 v5 v6 v3 v7)))))
theorem Ih (v4:Int) (v5:Int):RP nT [some ((zE eI) v4),some ((zE eI) v5),none,none,none,none] (fun r=>Out.rt ((oE eI) r)) (aK v4 v5) (some (d8 v4 v5)):=R.tp (bK 2 (jr (cM eI) (zw rfl)) (fun _=>rfl) fun v6=>(bK 3 (dU (Tf (j8 (dU (aq 0 (zE eI) v4 rfl) 1999999973 (by decide)) (aP (.int 31) eI (31:Int) rfl)) 765432101 (by decide)) 1999999973 (by decide)) (fun _=>rfl) fun v3=>(bK 4 (aP (.int 0) eI (0:Int) rfl) (fun _=>rfl) fun v7=>(Fw (fun v7:Int=>[some ((zE eI) v4),some ((zE eI) v5),some ((oE eI) v6),some ((zE eI) v3),some ((zE eI) v7),none]) (XQ (fJ (abH (aq 0 (zE eI) v4 rfl) (aP (.int 0) eI (0:Int) rfl))) (fJ (x_ge (aq 0 (zE eI) v4 rfl) (adI 10 18 18 (by decide) rfl)))) (cg (bK 4 (afO (aq 0 (zE eI) v4 rfl)) (fun _=>rfl) fun v7=>(dM (bR v7 rfl)))) (dM (bR v7 rfl)) fun v7=>(Bc v4 v5 v6 v3 v7).r))))
theorem lq:∀ v bs,(aZ eI (aZ eI aN)) v bs->bs.length=2/\(hold (some (d8 v.1 v.2.1))->bW (bs.map lend)=some ((oE eI) (aK v.1 v.2.1))):=by
 rintro⟨v4,v5,_⟩ _ ⟨_,rfl,⟨_,rfl,rfl⟩⟩
 exact⟨rfl,fun h=>dG (g:=nT) (n:=6) (bs:=[.z (eI v4),.z (eI v5)]) (Ih v4 v5) h⟩
def eY (vi:(List LS_)):(List (Str×Int)):=(mkD ((vK vi).flatMap fun q1:aed=>(q1.2.map fun vm:Str=>(vm,q1.1))))
def qJ (vi:(List LS_)):Prop:=((∀ q1∈(vK vi),(∀ vm∈q1.2,True))/\((vK vi).flatMap fun q1:aed=>(q1.2.map fun vm:Str=>(vm,q1.1))).length < 1000)
theorem Rm (vi:(List LS_)) {gq:Bx} (lN:Lp gq (vi.map (eT eS))):RP uc [some gq] (fun r=>Out.rt ((mE eI) r)) (eY vi) (some (qJ vi)):=R.tp (jA (fun r=>r) (Ys (afU (aaS (gR 0 (eT eS) vi lN rfl)) _ (fun _=>rfl) (fun q1:aed=>(afV (ahJ (aq 1 (zE (eT eS)) q1.2 rfl)) _ (fun _=>rfl) (fun vm:Str=>(Tq (aq 2 (zE eS) vm rfl) (aq 0 (zE eI) q1.1 rfl))))))) (fun _=>rfl) fun _=>rfl)
theorem Gx:∀ v bs,(aL (eT eS) aN) v bs->bs.length=1/\(hold (some (qJ v.1))->g8 (bs.map lend)=some ((mE eI) (eY v.1))):=by
 rintro⟨vi,_⟩ _ ⟨gq,_,rfl,lN,rfl⟩
 exact⟨rfl,fun h=>dG (g:=uc) (n:=1) (bs:=[lend gq]) (Rm vi (sS lN)) h⟩
def bC (vi:(List LS_)) (vk:(List aV)):(List aV):=(let vl:=(eY vi);((vk.filter fun vn:aV=>(decide ((look vl vn.2.1)=(look vl vn.2.2.1)))).map fun vn:aV=>vn))
def nP (vi:(List LS_)) (vk:(List aV)):Prop:=((qJ vi)/\(let vl:=(eY vi);(vk.length<=100000/\(∀ vn∈vk,(has vl vn.2.1=true/\has vl vn.2.2.1=true)))))
theorem Bd (vi:(List LS_)) {gq:Bx} (lN:Lp gq (vi.map (eT eS))) (vk:(List aV)):RP jV [some gq,some ((zE (eT bI)) vk),none] (fun r=>Out.rt ((oE bI) r)) (bC vi vk) (some (nP vi vk)):=R.tp (bK 2 (x_call Gx (tX (gR 0 (eT eS) vi lN rfl) cI)) (fun _=>rfl) fun vl=>(jA (fun r=>r) (Dh (K1 (aq 1 (zE (eT bI)) vk rfl)) _ (fun _=>rfl) (fun vn:aV=>(fJ (x_eq (by decide) (rM (aq 0 (nE eI) vl rfl) (Bw (aq 1 (zE bI) vn rfl) (fun q=>q.2.1) eS 1 fun _=>rfl)) (rM (aq 0 (nE eI) vl rfl) (Bw (aq 1 (zE bI) vn rfl) (fun q=>q.2.2.1) eS 2 fun _=>rfl))))) (fun vn:aV=>(aq 1 (zE bI) vn rfl))) (fun _=>rfl) fun _=>rfl))
theorem Bf:∀ v bs,(aL (eT eS) (aZ (eT bI) aN)) v bs->bs.length=2/\(hold (some (nP v.1 v.2.1))->dw (bs.map lend)=some ((oE bI) (bC v.1 v.2.1))):=by
 rintro⟨vi,vk,_⟩ _ ⟨gq,_,rfl,lN,⟨_,rfl,rfl⟩⟩
 exact⟨rfl,fun h=>dG (g:=jV) (n:=3) (bs:=[lend gq,.z ((eT bI) vk)]) (Bd vi (sS lN) vk) h⟩
def gn (vi:(List LS_)) (vo:(List jo)):(List jo):=(let vl:=(eY vi);((vo.filter fun vp:jo=>(decide ((look vl vp.1)=(look vl vp.2.1)))).map fun vp:jo=>vp))
def rQ (vi:(List LS_)) (vo:(List jo)):Prop:=((qJ vi)/\(let vl:=(eY vi);(vo.length<=100000/\(∀ vp∈vo,(has vl vp.1=true/\has vl vp.2.1=true)))))
theorem Ii (vi:(List LS_)) {gq:Bx} (lN:Lp gq (vi.map (eT eS))) (vo:(List jo)):RP nU [some gq,some ((zE (eT mC)) vo),none] (fun r=>Out.rt ((oE mC) r)) (gn vi vo) (some (rQ vi vo)):=R.tp (bK 2 (x_call Gx (tX (gR 0 (eT eS) vi lN rfl) cI)) (fun _=>rfl) fun vl=>(jA (fun r=>r) (Dh (K1 (aq 1 (zE (eT mC)) vo rfl)) _ (fun _=>rfl) (fun vp:jo=>(fJ (x_eq (by decide) (rM (aq 0 (nE eI) vl rfl) (Bw (aq 1 (zE mC) vp rfl) (fun q=>q.1) eS 0 fun _=>rfl)) (rM (aq 0 (nE eI) vl rfl) (Bw (aq 1 (zE mC) vp rfl) (fun q=>q.2.1) eS 1 fun _=>rfl))))) (fun vp:jo=>(aq 1 (zE mC) vp rfl))) (fun _=>rfl) fun _=>rfl))
theorem Ij:∀ v bs,(aL (eT eS) (aZ (eT mC) aN)) v bs->bs.length=2/\(hold (some (rQ v.1 v.2.1))->fW (bs.map lend)=some ((oE mC) (gn v.1 v.2.1))):=by
 rintro⟨vi,vo,_⟩ _ ⟨gq,_,rfl,lN,⟨_,rfl,rfl⟩⟩
 exact⟨rfl,fun h=>dG (g:=nU) (n:=3) (bs:=[lend gq,.z ((eT mC) vo)]) (Ii vi (sS lN) vo) h⟩
def cQ (vq:LS_):(List (Str×Str)):=(mkD (vq.map fun vm:Str=>(vm,vm)))
def pR (vq:LS_):Prop:=(vq.length < 1000/\vq.length<=100000)
theorem Ls (vq:LS_):RP pJ [some ((zE (eT eS)) vq)] (fun r=>Out.rt ((mE eS) r)) (cQ vq) (some (pR vq)):=R.tp (jA (fun r=>r) (aaN (K1 (aq 0 (zE (eT eS)) vq rfl)) (pI (K1 (aq 0 (zE (eT eS)) vq rfl)) _ (fun _=>rfl) (fun vm:Str=>(Tq (aq 0 (zE eS) vm rfl) (aq 0 (zE eS) vm rfl))) fun _=>rfl)) (fun _=>rfl) fun _=>rfl)
theorem Lw:∀ v bs,(aZ (eT eS) aN) v bs->bs.length=1/\(hold (some (pR v.1))->ig (bs.map lend)=some ((mE eS) (cQ v.1))):=by
 rintro⟨vq,_⟩ _ ⟨_,rfl,rfl⟩
 exact⟨rfl,fun h=>dG (g:=pJ) (n:=1) (bs:=[.z ((eT eS) vq)]) (Ls vq) h⟩
def cU (vs:Str) (vt:Str) (vu:Str) (vr:(List (Str×Str))) (vm:Str):(List (Str×Str)):=(let vr:(List (Str×Str)):=(if ((decide ((look vr vm)=vs))||(decide ((look vr vm)=vt)))=true then (let vr:=put vr vm vu;vr) else vr);vr)
def pq (vs:Str) (vt:Str) (vu:Str) (vr:(List (Str×Str))) (vm:Str):Prop:=((has vr vm=true/\((decide ((look vr vm)=vs))=false->has vr vm=true))/\(((decide ((look vr vm)=vs))||(decide ((look vr vm)=vt)))=true->vr.length < 1000))
theorem Cp {a_:Addr} (vs:Str) (vt:Str) (vu:Str) (vr:(List (Str×Str))) (vm:Str):RP uK [some ((mW (some a_) eS) vr),some ((zE eS) vs),some ((zE eS) vt),some ((zE eS) vu),some ((zE eS) vm)] (fun s=>Out.nx ((fun vr:(List (Str×Str))=>[some ((mW (some a_) eS) vr),some ((zE eS) vs),some ((zE eS) vt),some ((zE eS) vu),none]) s)) (cU vs vt vu vr vm) (some (pq vs vt vu vr vm)):=R.tp (cg (Fw (fun vr:(List (Str×Str))=>[some ((mW (some a_) eS) vr),some ((zE eS) vs),some ((zE eS) vt),some ((zE eS) vu),some ((zE eS) vm)]) (XQ (fJ (x_eq (by decide) (rM (aq 0 (nE eS) vr rfl) (aq 4 (zE eS) vm rfl)) (aq 1 (zE eS) vs rfl))) (fJ (x_eq (by decide) (rM (aq 0 (nE eS) vr rfl) (aq 4 (zE eS) vm rfl)) (aq 2 (zE eS) vt rfl)))) (cg (aaM (some a_) 0 vr rfl (aq 3 (zE eS) vu rfl) (aq 4 (zE eS) vm rfl) fun vr=>(dM (bR vr rfl)))) (dM (bR vr rfl)) fun vr=>(dM (bR vr rfl))))
def pU (vr:(List (Str×Str))) (vs:Str) (vt:Str):(List (Str×Str)):=(let vu:=(if XH vt vs=true then vt else vs);(let vr:(List (Str×Str)):=((vr.map (·.1)).foldl (fun (vr:(List (Str×Str))) (vm:Str)=>(cU vs vt vu vr vm)) vr);vr))
def pW (vr:(List (Str×Str))) (vs:Str) (vt:Str):Prop:=(let vu:=(if XH vt vs=true then vt else vs);qu (fun (vr:(List (Str×Str))) (vm:Str)=>(cU vs vt vu vr vm)) (fun (vr:(List (Str×Str))) (vm:Str)=>some (pq vs vt vu vr vm)) (vr.map (·.1)) vr)
def ur {a_:Addr} (vr:(List (Str×Str))) (vs:Str) (vt:Str):R pK [some ((mW (some a_) eS) vr),some ((zE eS) vs),some ((zE eS) vt),none,none] (fun m'=>Out.nx [some ((mW (some a_) eS) m'),some ((zE eS) vs),some ((zE eS) vt),none,none]):=(cg (bK 3 (ad1 (aq 1 (zE eS) vs rfl) (aq 2 (zE eS) vt rfl)) (fun _=>rfl) fun vu=>(cg (Fy (fun vr:(List (Str×Str))=>[some ((mW (some a_) eS) vr),some ((zE eS) vs),some ((zE eS) vt),some ((zE eS) vu),none]) vr rfl (aaL (aaO (aq 0 (nE eS) vr rfl))) _ (fun _ _=>rfl) (fun (vr:(List (Str×Str))) (vm:Str)=>(Cp vs vt vu vr vm).r) fun vr=>(dM (bR vr rfl))))))
theorem Ik {a_:Addr} (vr:(List (Str×Str))) (vs:Str) (vt:Str):(ur (a_:=a_) vr vs vt).v=pU vr vs vt:=by kernel_rfl
theorem Il {a_:Addr} (vr:(List (Str×Str))) (vs:Str) (vt:Str):(ur (a_:=a_) vr vs vt).D=some (pW vr vs vt):=by kernel_rfl
theorem Lx:∀ (vr:(List (Str×Str))) v bs,(aZ eS (aZ eS aN)) v bs->bs.length=2/\bs.all isZ=true/\(hold (some (pW vr v.1 v.2.1))->∀ a,iu a (vr.map fun q=>(kS q.1,eS q.2)) bs=some ((pU vr v.1 v.2.1).map fun q=>(kS q.1,eS q.2))):=by
 rintro vr ⟨vs,vt,_⟩ _ ⟨_,rfl,⟨_,rfl,rfl⟩⟩
 exact⟨rfl,rfl,fun h a=>(aaP (g:=pK) (n:=5) (bs:=[.z (eS vs),.z (eS vt)]) (ur (a_:=a) vr vs vt) ((congrArg hold (Il (a_:=a) vr vs vt)).mpr h) (fun _=>rfl)).trans (congrArg (fun r:(List (Str×Str))=>some (r.map fun q=>(kS q.1,eS q.2))) (Ik (a_:=a) vr vs vt))⟩
def d9  (vr:(List (Str×Str))) (q1:aV):(List (Str×Str)):=(let vr:=(pU vr (look vr q1.2.1) (look vr q1.2.2.1));vr)
def nZ  (vr:(List (Str×Str))) (q1:aV):Prop:=((has vr q1.2.1=true/\has vr q1.2.2.1=true)/\(pW vr (look vr q1.2.1) (look vr q1.2.2.1)))
theorem Im (vq:LS_) (vk:(List aV)) {b_1:Bx} (h_1:Lp b_1 (vk.map bI)) (vr:(List (Str×Str))) (q1:aV):RP wY [some ((zE (eT eS)) vq),some b_1,some ((mE eS) vr),some ((zE eI) q1.1),some ((zE eS) q1.2.1),some ((zE eS) q1.2.2.1),some ((zE eI) q1.2.2.2)] (fun s=>Out.nx ((fun vr:(List (Str×Str))=>[some ((zE (eT eS)) vq),some b_1,some ((mE eS) vr),none,none,none,none]) s)) (d9  vr q1) (some (nZ  vr q1)):=R.tp (cg (ad2 none 2 vr rfl Lx (gC (rM (aq 2 (nE eS) vr rfl) (aq 4 (zE eS) q1.2.1 rfl)) (gC (rM (aq 2 (nE eS) vr rfl) (aq 5 (zE eS) q1.2.2.1 rfl)) cI)) fun vr=>(dM (bR vr rfl))))
def qK (vq:LS_) (vk:(List aV)):(List (Str×Str)):=(let vr:=(cQ vq);(let vr:(List (Str×Str)):=(vk.foldl (fun (vr:(List (Str×Str))) (q1:aV)=>(d9  vr q1)) vr);vr))
def uw (vq:LS_) (vk:(List aV)):Prop:=((pR vq)/\(let vr:=(cQ vq);qu (fun (vr:(List (Str×Str))) (q1:aV)=>(d9  vr q1)) (fun (vr:(List (Str×Str))) (q1:aV)=>some (nZ  vr q1)) vk vr))
theorem Rn (vq:LS_) (vk:(List aV)) {b_1:Bx} (h_1:Lp b_1 (vk.map bI)):RP ud [some ((zE (eT eS)) vq),some b_1,none,none,none,none,none] (fun r=>Out.rt ((mE eS) r)) (qK vq vk) (some (uw vq vk)):=R.tp (bK 2 (x_call Lw (gC (aq 0 (zE (eT eS)) vq rfl) cI)) (fun _=>rfl) fun vr=>(Q7 1 vk (Q6 h_1 rfl) (fun vr:(List (Str×Str))=>[some ((zE (eT eS)) vq),some b_1,some ((mE eS) vr),none,none,none,none]) vr rfl _ (fun _ _=>rfl) (fun (vr:(List (Str×Str))) (q1:aV)=>(Im vq vk h_1 vr q1).r) fun vr=>(Q5 2 (fun r=>r) vr rfl (fun _=>rfl) fun _=>rfl)))
theorem Ro:∀ v bs,(aZ (eT eS) (aL bI aN)) v bs->bs.length=2/\(hold (some (uw v.1 v.2.1))->lG (bs.map lend)=some ((mE eS) (qK v.1 v.2.1))):=by
 rintro⟨vq,vk,_⟩ _ ⟨_,rfl,⟨b_1,_,rfl,h_1,rfl⟩⟩
 exact⟨rfl,fun h=>dG (g:=ud) (n:=7) (bs:=[.z ((eT eS) vq),lend b_1]) (Rn vq vk (sS h_1)) h⟩
def bN (vr:(List (Str×Str))) (vu:Str):LS_:=(((vr.map (·.1)).filter fun vm:Str=>(decide ((look vr vm)=vu))).map fun vm:Str=>vm)
def rR (vr:(List (Str×Str))) (vu:Str):Prop:=((vr.map (·.1)).length<=100000/\(∀ vm∈(vr.map (·.1)),has vr vm=true))
theorem Io (vr:(List (Str×Str))) (vu:Str):RP nW [some ((nE eS) vr),some ((zE eS) vu)] (fun r=>Out.rt ((zE (eT eS)) r)) (bN vr vu) (some (rR vr vu)):=R.tp (jA (fun r=>r) (qY (ju (Dh (afR (aq 0 (nE eS) vr rfl)) _ (fun _=>rfl) (fun vm:Str=>(fJ (x_eq (by decide) (rM (aq 1 (nE eS) vr rfl) (aq 2 (zE eS) vm rfl)) (aq 0 (zE eS) vu rfl)))) (fun vm:Str=>(aq 2 (zE eS) vm rfl))))) (fun _=>rfl) fun _=>rfl)
theorem Ip:∀ v bs,(aM eS (aZ eS aN)) v bs->bs.length=2/\(hold (some (rR v.1 v.2.1))->fX (bs.map lend)=some ((zE (eT eS)) (bN v.1 v.2.1))):=by
 rintro⟨vr,vu,_⟩ _ ⟨_,_,rfl,(rfl|rfl),⟨_,rfl,rfl⟩⟩
 all_goals exact⟨rfl,fun h=>dG (g:=nW) (n:=2) (bs:=[nE eS vr,.z (eS vu)]) (Io vr vu) h⟩
def dY (vr:(List (Str×Str))):(List LS_):=(((vr.map (·.1)).filter fun vm:Str=>(decide ((look vr vm)=vm))).map fun vm:Str=>(bN vr vm))
def pX (vr:(List (Str×Str))):Prop:=((vr.map (·.1)).length<=100000/\(∀ vm∈(vr.map (·.1)),(has vr vm=true/\((decide ((look vr vm)=vm))=true->(rR vr vm)))))
theorem Ly (vr:(List (Str×Str))):RP pN [some ((nE eS) vr)] (fun r=>Out.rt ((oE (eT eS)) r)) (dY vr) (some (pX vr)):=R.tp (jA (fun r=>r) (Dh (afR (aq 0 (nE eS) vr rfl)) _ (fun _=>rfl) (fun vm:Str=>(fJ (x_eq (by decide) (rM (aq 0 (nE eS) vr rfl) (aq 1 (zE eS) vm rfl)) (aq 1 (zE eS) vm rfl)))) (fun vm:Str=>(vJ (x_call Ip (ahL (aq 0 (nE eS) vr rfl) (gC (aq 1 (zE eS) vm rfl) cI)))))) (fun _=>rfl) fun _=>rfl)
theorem Lz:∀ v bs,(aM eS aN) v bs->bs.length=1/\(hold (some (pX v.1))->iw (bs.map lend)=some ((oE (eT eS)) (dY v.1))):=by
 rintro⟨vr,_⟩ _ ⟨_,_,rfl,(rfl|rfl),rfl⟩
 all_goals exact⟨rfl,fun h=>dG (g:=pN) (n:=1) (bs:=[nE eS vr]) (Ly vr) h⟩
def nQ (vq:LS_) (vk:(List aV)):(List LS_):=(dY (qK vq vk))
def ux (vq:LS_) (vk:(List aV)):Prop:=((uw vq vk)/\(pX (qK vq vk)))
theorem Rp (vq:LS_) (vk:(List aV)) {b_1:Bx} (h_1:Lp b_1 (vk.map bI)):RP uf [some ((zE (eT eS)) vq),some b_1] (fun r=>Out.rt ((oE (eT eS)) r)) (nQ vq vk) (some (ux vq vk)):=R.tp (jA (fun r=>r) (x_call Lz (afQ (x_call Ro (gC (aq 0 (zE (eT eS)) vq rfl) (tX (gR 1 bI vk h_1 rfl) cI))) cI)) (fun _=>rfl) fun _=>rfl)
theorem Rq:∀ v bs,(aZ (eT eS) (aL bI aN)) v bs->bs.length=2/\(hold (some (ux v.1 v.2.1))->lH (bs.map lend)=some ((oE (eT eS)) (nQ v.1 v.2.1))):=by
 rintro⟨vq,vk,_⟩ _ ⟨_,rfl,⟨b_1,_,rfl,h_1,rfl⟩⟩
 exact⟨rfl,fun h=>dG (g:=uf) (n:=2) (bs:=[.z ((eT eS) vq),lend b_1]) (Rp vq vk (sS h_1)) h⟩
def j6 (vh:jO) (vi:(List LS_)):Bool:=(let q1:=vh;(let vj:=(bC vi q1.2.1);((gn vi q1.2.2).isEmpty&&(decide ((nQ q1.1 vj)=(fV vi))))))
def sU (vh:jO) (vi:(List LS_)):Prop:=(let q1:=vh;((nP vi q1.2.1)/\(let vj:=(bC vi q1.2.1);((rQ vi q1.2.2)/\((gn vi q1.2.2).isEmpty=true->((ux q1.1 vj)/\(vi.length < 64/\∀ x∈vi,x.isEmpty=false)))))))
theorem Vl (vh:jO) (vi:(List LS_)) {b_1:Bx} (h_1:Lp b_1 (vi.map (eT eS))):RP wJ [some ((zE gO) vh),some b_1,none,none,none,none] (fun r=>Out.rt ((zE eB) r)) (j6 vh vi) (some (sU vh vi)):=R.tp (afP (aq 0 (zE gO) vh rfl) _ (fun _=>rfl) fun q1=>(bK 5 (x_call Bf (tX (gR 1 (eT eS) vi h_1 rfl) (gC (aq 3 (zE (eT bI)) q1.2.1 rfl) cI))) (fun _=>rfl) fun vj=>(jA (fun r=>r) (afM (aea (ju (x_call Ij (tX (gR 1 (eT eS) vi h_1 rfl) (gC (aq 4 (zE (eT mC)) q1.2.2 rfl) cI))))) (afL (by decide) (ju (x_call Rq (gC (aq 2 (zE (eT eS)) q1.1 rfl) (tX (jz (aq 5 (lE bI) vj rfl)) cI)))) (ju (Dk (gR 1 (eT eS) vi h_1 rfl))))) (fun _=>rfl) fun _=>rfl)))
theorem JR:∀ v bs,(aZ gO (aL (eT eS) aN)) v bs->bs.length=2/\(hold (some (sU v.1 v.2.1))->jW (bs.map lend)=some ((zE eB) (j6 v.1 v.2.1))):=by
 rintro⟨vh,vi,_⟩ _ ⟨_,rfl,⟨b_1,_,rfl,h_1,rfl⟩⟩
 exact⟨rfl,fun h=>dG (g:=wJ) (n:=6) (bs:=[.z (gO vh),lend b_1]) (Vl vh vi (sS h_1)) h⟩
def dZ (v9:LS_) (va:(List jo)):(List jo):=((va.filter fun vw:jo=>((decide (vw.1∈v9))&&(decide (vw.2.1∈v9)))).map fun vw:jo=>vw)
def uz (v9:LS_) (va:(List jo)):Prop:=va.length<=100000
theorem LC (v9:LS_) (va:(List jo)):RP jX [some ((zE (eT eS)) v9),some ((zE (eT mC)) va)] (fun r=>Out.rt ((oE mC) r)) (dZ v9 va) (some (uz v9 va)):=R.tp (jA (fun r=>r) (oF (K1 (aq 1 (zE (eT mC)) va rfl)) _ (fun _=>rfl) (fun vw:jo=>(abJ (fJ (Tg (KY (aq 1 (zE mC) vw rfl) (fun q=>q.1) eS 3 fun _=>rfl) (aq 0 (zE (eT eS)) v9 rfl))) (fJ (Tg (KY (aq 1 (zE mC) vw rfl) (fun q=>q.2.1) eS 2 fun _=>rfl) (aq 0 (zE (eT eS)) v9 rfl))))) (fun vw:jo=>(aq 1 (zE mC) vw rfl)) (fun _=>rfl) fun _=>rfl) (fun _=>rfl) fun _=>rfl)
theorem LK:∀ v bs,(aZ (eT eS) (aZ (eT mC) aN)) v bs->bs.length=2/\(hold (some (uz v.1 v.2.1))->dX (bs.map lend)=some ((oE mC) (dZ v.1 v.2.1))):=by
 rintro⟨v9,va,_⟩ _ ⟨_,rfl,⟨_,rfl,rfl⟩⟩
 exact⟨rfl,fun h=>dG (g:=jX) (n:=2) (bs:=[.z ((eT eS) v9),.z ((eT mC) va)]) (LC v9 va) h⟩
def bA (v9:LS_) (va:(List aV)):(List aV):=((va.filter fun vw:aV=>((decide (vw.2.1∈v9))&&(decide (vw.2.2.1∈v9)))).map fun vw:aV=>vw)
def qL (v9:LS_) (va:(List aV)):Prop:=va.length<=100000
theorem Gy (v9:LS_) (va:(List aV)):RP jX [some ((zE (eT eS)) v9),some ((zE (eT bI)) va)] (fun r=>Out.rt ((oE bI) r)) (bA v9 va) (some (qL v9 va)):=R.tp (jA (fun r=>r) (oF (K1 (aq 1 (zE (eT bI)) va rfl)) _ (fun _=>rfl) (fun vw:aV=>(abJ (fJ (Tg (KY (aq 1 (zE bI) vw rfl) (fun q=>q.2.1) eS 3 fun _=>rfl) (aq 0 (zE (eT eS)) v9 rfl))) (fJ (Tg (KY (aq 1 (zE bI) vw rfl) (fun q=>q.2.2.1) eS 2 fun _=>rfl) (aq 0 (zE (eT eS)) v9 rfl))))) (fun vw:aV=>(aq 1 (zE bI) vw rfl)) (fun _=>rfl) fun _=>rfl) (fun _=>rfl) fun _=>rfl)
theorem Gz:∀ v bs,(aZ (eT eS) (aZ (eT bI) aN)) v bs->bs.length=2/\(hold (some (qL v.1 v.2.1))->dX (bs.map lend)=some ((oE bI) (bA v.1 v.2.1))):=by
 rintro⟨v9,va,_⟩ _ ⟨_,rfl,⟨_,rfl,rfl⟩⟩
 exact⟨rfl,fun h=>dG (g:=jX) (n:=2) (bs:=[.z ((eT eS) v9),.z ((eT bI) va)]) (Gy v9 va) h⟩
def cR  (v6:(List LS_)) (q1:aV):(List LS_):=(let vy:=(at' ((v6.filter fun vv:LS_=>(decide (q1.2.1∈vv))).map fun vv:LS_=>vv) (0:Int));(let vz:=(at' ((v6.filter fun vv:LS_=>(decide (q1.2.2.1∈vv))).map fun vv:LS_=>vv) (0:Int));(let v6:(List LS_):=(if (!decide (vy=vz))=true then (let v6:=(((v6.filter fun vv:LS_=>(!FJ vv [vy,vz])).map fun vv:LS_=>vv)++[(fB (vy++vz))]);v6) else v6);v6)))
def jK  (v6:(List LS_)) (q1:aV):Prop:=((v6.length<=100000/\In ((v6.filter fun vv:LS_=>(decide (q1.2.1∈vv))).map fun vv:LS_=>vv).length (0:Int))/\(let vy:=(at' ((v6.filter fun vv:LS_=>(decide (q1.2.1∈vv))).map fun vv:LS_=>vv) (0:Int));((v6.length<=100000/\In ((v6.filter fun vv:LS_=>(decide (q1.2.2.1∈vv))).map fun vv:LS_=>vv).length (0:Int))/\(let vz:=(at' ((v6.filter fun vv:LS_=>(decide (q1.2.2.1∈vv))).map fun vv:LS_=>vv) (0:Int));((!decide (vy=vz))=true->((v6.length<=100000/\(NZ (vy.length+vz.length)/\(vy++vz).length < 64))/\NZ (((v6.filter fun vv:LS_=>(!FJ vv [vy,vz])).map fun vv:LS_=>vv).length+[(fB (vy++vz))].length)))))))
theorem GC (v9:LS_) (vx:(List aV)) {b_1:Bx} (h_1:Lp b_1 (vx.map bI)) (v6:(List LS_)) (q1:aV):RP qz [some ((zE (eT eS)) v9),some b_1,some ((oE (eL eS)) v6),some ((zE eI) q1.1),some ((zE eS) q1.2.1),some ((zE eS) q1.2.2.1),some ((zE eI) q1.2.2.2),none,none] (fun s=>Out.nx ((fun v6:(List LS_)=>[some ((zE (eT eS)) v9),some b_1,some ((oE (eL eS)) v6),none,none,none,none,none,none]) s)) (cR  v6 q1) (some (jK  v6 q1)):=R.tp (cg (bK 7 (jN (ju (oF (Hx (jz (aq 2 (lE (eL eS)) v6 rfl))) _ (fun _=>rfl) (fun vv:LS_=>(fJ (aaK (aq 0 (zE eS) q1.2.1 rfl) (qt (aq 1 (zE (eL eS)) vv rfl))))) (fun vv:LS_=>(aq 1 (zE (eL eS)) vv rfl)) (fun _=>rfl) fun _=>rfl)) (aP (.int 0) eI (0:Int) rfl)) (fun _=>rfl) fun vy=>(cg (bK 8 (jN (ju (oF (Hx (jz (aq 2 (lE (eL eS)) v6 rfl))) _ (fun _=>rfl) (fun vv:LS_=>(fJ (aaK (aq 0 (zE eS) q1.2.2.1 rfl) (qt (aq 1 (zE (eL eS)) vv rfl))))) (fun vv:LS_=>(aq 1 (zE (eL eS)) vv rfl)) (fun _=>rfl) fun _=>rfl)) (aP (.int 0) eI (0:Int) rfl)) (fun _=>rfl) fun vz=>(cg (Fw (fun v6:(List LS_)=>[some ((zE (eT eS)) v9),some b_1,some ((oE (eL eS)) v6),some ((zE eI) q1.1),some ((zE eS) q1.2.1),some ((zE eS) q1.2.2.1),some ((zE eI) q1.2.2.2),some ((zE (eL eS)) vy),some ((zE (eL eS)) vz)]) (fJ (XM (by decide) (qt (aq 7 (zE (eL eS)) vy rfl)) (qt (aq 8 (zE (eL eS)) vz rfl)))) (cg (bK 2 (Am (ju (oF (Hx (jz (aq 2 (lE (eL eS)) v6 rfl))) _ (fun _=>rfl) (fun vv:LS_=>(fJ (Yj (by decide) (aq 2 (zE (eL eS)) vv rfl) (ju (jr (aW (aq 0 (zE (eL eS)) vy rfl) (aW (aq 1 (zE (eL eS)) vz rfl) (cM (eL eS)))) (zw rfl)))))) (fun vv:LS_=>(aq 2 (zE (eL eS)) vv rfl)) (fun _=>rfl) fun _=>rfl)) (ju (jr (aW (yc (Dg (ju (Am (qt (aq 7 (zE (eL eS)) vy rfl)) (qt (aq 8 (zE (eL eS)) vz rfl)))))) (cM (eL eS))) (zw rfl)))) (fun _=>rfl) fun v6=>(dM (bR v6 rfl)))) (dM (bR v6 rfl)) fun v6=>(dM (bR v6 rfl))))))))
def gY (v9:LS_) (vx:(List aV)):(List LS_):=(let v6:=(v9.map fun vf:Str=>[vf]);(let v6:(List LS_):=(vx.foldl (fun (v6:(List LS_)) (q1:aV)=>(cR  v6 q1)) v6);(fV (v6.map fun vv:LS_=>vv))))
def oK (v9:LS_) (vx:(List aV)):Prop:=(v9.length<=100000/\(let v6:=(v9.map fun vf:Str=>[vf]);(qu (fun (v6:(List LS_)) (q1:aV)=>(cR  v6 q1)) (fun (v6:(List LS_)) (q1:aV)=>some (jK  v6 q1)) vx v6/\(let v6:(List LS_):=(vx.foldl (fun (v6:(List LS_)) (q1:aV)=>(cR  v6 q1)) v6);(v6.length<=100000/\((v6.map fun vv:LS_=>vv).length < 64/\∀ x∈(v6.map fun vv:LS_=>vv),x.isEmpty=false))))))
theorem OJ (v9:LS_) (vx:(List aV)) {b_1:Bx} (h_1:Lp b_1 (vx.map bI)):RP lV [some ((zE (eT eS)) v9),some b_1,none,none,none,none,none,none,none] (fun r=>Out.rt ((oE (eT eS)) r)) (gY v9 vx) (some (oK v9 vx)):=R.tp (bK 2 (pI (K1 (aq 0 (zE (eT eS)) v9 rfl)) _ (fun _=>rfl) (fun vf:Str=>(yc (jr (aW (aq 0 (zE eS) vf rfl) (cM eS)) (zw rfl)))) fun _=>rfl) (fun _=>rfl) fun v6=>(Q7 1 vx (Q6 h_1 rfl) (fun v6:(List LS_)=>[some ((zE (eT eS)) v9),some b_1,some ((oE (eL eS)) v6),none,none,none,none,none,none]) v6 rfl _ (fun _ _=>rfl) (fun (v6:(List LS_)) (q1:aV)=>(GC v9 vx h_1 v6 q1).r) fun v6=>(jA (fun r=>r) (Dk (ju (pI (Hx (jz (aq 2 (lE (eL eS)) v6 rfl))) _ (fun _=>rfl) (fun vv:LS_=>(qY (qt (aq 0 (zE (eL eS)) vv rfl)))) fun _=>rfl))) (fun _=>rfl) fun _=>rfl)))
theorem O1:∀ v bs,(aZ (eT eS) (aL bI aN)) v bs->bs.length=2/\(hold (some (oK v.1 v.2.1))->dI (bs.map lend)=some ((oE (eT eS)) (gY v.1 v.2.1))):=by
 rintro⟨v9,vx,_⟩ _ ⟨_,rfl,⟨b_1,_,rfl,h_1,rfl⟩⟩
 exact⟨rfl,fun h=>dG (g:=lV) (n:=9) (bs:=[.z ((eT eS) v9),lend b_1]) (OJ v9 vx (sS h_1)) h⟩
def eE (vc:jO) (s1:Unit) (vv:LS_):wV (Unit) Bool:=(if ((!decide ((dZ vv vc.2.2)=([]:List jo)))||(!decide (((gY vv (bA vv vc.2.1)).length:Int)=(1:Int))))=true then (wV.rt false) else (wV.nx ()))
def xJ (vc:jO) (s1:Unit) (vv:LS_):Prop:=((uz vv vc.2.2)/\((!decide ((dZ vv vc.2.2)=([]:List jo)))=false->((qL vv vc.2.1)/\(oK vv (bA vv vc.2.1)))))
theorem Ir (vc:jO) (vg:(List LS_)) {b_1:Bx} (h_1:Lp b_1 (vg.map (eT eS))) (s1:Unit) (vv:LS_):RP wZ [some ((zE gO) vc),some b_1,some ((zE (eT eS)) vv)] (cC (fun s1:Unit=>[some ((zE gO) vc),some b_1,none]) (zE eB)) (eE vc s1 vv) (some (xJ vc s1 vv)):=R.tp (cg (Oa (XQ (fJ (XM (by decide) (ju (x_call LK (gC (aq 2 (zE (eT eS)) vv rfl) (gC (Bw (aq 0 (zE gO) vc rfl) (fun q=>q.2.2) (eT mC) 2 fun _=>rfl) cI)))) (ju (jr (cM mC) (zw rfl))))) (fJ (XJ (by decide) (x_len (ju (x_call O1 (gC (aq 2 (zE (eT eS)) vv rfl) (tX (qt (yc (x_call Gz (gC (aq 2 (zE (eT eS)) vv rfl) (gC (Bw (aq 0 (zE gO) vc rfl) (fun q=>q.2.1) (eT bI) 1 fun _=>rfl) cI))))) cI))))) (aP (.int 1) eI (1:Int) rfl)))) (cg (jA .rt (aP (.bl false) eB false rfl) (fun _=>rfl) fun _=>rfl)) (dM (dM (bR (.nx ()) rfl)))))
def lO (vc:jO) (vg:(List LS_)):Bool:=(behind (qw (fun (s1:Unit) (vv:LS_)=>((eE vc s1 vv):wV (Unit) Bool)) vg ()) (fun r=>r) fun s1:Unit=>true)
def qM (vc:jO) (vg:(List LS_)):Prop:=(wW (fun (s1:Unit) (vv:LS_)=>((eE vc s1 vv):wV (Unit) Bool)) (fun (s1:Unit) (vv:LS_)=>some (xJ vc s1 vv)) vg ()/\(wH (qw (fun (s1:Unit) (vv:LS_)=>((eE vc s1 vv):wV (Unit) Bool)) vg ()) fun s1:Unit=>True))
theorem Rr (vc:jO) (vg:(List LS_)) {b_1:Bx} (h_1:Lp b_1 (vg.map (eT eS))):RP ug [some ((zE gO) vc),some b_1,none] (fun r=>Out.rt ((zE eB) r)) (lO vc vg) (some (qM vc vg)):=R.tp (Tn 1 vg (Q6 h_1 rfl) (fun s1:Unit=>[some ((zE gO) vc),some b_1,none]) () rfl _ (fun _ _=>rfl) (fun (s1:Unit) (vv:LS_)=>((Ir vc vg h_1 s1 vv).r:R _ _ (cC (fun s1:Unit=>[some ((zE gO) vc),some b_1,none]) (zE eB)))) (fun r=>r) (fun _=>rfl) fun s1=>(jA (fun r=>r) (aP (.bl true) eB true rfl) (fun _=>rfl) fun _=>rfl))
theorem GD:∀ v bs,(aZ gO (aL (eT eS) aN)) v bs->bs.length=2/\(hold (some (qM v.1 v.2.1))->iy (bs.map lend)=some ((zE eB) (lO v.1 v.2.1))):=by
 rintro⟨vc,vg,_⟩ _ ⟨_,rfl,⟨b_1,_,rfl,h_1,rfl⟩⟩
 exact⟨rfl,fun h=>dG (g:=ug) (n:=3) (bs:=[.z (gO vc),lend b_1]) (Rr vc vg (sS h_1)) h⟩
def bx (v8:Int) (v9:Str) (va:(List aV)) (v2:Int):(List aV):=(let vb:=((1:Int)+(((v8 / (8:Int)) % (9:Int)) * v2));(let va:=(va++[(((0:Int) - vb),(ch v9 v2),(ch v9 (v2+(1:Int))),(0:Int)),(((0:Int) - vb),(ch v9 v2),(ch v9 (v2+(1:Int))),(2:Int))]);va))
def fL (v8:Int) (v9:Str) (va:(List aV)) (v2:Int):Prop:=(Mul ((v8 / (8:Int)) % (9:Int)) v2/\(let vb:=((1:Int)+(((v8 / (8:Int)) % (9:Int)) * v2));(((In v9.length v2/\In v9.length (v2+(1:Int)))/\(In v9.length v2/\In v9.length (v2+(1:Int))))/\NZ (va.length+[(((0:Int) - vb),(ch v9 v2),(ch v9 (v2+(1:Int))),(0:Int)),(((0:Int) - vb),(ch v9 v2),(ch v9 (v2+(1:Int))),(2:Int))].length))))
theorem vW (v8:Int) (v9:Str) (va:(List aV)) (v2:Int):RP oH [some ((zE eI) v8),some ((zE eS) v9),some ((oE bI) va),some ((zE eI) v2),none,none,none,none,none,none] (fun s=>Out.nx ((fun va:(List aV)=>[some ((zE eI) v8),some ((zE eS) v9),some ((oE bI) va),none,none,none,none,none,none,none]) s)) (bx v8 v9 va v2) (some (fL v8 v9 va v2)):=R.tp (cg (bK 4 (j8 (aP (.int 1) eI (1:Int) rfl) (XD (dU (Dd (aq 0 (zE eI) v8 rfl) 8 (by decide)) 9 (by decide)) (aq 3 (zE eI) v2 rfl))) (fun _=>rfl) fun vb=>(cg (bK 2 (Am (jz (aq 2 (lE bI) va rfl)) (ju (jr (aW (Fj (NQ (aP (.int 0) eI (0:Int) rfl) (aq 4 (zE eI) vb rfl)) (Fo (aq 1 (zE eS) v9 rfl) (aq 3 (zE eI) v2 rfl)) (Fo (aq 1 (zE eS) v9 rfl) (j8 (aq 3 (zE eI) v2 rfl) (aP (.int 1) eI (1:Int) rfl))) (aP (.int 0) eI (0:Int) rfl)) (aW (Fj (NQ (aP (.int 0) eI (0:Int) rfl) (aq 4 (zE eI) vb rfl)) (Fo (aq 1 (zE eS) v9 rfl) (aq 3 (zE eI) v2 rfl)) (Fo (aq 1 (zE eS) v9 rfl) (j8 (aq 3 (zE eI) v2 rfl) (aP (.int 1) eI (1:Int) rfl))) (aP (.int 2) eI (2:Int) rfl)) (cM bI))) (zw rfl)))) (fun _=>rfl) fun va=>(dM (bR va rfl))))))
def bV (vc:jO) (s2:Unit) (vg:(List LS_)):wV (Unit) Bool:=(let v6:=(j6 vc vg);(if ((!(is_bool (eB v6)))||(!decide (v6=(lO vc vg))))=true then (wV.rt false) else (wV.nx ())))
def fM (vc:jO) (s2:Unit) (vg:(List LS_)):Prop:=((sU vc vg)/\(let v6:=(j6 vc vg);((!(is_bool (eB v6)))=false->(qM vc vg))))
theorem vX (v8:Int) (v9:Str) (va:(List aV)) (vc:jO) (vd:Int) (ve:(List LS_)) (s2:Unit) (vg:(List LS_)):RP jB [some ((zE eI) v8),some ((zE eS) v9),some ((oE bI) va),none,none,some ((zE gO) vc),some ((zE eI) vd),some ((zE (eL (eT eS))) ve),some ((zE (eL (eT eS))) vg),none] (cC (fun s2:Unit=>[some ((zE eI) v8),some ((zE eS) v9),some ((oE bI) va),none,none,some ((zE gO) vc),some ((zE eI) vd),some ((zE (eL (eT eS))) ve),none,none]) (zE eB)) (bV vc s2 vg) (some (fM vc s2 vg)):=R.tp (cg (bK 9 (x_call JR (gC (aq 5 (zE gO) vc rfl) (tX (qt (yc (X6 (qt (aq 8 (zE (eL (eT eS))) vg rfl))))) cI))) (fun _=>rfl) fun v6=>(cg (Oa (XQ (XR (adJ (abL is_bool (aq 9 (zE eB) v6 rfl)))) (fJ (XJ (by decide) (aq 9 (zE eB) v6 rfl) (x_call GD (gC (aq 5 (zE gO) vc rfl) (tX (qt (aq 8 (zE (eL (eT eS))) vg rfl)) cI)))))) (cg (jA .rt (aP (.bl false) eB false rfl) (fun _=>rfl) fun _=>rfl)) (dM (dM (bR (.nx ()) rfl)))))))
def oM (v8:Int) (v9:Str) (va:(List aV)) (vc:jO) (vd:Int) (ve:(List LS_)):Bool:=(behind (qw (fun (s2:Unit) (vg:(List LS_))=>((bV vc s2 vg):wV (Unit) Bool)) [ve,[(chars v9)],((chars v9).map fun vf:Str=>[vf]),[(chars (Txt.slice v9 none (some (4:Int)))),[("e" : Str),("g" : Str)],[("f" : Str)],[("h" : Str),("i" : Str)]]] ()) (fun r=>r) fun s2:Unit=>true)
def oN (v8:Int) (v9:Str) (va:(List aV)) (vc:jO) (vd:Int) (ve:(List LS_)):Prop:=(((chars v9).length<=100000/\wW (fun (s2:Unit) (vg:(List LS_))=>((bV vc s2 vg):wV (Unit) Bool)) (fun (s2:Unit) (vg:(List LS_))=>some (fM vc s2 vg)) [ve,[(chars v9)],((chars v9).map fun vf:Str=>[vf]),[(chars (Txt.slice v9 none (some (4:Int)))),[("e" : Str),("g" : Str)],[("f" : Str)],[("h" : Str),("i" : Str)]]] ())/\(wH (qw (fun (s2:Unit) (vg:(List LS_))=>((bV vc s2 vg):wV (Unit) Bool)) [ve,[(chars v9)],((chars v9).map fun vf:Str=>[vf]),[(chars (Txt.slice v9 none (some (4:Int)))),[("e" : Str),("g" : Str)],[("f" : Str)],[("h" : Str),("i" : Str)]]] ()) fun s2:Unit=>True))
def oO:Ev->Option Out:=(fzG 7 (aF (qm (WK (bM jx (ao (gv 7) (ao (b1 uR (bM jx (ao (bM q8 (ao (gv 1) aD)) aD))) (ao (b1 uR (dW (DY (gv 1)) (kO 0) rJ (bM kh (ao (gv 0) aD)) [] 1)) (ao (b1 uR (bM jx (ao (bM q8 (ao (Mh (gv 1) m7 (mX (cB (.int 4)))) aD)) (ao (bM kh (ao (cB (.str "e")) (ao (cB (.str "g")) aD))) (ao (bM kh (ao (cB (.str "f")) aD)) (ao (bM kh (ao (cB (.str "h")) (ao (cB (.str "i")) aD))) aD)))))) aD)))))) (kO 8) jB) (aF (ni (cB (.bl true))) mz)))
theorem vY (v8:Int) (v9:Str) (va:(List aV)) (vc:jO) (vd:Int) (ve:(List LS_)):RP oO [some ((zE eI) v8),some ((zE eS) v9),some ((oE bI) va),none,none,some ((zE gO) vc),some ((zE eI) vd),some ((oE (eT eS)) ve),none,none] (fun r=>Out.rt ((zE eB) r)) (oM v8 v9 va vc vd ve) (some (oN v8 v9 va vc vd ve)):=R.tp (ahM 7 [some ((zE eI) v8),some ((zE eS) v9),some ((oE bI) va),none,none,some ((zE gO) vc),some ((zE eI) vd),some ((zE (eL (eT eS))) ve),none,none] rfl (adT (fun s2:Unit=>[some ((zE eI) v8),some ((zE eS) v9),some ((oE bI) va),none,none,some ((zE gO) vc),some ((zE eI) vd),some ((zE (eL (eT eS))) ve),none,none]) () rfl (aaL (jr (aW (aq 7 (zE (eL (eT eS))) ve rfl) (aW (yc (jr (aW (FT (aq 1 (zE eS) v9 rfl)) (cM (eT eS))) (zw rfl))) (aW (yc (pI (ahI (aq 1 (zE eS) v9 rfl)) _ (fun _=>rfl) (fun vf:Str=>(Al (aW (aq 0 (zE eS) vf rfl) (cM eS)) (zw rfl))) fun _=>rfl)) (aW (yc (jr (aW (FT (NT (aq 1 (zE eS) v9 rfl) QZ (KZ (aP (.int 4) eI (4:Int) rfl)))) (aW (Al (aW (aP (.str "e") eS ("e" : Str) rfl) (aW (aP (.str "g") eS ("g" : Str) rfl) (cM eS))) (zw rfl)) (aW (Al (aW (aP (.str "f") eS ("f" : Str) rfl) (cM eS)) (zw rfl)) (aW (Al (aW (aP (.str "h") eS ("h" : Str) rfl) (aW (aP (.str "i") eS ("i" : Str) rfl) (cM eS))) (zw rfl)) (cM (eT eS)))))) (zw rfl))) (cM (eL (eT eS))))))) (zw rfl))) _ (fun _ _=>rfl) (fun (s2:Unit) (vg:(List LS_))=>((vX v8 v9 va vc vd ve s2 vg).r:R _ _ (cC (fun s2:Unit=>[some ((zE eI) v8),some ((zE eS) v9),some ((oE bI) va),none,none,some ((zE gO) vc),some ((zE eI) vd),some ((zE (eL (eT eS))) ve),none,none]) (zE eB)))) (fun r=>r) (fun _=>rfl) fun s2=>(jA (fun r=>r) (aP (.bl true) eB true rfl) (fun _=>rfl) fun _=>rfl)))
def oR (v8:Int) (v9:Str) (va:(List aV)) (vc:jO):Bool:=(let vd:=((1:Int)+(v8 % (8:Int)));(let ve:=[(chars (Txt.slice v9 none (some vd))),(chars (Txt.slice v9 (some vd) none))];(oM v8 v9 va vc vd ve)))
def oU (v8:Int) (v9:Str) (va:(List aV)) (vc:jO):Prop:=(let vd:=((1:Int)+(v8 % (8:Int)));(let ve:=[(chars (Txt.slice v9 none (some vd))),(chars (Txt.slice v9 (some vd) none))];(oN v8 v9 va vc vd ve)))
def oV:Ev->Option Out:=(aF (setG 6 (b2 gZ (cB (.int 1)) (b2 jk (gv 0) (cB (.int 8))))) (aF (setG 7 (bM jx (ao (bM q8 (ao (Mh (gv 1) m7 (mX (gv 6))) aD)) (ao (bM q8 (ao (Mh (gv 1) (mX (gv 6)) m7) aD)) aD)))) oO))
theorem vZ (v8:Int) (v9:Str) (va:(List aV)) (vc:jO):RP oV [some ((zE eI) v8),some ((zE eS) v9),some ((oE bI) va),none,none,some ((zE gO) vc),none,none,none,none] (fun r=>Out.rt ((zE eB) r)) (oR v8 v9 va vc) (some (oU v8 v9 va vc)):=R.tp (bK 6 (j8 (aP (.int 1) eI (1:Int) rfl) (dU (aq 0 (zE eI) v8 rfl) 8 (by decide))) (fun _=>rfl) fun vd=>(bK 7 (jr (aW (FT (NT (aq 1 (zE eS) v9 rfl) QZ (KZ (aq 6 (zE eI) vd rfl)))) (aW (FT (NT (aq 1 (zE eS) v9 rfl) (KZ (aq 6 (zE eI) vd rfl)) QZ)) (cM (eT eS)))) (zw rfl)) (fun _=>rfl) fun ve=>(vY v8 v9 va vc vd ve).r))
def oW (v8:Int) (v9:Str) (va:(List aV)):Bool:=(let vc:=((chars v9),(va.map fun q1:aV=>(((0:Int) - q1.1),q1.2.1,q1.2.2.1,q1.2.2.2)),[(("a" : Str),("i" : Str),(2:Int))]);(oR v8 v9 va vc))
def oX (v8:Int) (v9:Str) (va:(List aV)):Prop:=(va.length<=100000/\(let vc:=((chars v9),(va.map fun q1:aV=>(((0:Int) - q1.1),q1.2.1,q1.2.2.1,q1.2.2.2)),[(("a" : Str),("i" : Str),(2:Int))]);(oU v8 v9 va vc)))
def wg:Ev->Option Out:=(aF (setG 5 (bM kh (ao (bM q8 (ao (gv 1) aD)) (ao (bM lD (ao (dW (DY (gv 2)) (uI 4 (cj (kO 0) (cj (kO 1) (cj (kO 2) (cj (kO 3) wQ))))) rJ (bM kh (ao (b2 subB (cB (.int 0)) (gv 0)) (ao (gv 1) (ao (gv 2) (ao (gv 3) aD))))) [] 4) aD)) (ao (bM kh (ao (bM kh (ao (cB (.str "a")) (ao (cB (.str "i")) (ao (cB (.int 2)) aD)))) aD)) aD))))) oV)
theorem wj (v8:Int) (v9:Str) (va:(List aV)):RP wg [some ((zE eI) v8),some ((zE eS) v9),some ((oE bI) va),none,none,none,none,none,none,none] (fun r=>Out.rt ((zE eB) r)) (oW v8 v9 va) (some (oX v8 v9 va)):=R.tp (bK 5 (KQ (FT (aq 1 (zE eS) v9 rfl)) (qY (ju (pI (Hx (jz (aq 2 (lE bI) va rfl))) _ (fun _=>rfl) (fun q1:aV=>(Fj (NQ (aP (.int 0) eI (0:Int) rfl) (aq 0 (zE eI) q1.1 rfl)) (aq 1 (zE eS) q1.2.1 rfl) (aq 2 (zE eS) q1.2.2.1 rfl) (aq 3 (zE eI) q1.2.2.2 rfl))) fun _=>rfl))) (Al (aW (KQ (aP (.str "a") eS ("a" : Str) rfl) (aP (.str "i") eS ("i" : Str) rfl) (aP (.int 2) eI (2:Int) rfl)) (cM mC)) (zw rfl))) (fun _=>rfl) fun vc=>(vZ v8 v9 va vc).r)
def dR (v8:Int):Bool:=(let v9:=("abcdefghi" : Str);(let va:=([]:List aV);(let va:(List aV):=((rng 0 (kN 8)).foldl (fun (va:(List aV)) (v2:Int)=>(bx v8 v9 va v2)) va);(let va:=(qx bI va);(oW v8 v9 va)))))
def fP (v8:Int):Prop:=(let v9:=("abcdefghi" : Str);(let va:=([]:List aV);(qu (fun (va:(List aV)) (v2:Int)=>(bx v8 v9 va v2)) (fun (va:(List aV)) (v2:Int)=>some (fL v8 v9 va v2)) (rng 0 (kN 8)) va/\(let va:(List aV):=((rng 0 (kN 8)).foldl (fun (va:(List aV)) (v2:Int)=>(bx v8 v9 va v2)) va);(va.length < 64/\(let va:=(qx bI va);(oX v8 v9 va)))))))
theorem zO (v8:Int):RP jt [some ((zE eI) v8),none,none,none,none,none,none,none,none,none] (fun r=>Out.rt ((zE eB) r)) (dR v8) (some (fP v8)):=R.tp (bK 1 (aP (.str "abcdefghi") eS ("abcdefghi" : Str) rfl) (fun _=>rfl) fun v9=>(bK 2 (jr (cM bI) (zw rfl)) (fun _=>rfl) fun va=>(Fy (fun va:(List aV)=>[some ((zE eI) v8),some ((zE eS) v9),some ((oE bI) va),none,none,none,none,none,none,none]) va rfl (adY 8 8 rfl (by unfold Rg;decide)) _ (fun _ _=>rfl) (fun (va:(List aV)) (v2:Int)=>(vW v8 v9 va v2).r) fun va=>(bK 2 (adZ (jz (aq 2 (lE bI) va rfl))) (fun _=>rfl) fun va=>(wj v8 v9 va).r))))
theorem zP:∀ v bs,(aZ eI aN) v bs->bs.length=1/\(hold (some (fP v.1))->cN (bs.map lend)=some ((zE eB) (dR v.1))):=by
 rintro⟨v8,_⟩ _ ⟨_,rfl,rfl⟩
 exact⟨rfl,fun h=>dG (g:=jt) (n:=10) (bs:=[.z (eI v8)]) (zO v8) h⟩
def eZ (bT:(List Int)) (uD:Str) (uQ:Str) (vd:Int) (v6:LS_) (v2:Int):LS_:=(let va4:=(ch uD ((v2+(at' bT (2:Int))) % (15:Int)));(let vf:=(((Txt.slice uQ none (some vd))++va4)++(Txt.slice uQ (some vd) none));(let vf:Str:=(if (decide (((at' bT (3:Int)) % (3:Int))=(1:Int)))=true then (let vf:=(Txt.mul (ch uD (v2 / (8:Int))) ((1:Int)+(v2 % (8:Int))));vf) else vf);(let v6:=v6++[vf];v6))))
def mR (bT:(List Int)) (uD:Str) (uQ:Str) (vd:Int) (v6:LS_) (v2:Int):Prop:=((In bT.length (2:Int)/\In uD.length ((v2+(at' bT (2:Int))) % (15:Int)))/\(let va4:=(ch uD ((v2+(at' bT (2:Int))) % (15:Int)));((NZ ((Txt.slice uQ none (some vd)).length+va4.length)/\NZ (((Txt.slice uQ none (some vd))++va4).length+(Txt.slice uQ (some vd) none).length))/\(let vf:=(((Txt.slice uQ none (some vd))++va4)++(Txt.slice uQ (some vd) none));((In bT.length (3:Int)/\((decide (((at' bT (3:Int)) % (3:Int))=(1:Int)))=true->(In uD.length (v2 / (8:Int))/\(((1:Int)+(v2 % (8:Int)))<=1000 ∧ -1000<=((1:Int)+(v2 % (8:Int)))/\(ch uD (v2 / (8:Int))).length<=1000))))/\(let vf:Str:=(if (decide (((at' bT (3:Int)) % (3:Int))=(1:Int)))=true then (let vf:=(Txt.mul (ch uD (v2 / (8:Int))) ((1:Int)+(v2 % (8:Int))));vf) else vf);NZ v6.length))))))
theorem GF (bT:(List Int)) {gq:Bx} (lN:Lp gq (bT.map eI)) (v5:Int) (uD:Str) (uQ:Str) (vd:Int) (v6:LS_) (v2:Int):RP qC [some gq,some ((zE eI) v5),some ((zE eS) uD),some ((zE eS) uQ),some ((zE eI) vd),some ((oE eS) v6),some ((zE eI) v2),none,none] (fun s=>Out.nx ((fun v6:LS_=>[some gq,some ((zE eI) v5),some ((zE eS) uD),some ((zE eS) uQ),some ((zE eI) vd),some ((oE eS) v6),none,none,none]) s)) (eZ bT uD uQ vd v6 v2) (some (mR bT uD uQ vd v6 v2)):=R.tp (cg (bK 7 (Fo (aq 2 (zE eS) uD rfl) (dU (j8 (aq 6 (zE eI) v2 rfl) (jN (gR 0 eI bT lN rfl) (aP (.int 2) eI (2:Int) rfl))) 15 (by decide))) (fun _=>rfl) fun va4=>(cg (bK 8 (X3 (X3 (NT (aq 3 (zE eS) uQ rfl) QZ (KZ (aq 4 (zE eI) vd rfl))) (aq 7 (zE eS) va4 rfl)) (NT (aq 3 (zE eS) uQ rfl) (KZ (aq 4 (zE eI) vd rfl)) QZ)) (fun _=>rfl) fun vf=>(cg (Fw (fun vf:Str=>[some gq,some ((zE eI) v5),some ((zE eS) uD),some ((zE eS) uQ),some ((zE eI) vd),some ((oE eS) v6),some ((zE eI) v2),some ((zE eS) va4),some ((zE eS) vf)]) (fJ (x_eq (by decide) (dU (jN (gR 0 eI bT lN rfl) (aP (.int 3) eI (3:Int) rfl)) 3 (by decide)) (aP (.int 1) eI (1:Int) rfl))) (cg (bK 8 (adM (Fo (aq 2 (zE eS) uD rfl) (Dd (aq 6 (zE eI) v2 rfl) 8 (by decide))) (j8 (aP (.int 1) eI (1:Int) rfl) (dU (aq 6 (zE eI) v2 rfl) 8 (by decide)))) (fun _=>rfl) fun vf=>(dM (bR vf rfl)))) (dM (bR vf rfl)) fun vf=>(cg (N8 5 v6 rfl (aq 8 (zE eS) vf rfl) fun v6=>(dM (bR v6 rfl))))))))))
def mU (bT:(List Int)) (v5:Int) (uD:Str) (uQ:Str):LS_:=(let vd:=((at' bT (1:Int)) % ((uQ.length:Int)+(1:Int)));(let v6:=([]:LS_);(let v6:LS_:=((rng 0 v5.toNat).foldl (fun (v6:LS_) (v2:Int)=>(eZ bT uD uQ vd v6 v2)) v6);v6)))
def qN (bT:(List Int)) (v5:Int) (uD:Str) (uQ:Str):Prop:=((In bT.length (1:Int)/\0 < ((uQ.length:Int)+(1:Int)))/\(let vd:=((at' bT (1:Int)) % ((uQ.length:Int)+(1:Int)));(let v6:=([]:LS_);(Rg v5/\qu (fun (v6:LS_) (v2:Int)=>(eZ bT uD uQ vd v6 v2)) (fun (v6:LS_) (v2:Int)=>some (mR bT uD uQ vd v6 v2)) (rng 0 v5.toNat) v6))))
def GJ:Ev->Option Out:=(aF (setG 4 (b2 jk (b2 kJ (gv 0) (cB (.int 1))) (b2 gZ (bM uO (ao (gv 3) aD)) (cB (.int 1))))) (aF (setG 5 (bM jx aD)) (aF (qm (Pq (ao (gv 1) aD)) (kO 6) qC) (aF (Ho 5) mz))))
theorem GK (bT:(List Int)) {gq:Bx} (lN:Lp gq (bT.map eI)) (v5:Int) (uD:Str) (uQ:Str):RP GJ [some gq,some ((zE eI) v5),some ((zE eS) uD),some ((zE eS) uQ),none,none,none,none,none] (fun r=>Out.rt ((oE eS) r)) (mU bT v5 uD uQ) (some (qN bT v5 uD uQ)):=R.tp (bK 4 (Fe (jN (gR 0 eI bT lN rfl) (aP (.int 1) eI (1:Int) rfl)) (j8 (adN (aq 3 (zE eS) uQ rfl)) (aP (.int 1) eI (1:Int) rfl))) (fun _=>rfl) fun vd=>(bK 5 (jr (cM eS) (zw rfl)) (fun _=>rfl) fun v6=>(Fy (fun v6:LS_=>[some gq,some ((zE eI) v5),some ((zE eS) uD),some ((zE eS) uQ),some ((zE eI) vd),some ((oE eS) v6),none,none,none]) v6 rfl (Jz (aq 1 (zE eI) v5 rfl)) _ (fun _ _=>rfl) (fun (v6:LS_) (v2:Int)=>(GF bT lN v5 uD uQ vd v6 v2).r) fun v6=>(Q5 5 (fun r=>r) v6 rfl (fun _=>rfl) fun _=>rfl))))
def cV (bT:(List Int)) (v5:Int):LS_:=(let uD:=("abcdefghijklmnopqrstuvwxyz" : Str);(let uQ:=(Txt.join "" ((rng 0 ((at' bT (0:Int)) % (6:Int)).toNat).map fun v2:Int=>(ch uD (((at' bT v2) / (40:Int)) % (26:Int)))));(mU bT v5 uD uQ)))
def rB (bT:(List Int)) (v5:Int):Prop:=(let uD:=("abcdefghijklmnopqrstuvwxyz" : Str);(((((In bT.length (0:Int)/\Rg ((at' bT (0:Int)) % (6:Int)))/\(rng 0 ((at' bT (0:Int)) % (6:Int)).toNat).length<=100000)/\(∀ v2∈(rng 0 ((at' bT (0:Int)) % (6:Int)).toNat),(In bT.length v2/\In uD.length (((at' bT v2) / (40:Int)) % (26:Int)))))/\(((rng 0 ((at' bT (0:Int)) % (6:Int)).toNat).map fun v2:Int=>(ch uD (((at' bT v2) / (40:Int)) % (26:Int)))).map (·.length)).sum+((rng 0 ((at' bT (0:Int)) % (6:Int)).toNat).map fun v2:Int=>(ch uD (((at' bT v2) / (40:Int)) % (26:Int)))).length * ("" : Str).length<=100000)/\(let uQ:=(Txt.join "" ((rng 0 ((at' bT (0:Int)) % (6:Int)).toNat).map fun v2:Int=>(ch uD (((at' bT v2) / (40:Int)) % (26:Int)))));(qN bT v5 uD uQ))))
theorem O2 (bT:(List Int)) {gq:Bx} (lN:Lp gq (bT.map eI)) (v5:Int):RP q9 [some gq,some ((zE eI) v5),none,none,none,none,none,none,none] (fun r=>Out.rt ((oE eS) r)) (cV bT v5) (some (rB bT v5)):=R.tp (bK 2 (aP (.str "abcdefghijklmnopqrstuvwxyz") eS ("abcdefghijklmnopqrstuvwxyz" : Str) rfl) (fun _=>rfl) fun uD=>(bK 3 (adP "" (ju (X8 (Jz (dU (jN (gR 0 eI bT lN rfl) (aP (.int 0) eI (0:Int) rfl)) 6 (by decide))) _ (fun _=>rfl) (fun v2:Int=>(Fo (aq 0 (zE eS) uD rfl) (dU (Dd (jN (gR 1 eI bT lN (congrArg some (lN.get rfl))) (aq 2 (zE eI) v2 rfl)) 40 (by decide)) 26 (by decide))))))) (fun _=>rfl) fun uQ=>(GK bT lN v5 uD uQ).r))
theorem O4:∀ v bs,(aL eI (aZ eI aN)) v bs->bs.length=2/\(hold (some (rB v.1 v.2.1))->gU (bs.map lend)=some ((oE eS) (cV v.1 v.2.1))):=by
 rintro⟨bT,v5,_⟩ _ ⟨gq,_,rfl,lN,⟨_,rfl,rfl⟩⟩
 exact⟨rfl,fun h=>dG (g:=q9) (n:=9) (bs:=[lend gq,.z (eI v5)]) (O2 bT (sS lN) v5) h⟩
def cW (v0:(List Int)) (vd:Int) (v5:Int) (v1:(List Int)) (v9:LS_) (lu:(List aV)) (v2:Int):(List aV):=(let bT:=(aK (aO v0 ((vd+(1:Int))+v2)) (4:Int));(let y1:=((at' bT (0:Int)) % (if v5 > (1:Int) then v5 else (1:Int)));let y2:=((at' bT (1:Int)) % (if v5 > (1:Int) then v5 else (1:Int)));let wN:=y1;let wO:=y2;(let vb:=(at' [((1:Int)+((at' bT (2:Int)) % (3:Int))),((1:Int)+((at' bT (2:Int)) % (9:Int))),((1:Int)+((at' bT (2:Int)) % (1000:Int)))] ((at' v1 (4:Int)) % (3:Int)));(let lu:(List aV):=(if (!decide (wN=wO))=true then (let lu:=lu++[(((0:Int) - vb),(at' v9 (if wO < wN then wO else wN)),(at' v9 (if wO > wN then wO else wN)),(at' [(0:Int),(2:Int),(10:Int)] ((at' bT (3:Int)) % (3:Int))))];lu) else lu);lu))))
def iU (v0:(List Int)) (vd:Int) (v5:Int) (v1:(List Int)) (v9:LS_) (lu:(List aV)) (v2:Int):Prop:=(((iM v0 ((vd+(1:Int))+v2))/\(d8 (aO v0 ((vd+(1:Int))+v2)) (4:Int)))/\(let bT:=(aK (aO v0 ((vd+(1:Int))+v2)) (4:Int));(((In bT.length (0:Int)/\0 < (if v5 > (1:Int) then v5 else (1:Int)))/\(In bT.length (1:Int)/\0 < (if v5 > (1:Int) then v5 else (1:Int))))/\(let y1:=((at' bT (0:Int)) % (if v5 > (1:Int) then v5 else (1:Int)));let y2:=((at' bT (1:Int)) % (if v5 > (1:Int) then v5 else (1:Int)));let wN:=y1;let wO:=y2;((((In bT.length (2:Int)/\(In bT.length (2:Int)/\In bT.length (2:Int)))/\In v1.length (4:Int))/\In [((1:Int)+((at' bT (2:Int)) % (3:Int))),((1:Int)+((at' bT (2:Int)) % (9:Int))),((1:Int)+((at' bT (2:Int)) % (1000:Int)))].length ((at' v1 (4:Int)) % (3:Int)))/\(let vb:=(at' [((1:Int)+((at' bT (2:Int)) % (3:Int))),((1:Int)+((at' bT (2:Int)) % (9:Int))),((1:Int)+((at' bT (2:Int)) % (1000:Int)))] ((at' v1 (4:Int)) % (3:Int)));((!decide (wN=wO))=true->((In v9.length (if wO < wN then wO else wN)/\(In v9.length (if wO > wN then wO else wN)/\(In bT.length (3:Int)/\In [(0:Int),(2:Int),(10:Int)].length ((at' bT (3:Int)) % (3:Int)))))/\NZ lu.length))))))))
theorem Cq (v0:(List Int)) {gq:Bx} (lN:Lp gq (v0.map eI)) (vd:Int) (v5:Int) (vx:Int) (oY:Int) (v1:(List Int)) (v9:LS_) (lu:(List aV)) (v2:Int):RP o8 [some gq,some ((zE eI) vd),some ((zE eI) v5),some ((zE eI) vx),some ((zE eI) oY),some ((oE eI) v1),some ((oE eS) v9),some ((oE bI) lu),some ((zE eI) v2),none,none,none,none,none,none] (fun s=>Out.nx ((fun lu:(List aV)=>[some gq,some ((zE eI) vd),some ((zE eI) v5),some ((zE eI) vx),some ((zE eI) oY),some ((oE eI) v1),some ((oE eS) v9),some ((oE bI) lu),none,none,none,none,none,none,none]) s)) (cW v0 vd v5 v1 v9 lu v2) (some (iU v0 vd v5 v1 v9 lu v2)):=R.tp (cg (bK 9 (x_call lq (gC (vJ (x_call qI (tX (gR 0 eI v0 lN rfl) (gC (vJ (j8 (j8 (aq 1 (zE eI) vd rfl) (aP (.int 1) eI (1:Int) rfl)) (aq 8 (zE eI) v2 rfl))) cI)))) (gC (aP (.int 4) eI (4:Int) rfl) cI))) (fun _=>rfl) fun bT=>(cg (abM 10 11 (Fe (jN (jz (aq 9 (lE eI) bT rfl)) (aP (.int 0) eI (0:Int) rfl)) (Fp (aP (.int 1) eI (1:Int) rfl) (aq 2 (zE eI) v5 rfl))) (Fe (jN (jz (aq 9 (lE eI) bT rfl)) (aP (.int 1) eI (1:Int) rfl)) (Fp (aP (.int 1) eI (1:Int) rfl) (aq 2 (zE eI) v5 rfl))) fun wN wO=>(cg (bK 12 (jN (ju (jr (aW (vJ (j8 (aP (.int 1) eI (1:Int) rfl) (dU (jN (jz (aq 9 (lE eI) bT rfl)) (aP (.int 2) eI (2:Int) rfl)) 3 (by decide)))) (aW (vJ (j8 (aP (.int 1) eI (1:Int) rfl) (dU (jN (jz (aq 9 (lE eI) bT rfl)) (aP (.int 2) eI (2:Int) rfl)) 9 (by decide)))) (aW (vJ (j8 (aP (.int 1) eI (1:Int) rfl) (dU (jN (jz (aq 9 (lE eI) bT rfl)) (aP (.int 2) eI (2:Int) rfl)) 1000 (by decide)))) (cM eI)))) (zw rfl))) (dU (jN (jz (aq 5 (lE eI) v1 rfl)) (aP (.int 4) eI (4:Int) rfl)) 3 (by decide))) (fun _=>rfl) fun vb=>(cg (Fw (fun lu:(List aV)=>[some gq,some ((zE eI) vd),some ((zE eI) v5),some ((zE eI) vx),some ((zE eI) oY),some ((oE eI) v1),some ((oE eS) v9),some ((oE bI) lu),some ((zE eI) v2),some ((oE eI) bT),some ((zE eI) wN),some ((zE eI) wO),some ((zE eI) vb),none,none]) (fJ (XJ (by decide) (aq 10 (zE eI) wN rfl) (aq 11 (zE eI) wO rfl))) (cg (N8 7 lu rfl (Fj (NQ (aP (.int 0) eI (0:Int) rfl) (aq 12 (zE eI) vb rfl)) (jN (jz (aq 6 (lE eS) v9 rfl)) (abK (aq 10 (zE eI) wN rfl) (aq 11 (zE eI) wO rfl))) (jN (jz (aq 6 (lE eS) v9 rfl)) (Fp (aq 10 (zE eI) wN rfl) (aq 11 (zE eI) wO rfl))) (jN (ju (jr (aW (aP (.int 0) eI (0:Int) rfl) (aW (aP (.int 2) eI (2:Int) rfl) (aW (aP (.int 10) eI (10:Int) rfl) (cM eI)))) (zw rfl))) (dU (jN (jz (aq 9 (lE eI) bT rfl)) (aP (.int 3) eI (3:Int) rfl)) 3 (by decide)))) fun lu=>(dM (bR lu rfl)))) (dM (bR lu rfl)) fun lu=>(dM (bR lu rfl))))))))))
def cX (v0:(List Int)) (vd:Int) (v5:Int) (v9:LS_) (p8:(List jo)) (v2:Int):(List jo):=(let bT:=(aK (aO v0 ((vd+(1:Int))+v2)) (8:Int));(let y4:=((at' bT (5:Int)) % (if v5 > (1:Int) then v5 else (1:Int)));let y5:=((at' bT (6:Int)) % (if v5 > (1:Int) then v5 else (1:Int)));let wN:=y4;let wO:=y5;(let p8:(List jo):=(if (!decide (wN=wO))=true then (let p8:=p8++[((at' v9 (if wO < wN then wO else wN)),(at' v9 (if wO > wN then wO else wN)),(at' [(2:Int),(10:Int)] ((at' bT (7:Int)) % (2:Int))))];p8) else p8);p8)))
def iV (v0:(List Int)) (vd:Int) (v5:Int) (v9:LS_) (p8:(List jo)) (v2:Int):Prop:=(((iM v0 ((vd+(1:Int))+v2))/\(d8 (aO v0 ((vd+(1:Int))+v2)) (8:Int)))/\(let bT:=(aK (aO v0 ((vd+(1:Int))+v2)) (8:Int));(((In bT.length (5:Int)/\0 < (if v5 > (1:Int) then v5 else (1:Int)))/\(In bT.length (6:Int)/\0 < (if v5 > (1:Int) then v5 else (1:Int))))/\(let y4:=((at' bT (5:Int)) % (if v5 > (1:Int) then v5 else (1:Int)));let y5:=((at' bT (6:Int)) % (if v5 > (1:Int) then v5 else (1:Int)));let wN:=y4;let wO:=y5;((!decide (wN=wO))=true->((In v9.length (if wO < wN then wO else wN)/\(In v9.length (if wO > wN then wO else wN)/\(In bT.length (7:Int)/\In [(2:Int),(10:Int)].length ((at' bT (7:Int)) % (2:Int)))))/\NZ p8.length))))))
theorem Cr (v0:(List Int)) {gq:Bx} (lN:Lp gq (v0.map eI)) (vd:Int) (v5:Int) (vx:Int) (oY:Int) (v1:(List Int)) (v9:LS_) (lu:(List aV)) (v6:(List aV)) (p8:(List jo)) (v2:Int):RP o9 [some gq,some ((zE eI) vd),some ((zE eI) v5),some ((zE eI) vx),some ((zE eI) oY),some ((oE eI) v1),some ((oE eS) v9),some ((oE bI) lu),some ((zE eI) v2),none,none,none,none,some ((oE bI) v6),some ((oE mC) p8)] (fun s=>Out.nx ((fun p8:(List jo)=>[some gq,some ((zE eI) vd),some ((zE eI) v5),some ((zE eI) vx),some ((zE eI) oY),some ((oE eI) v1),some ((oE eS) v9),some ((oE bI) lu),none,none,none,none,none,some ((oE bI) v6),some ((oE mC) p8)]) s)) (cX v0 vd v5 v9 p8 v2) (some (iV v0 vd v5 v9 p8 v2)):=R.tp (cg (bK 9 (x_call lq (gC (vJ (x_call qI (tX (gR 0 eI v0 lN rfl) (gC (vJ (j8 (j8 (aq 1 (zE eI) vd rfl) (aP (.int 1) eI (1:Int) rfl)) (aq 8 (zE eI) v2 rfl))) cI)))) (gC (aP (.int 8) eI (8:Int) rfl) cI))) (fun _=>rfl) fun bT=>(cg (abM 10 11 (Fe (jN (jz (aq 9 (lE eI) bT rfl)) (aP (.int 5) eI (5:Int) rfl)) (Fp (aP (.int 1) eI (1:Int) rfl) (aq 2 (zE eI) v5 rfl))) (Fe (jN (jz (aq 9 (lE eI) bT rfl)) (aP (.int 6) eI (6:Int) rfl)) (Fp (aP (.int 1) eI (1:Int) rfl) (aq 2 (zE eI) v5 rfl))) fun wN wO=>(cg (Fw (fun p8:(List jo)=>[some gq,some ((zE eI) vd),some ((zE eI) v5),some ((zE eI) vx),some ((zE eI) oY),some ((oE eI) v1),some ((oE eS) v9),some ((oE bI) lu),some ((zE eI) v2),some ((oE eI) bT),some ((zE eI) wN),some ((zE eI) wO),none,some ((oE bI) v6),some ((oE mC) p8)]) (fJ (XJ (by decide) (aq 10 (zE eI) wN rfl) (aq 11 (zE eI) wO rfl))) (cg (N8 14 p8 rfl (KQ (jN (jz (aq 6 (lE eS) v9 rfl)) (abK (aq 10 (zE eI) wN rfl) (aq 11 (zE eI) wO rfl))) (jN (jz (aq 6 (lE eS) v9 rfl)) (Fp (aq 10 (zE eI) wN rfl) (aq 11 (zE eI) wO rfl))) (jN (ju (jr (aW (aP (.int 2) eI (2:Int) rfl) (aW (aP (.int 10) eI (10:Int) rfl) (cM eI))) (zw rfl))) (dU (jN (jz (aq 9 (lE eI) bT rfl)) (aP (.int 7) eI (7:Int) rfl)) 2 (by decide)))) fun p8=>(dM (bR p8 rfl)))) (dM (bR p8 rfl)) fun p8=>(dM (bR p8 rfl))))))))
def pA (v0:(List Int)) (vd:Int) (v5:Int) (vx:Int) (oY:Int) (v1:(List Int)) (v9:LS_) (lu:(List aV)):jO:=(let v6:=((qx bI (Hw lu)).map fun q3:aV=>(((0:Int) - q3.1),q3.2.1,q3.2.2.1,q3.2.2.2));(let p8:=([]:List jo);(let p8:(List jo):=((rng 0 oY.toNat).foldl (fun (p8:(List jo)) (v2:Int)=>(cX v0 vd v5 v9 p8 v2)) p8);(v9,v6,(qx mC (Hw p8))))))
def pB (v0:(List Int)) (vd:Int) (v5:Int) (vx:Int) (oY:Int) (v1:(List Int)) (v9:LS_) (lu:(List aV)):Prop:=(((lu.length<=64/\lu.length < 64)/\(qx bI (Hw lu)).length<=100000)/\(let v6:=((qx bI (Hw lu)).map fun q3:aV=>(((0:Int) - q3.1),q3.2.1,q3.2.2.1,q3.2.2.2));(let p8:=([]:List jo);((Rg oY/\qu (fun (p8:(List jo)) (v2:Int)=>(cX v0 vd v5 v9 p8 v2)) (fun (p8:(List jo)) (v2:Int)=>some (iV v0 vd v5 v9 p8 v2)) (rng 0 oY.toNat) p8)/\(let p8:(List jo):=((rng 0 oY.toNat).foldl (fun (p8:(List jo)) (v2:Int)=>(cX v0 vd v5 v9 p8 v2)) p8);(p8.length<=64/\p8.length < 64))))))
def uM:Ev->Option Out:=(aF (setG 13 (dW (DY (Eu (QK (gv 7)))) (uI 4 (cj (kO 0) (cj (kO 1) (cj (kO 2) (cj (kO 3) wQ))))) rJ (bM kh (ao (b2 subB (cB (.int 0)) (gv 0)) (ao (gv 1) (ao (gv 2) (ao (gv 3) aD))))) [] 4)) (aF (setG 14 (bM jx aD)) (aF (qm (Pq (ao (gv 4) aD)) (kO 8) o9) (aF (ni (bM kh (ao (bM lD (ao (gv 6) aD)) (ao (bM lD (ao (gv 13) aD)) (ao (bM lD (ao (Eu (QK (gv 14))) aD)) aD))))) mz))))
theorem Cu (v0:(List Int)) {gq:Bx} (lN:Lp gq (v0.map eI)) (vd:Int) (v5:Int) (vx:Int) (oY:Int) (v1:(List Int)) (v9:LS_) (lu:(List aV)):RP uM [some gq,some ((zE eI) vd),some ((zE eI) v5),some ((zE eI) vx),some ((zE eI) oY),some ((oE eI) v1),some ((oE eS) v9),some ((oE bI) lu),none,none,none,none,none,none,none] (fun r=>Out.rt ((zE gO) r)) (pA v0 vd v5 vx oY v1 v9 lu) (some (pB v0 vd v5 vx oY v1 v9 lu)):=R.tp (bK 13 (pI (Hx (ju (Yh (Yg (jz (aq 7 (lE bI) lu rfl)))))) _ (fun _=>rfl) (fun q3:aV=>(Fj (NQ (aP (.int 0) eI (0:Int) rfl) (aq 0 (zE eI) q3.1 rfl)) (aq 1 (zE eS) q3.2.1 rfl) (aq 2 (zE eS) q3.2.2.1 rfl) (aq 3 (zE eI) q3.2.2.2 rfl))) fun _=>rfl) (fun _=>rfl) fun v6=>(bK 14 (jr (cM mC) (zw rfl)) (fun _=>rfl) fun p8=>(Fy (fun p8:(List jo)=>[some gq,some ((zE eI) vd),some ((zE eI) v5),some ((zE eI) vx),some ((zE eI) oY),some ((oE eI) v1),some ((oE eS) v9),some ((oE bI) lu),none,none,none,none,none,some ((oE bI) v6),some ((oE mC) p8)]) p8 rfl (Jz (aq 4 (zE eI) oY rfl)) _ (fun _ _=>rfl) (fun (p8:(List jo)) (v2:Int)=>(Cr v0 lN vd v5 vx oY v1 v9 lu v6 p8 v2).r) fun p8=>(jA (fun r=>r) (KQ (qY (jz (aq 6 (lE eS) v9 rfl))) (qY (jz (aq 13 (lE bI) v6 rfl))) (qY (ju (Yh (Yg (jz (aq 14 (lE mC) p8 rfl))))))) (fun _=>rfl) fun _=>rfl))))
def pC (v0:(List Int)) (vd:Int) (v5:Int) (vx:Int) (oY:Int) (v1:(List Int)) (v9:LS_):jO:=(let lu:=([]:List aV);(let lu:(List aV):=((rng 0 vx.toNat).foldl (fun (lu:(List aV)) (v2:Int)=>(cW v0 vd v5 v1 v9 lu v2)) lu);(pA v0 vd v5 vx oY v1 v9 lu)))
def pD (v0:(List Int)) (vd:Int) (v5:Int) (vx:Int) (oY:Int) (v1:(List Int)) (v9:LS_):Prop:=(let lu:=([]:List aV);((Rg vx/\qu (fun (lu:(List aV)) (v2:Int)=>(cW v0 vd v5 v1 v9 lu v2)) (fun (lu:(List aV)) (v2:Int)=>some (iU v0 vd v5 v1 v9 lu v2)) (rng 0 vx.toNat) lu)/\(let lu:(List aV):=((rng 0 vx.toNat).foldl (fun (lu:(List aV)) (v2:Int)=>(cW v0 vd v5 v1 v9 lu v2)) lu);(pB v0 vd v5 vx oY v1 v9 lu))))
def uN:Ev->Option Out:=(aF (setG 7 (bM jx aD)) (aF (qm (Pq (ao (gv 3) aD)) (kO 8) o8) uM))
theorem Cv (v0:(List Int)) {gq:Bx} (lN:Lp gq (v0.map eI)) (vd:Int) (v5:Int) (vx:Int) (oY:Int) (v1:(List Int)) (v9:LS_):RP uN [some gq,some ((zE eI) vd),some ((zE eI) v5),some ((zE eI) vx),some ((zE eI) oY),some ((oE eI) v1),some ((oE eS) v9),none,none,none,none,none,none,none,none] (fun r=>Out.rt ((zE gO) r)) (pC v0 vd v5 vx oY v1 v9) (some (pD v0 vd v5 vx oY v1 v9)):=R.tp (bK 7 (jr (cM bI) (zw rfl)) (fun _=>rfl) fun lu=>(Fy (fun lu:(List aV)=>[some gq,some ((zE eI) vd),some ((zE eI) v5),some ((zE eI) vx),some ((zE eI) oY),some ((oE eI) v1),some ((oE eS) v9),some ((oE bI) lu),none,none,none,none,none,none,none]) lu rfl (Jz (aq 3 (zE eI) vx rfl)) _ (fun _ _=>rfl) (fun (lu:(List aV)) (v2:Int)=>(Cq v0 lN vd v5 vx oY v1 v9 lu v2).r) fun lu=>(Cu v0 lN vd v5 vx oY v1 v9 lu).r))
def pF (v0:(List Int)) (vd:Int) (v5:Int) (vx:Int) (oY:Int) (v1:(List Int)):jO:=(let v9:=(fB (cV v1 v5));(pC v0 vd v5 vx oY v1 v9))
def pG (v0:(List Int)) (vd:Int) (v5:Int) (vx:Int) (oY:Int) (v1:(List Int)):Prop:=(((rB v1 v5)/\(cV v1 v5).length < 64)/\(let v9:=(fB (cV v1 v5));(pD v0 vd v5 vx oY v1 v9)))
def Cw:Ev->Option Out:=(aF (setG 6 (bM Bo (ao (cZ 2 gU (ao (gv 5) (ao (gv 2) aD))) aD))) uN)
theorem Cy (v0:(List Int)) {gq:Bx} (lN:Lp gq (v0.map eI)) (vd:Int) (v5:Int) (vx:Int) (oY:Int) (v1:(List Int)):RP Cw [some gq,some ((zE eI) vd),some ((zE eI) v5),some ((zE eI) vx),some ((zE eI) oY),some ((oE eI) v1),none,none,none,none,none,none,none,none,none] (fun r=>Out.rt ((zE gO) r)) (pF v0 vd v5 vx oY v1) (some (pG v0 vd v5 vx oY v1)):=R.tp (bK 6 (Dg (ju (x_call O4 (tX (jz (aq 5 (lE eI) v1 rfl)) (gC (aq 2 (zE eI) v5 rfl) cI))))) (fun _=>rfl) fun v9=>(Cv v0 lN vd v5 vx oY v1 v9).r)
def iQ (v0:(List Int)) (vd:Int) (v5:Int) (vx:Int) (oY:Int):jO:=(let v1:=(aK (aO v0 vd) (6:Int));(pF v0 vd v5 vx oY v1))
def pY (v0:(List Int)) (vd:Int) (v5:Int) (vx:Int) (oY:Int):Prop:=(((iM v0 vd)/\(d8 (aO v0 vd) (6:Int)))/\(let v1:=(aK (aO v0 vd) (6:Int));(pG v0 vd v5 vx oY v1)))
theorem LQ (v0:(List Int)) {gq:Bx} (lN:Lp gq (v0.map eI)) (vd:Int) (v5:Int) (vx:Int) (oY:Int):RP pP [some gq,some ((zE eI) vd),some ((zE eI) v5),some ((zE eI) vx),some ((zE eI) oY),none,none,none,none,none,none,none,none,none,none] (fun r=>Out.rt ((zE gO) r)) (iQ v0 vd v5 vx oY) (some (pY v0 vd v5 vx oY)):=R.tp (bK 5 (x_call lq (gC (vJ (x_call qI (tX (gR 0 eI v0 lN rfl) (gC (aq 1 (zE eI) vd rfl) cI)))) (gC (aP (.int 6) eI (6:Int) rfl) cI))) (fun _=>rfl) fun v1=>(Cy v0 lN vd v5 vx oY v1).r)
theorem LR:∀ v bs,(aL eI (aZ eI (aZ eI (aZ eI (aZ eI aN))))) v bs->bs.length=5/\(hold (some (pY v.1 v.2.1 v.2.2.1 v.2.2.2.1 v.2.2.2.2.1))->iz (bs.map lend)=some ((zE gO) (iQ v.1 v.2.1 v.2.2.1 v.2.2.2.1 v.2.2.2.2.1))):=by
 rintro⟨v0,vd,v5,vx,oY,_⟩ _ ⟨gq,_,rfl,lN,⟨_,rfl,⟨_,rfl,⟨_,rfl,⟨_,rfl,rfl⟩⟩⟩⟩⟩
 exact⟨rfl,fun h=>dG (g:=pP) (n:=15) (bs:=[lend gq,.z (eI vd),.z (eI v5),.z (eI vx),.z (eI oY)]) (LQ v0 (sS lN) vd v5 vx oY) h⟩
def j7  (v6:(List LS_)) (q1:aV):(List LS_):=(let vy:=(at' ((v6.filter fun vv:LS_=>(decide (q1.2.1∈vv))).map fun vv:LS_=>vv) (0:Int));(let vz:=(at' ((v6.filter fun vv:LS_=>(decide (q1.2.2.1∈vv))).map fun vv:LS_=>vv) (0:Int));(let v6:(List LS_):=(if (!decide (vy=vz))=true then (let v6:=(((v6.filter fun vv:LS_=>(!FJ vv [vy,vz])).map fun vv:LS_=>vv)++[(fB (vy++vz))]);v6) else v6);v6)))
def sV  (v6:(List LS_)) (q1:aV):Prop:=((v6.length<=100000/\In ((v6.filter fun vv:LS_=>(decide (q1.2.1∈vv))).map fun vv:LS_=>vv).length (0:Int))/\(let vy:=(at' ((v6.filter fun vv:LS_=>(decide (q1.2.1∈vv))).map fun vv:LS_=>vv) (0:Int));((v6.length<=100000/\In ((v6.filter fun vv:LS_=>(decide (q1.2.2.1∈vv))).map fun vv:LS_=>vv).length (0:Int))/\(let vz:=(at' ((v6.filter fun vv:LS_=>(decide (q1.2.2.1∈vv))).map fun vv:LS_=>vv) (0:Int));((!decide (vy=vz))=true->((v6.length<=100000/\(NZ (vy.length+vz.length)/\(vy++vz).length < 64))/\NZ (((v6.filter fun vv:LS_=>(!FJ vv [vy,vz])).map fun vv:LS_=>vv).length+[(fB (vy++vz))].length)))))))
theorem Bg (v9:LS_) (vx:(List aV)) (v6:(List LS_)) (q1:aV):RP qz [some ((zE (eT eS)) v9),some ((zE (eT bI)) vx),some ((oE (eL eS)) v6),some ((zE eI) q1.1),some ((zE eS) q1.2.1),some ((zE eS) q1.2.2.1),some ((zE eI) q1.2.2.2),none,none] (fun s=>Out.nx ((fun v6:(List LS_)=>[some ((zE (eT eS)) v9),some ((zE (eT bI)) vx),some ((oE (eL eS)) v6),none,none,none,none,none,none]) s)) (j7  v6 q1) (some (sV  v6 q1)):=R.tp (cg (bK 7 (jN (ju (oF (Hx (jz (aq 2 (lE (eL eS)) v6 rfl))) _ (fun _=>rfl) (fun vv:LS_=>(fJ (aaK (aq 0 (zE eS) q1.2.1 rfl) (qt (aq 1 (zE (eL eS)) vv rfl))))) (fun vv:LS_=>(aq 1 (zE (eL eS)) vv rfl)) (fun _=>rfl) fun _=>rfl)) (aP (.int 0) eI (0:Int) rfl)) (fun _=>rfl) fun vy=>(cg (bK 8 (jN (ju (oF (Hx (jz (aq 2 (lE (eL eS)) v6 rfl))) _ (fun _=>rfl) (fun vv:LS_=>(fJ (aaK (aq 0 (zE eS) q1.2.2.1 rfl) (qt (aq 1 (zE (eL eS)) vv rfl))))) (fun vv:LS_=>(aq 1 (zE (eL eS)) vv rfl)) (fun _=>rfl) fun _=>rfl)) (aP (.int 0) eI (0:Int) rfl)) (fun _=>rfl) fun vz=>(cg (Fw (fun v6:(List LS_)=>[some ((zE (eT eS)) v9),some ((zE (eT bI)) vx),some ((oE (eL eS)) v6),some ((zE eI) q1.1),some ((zE eS) q1.2.1),some ((zE eS) q1.2.2.1),some ((zE eI) q1.2.2.2),some ((zE (eL eS)) vy),some ((zE (eL eS)) vz)]) (fJ (XM (by decide) (qt (aq 7 (zE (eL eS)) vy rfl)) (qt (aq 8 (zE (eL eS)) vz rfl)))) (cg (bK 2 (Am (ju (oF (Hx (jz (aq 2 (lE (eL eS)) v6 rfl))) _ (fun _=>rfl) (fun vv:LS_=>(fJ (Yj (by decide) (aq 2 (zE (eL eS)) vv rfl) (ju (jr (aW (aq 0 (zE (eL eS)) vy rfl) (aW (aq 1 (zE (eL eS)) vz rfl) (cM (eL eS)))) (zw rfl)))))) (fun vv:LS_=>(aq 2 (zE (eL eS)) vv rfl)) (fun _=>rfl) fun _=>rfl)) (ju (jr (aW (yc (Dg (ju (Am (qt (aq 7 (zE (eL eS)) vy rfl)) (qt (aq 8 (zE (eL eS)) vz rfl)))))) (cM (eL eS))) (zw rfl)))) (fun _=>rfl) fun v6=>(dM (bR v6 rfl)))) (dM (bR v6 rfl)) fun v6=>(dM (bR v6 rfl))))))))
def eF (v9:LS_) (vx:(List aV)):(List LS_):=(let v6:=(v9.map fun vf:Str=>[vf]);(let v6:(List LS_):=(vx.foldl (fun (v6:(List LS_)) (q1:aV)=>(j7  v6 q1)) v6);(fV (v6.map fun vv:LS_=>vv))))
def n6 (v9:LS_) (vx:(List aV)):Prop:=(v9.length<=100000/\(let v6:=(v9.map fun vf:Str=>[vf]);(qu (fun (v6:(List LS_)) (q1:aV)=>(j7  v6 q1)) (fun (v6:(List LS_)) (q1:aV)=>some (sV  v6 q1)) vx v6/\(let v6:(List LS_):=(vx.foldl (fun (v6:(List LS_)) (q1:aV)=>(j7  v6 q1)) v6);(v6.length<=100000/\((v6.map fun vv:LS_=>vv).length < 64/\∀ x∈(v6.map fun vv:LS_=>vv),x.isEmpty=false))))))
theorem Iu (v9:LS_) (vx:(List aV)):RP lV [some ((zE (eT eS)) v9),some ((zE (eT bI)) vx),none,none,none,none,none,none,none] (fun r=>Out.rt ((oE (eT eS)) r)) (eF v9 vx) (some (n6 v9 vx)):=R.tp (bK 2 (pI (K1 (aq 0 (zE (eT eS)) v9 rfl)) _ (fun _=>rfl) (fun vf:Str=>(yc (jr (aW (aq 0 (zE eS) vf rfl) (cM eS)) (zw rfl)))) fun _=>rfl) (fun _=>rfl) fun v6=>(Q7 1 vx (adW rfl) (fun v6:(List LS_)=>[some ((zE (eT eS)) v9),some ((zE (eT bI)) vx),some ((oE (eL eS)) v6),none,none,none,none,none,none]) v6 rfl _ (fun _ _=>rfl) (fun (v6:(List LS_)) (q1:aV)=>(Bg v9 vx v6 q1).r) fun v6=>(jA (fun r=>r) (Dk (ju (pI (Hx (jz (aq 2 (lE (eL eS)) v6 rfl))) _ (fun _=>rfl) (fun vv:LS_=>(qY (qt (aq 0 (zE (eL eS)) vv rfl)))) fun _=>rfl))) (fun _=>rfl) fun _=>rfl)))
theorem Iv:∀ v bs,(aZ (eT eS) (aZ (eT bI) aN)) v bs->bs.length=2/\(hold (some (n6 v.1 v.2.1))->dI (bs.map lend)=some ((oE (eT eS)) (eF v.1 v.2.1))):=by
 rintro⟨v9,vx,_⟩ _ ⟨_,rfl,⟨_,rfl,rfl⟩⟩
 exact⟨rfl,fun h=>dG (g:=lV) (n:=9) (bs:=[.z ((eT eS) v9),.z ((eT bI) vx)]) (Iu v9 vx) h⟩
def ji (v9:LS_) (bT:(List Int)):(List LS_):=(let v6:=([]:(List (Int×LS_)));(let v6:=(Oi (fun v2:Int=>(let y1:=(((at' bT (v2 % (bT.length:Int))) / ((1:Int)+(v2 / (bT.length:Int)))) % (if (v9.length:Int) > (1:Int) then (v9.length:Int) else (1:Int)));if (decide ((0:Int) < ((at' bT (0:Int)) % (3:Int))))=true then (y1 % (3:Int)) else y1)) (fun v2:Int=>(let y1:=(((at' bT (v2 % (bT.length:Int))) / ((1:Int)+(v2 / (bT.length:Int)))) % (if (v9.length:Int) > (1:Int) then (v9.length:Int) else (1:Int)));let y2:=(if (decide ((0:Int) < ((at' bT (0:Int)) % (3:Int))))=true then (y1 % (3:Int)) else y1);(at' v9 v2))) (rng 0 (v9.length:Int).toNat));(fV ((v6.map (·.1)).map fun YZ:Int=>(fB (look v6 YZ))))))
def lA (v9:LS_) (bT:(List Int)):Prop:=(let v6:=([]:(List (Int×LS_)));((((v6=[]/\Rg (v9.length:Int))/\(rng 0 (v9.length:Int).toNat).length < 1000)/\(∀ v2∈(rng 0 (v9.length:Int).toNat),(((((0 < (bT.length:Int)/\In bT.length (v2 % (bT.length:Int)))/\(0 < (bT.length:Int)/\(bT.length:Int) < 1073741824))/\(0 < ((1:Int)+(v2 / (bT.length:Int)))/\((1:Int)+(v2 / (bT.length:Int))) < 1073741824))/\0 < (if (v9.length:Int) > (1:Int) then (v9.length:Int) else (1:Int)))/\((let y1:=(((at' bT (v2 % (bT.length:Int))) / ((1:Int)+(v2 / (bT.length:Int)))) % (if (v9.length:Int) > (1:Int) then (v9.length:Int) else (1:Int)));In bT.length (0:Int))/\(let y1:=(((at' bT (v2 % (bT.length:Int))) / ((1:Int)+(v2 / (bT.length:Int)))) % (if (v9.length:Int) > (1:Int) then (v9.length:Int) else (1:Int)));let y2:=(if (decide ((0:Int) < ((at' bT (0:Int)) % (3:Int))))=true then (y1 % (3:Int)) else y1);In v9.length v2)))))/\(let v6:=(Oi (fun v2:Int=>(let y1:=(((at' bT (v2 % (bT.length:Int))) / ((1:Int)+(v2 / (bT.length:Int)))) % (if (v9.length:Int) > (1:Int) then (v9.length:Int) else (1:Int)));if (decide ((0:Int) < ((at' bT (0:Int)) % (3:Int))))=true then (y1 % (3:Int)) else y1)) (fun v2:Int=>(let y1:=(((at' bT (v2 % (bT.length:Int))) / ((1:Int)+(v2 / (bT.length:Int)))) % (if (v9.length:Int) > (1:Int) then (v9.length:Int) else (1:Int)));let y2:=(if (decide ((0:Int) < ((at' bT (0:Int)) % (3:Int))))=true then (y1 % (3:Int)) else y1);(at' v9 v2))) (rng 0 (v9.length:Int).toNat));(((v6.map (·.1)).length<=100000/\(∀ YZ∈(v6.map (·.1)),(has v6 YZ=true/\(look v6 YZ).length < 64)))/\(((v6.map (·.1)).map fun YZ:Int=>(fB (look v6 YZ))).length < 64/\∀ x∈((v6.map (·.1)).map fun YZ:Int=>(fB (look v6 YZ))),x.isEmpty=false)))))
theorem Iw (v9:LS_) (bT:(List Int)) {b_1:Bx} (h_1:Lp b_1 (bT.map eI)):RP nY [some ((zE (eT eS)) v9),some b_1,none,none,none] (fun r=>Out.rt ((oE (eT eS)) r)) (ji v9 bT) (some (lA v9 bT)):=R.tp (bK 2 (aaY (eL eS)) (fun _=>rfl) fun v6=>(aa0 2 4 3 v6 rfl (zw rfl) (ρ0:=[some ((zE (eT eS)) v9),some b_1,none,none,none]) rfl (Jz (Q0 (aq 0 (zE (eT eS)) v9 rfl))) (fun v2:Int=>(Fe (XF (jN (gR 1 eI bT h_1 rfl) (Fe (aq 3 (zE eI) v2 rfl) (x_len (gR 1 eI bT h_1 rfl)))) (j8 (aP (.int 1) eI (1:Int) rfl) (XF (aq 3 (zE eI) v2 rfl) (x_len (gR 1 eI bT h_1 rfl))))) (Fp (aP (.int 1) eI (1:Int) rfl) (Q0 (aq 0 (zE (eT eS)) v9 rfl))))) (fun (v2:Int) y1=>(fJ (afK (dU (jN (gR 1 eI bT h_1 rfl) (aP (.int 0) eI (0:Int) rfl)) 3 (by decide)) (aP (.int 0) eI (0:Int) rfl)))) (fun (v2:Int) y1=>(dU (aq 4 (zE eI) y1 rfl) 3 (by decide))) (fun (v2:Int) y1 y2=>(afN (aq 0 (zE (eT eS)) v9 rfl) (aq 3 (zE eI) v2 rfl))) fun v6=>(jA (fun r=>r) (Dk (ju (X8 (afZ (aq 2 (nI (eL eS)) v6 rfl)) _ (fun _=>rfl) (fun YZ:Int=>(qY (ju (Dg (qt (aaZ (aq 0 (nI (eL eS)) v6 rfl) (aq 1 (zE eI) YZ rfl)))))))))) (fun _=>rfl) fun _=>rfl)))
theorem Iz:∀ v bs,(aZ (eT eS) (aL eI aN)) v bs->bs.length=2/\(hold (some (lA v.1 v.2.1))->fY (bs.map lend)=some ((oE (eT eS)) (ji v.1 v.2.1))):=by
 rintro⟨v9,bT,_⟩ _ ⟨_,rfl,⟨b_1,_,rfl,h_1,rfl⟩⟩
 exact⟨rfl,fun h=>dG (g:=nY) (n:=5) (bs:=[.z ((eT eS) v9),lend b_1]) (Iw v9 bT (sS h_1)) h⟩
def sW (v9:LS_) (lB:(List (List LS_))) (v4:Int):(List (List LS_)):=(let lB:=lB++[(ji v9 (aK v4 (8:Int)))];lB)
def GP (v9:LS_) (lB:(List (List LS_))) (v4:Int):Prop:=(((d8 v4 (8:Int))/\(lA v9 (aK v4 (8:Int))))/\NZ lB.length)
theorem Yu (v0:(List Int)) {gq:Bx} (lN:Lp gq (v0.map eI)) (v1:(List Int)) (vc:jO) (v9:LS_) (lB:(List (List LS_))) (v4:Int):RP Gd [some gq,some ((oE eI) v1),some ((zE gO) vc),some ((zE (eT eS)) v9),some ((oE (eL (eT eS))) lB),some ((zE eI) v4),none,none] (fun s=>Out.nx ((fun lB:(List (List LS_))=>[some gq,some ((oE eI) v1),some ((zE gO) vc),some ((zE (eT eS)) v9),some ((oE (eL (eT eS))) lB),none,none,none]) s)) (sW v9 lB v4) (some (GP v9 lB v4)):=R.tp (cg (N8 4 lB rfl (yc (x_call Iz (gC (aq 3 (zE (eT eS)) v9 rfl) (tX (qt (yc (x_call lq (gC (aq 5 (zE eI) v4 rfl) (gC (aP (.int 8) eI (8:Int) rfl) cI))))) cI)))) fun lB=>(dM (bR lB rfl))))
def sX (vc:jO) (s1:Unit) (vg:(List LS_)):wV (Unit) Bool:=(let v6:=(j6 vc vg);(if ((!(is_bool (eB v6)))||(!decide (v6=(lO vc vg))))=true then (wV.rt false) else (wV.nx ())))
def GQ (vc:jO) (s1:Unit) (vg:(List LS_)):Prop:=((sU vc vg)/\(let v6:=(j6 vc vg);((!(is_bool (eB v6)))=false->(qM vc vg))))
theorem Yv (v0:(List Int)) {gq:Bx} (lN:Lp gq (v0.map eI)) (v1:(List Int)) (vc:jO) (v9:LS_) (lB:(List (List LS_))) (s1:Unit) (vg:(List LS_)):RP Ge [some gq,some ((oE eI) v1),some ((zE gO) vc),some ((zE (eT eS)) v9),some ((lE (eL (eT eS))) lB),none,some ((zE (eL (eT eS))) vg),none] (cC (fun s1:Unit=>[some gq,some ((oE eI) v1),some ((zE gO) vc),some ((zE (eT eS)) v9),some ((lE (eL (eT eS))) lB),none,none,none]) (zE eB)) (sX vc s1 vg) (some (GQ vc s1 vg)):=R.tp (cg (bK 7 (x_call JR (gC (aq 2 (zE gO) vc rfl) (tX (qt (yc (X6 (qt (aq 6 (zE (eL (eT eS))) vg rfl))))) cI))) (fun _=>rfl) fun v6=>(cg (Oa (XQ (XR (adJ (abL is_bool (aq 7 (zE eB) v6 rfl)))) (fJ (XJ (by decide) (aq 7 (zE eB) v6 rfl) (x_call GD (gC (aq 2 (zE gO) vc rfl) (tX (qt (aq 6 (zE (eL (eT eS))) vg rfl)) cI)))))) (cg (jA .rt (aP (.bl false) eB false rfl) (fun _=>rfl) fun _=>rfl)) (dM (dM (bR (.nx ()) rfl)))))))
def GR (v0:(List Int)) (v1:(List Int)) (vc:jO) (v9:LS_) (lB:(List (List LS_))):Bool:=(let lB:(List (List LS_)):=(([(aO v0 (1:Int))]++(cut v0 (some (2:Int)) (some (9:Int)))).foldl (fun (lB:(List (List LS_))) (v4:Int)=>(sW v9 lB v4)) lB);(behind (qw (fun (s1:Unit) (vg:(List LS_))=>((sX vc s1 vg):wV (Unit) Bool)) lB ()) (fun r=>r) fun s1:Unit=>true))
def GX (v0:(List Int)) (v1:(List Int)) (vc:jO) (v9:LS_) (lB:(List (List LS_))):Prop:=((((iM v0 (1:Int))/\NZ ([(aO v0 (1:Int))].length+(cut v0 (some (2:Int)) (some (9:Int))).length))/\qu (fun (lB:(List (List LS_))) (v4:Int)=>(sW v9 lB v4)) (fun (lB:(List (List LS_))) (v4:Int)=>some (GP v9 lB v4)) ([(aO v0 (1:Int))]++(cut v0 (some (2:Int)) (some (9:Int)))) lB)/\(let lB:(List (List LS_)):=(([(aO v0 (1:Int))]++(cut v0 (some (2:Int)) (some (9:Int)))).foldl (fun (lB:(List (List LS_))) (v4:Int)=>(sW v9 lB v4)) lB);(wW (fun (s1:Unit) (vg:(List LS_))=>((sX vc s1 vg):wV (Unit) Bool)) (fun (s1:Unit) (vg:(List LS_))=>some (GQ vc s1 vg)) lB ()/\(wH (qw (fun (s1:Unit) (vg:(List LS_))=>((sX vc s1 vg):wV (Unit) Bool)) lB ()) fun s1:Unit=>True))))
def O5:Ev->Option Out:=(aF (qm (WK (b2 gZ (bM jx (ao (b1 uR (cZ 2 dj (ao (gv 0) (ao (cB (.int 1)) aD)))) aD)) (Mh (gv 0) (mX (cB (.int 2))) (mX (cB (.int 9)))))) (kO 5) Gd) (aF (qR 4 (kO 6) Ge) (aF (ni (cB (.bl true))) mz)))
theorem Yw (v0:(List Int)) {gq:Bx} (lN:Lp gq (v0.map eI)) (v1:(List Int)) (vc:jO) (v9:LS_) (lB:(List (List LS_))):RP O5 [some gq,some ((oE eI) v1),some ((zE gO) vc),some ((zE (eT eS)) v9),some ((oE (eL (eT eS))) lB),none,none,none] (fun r=>Out.rt ((zE eB) r)) (GR v0 v1 vc v9 lB) (some (GX v0 v1 vc v9 lB)):=R.tp (Fy (fun lB:(List (List LS_))=>[some gq,some ((oE eI) v1),some ((zE gO) vc),some ((zE (eT eS)) v9),some ((oE (eL (eT eS))) lB),none,none,none]) lB rfl (aaL (Am (ju (jr (aW (vJ (x_call qI (tX (gR 0 eI v0 lN rfl) (gC (aP (.int 1) eI (1:Int) rfl) cI)))) (cM eI)) (zw rfl))) (ju (adL (gR 0 eI v0 lN rfl) (KZ (aP (.int 2) eI (2:Int) rfl)) (KZ (aP (.int 9) eI (9:Int) rfl)))))) _ (fun _ _=>rfl) (fun (lB:(List (List LS_))) (v4:Int)=>(Yu v0 lN v1 vc v9 lB v4).r) fun lB=>(Tn 4 lB (adU rfl) (fun s1:Unit=>[some gq,some ((oE eI) v1),some ((zE gO) vc),some ((zE (eT eS)) v9),some ((lE (eL (eT eS))) lB),none,none,none]) () rfl _ (fun _ _=>rfl) (fun (s1:Unit) (vg:(List LS_))=>((Yv v0 lN v1 vc v9 lB s1 vg).r:R _ _ (cC (fun s1:Unit=>[some gq,some ((oE eI) v1),some ((zE gO) vc),some ((zE (eT eS)) v9),some ((lE (eL (eT eS))) lB),none,none,none]) (zE eB)))) (fun r=>r) (fun _=>rfl) fun s1=>(jA (fun r=>r) (aP (.bl true) eB true rfl) (fun _=>rfl) fun _=>rfl)))
def zQ (v0:(List Int)) (v1:(List Int)) (vc:jO):Bool:=(let v9:=vc.1;(let lB:=[(eF v9 vc.2.1),(v9.map fun vf:Str=>[vf]),(cut [v9] none (some (v9.length:Int)))];(GR v0 v1 vc v9 lB)))
def zR (v0:(List Int)) (v1:(List Int)) (vc:jO):Prop:=(let v9:=vc.1;(((n6 v9 vc.2.1)/\v9.length<=100000)/\(let lB:=[(eF v9 vc.2.1),(v9.map fun vf:Str=>[vf]),(cut [v9] none (some (v9.length:Int)))];(GX v0 v1 vc v9 lB))))
def Yx:Ev->Option Out:=(aF (setG 3 (b2 kJ (gv 2) (cB (.int 0)))) (aF (setG 4 (bM jx (ao (b1 uR (cZ 2 dI (ao (gv 3) (ao (b2 kJ (gv 2) (cB (.int 1))) aD)))) (ao (b1 uR (dW (DY (gv 3)) (kO 0) rJ (bM kh (ao (gv 0) aD)) [] 1)) (ao (b1 uR (Mh (bM jx (ao (gv 3) aD)) m7 (mX (bM uO (ao (gv 3) aD))))) aD))))) O5))
theorem Yy (v0:(List Int)) {gq:Bx} (lN:Lp gq (v0.map eI)) (v1:(List Int)) (vc:jO):RP Yx [some gq,some ((oE eI) v1),some ((zE gO) vc),none,none,none,none,none] (fun r=>Out.rt ((zE eB) r)) (zQ v0 v1 vc) (some (zR v0 v1 vc)):=R.tp (bK 3 (Bw (aq 2 (zE gO) vc rfl) (fun q=>q.1) (eT eS) 0 fun _=>rfl) (fun _=>rfl) fun v9=>(bK 4 (jr (aW (yc (x_call Iv (gC (aq 3 (zE (eT eS)) v9 rfl) (gC (Bw (aq 2 (zE gO) vc rfl) (fun q=>q.2.1) (eT bI) 1 fun _=>rfl) cI)))) (aW (yc (pI (K1 (aq 3 (zE (eT eS)) v9 rfl)) _ (fun _=>rfl) (fun vf:Str=>(Al (aW (aq 0 (zE eS) vf rfl) (cM eS)) (zw rfl))) fun _=>rfl)) (aW (yc (adL (ju (jr (aW (aq 3 (zE (eT eS)) v9 rfl) (cM (eT eS))) (zw rfl))) QZ (KZ (Q0 (aq 3 (zE (eT eS)) v9 rfl))))) (cM (eL (eT eS)))))) (zw rfl)) (fun _=>rfl) fun lB=>(Yw v0 lN v1 vc v9 lB).r))
def O6 (v0:(List Int)):Bool:=(let v1:=(aK (aO v0 (0:Int)) (9:Int));(if (!(dR (at' v1 (5:Int))))=true then false else (let vc:=(iQ v0 (0:Int) ((at' v1 (6:Int)) % (8:Int)) ((at' v1 (7:Int)) % (11:Int)) ((at' v1 (8:Int)) % (4:Int)));(zQ v0 v1 vc))))
def O7 (v0:(List Int)):Prop:=(((iM v0 (0:Int))/\(d8 (aO v0 (0:Int)) (9:Int)))/\(let v1:=(aK (aO v0 (0:Int)) (9:Int));((In v1.length (5:Int)/\(fP (at' v1 (5:Int))))/\((!(dR (at' v1 (5:Int))))=false->(((In v1.length (6:Int)/\(In v1.length (7:Int)/\In v1.length (8:Int)))/\(pY v0 (0:Int) ((at' v1 (6:Int)) % (8:Int)) ((at' v1 (7:Int)) % (11:Int)) ((at' v1 (8:Int)) % (4:Int))))/\(let vc:=(iQ v0 (0:Int) ((at' v1 (6:Int)) % (8:Int)) ((at' v1 (7:Int)) % (11:Int)) ((at' v1 (8:Int)) % (4:Int)));(zR v0 v1 vc)))))))
theorem agh (v0:(List Int)) {gq:Bx} (lN:Lp gq (v0.map eI)):RP Tt [some gq,none,none,none,none,none,none,none] (fun r=>Out.rt ((zE eB) r)) (O6 v0) (some (O7 v0)):=R.tp (bK 1 (x_call lq (gC (vJ (x_call qI (tX (gR 0 eI v0 lN rfl) (gC (aP (.int 0) eI (0:Int) rfl) cI)))) (gC (aP (.int 9) eI (9:Int) rfl) cI))) (fun _=>rfl) fun v1=>(Oa (XR (adJ (x_call zP (gC (jN (jz (aq 1 (lE eI) v1 rfl)) (aP (.int 5) eI (5:Int) rfl)) cI)))) (cg (jA (fun r=>r) (aP (.bl false) eB false rfl) (fun _=>rfl) fun _=>rfl)) (dM (bK 2 (x_call LR (tX (gR 0 eI v0 lN rfl) (gC (aP (.int 0) eI (0:Int) rfl) (gC (dU (jN (jz (aq 1 (lE eI) v1 rfl)) (aP (.int 6) eI (6:Int) rfl)) 8 (by decide)) (gC (dU (jN (jz (aq 1 (lE eI) v1 rfl)) (aP (.int 7) eI (7:Int) rfl)) 11 (by decide)) (gC (dU (jN (jz (aq 1 (lE eI) v1 rfl)) (aP (.int 8) eI (8:Int) rfl)) 4 (by decide)) cI)))))) (fun _=>rfl) fun vc=>(Yy v0 lN v1 vc).r))))
theorem abS:∀ v bs,(aL eI aN) v bs->bs.length=1/\(hold (some (O7 v.1))->rz (bs.map lend)=some ((zE eB) (O6 v.1))):=by
 rintro⟨v0,_⟩ _ ⟨gq,_,rfl,lN,rfl⟩
 exact⟨rfl,fun h=>dG (g:=Tt) (n:=8) (bs:=[lend gq]) (agh v0 (sS lN)) h⟩
theorem abT (h:∀ ns:List Int,ns.length<=63->O7 ns/\O6 ns=true):(∀ ns:List Int,ns.length<=63->rz [.z (.lst (ns.map .int))]=some (.z (.bl true)))/\∀ ns:List Int,ns.length<=63->rz [.l (ns.map .int)]=some (.z (.bl true)):=
 ⟨fun ns hn=>((abS (ns,()) [.z (.lst (ns.map .int))] ⟨_,_,rfl,rfl,rfl⟩).2 (h ns hn).1).trans (by rw[(h ns hn).2]),fun ns hn=>((abS (ns,()) [.l (ns.map .int)] ⟨_,_,rfl,rfl,rfl⟩).2 (h ns hn).1).trans (by rw[(h ns hn).2])⟩
end
end G29
end
section
set_option synthInstance.maxSize 100000
namespace G29
open PySem PySem.Spec PyProof.Rows L2 P1
theorem GZ (script:List Int) (k:Int) (h0:0<=k) (h1:k<=1000):iM script k:=by
 unfold iM
 exact⟨fun h=>in_of h0 (by simpa using h),fun _=>Yk h0 (by omega)⟩
theorem Yz (k:Nat) (s:Int×List Int×Int) (hk:k < 1000) (h:(0<=s.1/\s.1 < 1999999973)/\s.2.1.length=k/\(∀ x∈s.2.1,0<=x)/\0<=s.2.2):j4 s k/\(0<=(bY s k).1/\(bY s k).1 < 1999999973)/\(bY s k).2.1.length=k+1/\(∀ x∈(bY s k).2.1,0<=x)/\0<=(bY s k).2.2:=by
 obtain⟨h1,h2,h3,h4⟩:=h
 have hin:In 2 (if (decide ((0:Int) < s.2.2))=true then (1:Int) else 0):=by split<;>exact in_of (by omega) (by omega)
 refine⟨⟨Yk h1.1 (by omega),hin,?_⟩,qy _ (by decide),?_,?_,Int.ediv_nonneg h4 (by decide)⟩
 ·show s.2.1.length<=1000000
  omega
 ·show (s.2.1++[_]).length=k+1
  rw[ZA,h2];rfl
 ·intro x hx
  rcases List.mem_append.mp hx with hx|hx
  ·exact h3 x hx
  ·cases List.mem_singleton.mp hx
   have:=Ao (xs:=[((((s.1 * ((s.1 % (65521:Int))+(40487:Int)))+((7:Int) * k))+(5:Int)) % (1999999973:Int)),(s.2.2 % (1000000:Int))]) hin
   simp only[Qr,QO,or_false] at this
   rcases this with e|e<;>rw[e]
   ·exact (qy _ (by decide)).1
   ·exact (qy _ (by decide)).1
theorem Bh (c m:Int) (h0:0<=m) (h1:m<=1000):d8 c m/\(aK c m).length=m.toNat/\∀ x∈aK c m,0<=x:=by
 have key:∀ st dg:Int,(0<=st/\st < 1999999973)->0<=dg->nO c m [] st dg/\(j5 c m [] st dg).length=m.toNat/\∀ x∈j5 c m [] st dg,0<=x:=fun st dg hs hd=>by
  have:=vL (P:=fun s k=>some (j4 s k)) (fun k s=>(0<=s.1/\s.1 < 1999999973)/\s.2.1.length=k/\(∀ x∈s.2.1,0<=x)/\0<=s.2.2) (step:=fun s k=>bY s k) m.toNat (st,[],dg) ⟨hs,rfl,fun x h=>(by cases h),hd⟩ fun k s hk h=>Yz k s (by omega) h
  exact⟨⟨JF h0 (by omega),this.1⟩,this.2.2.1,this.2.2.2.1⟩
 refine key _ _ (qy _ (by decide)) ?_
 dsimp only
 split<;>(try split)<;>omega
theorem rC {α:Type} {m:List (Str×α)} {x:Str}:has m x=true↔x∈m.map (·.1):=by
 unfold has
 rw[kg,kP]
 constructor
 ·rintro⟨q,hq,h⟩;exact⟨q,hq,jI h⟩
 ·rintro⟨q,hq,h⟩;exact⟨q,hq,qV h⟩
theorem O8 {α:Type} [Inhabited α] {pre rest:List (Str×α)} {n:Str} {h:α} (hn:n∉pre.map (·.1)):look (pre++(n,h)::rest) n=h:=by
 unfold look
 have:pre.find? (fun q=>decide (q.1=n))=none:=List.find?_eq_none.mpr fun q hq e=>hn (List.mem_map.mpr ⟨q,hq,jI e⟩)
 rw[List.find?_append,this]
 simp
theorem aa4 {α:Type} {pre rest:List (Str×α)} {n:Str} {h v:α} (hn:n∉pre.map (·.1)) (hr:n∉rest.map (·.1)):put (pre++(n,h)::rest) n v=pre++(n,v)::rest:=by
 unfold put
 rw[zo (rC.mpr (by simp))]
 have fix:∀ l:List (Str×α),n∉l.map (·.1)->l.map (fun q=>if q.1=n then (q.1,v) else q)=l:=fun l hl=>by
  conv=>rhs;rw[<-K0 l]
  refine ZY fun q hq=>?_
  rw[zv fun e=>hl (List.mem_map.mpr ⟨q,hq,e⟩)]
  rfl
 rw[ZE,zl,fix pre hn,fix rest hr]
 simp
theorem Vm {α:Type} [Inhabited α] {m:List (Str×α)} {x:Str} (h:x∈m.map (·.1)):(x,look m x)∈m:=by
 unfold look
 cases hf:m.find? fun q=>decide (q.1=x) with
 |none=>
  obtain⟨q,hq,rfl⟩:=List.mem_map.mp h
  have:=List.find?_eq_none.mp hf q hq
  simp at this
 |some q=>
  have h1:=List.mem_of_find?_eq_some hf
  have h2:q.1=x:=by simpa using List.find?_some hf
  show (x,q.2)∈m
  rw[<-h2];exact h1
theorem Dl {α:Type} [Inhabited α] {m:List (Str×α)} (nd:(m.map (·.1)).Nodup) {q:Str×α} (h:q∈m):look m q.1=q.2:=by
 obtain⟨pre,rest,rfl⟩:=List.append_of_mem h
 have:q.1∉pre.map (·.1):=fun e=>by
  rw[ZE,zl,qr] at nd
  exact nd.2.2 _ e _ (ze ..) rfl
 exact O8 this
def mn (one other:Str):Str:=if XH other one=true then other else one
def jn (one other h:Str):Str:=if h=one\/h=other then mn one other else h
theorem G5 (a b:Str):mn a b=a\/mn a b=b:=by unfold mn;split;exact .inr rfl;exact .inl rfl
def jm (m:List (Str×Str)) (one other:Str):List (Str×Str):=m.map fun q=>(q.1,jn one other q.2)
theorem Tv (m:List (Str×Str)) (one other:Str):(jm m one other).map (·.1)=m.map (·.1):=by unfold jm;rw[Zp];rfl
theorem aa5 {m:List (Str×Str)} {one other x:Str} (nd:(m.map (·.1)).Nodup) (h:x∈m.map (·.1)):look (jm m one other) x=jn one other (look m x):=by
 have h1:=Vm h
 have:(x,jn one other (look m x))∈jm m one other:=List.mem_map.mpr ⟨_,h1,rfl⟩
 exact Dl (by rw[Tv];exact nd) this
theorem join_loop (one other:Str):∀ (post pre:List (Str×Str)),((pre++post).map (·.1)).Nodup->(pre++post).length < 1000 →
  qu (fun (heads:(List (Str×Str))) (name:Str)=>(cU one other (mn one other) heads name)) (fun (heads:(List (Str×Str))) (name:Str)=>some (pq one other (mn one other) heads name)) (post.map (·.1)) (pre++post) ∧
  (post.map (·.1)).foldl (fun (heads:(List (Str×Str))) (name:Str)=>(cU one other (mn one other) heads name)) (pre++post)=pre++jm post one other
 |[],pre,_,_=>⟨trivial,rfl⟩
 |(n,h)::rest,pre,nd,hl=>by
  have hn:n∉pre.map (·.1):=fun e=>by
   rw[ZE,zl,qr] at nd
   exact nd.2.2 _ e _ (ze ..) rfl
  have hr:n∉rest.map (·.1):=by
   rw[ZE,zl,qr,List.nodup_cons] at nd
   exact nd.2.1.1
  have hh:has (pre++(n,h)::rest) n=true:=rC.mpr (by simp)
  have e:cU one other (mn one other) (pre++(n,h)::rest) n=pre++(n,jn one other h)::rest:=by
   unfold cU
   dsimp only
   rw[O8 hn]
   unfold jn
   by_cases q:h=one\/h=other
   ·rw[zo q,zo (by simpa using q),aa4 hn hr]
   ·rw[zv q,zv (by simpa using q)]
  have ih:=join_loop one other rest (pre++[(n,jn one other h)]) (by simpa using nd) (by simpa using hl)
  rw[QP] at ih
  refine⟨⟨⟨⟨hh,fun _=>hh⟩,fun _=>hl⟩,?_⟩,?_⟩
  ·show qu _ _ _ (cU one other (mn one other) (pre++(n,h)::rest) n)
   rw[e];exact ih.1
  ·rw[zl,QI,e]
   rw[show pre++(n,jn one other h)::rest=pre++([(n,jn one other h)]++rest) by simp,ih.2]
   unfold jm
   simp
theorem aa6 {m:List (Str×Str)} (one other:Str) (nd:(m.map (·.1)).Nodup) (hl:m.length < 1000):pW m one other/\pU m one other=jm m one other:=join_loop one other m [] nd hl
theorem Tw:∀ (qs m:List (Str×Str)),((m++qs).map (·.1)).Nodup->qs.foldl (fun m q=>put m q.1 q.2) m=m++qs
 |[],m,_=>by simp
 |q::qs,m,nd=>by
  rw[QI]
  have:put m q.1 q.2=m++[q]:=by
   unfold put
   rw[zv]
   intro e
   have e:=rC.mp e
   rw[ZE,zl,qr] at nd
   exact nd.2.2 _ e _ (ze ..) rfl
  rw[this,Tw qs (m++[q]) (by simpa using nd)]
  simp
theorem zT (n_:LS_) (nd:n_.Nodup) (hl:n_.length < 1000):pR n_/\cQ n_=n_.map fun n=>(n,n):=by
 refine⟨⟨hl,by omega⟩,?_⟩
 unfold cQ mkD
 rw[Tw _ [] (by rw[KG,Zp];show (n_.map id).Nodup;rw[K0];exact nd)]
 rfl
structure Hd (n_:LS_) (m:List (Str×Str)):Prop where
 keys:m.map (·.1)=n_
 nd:n_.Nodup
 len:n_.length < 1000
 mem:∀ x∈n_,look m x∈n_
 idem:∀ x∈n_,look m (look m x)=look m x
theorem Hd.kn {n_:LS_} {m:List (Str×Str)} (h:Hd n_ m):(m.map (·.1)).Nodup:=by rw[h.keys];exact h.nd
theorem Hd.ml {n_:LS_} {m:List (Str×Str)} (h:Hd n_ m):m.length < 1000:=by rw[<-zi (f:=(·.1)),h.keys];exact h.len
theorem Hd.has {n_:LS_} {m:List (Str×Str)} (h:Hd n_ m) {x:Str} (hx:x∈n_):has m x=true:=rC.mpr (by rw[h.keys];exact hx)
theorem Hd.lone {n_:LS_} (nd:n_.Nodup) (hl:n_.length < 1000):Hd n_ (n_.map fun n=>(n,n)):=by
 have k:(n_.map fun n=>(n,n)).map (·.1)=n_:=by rw[Zp];show n_.map id=n_;rw[K0]
 have lk:∀ x∈n_,look (n_.map fun n=>(n,n)) x=x:=fun x hx=>Dl (q:=(x,x)) (by rw[k];exact nd) (List.mem_map.mpr ⟨x,hx,rfl⟩)
 exact⟨k,nd,hl,fun x hx=>by rw[lk x hx];exact hx,fun x hx=>by rw[lk x hx,lk x hx]⟩
theorem sY {n_:LS_} (nd:n_.Nodup) {x:Str} (hx:x∈n_):look (n_.map fun n=>(n,n)) x=x:=
 Dl (q:=(x,x)) (by rw[Zp];show (n_.map id).Nodup;rw[K0];exact nd) (List.mem_map.mpr ⟨x,hx,rfl⟩)
theorem Hd.zU {n_:LS_} {m:List (Str×Str)} (h:Hd n_ m) {one other x:Str} (hx:x∈n_):look (jm m one other) x=jn one other (look m x):=aa5 h.kn (by rw[h.keys];exact hx)
theorem Hd.join {n_:LS_} {m:List (Str×Str)} (h:Hd n_ m) {a b:Str} (ha:a∈n_) (hb:b∈n_):Hd n_ (jm m (look m a) (look m b)):=by
 have m1:=h.mem a ha
 have m2:=h.mem b hb
 refine⟨(Tv _ _ _).trans h.keys,h.nd,h.len,fun x hx=>?_,fun x hx=>?_⟩
 ·rw[h.zU hx]
  unfold jn
  split
  ·rcases G5 (look m a) (look m b) with e|e<;>rw[e]<;>assumption
  ·exact h.mem x hx
 ·have hx':jn (look m a) (look m b) (look m x)∈n_:=by
   unfold jn
   split
   ·rcases G5 (look m a) (look m b) with e|e<;>rw[e]<;>assumption
   ·exact h.mem x hx
  rw[h.zU hx,h.zU hx']
  unfold jn
  by_cases q:look m x=look m a\/look m x=look m b
  ·rw[zo q]
   rcases G5 (look m a) (look m b) with e|e
   ·rw[e,h.idem a ha,zo (.inl rfl)]
   ·rw[e,h.idem b hb,zo (.inr rfl)]
  ·rw[zv q,h.idem x hx,zv q]
theorem aa7 {m:List (Str×Str)} (a:Str):jm m a a=m:=by
 unfold jm
 conv=>rhs;rw[<-K0 m]
 refine ZY fun q _=>?_
 unfold jn mn
 have:XH a a=false:=by simp[XH]
 rw[this]
 by_cases e:q.2=a
 ·rw[zo (.inl e),zv (by decide),<-e];rfl
 ·rw[zv (by simp[e])];rfl
def agi (n_:LS_) (m:List (Str×Str)):LS_:=n_.filter fun x=>decide (look m x=x)
theorem aa8 {n_:LS_} {m:List (Str×Str)} (h:Hd n_ m):pX m/\(dY m).length=(agi n_ m).length:=by
 have hl:=h.len
 refine⟨⟨by rw[h.keys];omega,fun x hx=>⟨rC.mpr hx,fun _=>⟨by rw[h.keys];omega,fun y hy=>rC.mpr hy⟩⟩⟩,?_⟩
 unfold dY agi
 rw[zi,h.keys]
abbrev xK:=Int×Str×Str×Int
def Rs (n_:LS_) (rs:List xK):Prop:=∀ r∈rs,r.2.1∈n_/\r.2.2.1∈n_
def jb (m:List (Str×Str)) (r:xK):List (Str×Str):=jm m (look m r.2.1) (look m r.2.2.1)
def hb (n_:LS_) (rs:List xK):List (Str×Str):=rs.foldl jb (cQ n_)
theorem hd0 {n_:LS_} (nd:n_.Nodup) (hl:n_.length < 1000):Hd n_ (cQ n_):=by rw[(zT n_ nd hl).2];exact Hd.lone nd hl
theorem pig:∀ {xs ys:LS_},xs.Nodup->(∀ x∈xs,x∈ys)->xs.length<=ys.length
 |[],_,_,_=>qE _
 |x::xs,ys,nd,h=>by
  obtain⟨n1,n2⟩:=List.nodup_cons.mp nd
  have hx:=h x (ze ..)
  have:=pig (ys:=ys.erase x) n2 fun z hz=>(KB (fun e:z=x=>n1 (e▸hz))).mpr (h z (zh _ hz))
  rw[yf hx] at this
  have:=Kb hx
  rw[qh]
  omega
structure PH (n_:LS_) (P:List LS_) (m:List (Str×Str)):Prop where
 sub:∀ p∈P,∀ y∈p,y∈n_
 cov:∀ x∈n_,∃ p∈P,x∈p
 cls:∀ p∈P,∀ x∈p,∀ y∈n_,(y∈p↔look m x=look m y)
 ne:∀ p∈P,p≠[]
 nd:∀ p∈P,p.Nodup
 uni:∀ p∈P,∀ q∈P,∀ x,x∈p->x∈q->p=q
 len:P.length<=n_.length
 pn:P.Nodup
 srt:∀ p∈P,p.Pairwise qO
theorem ph0 {n_:LS_} (nd:n_.Nodup) (hl:n_.length < 1000):PH n_ (n_.map fun name:Str=>[name]) (cQ n_):=by
 rw[(zT n_ nd hl).2]
 have inv:∀ p,p∈(n_.map fun name:Str=>[name])->∃ n∈n_,p=[n]:=fun p hp=>by
  obtain⟨n,hn,e⟩:=List.mem_map.mp hp
  exact⟨n,hn,e.symm⟩
 refine⟨fun p hp y hy=>?_,fun x hx=>⟨[x],List.mem_map.mpr ⟨x,hx,rfl⟩,List.mem_singleton.mpr rfl⟩,fun p hp x hx y hy=>?_,fun p hp e=>?_,fun p hp=>?_,fun p hp q hq x h1 h2=>?_,by rw[zi];exact zk _,?_,fun p hp=>?_⟩
 ·obtain⟨n,hn,rfl⟩:=inv p hp
  cases List.mem_singleton.mp hy;exact hn
 ·obtain⟨n,hn,rfl⟩:=inv p hp
  cases List.mem_singleton.mp hx
  rw[sY nd hn,sY nd hy,List.mem_singleton]
  exact⟨fun e=>e.symm,fun e=>e.symm⟩
 ·obtain⟨n,hn,rfl⟩:=inv p hp
  cases e
 ·obtain⟨n,hn,rfl⟩:=inv p hp
  exact List.nodup_cons.mpr ⟨fun z=>(by cases z),JI⟩
 ·obtain⟨n,hn,rfl⟩:=inv p hp
  obtain⟨n',hn',rfl⟩:=inv q hq
  cases List.mem_singleton.mp h1
  cases List.mem_singleton.mp h2
  rfl
 ·unfold List.Nodup
  rw[kR]
  exact nd.imp fun h e=>h (by injection e)
 ·obtain⟨n,hn,rfl⟩:=inv p hp
  exact List.pairwise_singleton _ _
theorem pick {P:List LS_} {a:Str} (h:∃ p∈P,a∈p):In ((P.filter fun part:LS_=>(decide (a∈part))).map fun part:LS_=>part).length (0:Int)/\at' ((P.filter fun part:LS_=>(decide (a∈part))).map fun part:LS_=>part) (0:Int)∈P/\a∈at' ((P.filter fun part:LS_=>(decide (a∈part))).map fun part:LS_=>part) (0:Int):=by
 obtain⟨p,hp,ha⟩:=h
 have m:p∈((P.filter fun part:LS_=>(decide (a∈part))).map fun part:LS_=>part):=List.mem_map.mpr ⟨p,List.mem_filter.mpr ⟨hp,qV ha⟩,rfl⟩
 have i:In ((P.filter fun part:LS_=>(decide (a∈part))).map fun part:LS_=>part).length (0:Int):=Aq (k:=0) (Kb m)
 refine⟨i,?_⟩
 obtain⟨q,hq,e⟩:=List.mem_map.mp (Ao i)
 rw[<-e]
 exact⟨(List.mem_filter.mp hq).1,jI (List.mem_filter.mp hq).2⟩
theorem comb {n_:LS_} {P:List LS_} {m:List (Str×Str)} (h:Hd n_ m) (p:PH n_ P m) {one other:LS_} {a b:Str} (h1:one∈P) (h2:other∈P) (ha:a∈one) (hb:b∈other) (hne:one≠other) :
  (one++other).length<=n_.length/\PH n_ (((P.filter fun part:LS_=>(!FJ part [one,other])).map fun part:LS_=>part)++[(fB (one++other))]) (jm m (look m a) (look m b)):=by
 have an:=p.sub _ h1 _ ha
 have bn:=p.sub _ h2 _ hb
 have ndq:(one++other).Nodup:=List.nodup_append.mpr ⟨p.nd _ h1,p.nd _ h2,fun x hx y hy e=>hne (p.uni _ h1 _ h2 x hx (e▸hy))⟩
 have aeg:∀ x∈one++other,x∈n_:=fun x hx=>(List.mem_append.mp hx).elim (p.sub _ h1 _) (p.sub _ h2 _)
 have c1:∀ y∈n_,(y∈one↔look m y=look m a):=fun y hy=>(p.cls _ h1 _ ha y hy).trans ⟨Eq.symm,Eq.symm⟩
 have c2:∀ y∈n_,(y∈other↔look m y=look m b):=fun y hy=>(p.cls _ h2 _ hb y hy).trans ⟨Eq.symm,Eq.symm⟩
 have old:∀ q,q∈((P.filter fun part:LS_=>(!FJ part [one,other])).map fun part:LS_=>part)↔q∈P/\q≠one/\q≠other:=fun q=>by
  rw[Q2,js,qS,<-Bool.not_eq_true,Oe]
  simp
 have mq:∀ y,y∈fB (one++other)↔y∈one\/y∈other:=fun y=>(eV _).mem_iff.trans List.mem_append
 have far:∀ q,q∈P->q≠one->q≠other->∀ x∈q,look m x≠look m a/\look m x≠look m b:=fun q hq n1 n2 x hx=>by
  have xn:=p.sub _ hq _ hx
  exact⟨fun e=>n1 (p.uni _ hq _ h1 x hx ((c1 x xn).mpr e)),fun e=>n2 (p.uni _ hq _ h2 x hx ((c2 x xn).mpr e))⟩
 refine⟨pig ndq aeg,⟨fun q hq y hy=>?_,fun x hx=>?_,fun q hq x hx y hy=>?_,fun q hq=>?_,fun q hq=>?_,fun q hq q' hq' x hx hx'=>?_,?_,?_,fun q hq=>?_⟩⟩
 ·rcases List.mem_append.mp hq with hq|hq
  ·exact p.sub _ ((old q).mp hq).1 _ hy
  ·cases List.mem_singleton.mp hq
   exact aeg y ((eV _).mem_iff.mp hy)
 ·obtain⟨q,hq,hx'⟩:=p.cov x hx
  by_cases e:q=one\/q=other
  ·refine⟨_,List.mem_append.mpr (.inr (List.mem_singleton.mpr rfl)),(mq x).mpr ?_⟩
   rcases e with rfl|rfl
   ·exact .inl hx'
   ·exact .inr hx'
  ·exact⟨q,List.mem_append.mpr (.inl ((old q).mpr ⟨hq,fun z=>e (.inl z),fun z=>e (.inr z)⟩)),hx'⟩
 ·rcases List.mem_append.mp hq with hq|hq
  ·obtain⟨hq,n1,n2⟩:=(old q).mp hq
   have xn:=p.sub _ hq _ hx
   have f:=far q hq n1 n2 x hx
   rw[h.zU xn,h.zU hy,p.cls _ hq _ hx y hy]
   unfold jn
   rw[zv (fun z=>z.elim f.1 f.2)]
   by_cases e:look m y=look m a\/look m y=look m b
   ·rw[zo e]
    constructor
    ·intro z;rw[z] at f;exact absurd e (fun w=>w.elim f.1 f.2)
    ·intro z
     rcases G5 (look m a) (look m b) with w|w<;>rw[w] at z
     ·exact absurd z f.1
     ·exact absurd z f.2
   ·rw[zv e]
  ·cases List.mem_singleton.mp hq
   have xq:=(mq x).mp hx
   have xn:=aeg x (List.mem_append.mpr xq)
   rw[mq,h.zU xn,h.zU hy,c1 y hy,c2 y hy]
   unfold jn
   rw[zo (xq.elim (fun z=>.inl ((c1 x xn).mp z)) (fun z=>.inr ((c2 x xn).mp z)))]
   by_cases e:look m y=look m a\/look m y=look m b
   ·rw[zo e];exact⟨fun _=>rfl,fun _=>e⟩
   ·rw[zv e]
    refine⟨fun z=>absurd z e,fun z=>?_⟩
    rcases G5 (look m a) (look m b) with w|w<;>rw[w] at z
    ·exact .inl z.symm
    ·exact .inr z.symm
 ·rcases List.mem_append.mp hq with hq|hq
  ·exact p.ne _ ((old q).mp hq).1
  ·cases List.mem_singleton.mp hq
   intro e
   have:=(mq a).mpr (.inl ha)
   rw[e] at this
   cases this
 ·rcases List.mem_append.mp hq with hq|hq
  ·exact p.nd _ ((old q).mp hq).1
  ·cases List.mem_singleton.mp hq
   exact (eV _).nodup_iff.mpr ndq
 ·have key:∀ q,q∈P->q≠one->q≠other->x∈q->x∈fB (one++other)->False:=fun q hq n1 n2 e1 e2=>
   ((mq x).mp e2).elim (fun z=>n1 (p.uni _ hq _ h1 x e1 z)) (fun z=>n2 (p.uni _ hq _ h2 x e1 z))
  rcases List.mem_append.mp hq with hq|hq<;>rcases List.mem_append.mp hq' with hq'|hq'
  ·exact p.uni _ ((old q).mp hq).1 _ ((old q').mp hq').1 x hx hx'
  ·cases List.mem_singleton.mp hq'
   obtain⟨z,n1,n2⟩:=(old q).mp hq
   exact (key q z n1 n2 hx hx').elim
  ·cases List.mem_singleton.mp hq
   obtain⟨z,n1,n2⟩:=(old q').mp hq'
   exact (key q' z n1 n2 hx' hx).elim
  ·exact (List.mem_singleton.mp hq).trans (List.mem_singleton.mp hq').symm
 ·rw[ZA,Q2]
  have:(P.filter fun part:LS_=>(!FJ part [one,other])).length < P.length:=by
   rw[List.length_filter_lt_length_iff_exists]
   refine⟨one,h1,?_⟩
   rw[qS,Bool.not_eq_false]
   exact Oe.mpr (ze ..)
  have:=p.len
  show _+1<=_
  omega
 ·rw[qr]
  refine⟨by rw[Q2];exact p.pn.filter _,List.nodup_cons.mpr ⟨fun z=>(by cases z),JI⟩,fun x hx y hy e=>?_⟩
  cases List.mem_singleton.mp hy
  obtain⟨z,n1,n2⟩:=(old x).mp hx
  have:a∈x:=by rw[e];exact (mq a).mpr (.inl ha)
  exact n1 (p.uni _ z _ h1 a this ha)
 ·rcases List.mem_append.mp hq with hq|hq
  ·exact p.srt _ ((old q).mp hq).1
  ·cases List.mem_singleton.mp hq
   exact tM _
theorem Rt {n_:LS_} {P:List LS_} {m:List (Str×Str)} (h:Hd n_ m) (hl:n_.length < 64) (p:PH n_ P m) {r:xK} (ha:r.2.1∈n_) (hb:r.2.2.1∈n_) :
  jK P r/\PH n_ (cR P r) (jm m (look m r.2.1) (look m r.2.2.1)):=by
 obtain⟨i1,o1,a1⟩:=pick (p.cov _ ha)
 obtain⟨i2,o2,a2⟩:=pick (p.cov _ hb)
 have pl:=p.len
 unfold jK cR
 dsimp only
 generalize at' ((P.filter fun part:LS_=>(decide (r.2.1∈part))).map fun part:LS_=>part) (0:Int)=one at *
 generalize at' ((P.filter fun part:LS_=>(decide (r.2.2.1∈part))).map fun part:LS_=>part) (0:Int)=other at *
 by_cases e:one=other
 ·subst e
  refine⟨⟨⟨by omega,i1⟩,⟨by omega,i2⟩,fun z=>by simp at z⟩,?_⟩
  rw[zv (by simp),(p.cls _ o1 _ a1 _ hb).mp a2,aa7]
  exact p
 ·obtain⟨c1,c2⟩:=comb h p o1 o2 a1 a2 e
  rw[ZA] at c1
  refine⟨⟨⟨by omega,i1⟩,⟨by omega,i2⟩,fun _=>⟨⟨by omega,?_,?_⟩,?_⟩⟩,?_⟩
  ·show _<=1000000
   omega
  ·rw[ZA];omega
  ·have:=c2.len
   rw[ZA] at this
   show _<=1000000
   omega
  ·rw[zo (by simp[e])]
   exact c2
theorem G7 {n_:LS_} (hl:n_.length < 64):∀ (rs:List xK) (P:List LS_) (m:List (Str×Str)),Rs n_ rs->Hd n_ m->PH n_ P m →
  qu (fun (found:(List LS_)) (q1:xK)=>(cR found q1)) (fun (found:(List LS_)) (q1:xK)=>some (jK found q1)) rs P/\PH n_ (rs.foldl (fun (found:(List LS_)) (q1:xK)=>(cR found q1)) P) (rs.foldl jb m)
 |[],_,_,_,_,p=>⟨trivial,p⟩
 |r::rs,P,m,hr,h,p=>by
  obtain⟨ha,hb⟩:=hr r (ze ..)
  obtain⟨d,q⟩:=Rt h hl p ha hb
  have ih:=G7 hl rs (cR P r) (jb m r) (fun x hx=>hr x (zh _ hx)) (h.join ha hb) q
  exact⟨⟨d,ih.1⟩,ih.2⟩
theorem G8 {n_:LS_} (nd:n_.Nodup) (hl:n_.length < 64) {rs:List xK} (hr:Rs n_ rs):oK n_ rs/\∃ P,gY n_ rs=fV P/\PH n_ P (hb n_ rs):=by
 obtain⟨d,p⟩:=G7 hl rs _ _ hr (hd0 nd (by omega)) (ph0 nd (by omega))
 have pl:=p.len
 refine⟨⟨by omega,d,by show List.length _<=100000;exact Zl pl (by omega),by show (List.map _ _).length < 64;rw[zi];exact kD pl hl,fun x hx=>?_⟩,_,congrArg fV (Q2 _),p⟩
 obtain⟨y,hy,rfl⟩:=List.mem_map.mp hx
 have:=p.ne _ hy
 cases y
 ·exact absurd rfl this
 ·rfl
theorem G9 (a:Str):qO a a:=by unfold qO;rw[ltCps_eq];simp
theorem JT {a b c:Str} (h:qO a b) (h':qO b c):qO a c:=by
 unfold qO at *
 rw[ltCps_eq] at *
 simp only[Qb] at *
 exact List.le_trans (α:=Nat) h h'
theorem abU (a b:Str):qO (mn a b) a/\qO (mn a b) b:=by
 unfold mn
 by_cases h:XH b a=true
 ·rw[zo h]
  exact⟨((lt_iff b a).mp h).1,G9 b⟩
 ·rw[zv h]
  refine⟨G9 a,?_⟩
  have h:XH b a=false:=by simpa using h
  unfold XH at h
  unfold qO
  rw[ltCps_eq]
  exact h
def Lst (n_:LS_) (m:List (Str×Str)):Prop:=∀ x∈n_,qO (look m x) x
theorem ajA {n_:LS_} (nd:n_.Nodup) (hl:n_.length < 1000):Lst n_ (cQ n_):=fun x hx=>by
 rw[(zT n_ nd hl).2,sY nd hx];exact G9 x
theorem Lst.jb {n_:LS_} {m:List (Str×Str)} (l:Lst n_ m) (h:Hd n_ m) (r:xK):Lst n_ (jb m r):=fun x hx=>by
 show qO (look (jm m (look m r.2.1) (look m r.2.2.1)) x) x
 rw[h.zU hx]
 unfold jn
 split
 ·rename_i e
  rcases e with e|e
  ·exact JT (abU _ _).1 (e▸l x hx)
  ·exact JT (abU _ _).2 (e▸l x hx)
 ·exact l x hx
theorem Ma {α:Type} [DecidableEq α]:∀ {xs ys:List α},xs.Nodup->ys.Nodup->(∀ x,x∈xs↔x∈ys)->xs.Perm ys
 |[],ys,_,_,h=>by
  cases ys with
  |nil=>exact .refl _
  |cons y ys=>exact absurd ((h y).mpr (ze ..)) (by simp)
 |x::xs,ys,nx,ny,h=>by
  obtain⟨n1,n2⟩:=List.nodup_cons.mp nx
  have hx:=(h x).mp (ze ..)
  refine (List.Perm.cons x (Ma (ys:=ys.erase x) n2 (ny.erase x) fun z=>?_)).trans (List.perm_cons_erase hx).symm
  constructor
  ·intro hz
   have:z≠x:=fun e=>n1 (e▸hz)
   exact (KB this).mpr ((h z).mp (zh _ hz))
  ·intro hz
   have hne:z≠x:=fun e=>by subst e;exact (List.Nodup.not_mem_erase ny) hz
   have:=(h z).mpr (List.mem_of_mem_erase hz)
   rcases List.mem_cons.mp this with e|e
   ·exact absurd e hne
   ·exact e
theorem aa9 {a b:Str} {xs ys:LS_} (h:qO a b) (hne:a≠b):K3 (a::xs) (b::ys)=true:=by
 unfold K3 S1.vD
 show (!S1.o7 (Sum.inr b::kT ys) (Sum.inr a::kT xs))=true
 unfold S1.o7
 rw[zv (fun e=>hne (Sum.inr.inj e).symm)]
 unfold S1.Ss
 unfold qO at h
 rw[ltCps_eq] at h
 simpa using h
theorem abb {n_:LS_} (so:n_.Pairwise qO) {m:List (Str×Str)} (h:Hd n_ m) (l:Lst n_ m) {P:List LS_} (p:PH n_ P m):dY m=fV P:=by
 have ks:=h.keys
 have under:∀ q∈P,∀ x∈q,bN m (look m x)=q:=fun q hq x hx=>by
  unfold bN
  rw[Q2,ks]
  refine CT (Ma (h.nd.filter _) (p.nd _ hq) fun z=>?_) (so.filter _) (p.srt _ hq)
  rw[js,z5]
  constructor
  ·rintro⟨hz,e⟩;exact (p.cls q hq x hx z hz).mpr e.symm
  ·intro hz
   have zn:=p.sub _ hq _ hz
   exact⟨zn,((p.cls q hq x hx z zn).mp hz).symm⟩
 have first:∀ n∈n_,look m n=n->∃ t,bN m n=n::t:=fun n hn e=>by
  have hmem:n∈bN m n:=by
   unfold bN
   rw[Q2,ks,js,z5]
   exact⟨hn,e⟩
  have hso:(bN m n).Pairwise qO:=by
   unfold bN
   rw[Q2,ks]
   exact so.filter _
  cases hc:bN m n with
  |nil=>rw[hc] at hmem;cases hmem
  |cons y t=>
   have hy:y∈bN m n:=by rw[hc];exact ze ..
   unfold bN at hy
   rw[Q2,ks,js,z5] at hy
   have h1:qO n y:=by have:=l y hy.1;rw[hy.2] at this;exact this
   rw[hc] at hmem hso
   rcases List.mem_cons.mp hmem with e2|e2
   ·exact⟨t,by rw[e2]⟩
   ·have:=Eb h1 ((List.pairwise_cons.mp hso).1 n e2)
    exact⟨t,by rw[this]⟩
 refine Vi (Ma ?_ p.pn fun q=>?_) ?_
 ·unfold dY List.Nodup
  rw[ks,kR]
  refine kc ?_ (h.nd.filter _)
  intro a b ha hb hne e
  rw[js,z5] at ha hb
  obtain⟨t1,e1⟩:=first a ha.1 ha.2
  obtain⟨t2,e2⟩:=first b hb.1 hb.2
  rw[e1,e2] at e
  exact hne (by injection e)
 ·unfold dY
  rw[ks,kP]
  constructor
  ·rintro⟨n,hn,rfl⟩
   rw[js,z5] at hn
   obtain⟨q,hq,hx⟩:=p.cov n hn.1
   have:=under q hq n hx
   rw[hn.2] at this
   rw[this];exact hq
  ·intro hq
   cases hc:q with
   |nil=>exact absurd hc (p.ne _ hq)
   |cons x t=>
    have hx:x∈q:=by rw[hc];exact ze ..
    have xn:=p.sub _ hq _ hx
    refine⟨look m x,List.mem_filter.mpr ⟨h.mem x xn,qV (h.idem x xn)⟩,?_⟩
    rw[under q hq x hx,hc]
 ·unfold dY
  rw[ks,kR]
  have both:(n_.filter fun name:Str=>decide (look m name=name)).Pairwise fun a b=>qO a b/\a≠b:=(so.filter _).and (h.nd.filter _)
  refine kc ?_ both
  intro a b ha hb hab
  rw[js,z5] at ha hb
  obtain⟨t1,e1⟩:=first a ha.1 ha.2
  obtain⟨t2,e2⟩:=first b hb.1 hb.2
  rw[e1,e2]
  exact aa9 hab.1 hab.2
theorem foldl_size {α:Type} (c:Array α):∀ (n:Nat) (a:Array α),((List.replicate n c).foldl (·++·) a).size=a.size+n * c.size
 |0,a=>by simp
 |n+1,a=>by
  rw[List.replicate_succ,QI,foldl_size c n,kX,Nat.succ_mul]
  omega
theorem Kf (x:Str) (k:Int):(Txt.mul x k).length<=x.length * k.toNat:=by
 unfold Txt.mul
 split
 ·exact qE _
 split
 ·rename_i h0 h
  simp only[Bool.or_eq_true,beq_iff_eq] at h
  rcases h with h|h
  ·subst h;simp
  ·rw[h];simp
 ·show (Array.size _)<=_
  rw[foldl_size]
  have:x.cps.size=x.length:=rfl
  rw[this,Nat.mul_comm]
  simp
def LT:Str:=("abcdefghijklmnopqrstuvwxyz" : Str)
theorem Ru:LT.length=26:=by decide +kernel
theorem wz {n:Nat} (h:n<=1000):NZ n:=Zl h (by decide)
theorem Rv (xs:List Int) (hl:6<=xs.length) (stem:Str) (hs:stem.length<=5) (at_:Int) (k:Nat) (found:LS_) (hk:k < 200) (h:found.length=k/\∀ n∈found,n.length<=12):mR xs LT stem at_ found k/\(eZ xs LT stem at_ found k).length=k+1/\∀ n∈eZ xs LT stem at_ found k,n.length<=12:=by
 have s1:=Zl (slice_le stem none (some at_)) hs
 have s2:=Zl (slice_le stem (some at_) none) hs
 have c1:=K5 LT ((↑k+at' xs 2) % 15)
 have m8:=qy (k:Int) (m:=8) (by decide)
 have hd:(0:Int)<=(k:Int) / 8/\(k:Int) / 8 < 26:=by omega
 refine⟨⟨⟨in_of (by decide) (by omega),Ar (by decide) (by rw[Ru];decide)⟩,⟨wz (by omega),wz (by rw[vM];omega)⟩,⟨in_of (by decide) (by omega),fun _=>⟨in_of hd.1 (by rw[Ru];exact hd.2),by omega,by omega,by rw[K5];decide⟩⟩,wz (by omega)⟩,?_⟩
 have key:∀ n:Str,n.length<=12->(found++[n]).length=k+1/\∀ m∈found++[n],m.length<=12:=fun n hn=>⟨by simp[h.1],fun m hm=>by
  rcases List.mem_append.mp hm with hm|hm
  ·exact h.2 m hm
  ·cases List.mem_singleton.mp hm;exact hn⟩
 unfold eZ
 dsimp only
 split
 ·exact key _ (by have:=Kf (ch LT ((k:Int) / 8)) (1+(k:Int) % 8);rw[K5] at this;exact Zl this (by omega))
 ·exact key _ (by rw[vM,vM,c1];omega)
theorem aeh (xs:LS_) (n:Nat) (h:∀ x∈xs,x.length<=n):(Txt.join "" xs).length<=xs.length * n:=by
 have h1:=StrLaws.join_length_le ("" : Str) xs
 rw[<-StrLaws.glued_eq_join] at h1
 have h2:(xs.map (·.length)).sum<=xs.length * n:=by
  clear h1
  induction xs with
  |nil=>simp
  |cons a l ih=>
   have:=ih fun x hx=>h x (zh _ hx)
   have:=h a (ze ..)
   simp only[zl,List.sum_cons,qh,Nat.succ_mul]
   omega
 have h3:("" : Str).length=0:=rfl
 rw[h3,Nat.mul_zero] at h1
 exact Zl h1 (by omega)
theorem ajB (xs:LS_) (h:∀ x∈xs,x.length=1):(xs.map (·.length)).sum=xs.length:=by
 induction xs with
 |nil=>rfl
 |cons a l ih=>
  have:=ih fun x hx=>h x (zh _ hx)
  have:=h a (ze ..)
  simp only[zl,List.sum_cons,qh]
  omega
theorem O9 (xs:List Int) (hl:6<=xs.length) (many:Int) (h0:0<=many) (h1:many<=200):rB xs many/\(cV xs many).length=many.toNat/\∀ n∈cV xs many,n.length<=12:=by
 have m6:=qy (at' xs 0) (m:=6) (by decide)
 have st:∀ stem:Str,stem.length<=5->qN xs many LT stem/\(mU xs many LT stem).length=many.toNat/\∀ n∈mU xs many LT stem,n.length<=12:=fun stem hs=>by
  have:=vL (P:=fun f k=>some (mR xs LT stem (at' xs 1 % ((stem.length:Int)+1)) f k)) (step:=fun f k=>eZ xs LT stem (at' xs 1 % ((stem.length:Int)+1)) f k) (fun k s=>s.length=k/\∀ n∈s,n.length<=12) many.toNat [] ⟨rfl,fun n h=>(by cases h)⟩ fun k s hk h=>Rv xs hl stem hs _ k s (by omega) h
  exact⟨⟨⟨in_of (by decide) (by omega),by omega⟩,JF h0 (by omega),this.1⟩,this.2⟩
 have c1:∀ x∈((rng 0 (at' xs 0 % 6).toNat).map fun k_:Int=>ch LT (at' xs k_ / 40 % 26)),x.length=1:=fun x hx=>by
  obtain⟨k,_,rfl⟩:=List.mem_map.mp hx
  exact K5 _ _
 have:=st (Txt.join "" ((rng 0 (at' xs 0 % 6).toNat).map fun k_:Int=>ch LT (at' xs k_ / 40 % 26))) (by
  have:=aeh _ 1 fun x hx=>Nat.le_of_eq (c1 x hx)
  rw[zi,wI] at this
  omega)
 refine⟨⟨⟨⟨⟨⟨in_of (by decide) (by omega),JF m6.1 (by omega)⟩,by rw[wI];omega⟩,fun k hk=>?_⟩,?_⟩,this.1⟩,this.2⟩
 ·obtain⟨j,hj,rfl⟩:=Tr hk
  exact⟨in_of (by omega) (by omega),Ar (by decide) (by rw[show ("abcdefghijklmnopqrstuvwxyz" : Str)=LT from rfl,Ru];decide)⟩
 ·rw[show ("abcdefghijklmnopqrstuvwxyz" : Str)=LT from rfl,ajB _ c1,zi,wI]
  have h3:("" : Str).length=0:=rfl
  rw[h3]
  omega
def nmF (xs:List Int) (stem:Str) (at_:Int) (k:Int):Str:=if (decide (((at' xs (3:Int)) % (3:Int))=(1:Int)))=true then (Txt.mul (ch LT (k / (8:Int))) ((1:Int)+(k % (8:Int)))) else (((Txt.slice stem none (some at_))++(ch LT ((k+(at' xs (2:Int))) % (15:Int))))++(Txt.slice stem (some at_) none))
theorem Hf {α β:Type} (g:β->α):∀ (l:List β) (f:List α),l.foldl (fun f k=>f++[g k]) f=f++l.map g
 |[],f=>by simp
 |k::l,f=>by rw[QI,Hf g l];simp
theorem YB (xs:List Int) (many:Int):∃ stem at_,cV xs many=(rng 0 many.toNat).map (nmF xs stem at_):=by
 refine⟨_,_,(Hf (nmF xs _ _) _ []).trans (KG _)⟩
theorem Rw {a b m m':Str} (h:(a++m)++b=(a++m')++b):m=m':=by
 have h:=congrArg (fun s:Str=>s.cps.toList) h
 have h:((a.cps++m.cps)++b.cps).toList=((a.cps++m'.cps)++b.cps).toList:=h
 simp only[Array.toList_append] at h
 have:=List.append_cancel_left (List.append_cancel_right h)
 cases m;cases m'
 congr 1
 exact Array.ext' this
theorem aei:∀ i:Fin 30,∀ j:Fin 30,Txt.mul (ch LT ((i.val:Int) / 8)) (1+(i.val:Int) % 8)=Txt.mul (ch LT ((j.val:Int) / 8)) (1+(j.val:Int) % 8)->i=j:=by decide +kernel
theorem agk:∀ i:Fin 15,∀ j:Fin 15,ch LT (i.val:Int)=ch LT (j.val:Int)->i=j:=by decide +kernel
theorem aej {x y:Int} (hx:0<=x/\x < 15) (hy:0<=y/\y < 15) (h:ch LT x=ch LT y):x=y:=by
 have:=agk ⟨x.toNat,by omega⟩ ⟨y.toNat,by omega⟩ (by
  show ch LT ((x.toNat:Nat):Int)=ch LT ((y.toNat:Nat):Int)
  rw[Int.toNat_of_nonneg hx.1,Int.toNat_of_nonneg hy.1];exact h)
 have:=congrArg Fin.val this
 have:x.toNat=y.toNat:=this
 omega
theorem aek {xs:List Int} {stem:Str} {at_:Int} {i j:Nat} (hi:i < 15) (hj:j < 15) (h:nmF xs stem at_ i=nmF xs stem at_ j):i=j:=by
 unfold nmF at h
 by_cases e:(decide (((at' xs (3:Int)) % (3:Int))=(1:Int)))=true
 ·rw[zo e,zo e] at h
  exact congrArg Fin.val (aei ⟨i,by omega⟩ ⟨j,by omega⟩ h)
 ·rw[zv e,zv e] at h
  have:=aej (qy _ (by decide)) (qy _ (by decide)) (Rw h)
  omega
theorem ael {n:Nat} {g:Int->Str} (h:∀ i j:Nat,i < n->j < n->g i=g j->i=j):((rng 0 n).map g).Nodup:=by
 unfold rng
 rw[Zp]
 unfold List.Nodup
 rw[kR]
 refine kc ?_ (ym (n:=n))
 intro a b ha hb hne e
 refine hne (h a b (List.mem_range.mp ha) (List.mem_range.mp hb) ?_)
 have e:g (0+(a:Int))=g (0+(b:Int)):=e
 rwa [Int.zero_add,Int.zero_add] at e
theorem YC (xs:List Int) (many:Int) (h:many<=15):(cV xs many).Nodup:=by
 obtain⟨stem,at_,e⟩:=YB xs many
 rw[e]
 exact ael fun i j hi hj=>aek (by omega) (by omega)
theorem Mf {n:Nat} {a b:Int} (ha:0<=a/\a < n) (hb:0<=b/\b < n):In n (if b < a then b else a):=by split<;>exact in_of (by omega) (by omega)
theorem Mg {n:Nat} {a b:Int} (ha:0<=a/\a < n) (hb:0<=b/\b < n):In n (if b > a then b else a):=by split<;>exact in_of (by omega) (by omega)
theorem Tz {many:Int} {n:Nat} (hn:n=many.toNat) {x y:Int} (h:(!decide (x % (if many > (1:Int) then many else (1:Int))=y % (if many > (1:Int) then many else (1:Int))))=true):(0<=x % (if many > (1:Int) then many else (1:Int))/\x % (if many > (1:Int) then many else (1:Int)) < n)/\(0<=y % (if many > (1:Int) then many else (1:Int))/\y % (if many > (1:Int) then many else (1:Int)) < n):=by
 by_cases e:many > 1
 ·rw[zo e] at h ⊢
  have h1:=qy x (m:=many) (by omega)
  have h2:=qy y (m:=many) (by omega)
  omega
 ·rw[zv e] at h
  simp at h
theorem Pa {many:Int}:0 < (if many > (1:Int) then many else (1:Int)):=by split<;>omega
theorem Vn (script:List Int) (at_ many:Int) (a0:0<=at_) (a1:at_<=500) (head:List Int) (hh:6<=head.length) (n_:LS_) (hn:n_.length=many.toNat) (k:Nat) (hk:k < 60) (told:List xK) (h:told.length<=k/\Rs n_ told) :
  iU script at_ many head n_ told k/\(cW script at_ many head n_ told k).length<=k+1/\Rs n_ (cW script at_ many head n_ told k):=by
 obtain⟨n1,n2,n3⟩:=Bh (aO script ((at_+(1:Int))+k)) 4 (by decide) (by decide)
 have n2:(aK (aO script ((at_+(1:Int))+k)) 4).length=4:=n2
 unfold iU cW
 dsimp only
 generalize aK (aO script ((at_+(1:Int))+k)) 4=xs at *
 have en:=fun x y=>Tz (x:=x) (y:=y) hn
 have pm:=@Pa many
 generalize (if many > (1:Int) then many else (1:Int))=mm at *
 have ix:∀ i:Nat,i < 4->In xs.length (i:Int):=fun i hi=>Aq (by omega)
 refine⟨⟨⟨GZ _ _ (by omega) (by omega),n1⟩,⟨⟨ix 0 (by decide),pm⟩,ix 1 (by decide),pm⟩,⟨⟨⟨ix 2 (by decide),ix 2 (by decide),ix 2 (by decide)⟩,in_of (by decide) (by omega)⟩,Ar (by decide) (Int.le_refl 3)⟩,fun hne=>?_⟩,?_⟩
 ·have:=en _ _ hne
  exact⟨⟨Mf this.1 this.2,Mg this.1 this.2,ix 3 (by decide),Ar (by decide) (by decide)⟩,wz (by omega)⟩
 ·split
  ·rename_i hne
   have:=en _ _ hne
   refine⟨by rw[ZA];show _+1<=_;omega,fun r hr=>?_⟩
   rcases List.mem_append.mp hr with hr|hr
   ·exact h.2 r hr
   ·cases List.mem_singleton.mp hr
    exact⟨Ao (Mf this.1 this.2),Ao (Mg this.1 this.2)⟩
  ·exact⟨by omega,h.2⟩
theorem Vo (script:List Int) (at_ many:Int) (a0:0<=at_) (a1:at_<=500) (n_:LS_) (hn:n_.length=many.toNat) (k:Nat) (hk:k < 60) (shut:List (Str×Str×Int)) (h:shut.length<=k/\∀ b∈shut,b.1∈n_/\b.2.1∈n_) :
  iV script at_ many n_ shut k/\(cX script at_ many n_ shut k).length<=k+1/\∀ b∈cX script at_ many n_ shut k,b.1∈n_/\b.2.1∈n_:=by
 obtain⟨n1,n2,n3⟩:=Bh (aO script ((at_+(1:Int))+k)) 8 (by decide) (by decide)
 have n2:(aK (aO script ((at_+(1:Int))+k)) 8).length=8:=n2
 unfold iV cX
 dsimp only
 generalize aK (aO script ((at_+(1:Int))+k)) 8=xs at *
 have en:=fun x y=>Tz (x:=x) (y:=y) hn
 have pm:=@Pa many
 generalize (if many > (1:Int) then many else (1:Int))=mm at *
 have ix:∀ i:Nat,i < 8->In xs.length (i:Int):=fun i hi=>Aq (by omega)
 refine⟨⟨⟨GZ _ _ (by omega) (by omega),n1⟩,⟨⟨ix 5 (by decide),pm⟩,ix 6 (by decide),pm⟩,fun hne=>?_⟩,?_⟩
 ·have:=en _ _ hne
  exact⟨⟨Mf this.1 this.2,Mg this.1 this.2,ix 7 (by decide),Ar (by decide) (by decide)⟩,wz (by omega)⟩
 ·split
  ·rename_i hne
   have:=en _ _ hne
   refine⟨by rw[ZA];show _+1<=_;omega,fun r hr=>?_⟩
   rcases List.mem_append.mp hr with hr|hr
   ·exact h.2 r hr
   ·cases List.mem_singleton.mp hr
    exact⟨Ao (Mf this.1 this.2),Ao (Mg this.1 this.2)⟩
  ·exact⟨by omega,h.2⟩
structure Gr (g:LS_×(List xK)×(List (Str×Str×Int))):Prop where
 nd:g.1.Nodup
 len:g.1.length < 64
 rs:Rs g.1 g.2.1
 bs:∀ b∈g.2.2,b.1∈g.1/\b.2.1∈g.1
 rl:g.2.1.length < 64
 bl:g.2.2.length < 64
 so:g.1.Pairwise qO
 rn:g.2.1.Nodup
theorem Rs.turn {n_:LS_} {rs:List xK} (h:Rs n_ rs):Rs n_ (rs.map fun q3:(Int×Str×Str×Int)=>(((0:Int) - q3.1),q3.2.1,q3.2.2.1,q3.2.2.2)):=fun r hr=>by
 obtain⟨q,hq,rfl⟩:=List.mem_map.mp hr
 exact h q hq
theorem Vp (script:List Int) (at_ many reasons bars:Int) (a0:0<=at_) (a1:at_<=500) (m0:0<=many) (m1:many<=15) (r0:0<=reasons) (r1:reasons < 60) (b0:0<=bars) (b1:bars < 60):pY script at_ many reasons bars/\Gr (iQ script at_ many reasons bars):=by
 obtain⟨n1,n2,n3⟩:=Bh (aO script at_) 6 (by decide) (by decide)
 have n2:(aK (aO script at_) 6).length=6:=n2
 have key:∀ head:List Int,6<=head.length->pG script at_ many reasons bars head/\Gr (pF script at_ many reasons bars head):=fun head hh=>by
  obtain⟨k1,k2,k3⟩:=O9 head hh many m0 (by omega)
  have knd:=YC head many m1
  have hn:(fB (cV head many)).length=many.toNat:=by rw[(eV _).length_eq,k2]
  have nd:(fB (cV head many)).Nodup:=(eV _).nodup_iff.mpr knd
  have c8:∀ n_:LS_,n_.length=many.toNat->n_.Nodup->n_.Pairwise qO->pD script at_ many reasons bars head n_/\Gr (pC script at_ many reasons bars head n_):=fun n_ hn nd so=>by
   obtain⟨t1,t2,t3⟩:=vL (P:=fun f k=>some (iU script at_ many head n_ f k)) (step:=fun f k=>cW script at_ many head n_ f k) (fun k s=>s.length<=k/\Rs n_ s) reasons.toNat [] ⟨zk 0,fun r h=>(by cases h)⟩ fun k s hk h=>Vn script at_ many a0 a1 head hh n_ hn k (by omega) s h
   obtain⟨s1,s2,s3⟩:=vL (P:=fun f k=>some (iV script at_ many n_ f k)) (step:=fun f k=>cX script at_ many n_ f k) (fun k s=>s.length<=k/\∀ b∈s,b.1∈n_/\b.2.1∈n_) bars.toNat [] ⟨zk 0,fun r h=>(by cases h)⟩ fun k s hk h=>Vo script at_ many a0 a1 n_ hn k (by omega) s h
   have sl:=kD s2 (show bars.toNat < 64 by omega)
   have c6:∀ told:List xK,told.length<=reasons.toNat->Rs n_ told->pB script at_ many reasons bars head n_ told/\Gr (pA script at_ many reasons bars head n_ told):=fun told tl tr=>by
    have dl:=Dc told
    have sp:=(lF (e:=eP4 eI eS eS eI) (Hw told)).length_eq
    refine⟨⟨⟨⟨by omega,by omega⟩,by rw[sp];omega⟩,⟨JF b0 (by omega),s1⟩,Q4 sl,sl⟩,nd,?_,?_,?_,?_,?_,so,?_⟩
    ·show n_.length < 64
     omega
    ·exact Rs.turn fun r hr=>tr r (tW.mp ((lF _).mem_iff.mp hr))
    ·exact fun b hb=>s3 b (tW.mp ((lF _).mem_iff.mp hb))
    ·show (List.map _ _).length < 64
     rw[zi,sp];omega
    ·show (qx _ _).length < 64
     rw[(lF _).length_eq]
     exact kD (Dc _) sl
    ·show (List.map _ _).Nodup
     unfold List.Nodup
     rw[kR]
     refine ((lF (e:=eP4 eI eS eS eI) (Hw told)).nodup_iff.mpr (Et told)).imp ?_
     intro a b hne e
     apply hne
     obtain⟨a1,a2,a3,a4⟩:=a
     obtain⟨b1,b2,b3,b4⟩:=b
     simp only[Prod.mk.injEq] at e ⊢
     exact⟨by omega,e.2⟩
   have:=c6 _ t2 t3
   exact⟨⟨⟨JF r0 (by omega),t1⟩,this.1⟩,this.2⟩
  have:=c8 _ hn nd (tM _)
  exact⟨⟨⟨k1,by rw[k2];omega⟩,this.1⟩,this.2⟩
 have:=key _ (Nat.le_of_eq n2.symm)
 exact⟨⟨⟨GZ _ _ a0 (by omega),n1⟩,this.1⟩,this.2⟩
theorem agl {α:Type} (p:α->Bool) (l:List α):(l.filter p).length<=l.length:=List.length_filter_le p l
theorem aem {α:Type} [Inhabited α] (xs:List α):(rng 0 (xs.length:Int).toNat).map (fun k:Int=>at' xs k)=xs:=by
 refine yb fun k=>?_
 rw[zS]
 by_cases h:k < xs.length
 ·have h1:(rng 0 (xs.length:Int).toNat)[k]?=some (k:Int):=by
   unfold rng
   rw[zS,j0 (by omega)]
   simp
  rw[h1,Option.map_some,ad6 xs k h,zD h]
 ·rw[ZT (by rw[wI];omega),ZT (by omega)];rfl
theorem Rx (n_:LS_) (xs:List Int) (nd:n_.Nodup) (hl:n_.length < 60) (h0:0 < xs.length) (h1:xs.length<=1000):lA n_ xs/\Wd n_ (ji n_ xs)/\(ji n_ xs).flatten.Perm n_:=by
 have hx:(0:Int) < (xs.length:Int):=by omega
 have pos:(0:Int) < (if (n_.length:Int) > (1:Int) then (n_.length:Int) else (1:Int)):=by split<;>omega
 unfold ji lA
 dsimp only
 have G:=aa3 (fun v4:Int=>if (decide ((0:Int) < ((at' xs (0:Int)) % (3:Int))))=true then ((((at' xs (v4 % (xs.length:Int))) / ((1:Int)+(v4 / (xs.length:Int)))) % (if (n_.length:Int) > (1:Int) then (n_.length:Int) else (1:Int))) % (3:Int)) else (((at' xs (v4 % (xs.length:Int))) / ((1:Int)+(v4 / (xs.length:Int)))) % (if (n_.length:Int) > (1:Int) then (n_.length:Int) else (1:Int)))) (fun v4:Int=>at' n_ v4) (rng 0 (n_.length:Int).toNat)
 rw[aem] at G
 generalize Oi _ _ _=m at G
 have W:=aec G nd fun x h=>h
 have agl:∀ (w:List LS_),(∀ s∈w,s≠[])->w.length<=w.flatten.length:=fun w=>by
  induction w with
  |nil=>intro _;exact qE _
  |cons s w ih=>
   intro h
   have:=ih fun s hs=>h s (zh _ hs)
   have:=List.length_pos_iff.mpr (h s (ze ..))
   rw[qi,ZA,qh]
   omega
 have ml:m.length<=n_.length:=by
  have:=agl (m.map (·.2)) fun s hs=>by obtain⟨q,hq,rfl⟩:=List.mem_map.mp hs;exact G.ne q hq
  rw[zi,G.p.length_eq] at this;exact this
 have ql:∀ q∈m,q.2.length<=n_.length:=fun q hq=>by
  rw[<-G.p.length_eq]
  obtain⟨pre,rest,e⟩:=List.append_of_mem (List.mem_map.mpr ⟨q,hq,rfl⟩:q.2∈m.map (·.2))
  rw[e,List.flatten_append,qi]
  simp only[ZA];omega
 refine⟨⟨⟨⟨⟨rfl,JF (by omega) (by omega)⟩,by rw[wI];omega⟩,fun v hv=>?_⟩,⟨by rw[zi];omega,fun k hk=>?_⟩,by rw[zi,zi];omega,fun s hs=>?_⟩,W.1,W.2⟩
 ·obtain⟨k,hk,rfl⟩:=Tr hv
  have d0:(0:Int)<=(k:Int) / (xs.length:Int):=Int.ediv_nonneg (by omega) (by omega)
  have d1:(k:Int) / (xs.length:Int)<=k:=Int.ediv_le_self _ (by omega)
  exact⟨⟨⟨⟨⟨hx,Ar hx (by omega)⟩,hx,by omega⟩,by omega,by omega⟩,pos⟩,in_of (by decide) hx,Aq (by omega)⟩
 ·obtain⟨q,hq,rfl⟩:=List.mem_map.mp hk
  refine⟨List.any_eq_true.mpr ⟨q,hq,by simp⟩,?_⟩
  rw[Ga G.k hq]
  have:=ql q hq
  omega
 ·obtain⟨k,hk,rfl⟩:=List.mem_map.mp hs
  obtain⟨q,hq,rfl⟩:=List.mem_map.mp hk
  rw[Ga G.k hq]
  have:=G.ne q hq
  have hp:=(eV q.2).length_eq
  cases hz:fB q.2 with
  |nil=>rw[hz] at hp;exact absurd (List.length_eq_zero_iff.mp hp.symm) this
  |cons _ _=>rfl
inductive Cn (rs:List xK):Str->Str->Prop
 |r (x:Str):Cn rs x x
 |s {r:xK} {x:Str}:r∈rs->Cn rs x r.2.1->Cn rs x r.2.2.1
 |t {r:xK} {x:Str}:r∈rs->Cn rs x r.2.2.1->Cn rs x r.2.1
theorem Cn.trans {rs:List xK} {x y z:Str} (h:Cn rs x y) (h':Cn rs y z):Cn rs x z:=by
 induction h' with
 |r _=>exact h
 |s hr _ ih=>exact .s hr (ih h)
 |t hr _ ih=>exact .t hr (ih h)
theorem Cn.symm {rs:List xK} {x y:Str} (h:Cn rs x y):Cn rs y x:=by
 induction h with
 |r _=>exact .r _
 |s hr _ ih=>exact (Cn.t hr (.r _)).trans ih
 |t hr _ ih=>exact (Cn.s hr (.r _)).trans ih
theorem Cn.mono {rs rs':List xK} (hs:∀ r∈rs,r∈rs') {x y:Str} (h:Cn rs x y):Cn rs' x y:=by
 induction h with
 |r _=>exact .r _
 |s hr _ ih=>exact .s (hs _ hr) ih
 |t hr _ ih=>exact .t (hs _ hr) ih
structure St (n_:LS_) (rs:List xK) (m:List (Str×Str)):Prop where
 h:Hd n_ m
 l:Lst n_ m
 c:∀ x∈n_,∀ y∈n_,(look m x=look m y↔Cn rs x y)
theorem abd {n_:LS_} {rs:List xK} {m:List (Str×Str)} (i:St n_ rs m) (hr:Rs n_ rs) {r:xK} (ha:r.2.1∈n_) (hb:r.2.2.1∈n_):nZ m r/\d9 m r=jb m r/\St n_ (rs++[r]) (jb m r):=by
 have J:=aa6 (look m r.2.1) (look m r.2.2.1) i.h.kn i.h.ml
 have jl:∀ x∈n_,look (jb m r) x=jn (look m r.2.1) (look m r.2.2.1) (look m x):=fun x hx=>i.h.zU hx
 refine⟨⟨⟨i.h.has ha,i.h.has hb⟩,J.1⟩,J.2,i.h.join ha hb,i.l.jb i.h r,fun x hx y hy=>⟨fun e=>?_,fun e=>?_⟩⟩
 ·have up:∀ {u v:Str},Cn rs u v->Cn (rs++[r]) u v:=fun h=>h.mono fun r hr=>ku _ hr
  have hrm:r∈rs++[r]:=ZI _ (List.mem_singleton.mpr rfl)
  have toA:∀ u∈n_,(look m u=look m r.2.1\/look m u=look m r.2.2.1)->Cn (rs++[r]) u r.2.1:=fun u hu h=>by
   rcases h with h|h
   ·exact up ((i.c u hu _ ha).mp h)
   ·exact .t hrm (up ((i.c u hu _ hb).mp h))
  rw[jl x hx,jl y hy] at e
  unfold jn at e
  by_cases e1:look m x=look m r.2.1\/look m x=look m r.2.2.1
  ·by_cases e2:look m y=look m r.2.1\/look m y=look m r.2.2.1
   ·exact (toA x hx e1).trans (toA y hy e2).symm
   ·rw[zo e1,zv e2] at e
    rcases G5 (look m r.2.1) (look m r.2.2.1) with z|z
    ·exact absurd (.inl (e.symm.trans z)) e2
    ·exact absurd (.inr (e.symm.trans z)) e2
  ·by_cases e2:look m y=look m r.2.1\/look m y=look m r.2.2.1
   ·rw[zv e1,zo e2] at e
    rcases G5 (look m r.2.1) (look m r.2.2.1) with z|z
    ·exact absurd (.inl (e.trans z)) e1
    ·exact absurd (.inr (e.trans z)) e1
   ·rw[zv e1,zv e2] at e
    exact up ((i.c x hx y hy).mp e)
 ·have ends:∀ q∈rs++[r],look (jb m r) q.2.1=look (jb m r) q.2.2.1:=fun q hq=>by
   rcases List.mem_append.mp hq with h|h
   ·obtain⟨q1,q2⟩:=hr q h
    rw[jl _ q1,jl _ q2,(i.c _ q1 _ q2).mpr (.s h (.r _))]
   ·rw[List.mem_singleton.mp h,jl _ ha,jl _ hb]
    unfold jn
    rw[zo (.inl rfl),zo (.inr rfl)]
  clear hy hx
  induction e with
  |r _=>rfl
  |s h _ ih=>exact ih.trans (ends _ h)
  |t h _ ih=>exact ih.trans (ends _ h).symm
theorem TF {n_:LS_}:∀ (post pre:List xK) (m:List (Str×Str)),St n_ pre m->Rs n_ (pre++post)->qu (fun vr q1=>d9 vr q1) (fun vr q1=>some (nZ vr q1)) post m/\post.foldl (fun vr q1=>d9 vr q1) m=post.foldl jb m/\St n_ (pre++post) (post.foldl jb m)
 |[],pre,m,i,_=>⟨trivial,rfl,by rw[km];exact i⟩
 |r::post,pre,m,i,hr=>by
  obtain⟨ha,hb⟩:=hr r (ZI _ (ze ..))
  obtain⟨d,e,j⟩:=abd i (fun q hq=>hr q (ku _ hq)) ha hb
  have:=TF post (pre++[r]) (jb m r) j (by rw[QP];exact hr)
  rw[QP] at this
  obtain⟨a,b,c⟩:=this
  rw[QI,QI]
  refine⟨⟨d,?_⟩,?_,c⟩
  ·show qu _ _ post (d9 m r);rw[e];exact a
  ·show post.foldl _ (d9 m r)=_;rw[e];exact b
theorem YD {n_:LS_} (nd:n_.Nodup) (hl:n_.length < 1000) {rs:List xK} (hr:Rs n_ rs):uw n_ rs/\qK n_ rs=hb n_ rs/\St n_ rs (hb n_ rs):=by
 have s0:St n_ [] (cQ n_):=⟨hd0 nd hl,ajA nd hl,fun x hx y hy=>by
  rw[(zT n_ nd hl).2,sY nd hx,sY nd hy]
  refine⟨fun e=>by rw[e];exact .r _,fun h=>?_⟩
  cases h with
  |r _=>rfl
  |s h _=>cases h
  |t h _=>cases h⟩
 obtain⟨a,b,c⟩:=TF rs [] _ s0 hr
 exact⟨⟨(zT n_ nd hl).1,a⟩,b,c⟩
theorem YF {β:Type}:∀ (qs m:List (Str×β)),((m++qs).map (·.1)).Nodup->qs.foldl (fun m q=>put m q.1 q.2) m=m++qs
 |[],m,_=>by simp
 |q::qs,m,nd=>by
  have hn:¬ has m q.1=true:=fun e=>by
   rw[ZE,zl,qr] at nd
   exact nd.2.2 _ (rC.mp e) _ (ze ..) rfl
  have e:put m q.1 q.2=m++[q]:=by unfold put;rw[zv hn]
  rw[QI,e,YF qs (m++[q]) (by rw[QP];exact nd),QP];rfl
theorem YG {α:Type} {xs:List α} {q:Int×α}:q∈vK xs↔∃ k:Nat,q.1=(k:Int)/\xs[k]?=some q.2:=by
 unfold vK
 rw[List.mem_iff_getElem?]
 constructor
 ·rintro⟨k,h⟩
  rw[Kj] at h
  by_cases hk:k < xs.length
  ·rw[j0 hk,zD hk] at h
   simp only[Option.some.injEq] at h
   subst h
   exact⟨k,rfl,zD hk⟩
  ·rw[ZT (l:=xs) (by omega)] at h
   cases hr:(List.range xs.length)[k]?<;>rw[hr] at h<;>simp at h
 ·rintro⟨k,e,h⟩
  obtain⟨hk,e2⟩:=List.getElem?_eq_some_iff.mp h
  refine⟨k,?_⟩
  rw[Kj,j0 hk,h]
  obtain⟨a,b⟩:=q
  simp only at e
  rw[e]
theorem YH {α:Type} (xs:List α):(vK xs).map (·.2)=xs:=by
 unfold vK
 refine yb fun k=>?_
 rw[zS,Kj]
 by_cases hk:k < xs.length
 ·rw[j0 hk,zD hk];rfl
 ·rw[ZT (l:=xs) (by omega)]
  cases (List.range xs.length)[k]?<;>rfl
structure Pt (n_:LS_) (sets:List LS_):Prop where
 ne:∀ s∈sets,s≠[]
 so:∀ s∈sets,s.Pairwise qO
 pm:sets.flatten.Perm n_
def HP (sets:List LS_):List (Str×Int):=(vK sets).flatMap fun q1:(Int×LS_)=>(q1.2.map fun vm:Str=>(vm,q1.1))
theorem Dm (sets:List LS_):(HP sets).map (·.1)=sets.flatten:=by
 have:∀ es:List (Int×LS_),(es.flatMap fun q1:(Int×LS_)=>(q1.2.map fun vm:Str=>(vm,q1.1))).map (·.1)=(es.map (·.2)).flatten:=fun es=>by
  induction es with
  |nil=>rfl
  |cons q es ih=>
   rw[ya,ZE,ih,zl,qi,Zp]
   congr 1
   exact Q2 _
 unfold HP
 rw[this,YH]
section
variable {n_:LS_} {sets:List LS_} (p:Pt n_ sets) (nd:n_.Nodup)
include p nd
theorem Pt.fn:sets.flatten.Nodup:=p.pm.nodup_iff.mpr nd
theorem Pb:eY sets=HP sets:=by
 have:=YF (HP sets) [] (by rw[KG,Dm];exact p.fn nd)
 rw[KG] at this
 exact this
theorem Pg {k:Nat} {s:LS_} (hk:sets[k]?=some s) {x:Str} (hx:x∈s):look (eY sets) x=(k:Int):=by
 rw[Pb p nd]
 have:(x,(k:Int))∈HP sets:=List.mem_flatMap.mpr ⟨((k:Int),s),YG.mpr ⟨k,rfl,hk⟩,List.mem_map.mpr ⟨x,hx,rfl⟩⟩
 exact Dl (by rw[Dm];exact p.fn nd) this
theorem wK {x y:Str} (hx:x∈n_) (hy:y∈n_):look (eY sets) x=look (eY sets) y↔P1.same sets x y:=by
 obtain⟨s,hs,xs⟩:=List.mem_flatten.mp (p.pm.mem_iff.mpr hx)
 obtain⟨t,ht,yt⟩:=List.mem_flatten.mp (p.pm.mem_iff.mpr hy)
 obtain⟨i,hi⟩:=List.mem_iff_getElem?.mp hs
 obtain⟨j,hj⟩:=List.mem_iff_getElem?.mp ht
 rw[Pg p nd hi xs,Pg p nd hj yt]
 constructor
 ·intro e
  have:i=j:=by omega
  subst this
  rw[hi] at hj
  cases hj
  exact⟨s,hs,xs,yt⟩
 ·rintro⟨u,hu,xu,yu⟩
  have e1:=zy (p.fn nd) hs hu xs xu
  have e2:=zy (p.fn nd) ht hu yt yu
  subst e1 e2
  have n1:=FZ (p.fn nd) p.ne
  have:i=j:=by
   obtain⟨hi',ei⟩:=List.getElem?_eq_some_iff.mp hi
   obtain⟨hj',ej⟩:=List.getElem?_eq_some_iff.mp hj
   have pw:=List.pairwise_iff_getElem.mp n1
   rcases Nat.lt_trichotomy i j with z|z|z
   ·exact absurd (ei.trans ej.symm) (pw i j hi' hj' z)
   ·exact z
   ·exact absurd (ej.trans ei.symm) (pw j i hj' hi' z)
  rw[this]
theorem wL {x:Str} (hx:x∈n_):has (eY sets) x=true:=rC.mpr (by rw[Pb p nd,Dm];exact p.pm.mem_iff.mpr hx)
theorem abe (hl:n_.length < 64):qJ sets:=by
 refine⟨fun _ _ _ _=>trivial,?_⟩
 have:(HP sets).length=n_.length:=by rw[<-p.pm.length_eq,<-Dm,zi]
 show (HP sets).length < 1000
 omega
end
theorem Ry {P Q:List LS_} (h:P.Perm Q):fV P=fV Q:=S1.qU (fun _ _=>JD) ((fK P).trans (h.trans (fK Q).symm)) (oG P) (oG Q)
theorem abf {P:List LS_} (hne:P≠[]) (nd:P.Nodup) (h:∀ p∈P,∀ q∈P,p=q):P.length=1:=by
 match P,hne,nd,h with
 |[a],_,_,_=>rfl
 |a::b::l,_,nd,h=>
  have e:=h a (ze ..) b (zh _ (ze ..))
  exact absurd (by rw[e];exact ze ..) (List.nodup_cons.mp nd).1
theorem aen {n_:LS_} {rs:List xK} {P:List LS_} {m:List (Str×Str)} (st:St n_ rs m) (ph:PH n_ P m) (hne:n_≠[]):P.length=1↔∀ x∈n_,∀ y∈n_,Cn rs x y:=by
 constructor
 ·intro h x hx y hy
  match P,h,ph with
  |[a],_,ph=>
   obtain⟨q,hq,xq⟩:=ph.cov x hx
   obtain⟨q',hq',yq⟩:=ph.cov y hy
   have e1:=List.mem_singleton.mp hq
   have e2:=List.mem_singleton.mp hq'
   subst e1
   subst e2
   exact (st.c x hx y hy).mp ((ph.cls _ hq x xq y hy).mp yq)
 ·intro h
  obtain⟨x,hx⟩:=jv n_ hne
  obtain⟨q0,hq0,_⟩:=ph.cov x hx
  refine abf (List.ne_nil_of_mem hq0) ph.pn fun p hp q hq=>?_
  obtain⟨u,hu⟩:=jv p (ph.ne p hp)
  obtain⟨v,hv⟩:=jv q (ph.ne q hq)
  have un:=ph.sub p hp u hu
  have vn:=ph.sub q hq v hv
  exact ph.uni p hp q hq v ((ph.cls p hp u hu v vn).mpr ((st.c u un v vn).mpr (h u un v vn))) hv
theorem uF {q:LS_} {rs:List xK} {r:xK}:r∈bA q rs↔r∈rs/\r.2.1∈q/\r.2.2.1∈q:=by
 unfold bA
 rw[Q2,js,ZU,z5,z5]
theorem zV (vc:jO):∀ sets:List LS_,lO vc sets=true↔∀ q∈sets,dZ q vc.2.2=[]/\((gY q (bA q vc.2.1)).length:Int)=1
 |[]=>⟨fun _ _ h=>(by cases h),fun _=>rfl⟩
 |q::sets=>by
  have ih:=zV vc sets
  unfold lO at ih ⊢
  unfold qw
  by_cases c:dZ q vc.2.2=[]/\((gY q (bA q vc.2.1)).length:Int)=1
  ·have e:eE vc () q=.nx ():=by
    unfold eE
    rw[zv (by rw[qV c.1,qV c.2];decide)]
   rw[e]
   rw[ih]
   exact⟨fun h s hs=>by
    rcases List.mem_cons.mp hs with z|z
    ·rw[z];exact c
    ·exact h s z,fun h s hs=>h s (zh _ hs)⟩
  ·have e:eE vc () q=.rt false:=by
    unfold eE
    rw[zo ?_]
    rw[Bool.or_eq_true,qS,qS,Qb,Qb]
    by_cases c1:dZ q vc.2.2=[]
    ·exact .inr fun c2=>c ⟨c1,c2⟩
    ·exact .inl c1
   rw[e]
   exact⟨fun h=>(by cases h),fun h=>absurd (h q (ze ..)) c⟩
theorem Ph {α σ τ:Type} {step:σ->α->wV σ τ} {P:σ->α->Option Prop}:∀ (xs:List α) (s:σ),(∀ s x,x∈xs->hold (P s x))->wW step P xs s
 |[],_,_=>trivial
 |x::xs,s,h=>by
  refine⟨h s x (ze ..),?_⟩
  have ih:=fun s'=>Ph (step:=step) xs s' fun s y hy=>h s y (zh _ hy)
  cases step s x with
  |nx s'=>exact ih s'
  |ct s'=>exact ih s'
  |bk _=>trivial
  |rt _=>trivial
section
variable {n_:LS_} {rs:List xK} {bars:List (Str×Str×Int)} {sets:List LS_} (so:n_.Pairwise qO) (nd:n_.Nodup) (hl:n_.length < 64) (hr:Rs n_ rs) (hbs:∀ b∈bars,b.1∈n_/\b.2.1∈n_) (rl:rs.length < 64) (bl:bars.length < 64) (p:Pt n_ sets)
include nd hr p in
theorem uG {r:xK}:r∈bC sets rs↔r∈rs/\P1.same sets r.2.1 r.2.2.1:=by
 unfold bC
 dsimp only
 rw[Q2,js,z5]
 constructor
 ·rintro⟨h,e⟩;exact⟨h,(wK p nd (hr r h).1 (hr r h).2).mp e⟩
 ·rintro⟨h,e⟩;exact⟨h,(wK p nd (hr r h).1 (hr r h).2).mpr e⟩
include nd hr p in
theorem stay {q:LS_} (hq:q∈sets) {x y:Str} (hx:x∈q) (h:Cn (bC sets rs) x y):y∈q/\Cn (bA q rs) x y:=by
 induction h with
 |r _=>exact⟨hx,.r _⟩
 |s h _ ih=>
  obtain⟨h1,h2⟩:=ih hx
  obtain⟨h3,t,ht,a,b⟩:=(uG nd hr p).mp h
  have:=zy (p.fn nd) hq ht h1 a
  subst this
  exact⟨b,.s (uF.mpr ⟨h3,a,b⟩) h2⟩
 |t h _ ih=>
  obtain⟨h1,h2⟩:=ih hx
  obtain⟨h3,t,ht,a,b⟩:=(uG nd hr p).mp h
  have:=zy (p.fn nd) hq ht h1 b
  subst this
  exact⟨a,.t (uF.mpr ⟨h3,a,b⟩) h2⟩
include nd hr p in
theorem out {q:LS_} (hq:q∈sets) {x y:Str} (h:Cn (bA q rs) x y):Cn (bC sets rs) x y:=
 h.mono fun r hr'=>by
  obtain⟨h1,h2,h3⟩:=uF.mp hr'
  exact (uG nd hr p).mpr ⟨h1,q,hq,h2,h3⟩
include nd p in
theorem Pt.in {q:LS_} (hq:q∈sets) {x:Str} (hx:x∈q):x∈n_:=p.pm.mem_iff.mp (List.mem_flatten.mpr ⟨q,hq,hx⟩)
include nd p in
theorem Pt.of {x:Str} (hx:x∈n_):∃ q∈sets,x∈q:=List.mem_flatten.mp (p.pm.mem_iff.mpr hx)
include nd hl p in
theorem Pt.ql {q:LS_} (hq:q∈sets):q.Nodup/\q.length < 64:=by
 have n1:=Oj (p.fn nd) hq
 exact⟨n1,kD (FW n1 fun x hx=>p.in nd hq hx) hl⟩
include nd hl hr p in
theorem Hg {q:LS_} (hq:q∈sets):oK q (bA q rs)/\(((gY q (bA q rs)).length:Int)=1↔∀ x∈q,∀ y∈q,Cn (bA q rs) x y):=by
 obtain⟨qn,ql⟩:=p.ql nd hl hq
 have hR:Rs q (bA q rs):=fun r h=>(uF.mp h).2
 obtain⟨d,P,e,ph⟩:=G8 qn ql hR
 obtain⟨_,_,st⟩:=YD qn (by omega) hR
 refine⟨d,?_⟩
 rw[<-aen st ph (p.ne q hq),e,(fK P).length_eq]
 omega
include so nd hl hr p in
theorem Rz:ux n_ (bC sets rs)/\(nQ n_ (bC sets rs)=fV sets↔∀ q∈sets,((gY q (bA q rs)).length:Int)=1):=by
 have hR:Rs n_ (bC sets rs):=fun r h=>hr r ((uG nd hr p).mp h).1
 obtain⟨_,P,_,ph⟩:=G8 nd hl hR
 obtain⟨d,e,st⟩:=YD nd (by omega) hR
 refine⟨⟨d,by rw[e];exact (aa8 st.h).1⟩,?_⟩
 unfold nQ
 rw[e,abb so st.h st.l ph]
 constructor
 ·intro h q hq
  rw[(Hg nd hl hr p hq).2]
  intro x hx y hy
  have hqP:q∈P:=(fK P).mem_iff.mp (by rw[h];exact (fK sets).mem_iff.mpr hq)
  have yn:=p.in nd hq hy
  exact (stay nd hr p hq hx ((st.c x (p.in nd hq hx) y yn).mp ((ph.cls q hqP x hx y yn).mp hy))).2
 ·intro h
  have abV:∀ q∈sets,∀ s∈P,∀ x,x∈q->x∈s->q=s:=fun q hq s hs x xq xs=>by
   refine CT (yg (p.ql nd hl hq).1 (ph.nd s hs) fun y=>⟨fun hy=>?_,fun hy=>?_⟩) (p.so q hq) (ph.srt s hs)
   ·have yn:=p.in nd hq hy
    exact (ph.cls s hs x xs y yn).mpr ((st.c x (p.in nd hq xq) y yn).mpr (out nd hr p hq ((Hg nd hl hr p hq).2.mp (h q hq) x xq y hy)))
   ·have yn:=ph.sub s hs y hy
    exact (stay nd hr p hq xq ((st.c x (p.in nd hq xq) y yn).mp ((ph.cls s hs x xs y yn).mp hy))).1
  refine Ry (yg ph.pn (FZ (p.fn nd) p.ne) fun s=>⟨fun hs=>?_,fun hs=>?_⟩)
  ·obtain⟨x,hx⟩:=jv s (ph.ne s hs)
   obtain⟨q,hq,xq⟩:=p.of nd (ph.sub s hs x hx)
   rw[<-abV q hq s hs x xq hx];exact hq
  ·obtain⟨x,hx⟩:=jv s (p.ne s hs)
   obtain⟨t,ht,xt⟩:=ph.cov x (p.in nd hs hx)
   rw[abV s hs t ht x hx xt];exact ht
include nd hbs p in
theorem Vq:(gn sets bars).isEmpty=true↔∀ q∈sets,dZ q bars=[]:=by
 unfold gn dZ
 dsimp only
 rw[Q2,List.isEmpty_iff,List.filter_eq_nil_iff]
 constructor
 ·intro h q hq
  rw[Q2,List.filter_eq_nil_iff]
  intro b hb e
  rw[ZU,z5,z5] at e
  exact h b hb (qV ((wK p nd (hbs b hb).1 (hbs b hb).2).mpr ⟨q,hq,e.1,e.2⟩))
 ·intro h b hb e
  obtain⟨q,hq,a,c⟩:=(wK p nd (hbs b hb).1 (hbs b hb).2).mp (jI e)
  have:=h q hq
  rw[Q2,List.filter_eq_nil_iff] at this
  exact this b hb (by rw[qV a,qV c];rfl)
theorem Pj:∀ {w:List LS_},(∀ s∈w,s≠[])->w.length<=w.flatten.length
 |[],_=>qE _
 |s::w,h=>by
  have:=Pj fun s hs=>h s (zh _ hs)
  have:=List.length_pos_iff.mpr (h s (ze ..))
  rw[qi,ZA,qh]
  omega
include so nd hl hr hbs rl bl p in
theorem TJ:sU (n_,rs,bars) sets/\qM (n_,rs,bars) sets/\j6 (n_,rs,bars) sets=lO (n_,rs,bars) sets:=by
 have B:=Vq (bars:=bars) nd hbs p
 obtain⟨pd,pg⟩:=Rz so nd hl hr p
 have dh:=abe p nd hl
 have sl:sets.length < 64:=by
  have:=Pj p.ne
  rw[p.pm.length_eq] at this
  omega
 refine⟨⟨⟨dh,by show rs.length<=_;omega,fun r h=>⟨wL p nd (hr r h).1,wL p nd (hr r h).2⟩⟩,⟨dh,by show bars.length<=_;omega,fun b h=>⟨wL p nd (hbs b h).1,wL p nd (hbs b h).2⟩⟩,fun _=>⟨pd,sl,fun s hs=>?_⟩⟩,⟨Ph _ _ fun _ q hq=>⟨by show bars.length<=_;omega,fun _=>⟨by show rs.length<=_;omega,(Hg nd hl hr p hq).1⟩⟩,?_⟩,?_⟩
 ·have:=p.ne s hs
  cases s
  ·exact absurd rfl this
  ·rfl
 ·unfold wH
  split<;>trivial
 ·have G:=zV (n_,rs,bars) sets
  have I:j6 (n_,rs,bars) sets=true↔(gn sets bars).isEmpty=true/\nQ n_ (bC sets rs)=fV sets:=by
   unfold j6
   dsimp only
   rw[ZU,z5]
  rw[KI,G,I,B,pg]
  exact⟨fun h q hq=>⟨h.1 q hq,h.2 q hq⟩,fun h=>⟨fun q hq=>(h q hq).1,fun q hq=>(h q hq).2⟩⟩
end
def AB:Str:=("abcdefghi" : Str)
instance:DecidableRel qO:=fun a b=>inferInstanceAs (Decidable (_=false))
theorem RB:AB.length=9:=by decide +kernel
theorem YJ:(chars AB).Pairwise qO:=by decide +kernel
theorem agm:(chars AB).Nodup:=by decide +kernel
theorem abW:∀ i:Fin 9,ch AB (i.val:Int)∈chars AB:=by decide +kernel
theorem aeo:∀ k:Fin 8,chars (Txt.slice AB none (some (1+(k.val:Int))))=(chars AB).take (k.val+1)/\chars (Txt.slice AB (some (1+(k.val:Int))) none)=(chars AB).drop (k.val+1):=by decide +kernel
theorem aep:(∀ s∈[(chars (Txt.slice AB none (some (4:Int)))),[("e" : Str),("g" : Str)],[("f" : Str)],[("h" : Str),("i" : Str)]],s≠[]/\s.Pairwise qO)/\[(chars (Txt.slice AB none (some (4:Int)))),[("e" : Str),("g" : Str)],[("f" : Str)],[("h" : Str),("i" : Str)]].flatten.Perm (chars AB):=by decide +kernel
theorem aer:("a" : Str)∈chars AB/\("i" : Str)∈chars AB:=by decide +kernel
theorem Pk:∀ l:LS_,(l.map fun x:Str=>[x]).flatten=l
 |[]=>rfl
 |x::l=>by rw[zl,qi,Pk l];rfl
theorem YK (n_:LS_):Pt n_ (n_.map fun x:Str=>[x]):=by
 refine⟨fun s hs=>?_,fun s hs=>?_,by rw[Pk]⟩
 ·obtain⟨x,_,rfl⟩:=List.mem_map.mp hs;simp
 ·obtain⟨x,_,rfl⟩:=List.mem_map.mp hs;simp
theorem YL {n_:LS_} (so:n_.Pairwise qO) (hne:n_≠[]):Pt n_ [n_]:=by
 refine⟨fun s hs=>?_,fun s hs=>?_,by simp⟩
 ·rw[List.mem_singleton.mp hs];exact hne
 ·rw[List.mem_singleton.mp hs];exact so
theorem aes {n_:LS_} (so:n_.Pairwise qO) {k:Nat} (h0:0 < k) (h1:k < n_.length):Pt n_ [n_.take k,n_.drop k]:=by
 refine⟨fun s hs=>?_,fun s hs=>?_,by simp⟩
 ·simp only[Qr,QO,or_false] at hs
  rcases hs with e|e
  ·rw[e];intro z;have:=congrArg List.length z;rw[kf,List.length_nil] at this;omega
  ·rw[e];intro z;have:=congrArg List.length z;rw[Kt,List.length_nil] at this;omega
 ·simp only[Qr,QO,or_false] at hs
  rcases hs with e|e
  ·rw[e];exact so.sublist (List.take_sublist ..)
  ·rw[e];exact so.sublist (List.drop_sublist ..)
theorem YM (x:Int):fP x/\dR x=true:=by
 have L:=vL (P:=fun va v2=>some (fL x AB va v2)) (step:=fun va v2=>bx x AB va v2) (fun k va=>va.length=2 * k/\Rs (chars AB) va) 8 [] ⟨rfl,fun _ h=>(by cases h)⟩ fun k va hk h=>by
  have m9:=qy (x / 8) (m:=9) (by decide)
  have a1:=abW ⟨k,by omega⟩
  have a2:=abW ⟨k+1,by omega⟩
  have e2:(((⟨k+1,by omega⟩:Fin 9).val:Nat):Int)=(k:Int)+1:=rfl
  rw[e2] at a2
  have i1:In AB.length (k:Int):=Aq (by rw[RB];omega)
  have i2:In AB.length ((k:Int)+1):=in_of (by omega) (by rw[RB];omega)
  refine⟨⟨Yk m9.1 (by omega),⟨⟨i1,i2⟩,i1,i2⟩,wz (by simp;omega)⟩,?_,?_⟩
  ·unfold bx
   dsimp only
   rw[ZA]
   simp;omega
  ·intro r hr
   rcases List.mem_append.mp hr with h'|h'
   ·exact h.2 r h'
   ·simp only[Qr,QO,or_false] at h'
    rcases h' with e|e<;>rw[e]<;>exact⟨a1,a2⟩
 unfold fP dR
 dsimp only
 rw[show kN 8=8 from abP 8]
 have L1:qu (fun (va:(List aV)) (v2:Int)=>(bx x ("abcdefghi" : Str) va v2)) (fun (va:(List aV)) (v2:Int)=>some (fL x ("abcdefghi" : Str) va v2)) (rng 0 8) []:=L.1
 have L2:((rng 0 8).foldl (fun (va:(List aV)) (v2:Int)=>(bx x ("abcdefghi" : Str) va v2)) []).length=16/\Rs (chars AB) ((rng 0 8).foldl (fun (va:(List aV)) (v2:Int)=>(bx x ("abcdefghi" : Str) va v2)) []):=L.2
 generalize (rng 0 8).foldl (fun (va:(List aV)) (v2:Int)=>(bx x ("abcdefghi" : Str) va v2)) []=va at L2 ⊢
 have pm:=lF (e:=bI) va
 have rs:Rs (chars AB) (qx bI va):=fun r hr=>L2.2 r (pm.mem_iff.mp hr)
 have sl:(qx bI va).length=16:=by rw[pm.length_eq,L2.1]
 generalize qx bI va=vb at rs sl ⊢
 have R2:=Rs.turn rs
 have rl:(vb.map fun q1:aV=>(((0:Int) - q1.1),q1.2.1,q1.2.2.1,q1.2.2.2)).length < 64:=by rw[zi];omega
 have nl:(chars AB).length=9:=by rw[Av,RB]
 have good:∀ sets,Pt (chars AB) sets->fM (chars AB,(vb.map fun q1:aV=>(((0:Int) - q1.1),q1.2.1,q1.2.2.1,q1.2.2.2)),[(("a" : Str),("i" : Str),(2:Int))]) () sets/\bV (chars AB,(vb.map fun q1:aV=>(((0:Int) - q1.1),q1.2.1,q1.2.2.1,q1.2.2.2)),[(("a" : Str),("i" : Str),(2:Int))]) () sets=.nx ():=fun sets p=>by
  obtain⟨g1,g2,g3⟩:=TJ (bars:=[(("a" : Str),("i" : Str),(2:Int))]) YJ agm (by omega) R2 (fun b hb=>by rw[List.mem_singleton.mp hb];exact aer) rl (by decide) p
  refine⟨⟨g1,fun _=>g2⟩,?_⟩
  unfold bV
  dsimp only
  rw[g3]
  simp[P1.is_bool,eB]
 have m8:=qy x (m:=8) (by decide)
 obtain⟨k,hk,ek⟩:∃ k:Nat,k < 8/\x % 8=(k:Int):=⟨(x % 8).toNat,by omega,by omega⟩
 have c2:=aeo ⟨k,hk⟩
 have F:=FN (step:=fun (s2:Unit) (vg:(List LS_))=>((bV (chars AB,(vb.map fun q1:aV=>(((0:Int) - q1.1),q1.2.1,q1.2.2.1,q1.2.2.2)),[(("a" : Str),("i" : Str),(2:Int))]) s2 vg):wV (Unit) Bool)) (P:=fun (s2:Unit) (vg:(List LS_))=>some (fM (chars AB,(vb.map fun q1:aV=>(((0:Int) - q1.1),q1.2.1,q1.2.2.1,q1.2.2.2)),[(("a" : Str),("i" : Str),(2:Int))]) s2 vg)) [[(chars (Txt.slice AB none (some ((1:Int)+(x % (8:Int)))))),(chars (Txt.slice AB (some ((1:Int)+(x % (8:Int)))) none))],[(chars AB)],((chars AB).map fun vf:Str=>[vf]),[(chars (Txt.slice AB none (some (4:Int)))),[("e" : Str),("g" : Str)],[("f" : Str)],[("h" : Str),("i" : Str)]]] fun z hz=>by
  have pz:Pt (chars AB) z:=by
   simp only[Qr,QO,or_false] at hz
   rcases hz with e|e|e|e
   ·rw[e,ek,c2.1,c2.2];exact aes YJ (by simp) (by rw[nl];show k+1 < 9;omega)
   ·rw[e];exact YL YJ fun z=>by rw[z] at nl;cases nl
   ·rw[e];exact YK _
   ·rw[e];exact⟨fun s hs=>(aep.1 s hs).1,fun s hs=>(aep.1 s hs).2,aep.2⟩
  exact⟨(good z pz).1,.inl (good z pz).2⟩
 refine⟨⟨L1,by rw[L2.1];decide,by omega,⟨Zl (Nat.le_of_eq nl) (by decide),F.2⟩,?_⟩,?_⟩
 ·have:(wH (.nx ():wV Unit Bool) fun s2:Unit=>True):=trivial
  rw[<-F.1] at this
  exact this
 ·have:behind (.nx ():wV Unit Bool) (fun r=>r) (fun s2:Unit=>true)=true:=rfl
  rw[<-F.1] at this
  exact this
theorem YQ {n_:LS_} (nd:n_.Nodup) (hl:n_.length < 64) {rs:List xK} (hr:Rs n_ rs):n6 n_ rs/\Pt n_ (eF n_ rs):=by
 obtain⟨d,P,e,ph⟩:=G8 nd hl hr
 refine⟨d,?_⟩
 rw[show eF n_ rs=fV P from e]
 have pm:=fK P
 have fn:P.flatten.Nodup:=by
  have:∀ Q:List LS_,(∀ q∈Q,q∈P)->Q.Nodup->Q.flatten.Nodup:=fun Q=>by
   induction Q with
   |nil=>intro _ _;exact JI
   |cons s Q ih=>
    intro h n
    obtain⟨n1,n2⟩:=List.nodup_cons.mp n
    rw[qi,qr]
    refine⟨ph.nd s (h s (ze ..)),ih (fun q hq=>h q (zh _ hq)) n2,fun a ha b hb z=>?_⟩
    obtain⟨t,ht,bt⟩:=List.mem_flatten.mp hb
    have:=ph.uni s (h s (ze ..)) t (h t (zh _ ht)) a ha (z▸bt)
    exact n1 (this▸ht)
  exact this P (fun _ h=>h) ph.pn
 have pf:P.flatten.Perm n_:=yg fn nd fun x=>⟨fun h=>by
  obtain⟨q,hq,hx⟩:=List.mem_flatten.mp h
  exact ph.sub q hq x hx,fun h=>by
  obtain⟨q,hq,hx⟩:=ph.cov x h
  exact List.mem_flatten.mpr ⟨q,hq,hx⟩⟩
 exact⟨fun s hs=>ph.ne s (pm.mem_iff.mp hs),fun s hs=>ph.srt s (pm.mem_iff.mp hs),(JH pm).trans pf⟩
theorem agn (ns xs:List Int) (hn:ns.length<=63) (n_:LS_) (rs:List xK) (bars:List (Str×Str×Int)) (g:Gr (n_,rs,bars)) (ml:n_.length<=8):zR ns xs (n_,rs,bars)/\zQ ns xs (n_,rs,bars)=true:=by
 have nd:n_.Nodup:=g.nd
 have so:n_.Pairwise qO:=g.so
 have hr:Rs n_ rs:=g.rs
 have hbs:∀ b∈bars,b.1∈n_/\b.2.1∈n_:=g.bs
 have rl:rs.length < 64:=g.rl
 have bl:bars.length < 64:=g.bl
 obtain⟨pd,pp⟩:=YQ nd (by omega) hr
 have cl:=aaU ns (some (2:Int)) (some (9:Int))
 have ll:([(aO ns (1:Int))]++(cut ns (some (2:Int)) (some (9:Int)))).length<=64:=by simp;omega
 have p3:Pt n_ (cut [n_] none (some (n_.length:Int))):=by
  by_cases hz:n_=[]
  ·rw[hz];exact⟨fun _ h=>(by cases h),fun _ h=>(by cases h),.nil⟩
  ·have:cut [n_] none (some (n_.length:Int))=[n_]:=by
    have:=List.length_pos_iff.mpr hz
    have e:HT.jw [n_].length [n_].length (some (n_.length:Int))=1:=by
     unfold HT.jw
     simp only[List.length_singleton]
     split<;>omega
    unfold cut
    rw[e]
    rfl
   rw[this];exact YL so hz
 have F:=K4 (step:=fun (lB:(List (List LS_))) (v4:Int)=>(sW n_ lB v4)) (P:=fun (lB:(List (List LS_))) (v4:Int)=>some (GP n_ lB v4)) (fun k lB=>lB.length=3+k/\∀ s∈lB,Pt n_ s) ([(aO ns (1:Int))]++(cut ns (some (2:Int)) (some (9:Int)))) 0 [(eF n_ rs),(n_.map fun vf:Str=>[vf]),(cut [n_] none (some (n_.length:Int)))] ⟨rfl,fun s hs=>by
  simp only[Qr,QO,or_false] at hs
  rcases hs with e|e|e
  ·rw[e];exact pp
  ·rw[e];exact YK _
  ·rw[e];exact p3⟩ fun k v va hk h=>by
  have hk:k < 64:=Zs (List.getElem?_eq_some_iff.mp hk).1 ll
  obtain⟨n1,n2,_⟩:=Bh v 8 (by decide) (by decide)
  have n2:(aK v 8).length=8:=n2
  obtain⟨j1,j2,j3⟩:=Rx n_ (aK v 8) nd (by omega) (by omega) (by omega)
  refine⟨⟨⟨n1,j1⟩,wz (by omega)⟩,by show (va++[_]).length=_;rw[ZA,h.1];simp;omega,fun s hs=>?_⟩
  rcases List.mem_append.mp hs with z|z
  ·exact h.2 s z
  ·rw[List.mem_singleton.mp z];exact⟨j2.ne,j2.so,j3⟩
 obtain⟨F1,_,F2⟩:=F
 unfold zR zQ
 dsimp only
 unfold GX GR
 dsimp only
 generalize ([(aO ns (1:Int))]++(cut ns (some (2:Int)) (some (9:Int)))).foldl (fun (lB:(List (List LS_))) (v4:Int)=>(sW n_ lB v4)) [(eF n_ rs),(n_.map fun vf:Str=>[vf]),(cut [n_] none (some (n_.length:Int)))]=all at F2 ⊢
 have G:=FN (step:=fun (s1:Unit) (vg:(List LS_))=>((sX (n_,rs,bars) s1 vg):wV (Unit) Bool)) (P:=fun (s1:Unit) (vg:(List LS_))=>some (GQ (n_,rs,bars) s1 vg)) all fun z hz=>by
  obtain⟨g1,g2,g3⟩:=TJ so nd (by omega) hr hbs rl bl (F2 z hz)
  refine⟨⟨g1,fun _=>g2⟩,.inl ?_⟩
  unfold sX
  dsimp only
  rw[g3]
  simp[P1.is_bool,eB]
 rw[G.1]
 exact⟨⟨⟨pd,by omega⟩,⟨⟨GZ _ _ (by decide) (by decide),wz (by simp;omega)⟩,F1⟩,G.2,trivial⟩,rfl⟩
theorem YS (ns:List Int) (hn:ns.length<=63):O7 ns/\O6 ns=true:=by
 obtain⟨n1,n2,n3⟩:=Bh (aO ns 0) 9 (by decide) (by decide)
 have n2:(aK (aO ns 0) 9).length=9:=n2
 unfold O7 O6
 dsimp only
 generalize aK (aO ns 0) 9=xs at *
 have m1:=qy (at' xs 6) (m:=8) (by decide)
 have m2:=qy (at' xs 7) (m:=11) (by decide)
 have m3:=qy (at' xs 8) (m:=4) (by decide)
 obtain⟨gd,gg⟩:=Vp ns 0 (at' xs 6 % 8) (at' xs 7 % 11) (at' xs 8 % 4) (by decide) (by decide) m1.1 (by omega) m2.1 (by omega) m3.1 (by omega)
 have gl:(iQ ns 0 (at' xs 6 % 8) (at' xs 7 % 11) (at' xs 8 % 4)).1.length<=8:=by
  obtain⟨a,b,_⟩:=Bh (aO ns 0) 6 (by decide) (by decide)
  have b:(aK (aO ns 0) 6).length=6:=b
  have:=(O9 (aK (aO ns 0) 6) (by omega) (at' xs 6 % 8) m1.1 (by omega)).2.1
  show (fB (cV (aK (aO ns 0) 6) (at' xs 6 % 8))).length<=8
  rw[(eV _).length_eq,this]
  omega
 generalize iQ ns 0 (at' xs 6 % 8) (at' xs 7 % 11) (at' xs 8 % 4)=v at gd gg gl ⊢
 obtain⟨n_,rs,bars⟩:=v
 obtain⟨c1,c2⟩:=YM (at' xs 5)
 obtain⟨l1,l2⟩:=agn ns xs hn n_ rs bars gg gl
 have ix:∀ i:Nat,i < 9->In xs.length (i:Int):=fun i hi=>Aq (by omega)
 rw[c2]
 refine⟨⟨⟨GZ _ _ (by decide) (by decide),n1⟩,⟨ix 5 (by decide),c1⟩,fun _=>⟨⟨⟨ix 6 (by decide),ix 7 (by decide),ix 8 (by decide)⟩,gd⟩,l1⟩⟩,?_⟩
 rw[zv (by decide)]
 exact l2
theorem H1:∀ ns:List Int,ns.length<=63->rz [.z (.lst (ns.map .int))]=some (.z (.bl true)):=(abT YS).1
theorem H2:∀ ns:List Int,ns.length<=63->rz [.l (ns.map .int)]=some (.z (.bl true)):=(abT YS).2
end G29
end
open PySem PySem.W PyProof.Rows
def PySem.W.Fast.tw17418501635353949929:=0
def PySem.W.Fast.tw8419520420831927387:=0
def PySem.W.Fast.tw9265106442740036311:=0
set_option maxRecDepth 100000 in
set_option maxHeartbeats 0 in
theorem PySem.Challenge.cw_onefolk_k29_good_joinings_holds : PySem.Challenge.rw_onefolk_k29_good_joinings.Holds := by
 w_on;refine PySem.W.holds_law (by decide +kernel) fun said=>?_
 k_head;(case hw=>w_witness2)
 k_fill
 refine G29.walk (l:=PySem.Challenge.rw_onefolk_k29_good_joinings) rfl rfl G29.H1 G29.H2 (fun w h Y=>PySem.W.kIn_of Y) ?F
 case F=>
  intro w mg fa h KX G hmg
  refine' G29.all_mk KX G hmg ?a0 ?l0 ?c0 ?k0 ?a1 ?l1 ?c1 ?k1 ?a2 ?l2 ?c2 ?k2 ?a3 ?l3 ?c3 ?k3 ?a4 ?l4 ?c4 ?k4 ?a5 ?l5 ?c5 ?k5 ?a6 ?l6 ?c6 ?k6 ?a7 ?l7 ?c7 ?k7 ?a8 ?l8 ?c8 ?k8 ?a9 ?l9 ?c9 ?k9 ?a10 ?l10 ?c10 ?k10 ?a11 ?l11 ?c11 ?k11 ?a12 ?l12 ?c12 ?k12 ?a13 ?l13 ?c13 ?k13 ?a14 ?l14 ?c14 ?k14 ?a15 ?l15 ?c15 ?k15 ?a16 ?l16 ?c16 ?k16 ?a17 ?l17 ?c17 ?k17 ?a18 ?l18 ?c18 ?k18 ?a19 ?l19 ?c19 ?k19 ?Oq ?Az ?oJ ?Ot ?jZ ?uL ?yh ?vO ?Gn ?mO ?JQ ?gM ?gw
  (case a0=>k_is);(case l0=>k_is);(case c0=>k_is);(case k0=>k_is)
  (case a1=>k_is);(case l1=>k_is);(case c1=>k_is);(case k1=>k_is)
  (case a2=>k_is);(case l2=>k_is);(case c2=>k_is);(case k2=>k_is)
  (case a3=>k_is);(case l3=>k_is);(case c3=>k_is);(case k3=>k_is)
  (case a4=>k_is);(case l4=>k_is);(case c4=>k_is);(case k4=>k_is)
  (case a5=>k_is);(case l5=>k_is);(case c5=>k_is);(case k5=>k_is)
  (case a6=>k_is);(case l6=>k_is);(case c6=>k_is);(case k6=>k_is)
  (case a7=>k_is);(case l7=>k_is);(case c7=>k_is);(case k7=>k_is)
  (case a8=>k_is);(case l8=>k_is);(case c8=>k_is);(case k8=>k_is)
  (case a9=>k_is);(case l9=>k_is);(case c9=>k_is);(case k9=>k_is)
  (case a10=>k_is);(case l10=>k_is);(case c10=>k_is);(case k10=>k_is)
  (case a11=>k_is);(case l11=>k_is);(case c11=>k_is);(case k11=>k_is)
  (case a12=>k_is);(case l12=>k_is);(case c12=>k_is);(case k12=>k_is)
  (case a13=>k_is);(case l13=>k_is);(case c13=>k_is);(case k13=>k_is)
  (case a14=>k_is);(case l14=>k_is);(case c14=>k_is);(case k14=>k_is)
  (case a15=>k_is);(case l15=>k_is);(case c15=>k_is);(case k15=>k_is)
  (case a16=>k_is);(case l16=>k_is);(case c16=>k_is);(case k16=>k_is)
  (case a17=>k_is);(case l17=>k_is);(case c17=>k_is);(case k17=>k_is)
  (case a18=>k_is);(case l18=>k_is);(case c18=>k_is);(case k18=>k_is)
  (case a19=>k_is);(case l19=>k_is);(case c19=>k_is);(case k19=>k_is)
  (case Oq=>k_is)
  (case Az=>k_is)
  (case oJ=>k_is)
  (case Ot=>k_is)
  (case jZ=>k_is)
  (case uL=>k_is)
  (case yh=>k_is)
  (case vO=>k_is)
  (case Gn=>k_is)
  (case mO=>k_is)
  (case JQ=>k_is)
  (case gM=>k_is)
  (case gw=>k_is)
