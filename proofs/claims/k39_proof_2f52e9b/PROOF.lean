import PyProof.Rows.All
import Wide.All
import OpenK.AllK
import Wide.FinOn
import PyProof.EqAt
import PyProof.EqKinds
import PyProof.TupleCall
import PyProof.StrLoop
import PyProof.StrWalks
import PyProof.CompFree
import PyProof.NeKinds
import PyProof.Rows.RuleN_isinstance
import PyProof.ConsumeWalk
import PyProof.IsiPairs
import PyProof.IsiSeqPairs
import PyProof.IsiHeapPairs
import PyProof.IsiNone
import PyProof.PureStr
import PyProof.StrCalls
import PyProof.Rows.SortStr
import PyProof.Rows.StrJoin2
import PyProof.CallStr
import PyProof.WalkInts
import PyProof.Rows.StrDigits
import PyProof.DictWalks
import PyProof.DictTruth
import PyProof.CollectWalk
import PyProof.WalkLemmas
import PyProof.Rows.SortShellK
import PyProof.Rows.SortWalk
import PyProof.SetKind
import PyProof.FactsAll.set
import PyProof.Rows.SetFrom
import PyProof.TupleKey
import PyProof.IsRules
import PyProof.WalksMore
import PyProof.SetRoads
import PyProof.DictCompW
import PyProof.ListRange
import PyProof.FString5
import PyProof.MeetsSeq2
import PyProof.FactsAll.tuple_0
import PyProof.FactsAll.tuple_2
import PyProof.FactsAll.tuple_3
import PyProof.EnumFor
import PyProof.EnumMake
import PyProof.EnumStmt
import PyProof.Rows.EnumRows
import PyProof.SumWalk
import PyProof.Rows.SeqCalls
import KE.KRevSl
import PyProof.ZipIter
import PyProof.TupleIter
import PyProof.AttrMiss
import KE.KDictOf
import KE.KDictLaws
import Lean
import PySem.Challenge.RW_onefolk_k39_asks_and_answers
set_option maxRecDepth 100000
set_option maxHeartbeats 4000000
set_option linter.all false
set_option Elab.async false
section
open PySem PySem.Spec PyProof.Rows
abbrev zb:=@wpAny_bind
abbrev zd:=@wpAny_pure
abbrev ze:=@Heap.get?_push_of_some
abbrev zg:=@List.mem_cons_of_mem
abbrev zh:=@List.mem_cons_self
abbrev zi:=@List.length_map
abbrev zk:=@Nat.le_refl
abbrev zl:=@List.map_cons
abbrev zo:=@if_pos
abbrev zr:=@Heap.get?_push_size
abbrev zt:=@List.size_toArray
abbrev zv:=@Nat.le_trans
abbrev zw:=@Heap.lt_size
abbrev zz:=@Bool.false_eq_true
abbrev zC:=@Bool.false_ne_true
abbrev zD:=@Nat.le_of_ble_eq_true
abbrev zI:=@Nat.ne_of_lt
abbrev zS:=@if_neg
abbrev z4:=@List.getElem?_map
abbrev z5:=@Nat.lt_of_lt_of_le
abbrev Zl:=@List.mem_append_right
abbrev Zp:=@List.map_append
abbrev Zs:=@List.length_append
abbrev ZA:=@List.getElem?_eq_getElem
abbrev ZE:=@List.map_map
abbrev ZH:=@wpAny_mono
abbrev ZI:=@List.flatten_cons
abbrev ZN:=@decide_eq_false
abbrev ZO:=@List.getElem?_append_left
abbrev ZT:=@PySem.W.mg_none_of
abbrev ZU:=@List.getElem?_eq_none
abbrev ZY:=@List.map_congr_left
abbrev Z3:=@Heap.size_push
abbrev qa:=@wpAny_newObj_type
abbrev qc:=@List.not_mem_nil
abbrev qf:=@List.length_cons
abbrev qh:=@List.mem_cons
abbrev qi:=@Or.inr
abbrev qk:=@if_false
abbrev qo:=@PySem.W.mg_of
abbrev qq:=@Bool.and_eq_true
abbrev qr:=@Nat.lt_succ_of_lt
abbrev qv:=@Nat.zero_le
abbrev qA:=@List.getElem?_append_right
abbrev qB:=@Nat.le_of_lt
abbrev qE:=@Array.length_toList
abbrev qS:=@List.nodup_append
abbrev qV:=@List.append_assoc
abbrev Qb:=@List.nodup_nil
abbrev Qr:=@wpAny_call_entry
abbrev QA:=@Nat.lt_succ_self
abbrev QE:=@List.any_eq_true
abbrev QI:=@List.mem_append_left
abbrev QN:=@List.getElem?_replicate
abbrev QO:=@wpAny_typeOf
abbrev QP:=@Or.inl
abbrev QQ:=@List.all_eq_true
abbrev QR:=@Ne.symm
abbrev QU:=@wpAny_holding
abbrev QY:=@decide_eq_true_eq
abbrev Q1:=@Heap.get?_update_ne
abbrev Q2:=@List.any_cons
abbrev Q3:=@if_true
abbrev Q4:=@List.rel_of_pairwise_cons
abbrev ja:=@Option.some.inj
abbrev jb:=@List.length_set
abbrev jn:=@List.flatMap_cons
abbrev js:=@wpAny_comprehension_free
abbrev jv:=@PySem.mem_of_lookup
abbrev jI:=@decide_eq_false_iff_not
abbrev jS:=@List.map_nil
abbrev j0:=@Nat.lt_of_le_of_lt
abbrev j3:=@List.find?_cons
abbrev Jn:=@wpAny_standAt
abbrev JA:=@Nat.lt_irrefl
abbrev JE:=@List.all_cons
abbrev JI:=@List.lookup_cons_self
abbrev JJ:=@wpAny_setState_of
abbrev JO:=@Bool.not_eq_true'
abbrev JP:=@wpAny_rule
abbrev JS:=@Nat.le_succ
abbrev JU:=@decide_eq_true
abbrev JY:=@List.mem_of_getElem?
abbrev ka:=@decide_false
abbrev kb:=@List.getElem?_range
abbrev kc:=@codeAny_builtin
abbrev ke:=@List.nil_append
abbrev kf:=@List.foldl_cons
abbrev kg:=@List.cons.injEq
abbrev ki:=@Bool.eq_iff_iff
abbrev kl:=@wpAny_getItem_str_slice
abbrev kn:=@PySem.F.plainAttrs_list
abbrev ko:=@Nat.ne_of_gt
abbrev kq:=@wpAny_truthy_bool
abbrev kr:=@of_decide_eq_true
abbrev ku:=@Array.size_append
abbrev kz:=@List.length_take
abbrev kA:=@List.length_drop
abbrev kB:=@List.getElem_mem
abbrev kC:=@Bool.and_true
abbrev kD:=@decide_true
abbrev kF:=@wpAny_passesOwn
abbrev kK:=@List.any_map
abbrev kL:=@Obj.data_mapFields
abbrev kM:=@List.drop_eq_getElem_cons
abbrev kP:=@Calls.call_function_entry
abbrev kQ:=@List.reverse_cons
abbrev kR:=@List.pairwise_map
abbrev kU:=@List.getElem?_set
abbrev kX:=@Int.toNat_natCast
abbrev Kb:=@F.plain_list_iadd
abbrev Ki:=@wpAny_newList
abbrev Kj:=@PySem.F.args_tuple_add_2
abbrev Kk:=@List.Pairwise.imp_of_mem
abbrev Kn:=@wpAny_askSetting
abbrev Kt:=@List.filter_cons
abbrev Kx:=@wpAny_callSpecial?_slot
abbrev KA:=@PySem.F.entry_tuple_add
abbrev KB:=@List.pairwise_mergeSort
abbrev KF:=@List.getElem?_cons_succ
end
section
namespace L2
open PySem PySem.Spec PyProof.Rows
abbrev Key:=Sum Int Str
def jk:Key->Value->Bool
 |.inl k,v=>Value.isInt k v
 |.inr x,v=>Value.isStrOf x v
def abR (w:World):Key->Int
 |.inl k=>hashInt k
 |.inr x=>hashStr w x
theorem bw:∀ {k:Key} {v:Value},jk k v=true->(∃ i t,k=Sum.inl i/\v=Value.int i t)\/(∃ x t,k=Sum.inr x/\v=Value.str x t)
 |.inl i,v,h=>by
  obtain⟨t,e⟩:=Value.isInt_shape (k:=i) (v:=v) h
  exact .inl ⟨i,t,rfl,e⟩
 |.inr x,v,h=>by
  obtain⟨t,e⟩:=Value.isStrOf_shape (x:=x) (v:=v) h
  exact .inr ⟨x,t,rfl,e⟩
theorem Lh (i:Int) (t:Tok):jk (.inl i) (.int i t)=true:=by simp[jk,Value.isInt]
theorem Li (x:Str) (t:Tok):jk (.inr x) (.str x t)=true:=by simp[jk,Value.isStrOf]
theorem Wq (a b:Int):decide ((Sum.inl a:Key)=Sum.inl b)=(a==b):=by
 by_cases e:a=b
 ·subst e;simp
 ·have h:¬ (Sum.inl a:Key)=Sum.inl b:=fun q=>e (Sum.inl.inj q)
  rw[ZN h]
  exact (beq_eq_false_iff_ne.mpr e).symm
theorem Wr (a b:Str):decide ((Sum.inr a:Key)=Sum.inr b)=decide (a=b):=by
 by_cases e:a=b
 ·subst e;simp
 ·have h:¬ (Sum.inr a:Key)=Sum.inr b:=fun q=>e (Sum.inr.inj q)
  rw[ZN h,ZN e]
theorem Wt (a:Int) (b:Str):decide ((Sum.inl a:Key)=Sum.inr b)=false:=ZN (fun q=>nomatch q)
theorem Wu (a:Str) (b:Int):decide ((Sum.inr a:Key)=Sum.inl b)=false:=ZN (fun q=>nomatch q)
def bM (prog:Program) (w:World):PySem.KeyKind prog w Key where
 is:=jk
 hash:=abR w
 inj:=fun v a b ha hb=>by
  rcases bw ha with⟨i,t,rfl,rfl⟩|⟨x,t,rfl,rfl⟩
  ·rcases bw hb with⟨j,u,rfl,e⟩|⟨y,u,rfl,e⟩
   ·injection e with e1 _;rw[e1]
   ·exact nomatch e
  ·rcases bw hb with⟨j,u,rfl,e⟩|⟨y,u,rfl,e⟩
   ·exact nomatch e
   ·injection e with e1 _;rw[e1]
 byValue:=fun k v h=>by
  rcases bw h with⟨i,t,rfl,rfl⟩|⟨x,t,rfl,rfl⟩<;>rfl
 pyHash:=fun hv h=>by
  rcases bw hv with⟨i,t,rfl,rfl⟩|⟨x,t,rfl,rfl⟩
  ·exact wpAny_pyHash_int h
  ·exact wpAny_pyHash_str h
 eqBool:=fun hu hv h=>by
  rcases bw hu with⟨i,t,rfl,rfl⟩|⟨x,t,rfl,rfl⟩
  ·rcases bw hv with⟨j,u,rfl,rfl⟩|⟨y,u,rfl,rfl⟩
   ·rw[Wq] at h;exact wpAny_eqBool_int h
   ·rw[Wt] at h;exact SeqAt.EqAt.int_str i t y u _ _ _ _ h
  ·rcases bw hv with⟨j,u,rfl,rfl⟩|⟨y,u,rfl,rfl⟩
   ·rw[Wu] at h;exact SeqAt.EqAt.str_int x t j u _ _ _ _ h
   ·rw[Wr] at h;exact wpAny_eqBool_str h
 «strs»:=fun k x t v h=>by
  rcases bw h with⟨i,u,rfl,e⟩|⟨y,u,rfl,e⟩
  ·exact nomatch e
  ·injection e with e1 _
   subst e1
   cases v<;>rfl
theorem El (prog:Program) (w:World) (i:Int) (t:Tok):(bM prog w).is (.inl i) (.int i t)=true:=Lh i t
theorem Em (prog:Program) (w:World) (x:Str) (t:Tok):(bM prog w).is (.inr x) (.str x t)=true:=Li x t
end L2
namespace L2
open PySem PySem.Spec PyProof.Rows
inductive V where
 |non|bl (b:Bool)|int (i:Int)|str (x:Str)|ZK (b:Array UInt8)|flt (b:UInt64)|ref (a:Addr)|ty (n:String)
 deriving DecidableEq
def RelV:V->Value->Prop
 |.non,u=>u=Value.none
 |.bl b,u=>u=Value.bool b
 |.int i,u=>∃ t,u=Value.int i t
 |.str x,u=>∃ t,u=Value.str x t
 |.ZK b,u=>∃ t,u=Value.bytes b t
 |.flt b,u=>∃ t,u=Value.float b t
 |.ref a,u=>u=Value.ref a
 |.ty n,u=>u=Value.type n
abbrev Vals:List V->List Value->Prop:=Paired RelV
theorem Vals.length {xs:List V} {us:List Value} (r:Vals xs us):xs.length=us.length:=Paired.length r
theorem Vals.get:∀ {xs:List V} {us:List Value} {i:Nat} {x:V},Vals xs us->xs[i]?=some x->∃ u,us[i]?=some u/\RelV x u
 |_,_,_,_,.nil,e=>by simp at e
 |_,_,0,_,.cons r _,e=>by simp at e;subst e;exact⟨_,rfl,r⟩
 |_,_,i+1,x,.cons _ t,e=>by
  obtain⟨u,h1,h2⟩:=Vals.get (i:=i) (x:=x) t (by simpa using e)
  exact⟨u,by simpa using h1,h2⟩
theorem Vals.set {x:V} {u:Value} (r:RelV x u):∀ {xs:List V} {us:List Value} (i:Nat),Vals xs us->Vals (xs.set i x) (us.set i u)
 |_,_,_,.nil=>.nil
 |_,_,0,.cons _ t=>.cons r t
 |_,_,i+1,.cons q t=>.cons q (Vals.set r i t)
theorem Vals.append:∀ {xs ys:List V} {us ws:List Value},Vals xs us->Vals ys ws->Vals (xs++ys) (us++ws)
 |_,_,_,_,.nil,s=>s
 |_,_,_,_,.cons r t,s=>.cons r (Vals.append t s)
theorem Vals.take:∀ {xs:List V} {us:List Value} (n:Nat),Vals xs us->Vals (xs.take n) (us.take n)
 |_,_,0,_=>.nil
 |_,_,_+1,.nil=>.nil
 |_,_,n+1,.cons r t=>.cons r (Vals.take n t)
theorem Vals.drop:∀ {xs:List V} {us:List Value} (n:Nat),Vals xs us->Vals (xs.drop n) (us.drop n)
 |_,_,0,r=>r
 |_,_,_+1,.nil=>.nil
 |_,_,n+1,.cons _ t=>Vals.drop n t
def xu:Option V->Option Value->Prop
 |some v,some u=>RelV v u
 |none,none=>True
 |_,_=>False
def KV {κ:Type}:List (κ×V)->List (κ×Value)->Prop:=Paired fun (p:κ×V) (q:κ×Value)=>p.1=q.1/\RelV p.2 q.2
def kV:Key->V
 |.inl i=>.int i
 |.inr x=>.str x
inductive HO where
 |lst (xs:List V)
 |tup (xs:List V)
 |dK (kvs:List (Key×V))|dT (kvs:List (List Key×V))
 |set (S:Int->Bool) (n:Nat)
 |ins (C dx:Addr) (fs:List (Str×V))
 |own (x:Addr)
 |xd (fs:List (Str×V))
 |met (f x:Addr)
 |rng (lo hi:Int)
 |lq (o:Obj) (u:HO)
 |Wv (ps:Array Value)
 |ext (φ:Heap->Prop)
abbrev Hp:=Addr->Option HO
def upd (H:Hp) (a:Addr) (o:HO):Hp:=fun b=>if b=a then some o else H b
theorem aP {H:Hp} {a:Addr} {o:HO}:upd H a o a=some o:=by unfold upd;rw[zo rfl]
theorem aC {H:Hp} {a b:Addr} {o:HO} (h:b≠a):upd H a o b=H b:=by unfold upd;rw[zS h]
def pQ (h:Heap) (a:Addr) (items:Array Value):Prop:=∃ o,h.get? a=some o/\o.cls=.type "tuple" ∧ (∃ n,o.data=.seq items n)/\o.dict=none
theorem pQ.weak {h:Heap} {a:Addr} {items:Array Value} (x:pQ h a items):IsTup h a items:=let ⟨o,e,c,d,_⟩:=x;⟨o,e,c,d⟩
theorem pQ.new (h:Heap) (items:Array Value):pQ (h.push { cls:=.type "tuple", data:=.seq items }) h.objs.size items:=⟨_,zr _ rfl,rfl,⟨_,rfl⟩,rfl⟩
theorem j9 {H:Hp} {a b:Addr} {o u:HO} (h:H a=some o) (h':H b=some u) (d:o≠u):a≠b:=by
 intro e;subst e;rw[h] at h';exact d (ja h')
theorem bQ {H:Hp} {a b:Addr} {o:HO} (h:H a=some o) (h':H b=none):a≠b:=by
 intro e;subst e;rw[h] at h';cases h'
section
variable (P:Program) (w:World)
def dX (H:Hp) (h:Heap) (a:Addr):HO->Prop
 |.lst xs=>xs.length<=sizeLine/\∃ (its:List Value) (n:Nat),Vals xs its/\h.get? a=some { cls:=.type "list", data:=.seq its.toArray n }
 |.tup xs=>xs.length<=sizeLine/\∃ its:List Value,Vals xs its/\pQ h a its.toArray
 |.dK kvs=>kvs.length<=sizeLine/\(a==sysModules)=false/\∃ vs,KV kvs vs/\h.DictOf (bM P w) a vs
 |.dT kvs=>kvs.length<=sizeLine/\(a==sysModules)=false/\∃ xs:List (List Key×Addr×Value),
   Paired (fun (p:List Key×V) (q:List Key×Addr×Value)=>p.1=q.1/\H q.2.1=some (.tup (p.1.map kV))/\RelV p.2 q.2.2) kvs xs ∧
   ∃ o es ep,h.get? a=some o/\o.ExactDict/\o.data=.dict es ep/\es.toList=xs.map (entryOfKey (tupleKind (bM P w)))/\(xs.map (·.1)).Nodup
 |.set S n=>h.SetOf (intKind P w) a S n
 |.ins C dx fs=>H dx=some (.own a)/\fs.length<=1000/\dx≠a/\h.get? a=some (PySem.W.instObj C dx) ∧
   ∃ mA,h.Ns1 dx mA/\(∀ f,xu (fs.lookup f) (mA f))/\PySem.Within mA (fs.map (·.1))
 |.own _=>∃ o,h.get? a=some o
 |.xd fs=>∃ mA,h.Ns1 a mA/\∀ f,xu (fs.lookup f) (mA f)
 |.rng lo hi=>∃ t u v,h.get? a=some { cls:=.type "range", data:=.fields #[.int lo t,.int hi u,.int 1 v] }
 |.lq o u=>h.get? a=some o/\dX H h a u
 |.Wv ps=>h.get? a=some { cls:=.none,data:=.fields ps }
 |.met f x=>h.get? a=some (PySem.W.methodObj (.ref f) (.ref x))
 |.ext φ=>φ h/\(∃ o,h.get? a=some o)/\∀ h1 h2:Heap,φ h1->(∀ o,h1.get? a=some o->h2.get? a=some o)->φ h2
def tM (H:Hp) (h:Heap):Prop:=∀ a o,H a=some o->dX P w H h a o
end
section
variable {P:Program} {w:World} {H H':Hp} {h h':Heap} {a:Addr} {o:HO}
theorem dX.lt (x:dX P w H h a o):a < h.objs.size:=by
 cases o with
 |lst xs=>obtain⟨_,_,_,_,e⟩:=x;exact zw e
 |tup xs=>obtain⟨_,_,_,p⟩:=x;exact p.weak.lt
 |dK kvs=>obtain⟨_,_,_,_,o,_,_,e,_⟩:=x;exact zw e
 |dT kvs=>obtain⟨_,_,_,_,o,_,_,e,_⟩:=x;exact zw e
 |set S n=>obtain⟨o,_,_,_,e,_⟩:=x;exact zw e
 |ins C dx fs=>obtain⟨_,_,_,e,_⟩:=x;exact zw e
 |own y=>obtain⟨_,e⟩:=x;exact zw e
 |xd fs=>obtain⟨_,⟨_,_,_,e,_⟩,_⟩:=x;exact zw e
 |rng lo hi=>obtain⟨_,_,_,e⟩:=x;exact zw e
 |lq ob u=>obtain⟨e,_⟩:=x;exact zw e
 |Wv ps=>exact zw (show h.get? a=some _ from x)
 |met f y=>exact zw (show h.get? a=some _ from x)
 |ext φ=>obtain⟨_,⟨_,e⟩,_⟩:=x;exact zw e
theorem Paired.RZ {α β:Type} {F G:α->β->Prop}:∀ {l₁:List α} {l₂:List β},Paired F l₁ l₂->(∀ a b,F a b->G a b)->Paired G l₁ l₂
 |_,_,.nil,_=>.nil
 |_,_,.cons r t,f=>.cons (f _ _ r) (Paired.RZ t f)
theorem Paired.imp' {α β:Type} {F G:α->β->Prop} (f:∀ a b,F a b->G a b) {l₁:List α} {l₂:List β} (r:Paired F l₁ l₂):Paired G l₁ l₂:=Paired.RZ r f
theorem dX.stay (x:dX P w H h a o) (k:∀ b u,(b=a\/H b=some (.own a))->h.get? b=some u->h'.get? b=some u)
  (ho:∀ b,H b=some (.own a)->H' b=some (.own a)) (ht:∀ b xs,H b=some (.tup xs)->H' b=some (.tup xs)):dX P w H' h' a o:=by
 induction o with
 |lst xs=>obtain⟨z,its,n,r,e⟩:=x;exact⟨z,its,n,r,k _ _ (.inl rfl) e⟩
 |tup xs=>obtain⟨z,its,r,ob,e,c⟩:=x;exact⟨z,its,r,ob,k _ _ (.inl rfl) e,c⟩
 |dK kvs=>obtain⟨z,y,vs,r,ob,es,ep,e,c⟩:=x;exact⟨z,y,vs,r,ob,es,ep,k _ _ (.inl rfl) e,c⟩
 |dT kvs=>
  obtain⟨z,y,xs,r,ob,es,ep,e,c⟩:=x
  exact⟨z,y,xs,Paired.RZ r fun p q z=>⟨z.1,ht _ _ z.2.1,z.2.2⟩,ob,es,ep,k _ _ (.inl rfl) e,c⟩
 |set S n=>obtain⟨ob,es,ep,t,e,c⟩:=x;exact⟨ob,es,ep,t,k _ _ (.inl rfl) e,c⟩
 |ins C dx fs=>
  obtain⟨d,z,ne,e,mA,⟨od,es,ep,e2,c⟩,r⟩:=x
  exact⟨ho _ d,z,ne,k _ _ (.inl rfl) e,mA,⟨od,es,ep,k _ _ (.inr d) e2,c⟩,r⟩
 |own y=>obtain⟨ob,e⟩:=x;exact⟨ob,k _ _ (.inl rfl) e⟩
 |xd fs=>obtain⟨mA,⟨od,es,ep,e,c⟩,r⟩:=x;exact⟨mA,⟨od,es,ep,k _ _ (.inl rfl) e,c⟩,r⟩
 |rng lo hi=>obtain⟨t,u,v,e⟩:=x;exact⟨t,u,v,k _ _ (.inl rfl) e⟩
 |lq ob u ih=>obtain⟨e,q⟩:=x;exact⟨k _ _ (.inl rfl) e,ih q⟩
 |Wv ps=>
  have e:h.get? a=some { cls:=.none,data:=.fields ps }:=x
  show h'.get? a=some { cls:=.none,data:=.fields ps }
  exact k a _ (.inl rfl) e
 |met f y=>
  have e:h.get? a=some (PySem.W.methodObj (.ref f) (.ref y)):=x
  show h'.get? a=some (PySem.W.methodObj (.ref f) (.ref y))
  exact k a _ (.inl rfl) e
 |ext φ=>obtain⟨p,⟨o,e⟩,st⟩:=x;exact⟨st _ _ p fun o q=>k _ _ (.inl rfl) q,⟨o,k _ _ (.inl rfl) e⟩,st⟩
theorem tM.lt (x:tM P w H h) (e:H a=some o):a < h.objs.size:=(x a o e).lt
theorem tM.fresh (x:tM P w H h) (e:h.objs.size<=a):H a=none:=by
 cases q:H a with
 |none=>rfl
 |some u=>exact absurd (z5 (x.lt q) e) (JA _)
theorem tM.kept (x:tM P w H h) (k:∀ b u,h.get? b=some u->h'.get? b=some u):tM P w H h':=fun a o e=>
 (x a o e).stay (fun b u _ q=>k b u q) (fun _ q=>q) fun _ _ q=>q
theorem tM.laid (x:tM P w H h) (k:∀ b u,h.get? b=some u->h'.get? b=some u) (hp:h.objs.size<=a) (new:dX P w (upd H a o) h' a o):tM P w (upd H a o) h':=fun b u e=>by
 have hn:=x.fresh hp
 by_cases hb:b=a
 ·subst hb;rw[aP] at e;cases e;exact new
 ·rw[aC hb] at e
  exact (x b u e).stay (fun c v _ q=>k c v q) (fun c q=>by rw[aC (bQ q hn)];exact q) fun c xs q=>by rw[aC (bQ q hn)];exact q
end
def Rd (H:Hp) (a:Addr) (u:HO):Prop:=H a=some u\/∃ o,H a=some (.lq o u)
theorem Rd.of {H:Hp} {a:Addr} {u:HO} (h:H a=some u):Rd H a u:=.inl h
theorem Rd.ok {P:Program} {w:World} {H:Hp} {h:Heap} {a:Addr} {u:HO} (r:Rd H a u) (x:tM P w H h):dX P w H h a u:=by
 rcases r with r|⟨o,r⟩
 ·exact x a u r
 ·obtain⟨_,q⟩:=x a _ r
  exact q
def ZL:Option HO->Prop
 |some (.lst _)=>True
 |some (.dK _)=>True
 |some (.dT _)=>True
 |some (.set _ _)=>True
 |some (.ins _ _ _)=>True
 |some (.ext _)=>True
 |_=>False
section
variable {P:Program} {w:World} {H:Hp} {h h':Heap} {x e:Addr} {o':HO}
theorem tM.write (ok:tM P w H h) (mu:ZL (H x)) (he:e=x\/H e=some (.own x)) (k:∀ b u,b≠e->h.get? b=some u->h'.get? b=some u) (heo:∃ u,h'.get? e=some u)
  (new:dX P w (upd H x o') h' x o'):tM P w (upd H x o') h':=fun b u q=>by
 have ZM:∀ c y,H c=some (.own y)->c≠x:=fun c y r z=>by subst z;rw[r] at mu;exact mu
 have abS:∀ c xs,H c=some (.tup xs)->c≠x:=fun c xs r z=>by subst z;rw[r] at mu;exact mu
 by_cases hb:b=x
 ·subst hb;rw[aP] at q;cases q;exact new
 ·rw[aC hb] at q
  by_cases hbe:b=e
  ·have q':H b=some (.own x):=by
    rcases he with z|z
    ·exact absurd (hbe.trans z) hb
    ·rw[hbe];exact z
   rw[q] at q';cases q'
   obtain⟨v,hv⟩:=heo
   exact⟨v,by rw[hbe];exact hv⟩
  ·refine (ok b u q).stay (fun c v hc r=>k c v ?_ r) (fun c r=>by rw[aC (ZM c b r)];exact r) fun c xs r=>by rw[aC (abS c xs r)];exact r
   rcases hc with rfl|hc
   ·exact hbe
   ·rintro rfl
    rcases he with z|z
    ·exact ZM c b hc z
    ·rw[hc] at z;cases z;exact hb rfl
end
structure Un (fs ex:List Addr) (H H':Hp) (h h':Heap):Prop where
 keep:∀ b o,h.get? b=some o->H b=none->b∉fs->b∉ex->h'.get? b=some o
 slot:∀ b o,h.get? b=some o->H b=none->b∈fs->b∉ex->∃ sl,h'.get? b=some { o with slots:=sl }
 free:∀ b o,h.get? b=some o->H b=none->b∉ex->H' b=none
 there:∀ b o,h.get? b=some o->b∉ex->∃ o',h'.get? b=some o'
 tups:∀ b xs,H b=some (.tup xs)->H' b=some (.tup xs)
 q8:∀ b o u,H b=some (.lq o u)->H' b=some (.lq o u)
 tR:∀ b ps,H b=some (.Wv ps)->∃ more,H' b=some (.Wv (ps++more))
section
variable {fs fs' ex ex':List Addr} {H H1 H2:Hp} {h h1 h2 h':Heap} {a x e:Addr} {o:HO}
theorem Un.any (u:Un fs ex H H1 h h1) {b:Addr} {ob:Obj} (q:h.get? b=some ob) (n:H b=none) (hx:b∉ex):∃ sl,h1.get? b=some { ob with slots:=sl }:=by
 by_cases hb:b∈fs
 ·exact u.slot b ob q n hb hx
 ·exact⟨ob.slots,u.keep b ob q n hb hx⟩
theorem Un.trans (a:Un fs ex H H1 h h1) (b:Un fs ex H1 H2 h1 h2):Un fs ex H H2 h h2 where
 keep:=fun c ob q n hc hx=>b.keep c ob (a.keep c ob q n hc hx) (a.free c ob q n hx) hc hx
 slot:=fun c ob q n hc hx=>by
  obtain⟨sl,e1⟩:=a.slot c ob q n hc hx
  obtain⟨sl',e2⟩:=b.slot c _ e1 (a.free c ob q n hx) hc hx
  exact⟨sl',e2⟩
 free:=fun c ob q n hx=>by
  obtain⟨o',e1⟩:=a.there c ob q hx
  exact b.free c o' e1 (a.free c ob q n hx) hx
 there:=fun c ob q hx=>by
  obtain⟨o',e1⟩:=a.there c ob q hx
  exact b.there c o' e1 hx
 tups:=fun c xs q=>b.tups c xs (a.tups c xs q)
 q8:=fun c ob xs q=>b.q8 c ob xs (a.q8 c ob xs q)
 tR:=fun c ps q=>by
  obtain⟨m1,e1⟩:=a.tR c ps q
  obtain⟨m2,e2⟩:=b.tR c _ e1
  exact⟨m1++m2,by rw[e2,Array.append_assoc]⟩
theorem Un.kept (k:∀ b u,h.get? b=some u->h'.get? b=some u):Un fs ex H H h h':=
 ⟨fun b ob q _ _ _=>k b ob q,fun b ob q _ _ _=>⟨ob.slots,k b ob q⟩,fun _ _ _ n _=>n,fun b ob q _=>⟨ob,k b ob q⟩,fun _ _ q=>q,fun _ _ _ q=>q,fun _ ps q=>⟨#[],by rw[q];simp⟩⟩
theorem Un.refl:Un fs ex H H h h:=Un.kept fun _ _ q=>q
theorem Un.laid (k:∀ b u,h.get? b=some u->h'.get? b=some u) (hp:h.objs.size<=a) (hn:H a=none):Un fs ex H (upd H a o) h h' where
 keep:=fun b u q _ _ _=>k b u q
 slot:=fun b u q _ _ _=>⟨u.slots,k b u q⟩
 free:=fun b u q n _=>by rw[aC (zI (z5 (zw q) hp))];exact n
 there:=fun b u q _=>⟨u,k b u q⟩
 tups:=fun b xs q=>by rw[aC (bQ q hn)];exact q
 q8:=fun b u xs q=>by rw[aC (bQ q hn)];exact q
 tR:=fun b ps q=>⟨#[],by rw[aC (bQ q hn),q];simp⟩
theorem Un.write (mu:ZL (H x)) (he:e=x\/H e=some (.own x)) (k:∀ b u,b≠e->h.get? b=some u->h'.get? b=some u) (heo:∃ u,h'.get? e=some u):Un fs ex H (upd H x o) h h':=by
 have hx:∀ b,H b=none->b≠x:=fun b n z=>by subst z;rw[n] at mu;exact mu
 have hb:∀ b,H b=none->b≠e:=fun b n z=>by
  subst z
  rcases he with r|r
  ·exact hx b n r
  ·rw[n] at r;cases r
 have hm:∀ b u,H b=some u->¬ ZL (some u)->b≠x:=fun b u q nm z=>by subst z;rw[q] at mu;exact nm mu
 refine⟨fun b u q n _ _=>k b u (hb b n) q,fun b u q n _ _=>⟨u.slots,k b u (hb b n) q⟩,fun b u q n _=>by rw[aC (hx b n)];exact n,fun b u q _=>?_,
  fun b xs q=>by rw[aC (hm b _ q fun z=>z)];exact q,fun b u xs q=>by rw[aC (hm b _ q fun z=>z)];exact q,fun b ps q=>⟨#[],by rw[aC (hm b _ q fun z=>z),q];simp⟩⟩
 by_cases hbe:b=e
 ·subst hbe;exact heo
 ·exact⟨u,k b u hbe q⟩
theorem Un.mono (u:Un fs ex H H1 h h1) (hs:∀ b∈fs,b∈fs') (hx:∀ b∈ex,b∈ex'):Un fs' ex' H H1 h h1:=
 ⟨fun b ob q n hb he=>u.keep b ob q n (fun z=>hb (hs b z)) fun z=>he (hx b z),fun _ _ q n _ he=>u.any q n fun z=>he (hx _ z),fun b ob q n he=>u.free b ob q n fun z=>he (hx b z),fun b ob q he=>u.there b ob q fun z=>he (hx b z),u.tups,u.q8,u.tR⟩
end
def trk (h:Heap) (H:Hp):List Addr:=(List.range h.objs.size).filter fun a=>(H a).isSome
def Cd (h:Heap) (H:Hp):Heap:=PySem.W.hideAll h (trk h H)
theorem Lj (h:Heap) (H:Hp):(Cd h H).objs.size=h.objs.size:=PySem.W.hideAll_size _ _
theorem N5 {h:Heap} {H:Hp} {b:Addr} {o:Obj} (e:h.get? b=some o) (n:H b=none):(Cd h H).get? b=some o:=
 PySem.W.hideAll_get _ e fun hm=>by
  have q:(H b).isSome=true:=(List.mem_filter.mp hm).2
  rw[n] at q;simp at q
theorem R0 {h:Heap} {H:Hp} {b:Addr} {o:Obj} (e:(Cd h H).get? b=some o):h.get? b=some o/\H b=none:=by
 have e':h.get? b=some o:=PySem.W.of_hideAll (trk h H) e
 refine⟨e',?_⟩
 cases q:H b with
 |none=>rfl
 |some x=>
  have hm:b∈trk h H:=List.mem_filter.mpr ⟨List.mem_range.mpr (zw e'),by simp[q]⟩
  have z:(Cd h H).get? b=none:=PySem.W.hideAll_none (trk h H) hm
  rw[z] at e;cases e
def R3 (g h:Heap) (L:Addr):List (Addr×Obj):=(List.range h.objs.size).filterMap fun a=>if a=L\/(g.get? a).isSome=true then none else (h.get? a).map fun o=>(a,o)
def rest (g h:Heap) (L d:Addr):List (Addr×Obj):=(R3 g h L).filter fun p=>decide (p.1≠d)
end L2
namespace L2
open PySem PySem.Spec PyProof.Rows
structure Mod (K:PySem.W.Frag) (mg:Str->Option Value) (base:Heap):Prop where
 kin:K.In base
 glob:base.Ns mainGlobals mg
 blt:∃ mb,base.Ns builtinsNs mb/\∀ x:Str,x ≠ "__name__" → mb x=bootBuiltins x
 nolimit:base.NoLimit
structure Cx where
 prog:Program
 w:World
 K:PySem.W.Frag
 mg:Str->Option Value
 base:Heap
 A:Around
 N:List Str
 s₀:Shared
 H₀:Hp
 env:Env
 outer:List Env
 stack:List Env
 ex:List Addr
 fn:Str->Bool
 calm:Bool
 pn:List (Addr×Obj)
 xe:Value->Shared->Prop
def frs (l:List Env):List Addr:=l.filterMap (·.frame)
abbrev Cx.fs (X:Cx):List Addr:=frs X.outer
def Hv (sc:Scope) (x:Str):Prop:=sc.names.lookup x=some .local\/sc.names.lookup x=some .cell\/sc.names.lookup x=some .free
def Loc (sc:Scope) (x:Str):Prop:=sc.names.lookup x=some .local\/sc.names.lookup x=some .cell
def Look (env:Env) (h:Heap) (m:Str->Option Value) (x:Str) (u:Value):Prop:=
 (env.kindOf x=some .local/\m x=some u)\/((env.kindOf x=some .cell\/env.kindOf x=some .free)/\∃ c,env.cells.lookup x=some c/\h.IsCell c (some u))
structure Cx.Ok (X:Cx):Prop where
 mod:Mod X.K X.mg X.base
 kind:X.env.scope.kind=.function
 glob:X.env.globals=mainGlobals
 blt:X.env.builtins=builtinsNs
 above:X.s₀.heap.objs.size<=X.env.locals
 inj:∀ x y c,X.env.cells.lookup x=some c->X.env.cells.lookup y=some c->x=y
 has:∀ x,(X.env.kindOf x=some .cell\/X.env.kindOf x=some .free)->∃ c,X.env.cells.lookup x=some c
 cab:∀ x c,X.fn x=true->X.env.cells.lookup x=some c->X.s₀.heap.objs.size<=c
 hd:X.calm=true->X.A.handled=none
 frames:X.A.frames=some X.stack
 stk:X.stack=X.outer\/(X.stack=X.env::X.outer/\X.env.frame=some X.env.locals)
 exf:∀ b∈X.ex,b≠X.env.locals/\∀ x c,X.env.cells.lookup x=some c->c≠b
 bs:∀ b o,X.base.get? b=some o->X.s₀.heap.get? b=some o/\X.H₀ b=none
 RT:X.base.objs.size<=X.s₀.heap.objs.size
 N6:∀ b o,X.base.get? b=some o->b∉X.ex
 R4:∀ b∈X.ex,b∉X.fs
 xG:X.s₀.heap.FunFrames X.base X.outer
 Ww:∀ b∈X.fs,X.H₀ b=none
structure Inv (X:Cx) (pins:List (Addr×Obj)) (σ:List (Option V)) (H:Hp) (s:Shared):Prop where
 ok:X.Ok
 os:s.os=X.s₀.os
 bare:AllBare s.gens
 base:Un X.fs X.ex X.H₀ H X.s₀.heap s.heap
 loc:∃ m,s.heap.Ns X.env.locals m/\∀ (i:Nat) (x:Str) (v:V),X.N[i]?=some x->σ[i]?=some (some v)->Hv X.env.scope x->∃ u,RelV v u/\Look X.env s.heap m x u
 cell:∀ x c,X.env.cells.lookup x=some c->∃ v,s.heap.IsCell c v
 free:H X.env.locals=none
 lV:∀ x c,X.env.cells.lookup x=some c->H c=none
 pin:∀ p∈X.pn++pins,s.heap.get? p.1=some p.2/\H p.1=none/\p.1≠X.env.locals/\p.1∉X.fs/\∀ v,p.2.data≠.cell v
 hok:tM X.prog X.w H s.heap
 len:σ.length=X.N.length
section
variable {X:Cx} {pins:List (Addr×Obj)} {σ:List (Option V)} {H H':Hp} {s:Shared} {h':Heap}
theorem Cx.Ok.abU (ok:X.Ok) {b:Addr} {o:Obj} (e:X.base.get? b=some o):b∉X.fs:=fun hb=>by
 have:=(ok.xG.mem hb).1
 rw[e] at this;cases this
theorem Inv.bs (I:Inv X pins σ H s):∀ b o,X.base.get? b=some o->s.heap.get? b=some o/\H b=none:=fun b o e=>
 ⟨I.base.keep b o (I.ok.bs b o e).1 (I.ok.bs b o e).2 (I.ok.abU e) (I.ok.N6 b o e),I.base.free b o (I.ok.bs b o e).1 (I.ok.bs b o e).2 (I.ok.N6 b o e)⟩
theorem Inv.bk (I:Inv X pins σ H s):∀ b o,X.base.get? b=some o->s.heap.get? b=some o:=fun b o e=>(I.bs b o e).1
theorem Inv.mod (I:Inv X pins σ H s):Mod X.K X.mg X.base:=I.ok.mod
theorem Inv.Zq (I:Inv X pins σ H s):X.K.In s.heap:=I.ok.mod.kin.keeps I.bk
theorem Inv.nolimit (I:Inv X pins σ H s):s.heap.NoLimit:=I.ok.mod.nolimit.keeps I.bk
theorem Inv.fr (I:Inv X pins σ H s):∃ m,Fr X.base X.env.locals s.heap m:=
 let ⟨m,hn,_⟩:=I.loc
 ⟨m,hn,I.bk,zv I.ok.RT I.ok.above⟩
theorem Inv.lt (I:Inv X pins σ H s):X.env.locals < s.heap.objs.size:=let ⟨_,hn,_⟩:=I.loc;hn.lt
theorem Inv.sz (I:Inv X pins σ H s):X.s₀.heap.objs.size<=s.heap.objs.size:=zv I.ok.above (qB I.lt)
theorem Inv.abV (I:Inv X pins σ H s) {a:Addr} (h:s.heap.objs.size<=a):a∉X.fs:=fun hb=>by
 obtain⟨_,o,ho,_⟩:=I.ok.xG.mem hb
 exact absurd (z5 (zw ho) (zv I.sz h)) (JA _)
theorem Inv.Wx (I:Inv X pins σ H s):∀ x c,X.env.cells.lookup x=some c->c≠X.env.locals:=fun x c e z=>by
 obtain⟨v,o,ho,hd⟩:=I.cell x c e
 obtain⟨m,⟨o',es,ep,ho',hd',_⟩,_⟩:=I.loc
 rw[z,ho'] at ho;cases ho;rw[hd'] at hd;cases hd
theorem Inv.xG (I:Inv X pins σ H s):s.heap.FunFrames X.base X.outer:=by
 have all:∀ (l:List Env),(∀ b∈frs l,b∈X.fs)->X.s₀.heap.FunFrames X.base l->s.heap.FunFrames X.base l:=by
  intro l
  induction l with
  |nil=>intro _ _;trivial
  |cons env r ih=>
   intro hs hl
   obtain⟨hk,⟨L,o,hf,hn,ho,hd⟩,hr⟩:=hl
   have hL:L∈X.fs:=hs L (by unfold frs;rw[List.filterMap_cons,hf];exact zh)
   obtain⟨sl,e⟩:=I.base.slot L o ho (I.ok.Ww L hL) hL fun z=>I.ok.R4 L z hL
   exact⟨hk,⟨L,_,hf,hn,e,hd⟩,ih (fun b hb=>hs b (by unfold frs;rw[List.filterMap_cons,hf];exact zg _ hb)) hr⟩
 exact all X.outer (fun _ hb=>hb) I.ok.xG
theorem Inv.stack (I:Inv X pins σ H s):s.heap.FunFrames X.base X.stack:=by
 rcases I.ok.stk with e|⟨e,hf⟩
 ·rw[e];exact I.xG
 ·rw[e]
  obtain⟨m,hn,_⟩:=I.loc
  refine .cons (by rw[I.ok.kind];decide) hf hn ?_ I.xG
  exact Heap.get?_none_of_le (zv I.ok.RT I.ok.above)
theorem Inv.Ce (I:Inv X pins σ H s):∀ b∈frs X.stack,b∈X.env.locals::X.fs:=fun b hb=>by
 rcases I.ok.stk with e|⟨e,hf⟩
 ·rw[e] at hb;exact zg _ hb
 ·rw[e] at hb
  unfold frs at hb
  rw[List.filterMap_cons,hf] at hb
  exact hb
theorem Inv.J2 (I:Inv X pins σ H s):∀ b∈frs X.stack,H b=none:=fun b hb=>by
 rcases List.mem_cons.mp (I.Ce b hb) with e|hb
 ·rw[e];exact I.free
 ·obtain⟨_,o,ho,_⟩:=I.ok.xG.mem hb
  exact I.base.free b o ho (I.ok.Ww b hb) fun z=>I.ok.R4 b z hb
theorem Inv.step {g':Array GenState} {t':Nat} {d':Drawn} {ch:List Addr} (I:Inv X pins σ H s)
  (hch:∀ b∈ch,(b∈X.ex\/X.s₀.heap.objs.size<=b)/\b≠X.env.locals/\(∀ x c,X.env.cells.lookup x=some c->c≠b)/\∀ p∈X.pn++pins,p.1≠b)
  (keep:∀ b o,b≠X.env.locals->b∉X.fs->b∉ch->s.heap.get? b=some o->H b=none->h'.get? b=some o)
  (slot:∀ b o,b≠X.env.locals->b∈X.fs->b∉ch->s.heap.get? b=some o->H b=none->∃ sl,h'.get? b=some { o with slots:=sl }) (free:∀ b o,b∉ch->s.heap.get? b=some o->H b=none->H' b=none)
  (there:∀ b o,b∉ch->s.heap.get? b=some o->∃ o',h'.get? b=some o')
  (tups:∀ b xs,H b=some (.tup xs)->H' b=some (.tup xs)) (q8:∀ b o u,H b=some (.lq o u)->H' b=some (.lq o u)) (tR:∀ b ps,H b=some (.Wv ps)->∃ more,H' b=some (.Wv (ps++more)))
  (ns:∀ m,s.heap.Ns X.env.locals m->h'.Ns X.env.locals m) (hok:tM X.prog X.w H' h') (hg:AllBare g') :
  Inv X pins σ H' { s with heap:=h',gens:=g',drawn:=d',toks:=t' }:=by
 have neL:∀ b o,X.s₀.heap.get? b=some o->b≠X.env.locals:=fun b o e=>zI (z5 (zw e) I.ok.above)
 have neC:∀ b o,X.s₀.heap.get? b=some o->b∉X.ex->b∉ch:=fun b o e hx hb=>by
  rcases (hch b hb).1 with z|z
  ·exact hx z
  ·exact absurd (z5 (zw e) z) (JA _)
 have cellK:∀ x c,X.env.cells.lookup x=some c->∀ v,s.heap.IsCell c v->h'.IsCell c v:=fun x c e v ⟨o,ho,hd⟩=>by
  have ZP:c∉ch:=fun z=>(hch c z).2.2.1 x c e rfl
  by_cases hc:c∈X.fs
  ·obtain⟨sl,q⟩:=slot c o (I.Wx x c e) hc ZP ho (I.lV x c e)
   exact⟨_,q,hd⟩
  ·exact⟨o,keep c o (I.Wx x c e) hc ZP ho (I.lV x c e),hd⟩
 refine⟨I.ok,I.os,hg,⟨fun b o e n hb hx=>?_,fun b o e n hb hx=>?_,fun b o e n hx=>?_,fun b o e hx=>?_,fun b xs e=>tups b xs (I.base.tups b xs e),fun b o xs e=>q8 b o xs (I.base.q8 b o xs e),fun b ps e=>?_⟩,?_,fun x c e=>?_,?_,fun x c e=>?_,fun p hp=>?_,hok,I.len⟩
 ·exact keep b o (neL b o e) hb (neC b o e hx) (I.base.keep b o e n hb hx) (I.base.free b o e n hx)
 ·obtain⟨sl,e1⟩:=I.base.slot b o e n hb hx
  obtain⟨sl',e2⟩:=slot b _ (neL b o e) hb (neC b o e hx) e1 (I.base.free b o e n hx)
  exact⟨sl',e2⟩
 ·obtain⟨o',e1⟩:=I.base.there b o e hx
  exact free b o' (neC b o e hx) e1 (I.base.free b o e n hx)
 ·obtain⟨o',e1⟩:=I.base.there b o e hx
  exact there b o' (neC b o e hx) e1
 ·obtain⟨m1,e1⟩:=I.base.tR b ps e
  obtain⟨m2,e2⟩:=tR b _ e1
  exact⟨m1++m2,by rw[e2,Array.append_assoc]⟩
 ·obtain⟨m,hn,hl⟩:=I.loc
  refine⟨m,ns m hn,fun i x v e1 e2 e3=>?_⟩
  obtain⟨u,r,l⟩:=hl i x v e1 e2 e3
  refine⟨u,r,?_⟩
  rcases l with l|⟨k,c,e,z⟩
  ·exact .inl l
  ·exact .inr ⟨k,c,e,cellK x c e _ z⟩
 ·obtain⟨v,z⟩:=I.cell x c e
  exact⟨v,cellK x c e v z⟩
 ·obtain⟨m,⟨o,_,_,ho,_⟩,_⟩:=I.loc
  exact free _ o (fun z=>(hch _ z).2.1 rfl) ho I.free
 ·obtain⟨v,o,ho,hd⟩:=I.cell x c e
  exact free c o (fun z=>(hch c z).2.2.1 x c e rfl) ho (I.lV x c e)
 ·obtain⟨e,n,ne,nf,d⟩:=I.pin p hp
  have ZP:p.1∉ch:=fun z=>(hch p.1 z).2.2.2 p hp rfl
  exact⟨keep p.1 p.2 ne nf ZP e n,free p.1 p.2 ZP e n,ne,nf,d⟩
theorem Inv.un {t':Nat} (I:Inv X pins σ H s) (u:Un X.fs [] H H' s.heap h') (hok:tM X.prog X.w H' h'):Inv X pins σ H' { s with heap:=h',toks:=t' }:=by
 obtain⟨m,⟨o,es,ep,ho,r⟩,_⟩:=id I.loc
 obtain⟨sl,hL⟩:=u.any ho I.free (by simp)
 exact I.step (g':=s.gens) (d':=s.drawn) (ch:=[]) (fun _ z=>nomatch z) (fun b o _ hb _ e n=>u.keep b o e n hb (by simp)) (fun b o _ hb _ e n=>u.slot b o e n hb (by simp)) (fun b o _ e n=>u.free b o e n (by simp)) (fun b o _ e=>u.there b o e (by simp)) u.tups u.q8 u.tR (fun m' hm=>by
  obtain⟨o',es',ep',ho',r'⟩:=hm
  rw[ho] at ho';cases ho'
  exact⟨_,es',ep',hL,r'⟩) hok I.bare
theorem Inv.call {g':Array GenState} {t':Nat} {d':Drawn} {ch:List Addr} (I:Inv X pins σ H s) (u:Un (frs X.stack) ch H H' s.heap h') (hok:tM X.prog X.w H' h') (hg:AllBare g')
  (hch:∀ b∈ch,(b∈X.ex\/X.s₀.heap.objs.size<=b)/\b≠X.env.locals/\(∀ x c,X.env.cells.lookup x=some c->c≠b)/\∀ p∈X.pn++pins,p.1≠b) :
  Inv X pins σ H' { s with heap:=h',gens:=g',drawn:=d',toks:=t' }:=by
 obtain⟨m,⟨o,es,ep,ho,r⟩,_⟩:=id I.loc
 obtain⟨sl,hL⟩:=u.any ho I.free fun z=>(hch _ z).2.1 rfl
 exact I.step (ch:=ch) hch (fun b o hL hb hc e n=>u.keep b o e n (fun z=>(List.mem_cons.mp (I.Ce b z)).elim hL hb) hc) (fun b o _ _ hc e n=>u.any e n hc) (fun b o hc e n=>u.free b o e n hc) (fun b o hc e=>u.there b o e hc) u.tups u.q8 u.tR (fun m' hm=>by
  obtain⟨o',es',ep',ho',r'⟩:=hm
  rw[ho] at ho';cases ho'
  exact⟨_,es',ep',hL,r'⟩) hok hg
theorem Inv.turned {t':Nat} {it:Addr} (I:Inv X pins σ H s) (k:∀ b o,b≠it->s.heap.get? b=some o->h'.get? b=some o) (hn:H it=none) (hL:it≠X.env.locals)
  (h1:it∈X.ex\/X.s₀.heap.objs.size<=it) (h2:∀ x c,X.env.cells.lookup x=some c->c≠it) (h3:∀ p∈X.pn++pins,p.1≠it):Inv X pins σ H { s with heap:=h',toks:=t' }:=by
 have nit:∀ b u,H b=some u->b≠it:=fun b u e z=>by rw[z,hn] at e;cases e
 refine I.step (g':=s.gens) (d':=s.drawn) (ch:=[it]) (fun b hb=>?_) (fun b o _ _ hc e _=>k b o (fun z=>hc (by simp[z])) e) (fun b o _ _ hc e _=>⟨o.slots,k b o (fun z=>hc (by simp[z])) e⟩) (fun _ _ _ _ n=>n)
  (fun b o hc e=>⟨o,k b o (fun z=>hc (by simp[z])) e⟩) (fun _ _ e=>e) (fun _ _ _ e=>e) (fun b ps e=>⟨#[],by rw[e];simp⟩) (fun m hm=>?_) (fun b u e=>?_) I.bare
 ·have e:b=it:=by simpa using hb
  subst e
  exact⟨h1,hL,h2,h3⟩
 ·obtain⟨o,es,ep,ho,r⟩:=hm
  exact⟨o,es,ep,k _ o (QR hL) ho,r⟩
 ·refine (I.hok b u e).stay (fun c v hc q=>k c v ?_ q) (fun _ q=>q) fun _ _ q=>q
  rcases hc with z|z
  ·rw[z];exact nit b u e
  ·exact nit c _ z
theorem Inv.tok (I:Inv X pins σ H s) (t:Nat):Inv X pins σ H { s with toks:=t }:=I.un (h':=s.heap) (t':=t) Un.refl I.hok
theorem Inv.kept {t':Nat} (I:Inv X pins σ H s) (k:∀ b u,s.heap.get? b=some u->h'.get? b=some u):Inv X pins σ H { s with heap:=h',toks:=t' }:=I.un (Un.kept k) (I.hok.kept k)
theorem Inv.laid {a:Addr} {o:HO} {t':Nat} (I:Inv X pins σ H s) (k:∀ b u,s.heap.get? b=some u->h'.get? b=some u) (hp:s.heap.objs.size<=a) (new:dX X.prog X.w (upd H a o) h' a o) :
  Inv X pins σ (upd H a o) { s with heap:=h',toks:=t' }:=I.un (Un.laid k hp (I.hok.fresh hp)) (I.hok.laid k hp new)
theorem Inv.write {x e:Addr} {o:HO} {t':Nat} (I:Inv X pins σ H s) (mu:ZL (H x)) (he:e=x\/H e=some (.own x)) (k:∀ b u,b≠e->s.heap.get? b=some u->h'.get? b=some u) (heo:∃ u,h'.get? e=some u)
  (new:dX X.prog X.w (upd H x o) h' x o):Inv X pins σ (upd H x o) { s with heap:=h',toks:=t' }:=I.un (Un.write mu he k heo) (I.hok.write mu he k heo new)
theorem Inv.weak {σ':List (Option V)} (I:Inv X pins σ H s) (hl:σ'.length=σ.length) (w:∀ (i:Nat) v,σ'[i]?=some (some v)->σ[i]?=some (some v)):Inv X pins σ' H s:=
 ⟨I.ok,I.os,I.bare,I.base,let ⟨m,hn,hl'⟩:=I.loc;⟨m,hn,fun i x v e1 e2 e3=>hl' i x v e1 (w i v e2) e3⟩,I.cell,I.free,I.lV,I.pin,I.hok,hl.trans I.len⟩
theorem Inv.Cg {Vw:List (Addr×Obj)} (I:Inv X pins σ H s) (h:∀ p∈Vw,s.heap.get? p.1=some p.2/\H p.1=none/\p.1≠X.env.locals/\p.1∉X.fs/\∀ v,p.2.data≠.cell v):Inv X Vw σ H s:=
 ⟨I.ok,I.os,I.bare,I.base,I.loc,I.cell,I.free,I.lV,fun p hp=>(List.mem_append.mp hp).elim (fun z=>I.pin p (QI _ z)) (h p),I.hok,I.len⟩
theorem Eo {N:List Str} (hN:N.Nodup) {i j:Nat} {x:Str} (a:N[i]?=some x) (b:N[j]?=some x):i=j:=by
 obtain⟨h1,e1⟩:=List.getElem?_eq_some_iff.mp a
 obtain⟨h2,e2⟩:=List.getElem?_eq_some_iff.mp b
 exact (List.getElem_inj hN).mp (e1.trans e2.symm)
theorem Lk {M:Model} {A:Around} {E:Value->Shared->Prop} {i:Nat} {x:Str} {v:V} {u:Value} {Q:Unit->Shared->Prop} (I:Inv X pins σ H s) (hN:X.N.Nodup) (hi:X.N[i]?=some x) (hx:Loc X.env.scope x) (r:RelV v u)
  (h:∀ s',Inv X pins (σ.set i (some v)) H s'->(∃ a,Heap.SameBut a s.heap s'.heap/\(a=X.env.locals\/X.env.cells.lookup x=some a))->Q () s') (hf:X.fn x=true\/X.env.scope.names.lookup x=some .local:=by first|exact .inl rfl|exact .inr rfl|assumption):wpAny M A (storeName X.env x u) Q E s:=by
 obtain⟨m,hn,hl⟩:=id I.loc
 have hcls:(X.env.scope.kind==.class||(X.env.scope.kind==.module&&X.env.locals != X.env.globals))=false:=by rw[I.ok.kind];rfl
 have hiσ:i < σ.length:=by rw[I.len];exact (List.getElem?_eq_some_iff.mp hi).1
 have Wx:=I.Wx
 have tracked:∀ {a:Addr} {h':Heap},(∃ o,s.heap.get? a=some o/\H a=none)->Heap.SameBut a s.heap h'->tM X.prog X.w H h':=fun {a h'} ha hs b ob e=>by
  obtain⟨_,_,hfree⟩:=ha
  refine (I.hok b ob e).stay (fun c w' hc q=>(hs.2 c ?_).trans q) (fun _ q=>q) fun _ _ q=>q
  rintro rfl
  rcases hc with rfl|hc
  ·rw[hfree] at e;cases e
  ·rw[hfree] at hc;cases hc
 rcases hx with hk|hk
 ·refine wpAny_storeName_local hk hn (fun h' hn' hs=>?_) hcls
  obtain⟨oL,_,_,hoL,_⟩:=id hn
  refine h _ ⟨I.ok,I.os,I.bare,⟨fun b o e n hb hx=>?_,fun b o e n hb hx=>?_,I.base.free,fun b o e hx=>?_,I.base.tups,I.base.q8,I.base.tR⟩,⟨_,hn',fun j y v' e1 e2 e3=>?_⟩,fun y c e=>?_,I.free,I.lV,fun p hp=>?_,tracked ⟨oL,hoL,I.free⟩ hs,by simpa using I.len⟩ ⟨_,hs,.inl rfl⟩
  ·exact (hs.2 b (zI (z5 (zw e) I.ok.above))).trans (I.base.keep b o e n hb hx)
  ·obtain⟨sl,e1⟩:=I.base.slot b o e n hb hx
   exact⟨sl,(hs.2 b (zI (z5 (zw e) I.ok.above))).trans e1⟩
  ·obtain⟨o',e1⟩:=I.base.there b o e hx
   exact⟨o',(hs.2 b (zI (z5 (zw e) I.ok.above))).trans e1⟩
  ·by_cases hj:j=i
   ·subst hj
    rw[hi] at e1;cases e1
    rw[List.getElem?_set_self hiσ] at e2
    cases e2
    exact⟨u,r,.inl ⟨hk,by simp⟩⟩
   ·rw[List.getElem?_set_ne (QR hj)] at e2
    obtain⟨u',r',q⟩:=hl j y v' e1 e2 e3
    refine⟨u',r',?_⟩
    rcases q with⟨k,e⟩|⟨k,c,e,z⟩
    ·refine .inl ⟨k,?_⟩
     have:y≠x:=fun e=>hj (Eo hN e1 (e▸hi))
     simp[this,e]
    ·exact .inr ⟨k,c,e,z.sameBut hs (Wx y c e)⟩
  ·obtain⟨w',z⟩:=I.cell y c e
   exact⟨w',z.sameBut hs (Wx y c e)⟩
  ·obtain⟨e,n,ne,nf,d⟩:=I.pin p hp
   exact⟨(hs.2 p.1 ne).trans e,n,ne,nf,d⟩
 ·have hfn:X.fn x=true:=by
   rcases hf with z|z
   ·exact z
   ·rw[z] at hk;cases hk
  obtain⟨c,hc⟩:=I.ok.has x (.inl hk)
  obtain⟨w',z⟩:=I.cell x c hc
  refine wpAny_storeName_cell I.ok.kind hk hc z (fun h' hc' hs=>?_)
  obtain⟨oc,hoc,abW⟩:=id z
  refine h { s with heap:=h' } ⟨I.ok,I.os,I.bare,⟨fun b o e n hb hx=>?_,fun b o e n hb hx=>?_,I.base.free,fun b o e hx=>?_,I.base.tups,I.base.q8,I.base.tR⟩,⟨m,hn.sameBut hs (QR (Wx x c hc)),fun j y v' e1 e2 e3=>?_⟩,fun y c' e=>?_,I.free,I.lV,fun p hp=>?_,tracked ⟨oc,hoc,I.lV x c hc⟩ hs,by simpa using I.len⟩ ⟨c,hs,.inr hc⟩
  ·exact (hs.2 b (zI (z5 (zw e) (I.ok.cab x c hfn hc)))).trans (I.base.keep b o e n hb hx)
  ·obtain⟨sl,e1⟩:=I.base.slot b o e n hb hx
   exact⟨sl,(hs.2 b (zI (z5 (zw e) (I.ok.cab x c hfn hc)))).trans e1⟩
  ·obtain⟨o',e1⟩:=I.base.there b o e hx
   exact⟨o',(hs.2 b (zI (z5 (zw e) (I.ok.cab x c hfn hc)))).trans e1⟩
  ·by_cases hj:j=i
   ·subst hj
    rw[hi] at e1;cases e1
    rw[List.getElem?_set_self hiσ] at e2
    cases e2
    exact⟨u,r,.inr ⟨.inl hk,c,hc,hc'⟩⟩
   ·rw[List.getElem?_set_ne (QR hj)] at e2
    obtain⟨u',r',q⟩:=hl j y v' e1 e2 e3
    refine⟨u',r',?_⟩
    rcases q with q|⟨k,c',e,z'⟩
    ·exact .inl q
    ·refine .inr ⟨k,c',e,z'.sameBut hs ?_⟩
     rintro rfl
     exact hj (Eo hN e1 (I.ok.inj _ _ _ e hc▸hi))
  ·by_cases hcc:c'=c
   ·subst hcc;exact⟨_,hc'⟩
   ·obtain⟨w2,z2⟩:=I.cell y c' e
    exact⟨w2,z2.sameBut hs hcc⟩
  ·obtain⟨e,n,ne,nf,d⟩:=I.pin p hp
   refine⟨(hs.2 p.1 ?_).trans e,n,ne,nf,d⟩
   intro q
   rw[q,hoc] at e
   have q':oc=p.2:=ja e
   exact d w' (by rw[<-q'];exact abW)
theorem Ep {M:Model} {A:Around} {E:Value->Shared->Prop} {i:Nat} {x:Str} {v:V} {u:Value} {Q:Unit->Shared->Prop} (I:Inv X pins σ H s) (hN:X.N.Nodup) (hi:X.N[i]?=some x) (hx:Loc X.env.scope x) (r:RelV v u)
  (h:∀ s',Inv X pins (σ.set i (some v)) H s'->Q () s') (hf:X.fn x=true\/X.env.scope.names.lookup x=some .local:=by first|exact .inl rfl|exact .inr rfl|assumption):wpAny M A (storeName X.env x u) Q E s:=
 Lk I hN hi hx r (fun s' I' _=>h s' I') hf
theorem Inv.call' {s':Shared} {ch:List Addr} (I:Inv X pins σ H s) (ho:s'.os=s.os) (u:Un (frs X.stack) ch H H' s.heap s'.heap) (hok:tM X.prog X.w H' s'.heap) (hg:AllBare s'.gens)
  (hch:∀ b∈ch,(b∈X.ex\/X.s₀.heap.objs.size<=b)/\b≠X.env.locals/\(∀ x c,X.env.cells.lookup x=some c->c≠b)/\∀ p∈X.pn++pins,p.1≠b):Inv X pins σ H' s':=by
 obtain⟨h',g',d',t',o'⟩:=s'
 have e:o'=s.os:=ho
 subst e
 exact I.call (g':=g') (t':=t') (d':=d') u hok hg hch
end
abbrev XK:=Value->Option Addr->Hp->Prop
abbrev St:=List (Option V)
abbrev VK:=V->Hp->Prop
abbrev TE:=St->Hp->VK->Prop
abbrev TT:=St->Hp->(Bool->Hp->Prop)->Prop
abbrev TA:=St->Hp->(List V->Hp->Prop)->Prop
structure Ends where
 nx:St->Hp->Prop
 rt:VK
 bk:St->Hp->Prop:=fun _ _=>False
 ct:St->Hp->Prop:=fun _ _=>False
abbrev TS:=Ends->St->Hp->Prop
def EP (X:Cx) (pins:List (Addr×Obj)) (σ:St) (Q:VK) (u:Value) (s':Shared):Prop:=∃ v H',Inv X pins σ H' s'/\RelV v u/\Q v H'
def TP (X:Cx) (pins:List (Addr×Obj)) (σ:St) (Q:Bool->Hp->Prop) (b:Bool) (s':Shared):Prop:=∃ H',Inv X pins σ H' s'/\Q b H'
def AP (X:Cx) (pins:List (Addr×Obj)) (σ:St) (Q:List V->Hp->Prop) (us:List Value) (s':Shared):Prop:=∃ vs H',Inv X pins σ H' s'/\Vals vs us/\Q vs H'
def SP (X:Cx) (pins:List (Addr×Obj)) (D:Ends) (f:Flow) (s':Shared):Prop:=
 match f with
 |.next=>∃ σ' H',Inv X pins σ' H' s'/\D.nx σ' H'
 |.brk=>∃ σ' H',Inv X pins σ' H' s'/\D.bk σ' H'
 |.cont=>∃ σ' H',Inv X pins σ' H' s'/\D.ct σ' H'
 |.ret u=>∃ v σ' H',Inv X pins σ' H' s'/\RelV v u/\D.rt v H'
def PE (X:Cx) (e:Expr) (t:TE):Prop:=
 ∀ (pins:List (Addr×Obj)) (s:Shared) (σ:St) (H:Hp) (Q:VK),Inv X pins σ H s->t σ H Q->wpAny (model X.prog X.w) X.A (eval e X.env) (EP X pins σ Q) X.xe s
def PT (X:Cx) (e:Expr) (t:TT):Prop:=
 ∀ (pins:List (Addr×Obj)) (s:Shared) (σ:St) (H:Hp) (Q:Bool->Hp->Prop),Inv X pins σ H s->t σ H Q->wpAny (model X.prog X.w) X.A (isTrue e X.env (eval e X.env)) (TP X pins σ Q) X.xe s
def PW (X:Cx) (e:Expr) (t:TT):Prop:=
 ∀ (whole:Sem Value) (pins:List (Addr×Obj)) (s:Shared) (σ:St) (H:Hp) (Q:Bool->Hp->Prop),Inv X pins σ H s->t σ H Q->wpAny (model X.prog X.w) X.A (isTrue e X.env whole) (TP X pins σ Q) X.xe s
theorem PW.pt {X:Cx} {e:Expr} {t:TT} (h:PW X e t):PT X e t:=h _
def PA (X:Cx) (es:List Expr) (t:TA):Prop:=
 ∀ (pos:Pos) (pins:List (Addr×Obj)) (s:Shared) (σ:St) (H:Hp) (Q:List V->Hp->Prop),Inv X pins σ H s->t σ H Q->wpAny (model X.prog X.w) X.A (spliced (backTo pos (starEach es X.env))) (AP X pins σ Q) X.xe s
def PS (X:Cx) (st:Stmt) (t:TS):Prop:=
 ∀ (pins:List (Addr×Obj)) (s:Shared) (σ:St) (H:Hp) (D:Ends),Inv X pins σ H s->t D σ H->wpAny (model X.prog X.w) X.A (exec st X.env) (SP X pins D) X.xe s
def Hw (X:Cx) (st:List Stmt) (t:TS):Prop:=
 ∀ (pins:List (Addr×Obj)) (s:Shared) (σ:St) (H:Hp) (D:Ends),Inv X pins σ H s->t D σ H->wpAny (model X.prog X.w) X.A (execs st X.env) (SP X pins D) X.xe s
theorem iR {α:Type} {t:Sem α} {Q Q':α->Shared->Prop} {M:Model} {A:Around} {E:Value->Shared->Prop} {s:Shared} (h:wpAny M A t Q E s) (hQ:∀ a s,Q a s->Q' a s):wpAny M A t Q' E s:=ZH h hQ fun _ _ x=>x
end L2
namespace L2
open PySem PySem.Spec PyProof.Rows
section
variable {X:Cx}
def R5 (i:Nat):TE:=fun σ H Q=>∃ v,σ[i]?=some (some v)/\Q v H
def tC (v:V):TE:=fun _ H Q=>Q v H
theorem mZ {i:Nat} {x:Str} {pos:Pos} (hN:X.N[i]?=some x) (hv:Hv X.env.scope x) (hd:(x==("__debug__" : Str))=false:=by decide) (hcd:(x==("__classdict__" : Str))=false:=by decide):PE X (.Name x pos) (R5 i):=by
 intro pins s σ H Q I h
 obtain⟨v,e,h⟩:=h
 obtain⟨m,hn,hl⟩:=I.loc
 obtain⟨u,r,l⟩:=hl i x v hN e hv
 have fin:EP X pins σ Q u s:=⟨v,H,I,r,h⟩
 rcases l with⟨hk,hm⟩|⟨hk,c,hc,hcell⟩
 ·exact wpAny_Name (wpAny_loadName_local I.ok.kind hk hn hm fin) hd
 ·rcases hk with hk|hk
  ·exact wpAny_Name (wpAny_loadName_cell I.ok.kind hk hc hcell fin) hd
  ·exact wpAny_Name (wpAny_loadName_free I.ok.kind hk hc hcell fin hcd) hd
theorem Wy {i j pos}:PE X (.Constant (.int i) j pos) (tC (.int i)):=fun _ _ _ H _ I h=>wpAny_Constant_int ⟨.int i,H,I.tok _,⟨_,rfl⟩,h⟩
theorem ZQ {b j pos}:PE X (.Constant (.bool b) j pos) (tC (.bl b)):=fun _ _ _ H _ I h=>Constant_bool ⟨.bl b,H,I,rfl,h⟩
theorem Wz {j pos}:PE X (.Constant .none j pos) (tC .non):=fun _ _ _ H _ I h=>Constant_none ⟨.non,H,I,rfl,h⟩
theorem WD {x j pos}:PE X (.Constant (.str x) j pos) (tC (.str x)):=fun _ _ _ H _ I h=>Calls.Constant_str ⟨.str x,H,I.tok _,⟨_,rfl⟩,h⟩
def Gl (X:Cx) (x:Str):Prop:=X.env.kindOf x=some .globalImplicit
theorem R6 {E:Value->Shared->Prop} {pins:List (Addr×Obj)} {s:Shared} {σ:St} {H:Hp} {x:Str} {u:Value} {pos:Pos} {Q:Value->Shared->Prop} (I:Inv X pins σ H s) (hg:Gl X x) (hm:X.mg x=some u) (h:Q u s)
  (hd:(x==("__debug__" : Str))=false:=by decide):wpAny (model X.prog X.w) X.A (eval (.Name x pos) X.env) Q E s:=
 Calls.Name_function_global I.ok.kind hg (Calls.loadGlobal_global (by rw[I.ok.glob];exact I.mod.glob.keeps I.bk) hm h) hd
theorem xZ {E:Value->Shared->Prop} {pins:List (Addr×Obj)} {s:Shared} {σ:St} {H:Hp} {x:Str} {u:Value} {pos:Pos} {Q:Value->Shared->Prop} (I:Inv X pins σ H s) (hg:Gl X x) (hm:X.mg x=none) (hv:bootBuiltins x=some u) (h:Q u s)
  (hn:x ≠ "__name__" := by decide) (hd:(x==("__debug__" : Str))=false:=by decide):wpAny (model X.prog X.w) X.A (eval (.Name x pos) X.env) Q E s:=by
 obtain⟨mb,h1,h2⟩:=I.mod.blt
 exact Calls.Name_function_global I.ok.kind hg (Calls.loadGlobal_builtin (by rw[I.ok.glob];exact I.mod.glob.keeps I.bk) hm (by rw[I.ok.blt];exact h1.keeps I.bk) ((h2 x hn).trans hv) h) hd
theorem Ci {x:Str} {v:V} {u:Value} {pos:Pos} (hg:Gl X x) (hm:X.mg x=none) (hv:bootBuiltins x=some u) (r:RelV v u) (hn:x ≠ "__name__" := by decide) (hd:(x==("__debug__" : Str))=false:=by decide):PE X (.Name x pos) (tC v):=
 fun _ _ _ H _ I h=>xZ I hg hm hv ⟨v,H,I,r,h⟩ hn hd
variable {a b:Expr} {ta tb:TE} {pos:Pos}
variable {tA tB':TT} {rest:List Expr}
def ZR (t u:TT):TT:=fun σ H Q=>t σ H fun c H1=>if c=true then u σ H1 Q else Q false H1
def tOr (t u:TT):TT:=fun σ H Q=>t σ H fun c H1=>if c=true then Q true H1 else u σ H1 Q
def abX (t:TT):TT:=fun σ H Q=>t σ H fun c H1=>Q (!c) H1
theorem R7 (ha:PT X a tA):PW X (.BoolOp .And [a] pos) tA:=by
 intro wh pins s σ H Q I h
 refine isTrue_and (iR (ha pins s σ H Q I h) fun c s1 e=>?_)
 cases c with
 |true=>exact isTrue_and_nil e
 |false=>exact e
theorem WK (ha:PT X a tA):PW X (.BoolOp .Or [a] pos) tA:=by
 intro wh pins s σ H Q I h
 refine isTrue_or (iR (ha pins s σ H Q I h) fun c s1 e=>?_)
 cases c with
 |false=>exact isTrue_or_nil e
 |true=>exact e
theorem WL (ha:PT X a tA) (hb:PW X (.BoolOp .And (b::rest) pos) tB'):PW X (.BoolOp .And (a::b::rest) pos) (ZR tA tB'):=by
 intro wh pins s σ H Q I h
 refine isTrue_and (iR (ha pins s σ H _ I h) fun c s1 ⟨H1,I1,q1⟩=>?_)
 cases c with
 |true=>exact hb wh pins s1 σ H1 Q I1 q1
 |false=>exact⟨H1,I1,q1⟩
theorem ZS (ha:PT X a tA) (hb:PW X (.BoolOp .Or (b::rest) pos) tB'):PW X (.BoolOp .Or (a::b::rest) pos) (tOr tA tB'):=by
 intro wh pins s σ H Q I h
 refine isTrue_or (iR (ha pins s σ H _ I h) fun c s1 ⟨H1,I1,q1⟩=>?_)
 cases c with
 |true=>exact⟨H1,I1,q1⟩
 |false=>exact hb wh pins s1 σ H1 Q I1 q1
theorem WM (ha:PT X a tA):PT X (.UnaryOp .Not a pos) (abX tA):=by
 intro pins s σ H Q I h
 exact isTrue_not (ha pins s σ H (fun c H1=>Q (!c) H1) I h)
end
end L2
namespace L2
open PySem PySem.Spec PyProof.Rows
def nF (K:PySem.W.Frag) (H:Hp) (a:Addr) (xs:List V):Prop:=
 Rd H a (.lst xs) ∨
  ∃ (o:Obj) (its:Array Value) (n:Nat),K.lookup a=some o/\o.cls=.type "list" ∧ o.dict=none/\o.data=.seq its n/\its.size<=sizeLine/\Vals xs its.toList
def tO (K:PySem.W.Frag) (H:Hp) (a:Addr) (xs:List V):Prop:=
 Rd H a (.tup xs) ∨
  ∃ (o:Obj) (its:Array Value) (n:Nat),K.lookup a=some o/\(o.cls=.type "tuple" ∧ o.dict=none)/\o.data=.seq its n/\its.size<=sizeLine/\Vals xs its.toList
def WQ:Value->Option V
 |.none=>some .non
 |.bool b=>some (.bl b)
 |.int i _=>some (.int i)
 |.str x _=>some (.str x)
 |.bytes b _=>some (.ZK b)
 |.float b _=>some (.flt b)
 |.ref a=>some (.ref a)
 |.type n=>some (.ty n)
 |_=>none
theorem RelV.abs {x:V} {u:Value} (r:RelV x u):WQ u=some x:=by
 cases x with
 |non=>cases r;rfl
 |bl _=>cases r;rfl
 |int _=>obtain⟨t,rfl⟩:=r;rfl
 |str _=>obtain⟨t,rfl⟩:=r;rfl
 |ZK _=>obtain⟨t,rfl⟩:=r;rfl
 |flt _=>obtain⟨t,rfl⟩:=r;rfl
 |ref _=>cases r;rfl
 |ty _=>cases r;rfl
theorem RelV.inj {x y:V} {u:Value} (r:RelV x u) (q:RelV y u):x=y:=ja (r.abs.symm.trans q.abs)
theorem Vals.inj:∀ {xs ys:List V} {us:List Value},Vals xs us->Vals ys us->xs=ys
 |_,_,_,.nil,.nil=>rfl
 |_,_,_,.cons r t,.cons r' t'=>by rw[r.inj r',Vals.inj t t']
section
variable {X:Cx} {pins:List (Addr×Obj)} {σ:St} {H:Hp} {s:Shared} {a:Addr} {xs ys:List V}
theorem nF.of {K:PySem.W.Frag} (h:H a=some (.lst xs)):nF K H a xs:=.inl (.inl h)
theorem tO.of {K:PySem.W.Frag} (h:H a=some (.tup xs)):tO K H a xs:=.inl (.inl h)
theorem Inv.list (I:Inv X pins σ H s) (h:nF X.K H a xs):∃ its:List Value,Vals xs its/\PlainL s.heap a its.toArray/\xs.length<=sizeLine:=by
 rcases h with h|⟨o,its,n,hk,hc,hd,hs,hz,r⟩
 ·obtain⟨z,its,n,r,e⟩:=h.ok I.hok
  exact⟨its,r,⟨_,n,e,rfl,rfl,rfl⟩,z⟩
 ·refine⟨its.toList,r,⟨o,n,I.Zq a o hk,hc,hd,by simpa using hs⟩,?_⟩
  have e:=r.length
  simp only[qE] at e
  omega
theorem Inv.tuple (I:Inv X pins σ H s) (h:tO X.K H a xs):∃ its:List Value,Vals xs its/\IsTup s.heap a its.toArray/\xs.length<=sizeLine:=by
 rcases h with h|⟨o,its,n,hk,hc,hs,hz,r⟩
 ·obtain⟨z,its,r,p⟩:=h.ok I.hok
  exact⟨its,r,p.weak,z⟩
 ·refine⟨its.toList,r,⟨o,I.Zq a o hk,hc.1,n,by simpa using hs⟩,?_⟩
  have e:=r.length
  simp only[qE] at e
  omega
theorem Inv.yc (I:Inv X pins σ H s) (h:nF X.K H a xs) (h':nF X.K H a ys):xs=ys:=by
 obtain⟨its,r,⟨o,n,e,_,_,d⟩,_⟩:=I.list h
 obtain⟨its',r',⟨o',n',e',_,_,d'⟩,_⟩:=I.list h'
 rw[e] at e';cases e'
 rw[d] at d'
 injection d' with d1 _
 have:its=its':=by simpa using congrArg Array.toList d1
 subst this
 exact r.inj r'
theorem Inv.Ax (I:Inv X pins σ H s) (h:tO X.K H a xs) (h':tO X.K H a ys):xs=ys:=by
 obtain⟨its,r,⟨o,e,_,n,d⟩,_⟩:=I.tuple h
 obtain⟨its',r',⟨o',e',_,n',d'⟩,_⟩:=I.tuple h'
 rw[e] at e';cases e'
 rw[d] at d'
 injection d' with d1 _
 have:its=its':=by simpa using congrArg Array.toList d1
 subst this
 exact r.inj r'
end
abbrev Cx.wish (X:Cx) (E:Value->Shared->Prop):Cx:={ X with xe:=E }
abbrev Cx.N7 (X:Cx):Cx:=X.wish fun _ _=>False
theorem Cx.Ok.wish {X:Cx} (ok:X.Ok) (E:Value->Shared->Prop):(X.wish E).Ok:=
 ⟨ok.mod,ok.kind,ok.glob,ok.blt,ok.above,ok.inj,ok.has,ok.cab,ok.hd,ok.frames,ok.stk,ok.exf,ok.bs,ok.RT,ok.N6,ok.R4,ok.xG,ok.Ww⟩
theorem Cx.Ok.m5 {X:Cx} {E:Value->Shared->Prop} (ok:(X.wish E).Ok):X.Ok:=
 ⟨ok.mod,ok.kind,ok.glob,ok.blt,ok.above,ok.inj,ok.has,ok.cab,ok.hd,ok.frames,ok.stk,ok.exf,ok.bs,ok.RT,ok.N6,ok.R4,ok.xG,ok.Ww⟩
section
variable {X:Cx} {pins:List (Addr×Obj)} {σ:St} {H:Hp} {s:Shared} {E:Value->Shared->Prop}
theorem Inv.wish (I:Inv X pins σ H s) (E:Value->Shared->Prop):Inv (X.wish E) pins σ H s:=⟨I.ok.wish E,I.os,I.bare,I.base,I.loc,I.cell,I.free,I.lV,I.pin,I.hok,I.len⟩
theorem Inv.m5 (I:Inv (X.wish E) pins σ H s):Inv X pins σ H s:=⟨I.ok.m5,I.os,I.bare,I.base,I.loc,I.cell,I.free,I.lV,I.pin,I.hok,I.len⟩
theorem SP.m5 {D:Ends} {f:Flow} {s':Shared} (h:SP (X.wish E) pins D f s'):SP X pins D f s':=by
 cases f with
 |next=>obtain⟨σ',H',I,q⟩:=h;exact⟨σ',H',I.m5,q⟩
 |brk=>obtain⟨σ',H',I,q⟩:=h;exact⟨σ',H',I.m5,q⟩
 |cont=>obtain⟨σ',H',I,q⟩:=h;exact⟨σ',H',I.m5,q⟩
 |ret u=>obtain⟨v,σ',H',I,r,q⟩:=h;exact⟨v,σ',H',I.m5,r,q⟩
theorem PE.N7 {e:Expr} {t:TE} (h:PE X.N7 e t):PE X e t:=fun pins s σ H Q I hw=>
 ZH (h pins s σ H Q (I.wish _) hw) (fun _ _ ⟨v,H',I',r,q⟩=>⟨v,H',I'.m5,r,q⟩) fun _ _ z=>False.elim z
theorem PT.N7 {e:Expr} {t:TT} (h:PT X.N7 e t):PT X e t:=fun pins s σ H Q I hw=>
 ZH (h pins s σ H Q (I.wish _) hw) (fun _ _ ⟨H',I',q⟩=>⟨H',I'.m5,q⟩) fun _ _ z=>False.elim z
theorem Hw.N7 {st:List Stmt} {t:TS} (h:Hw X.N7 st t):Hw X st t:=fun pins s σ H D I hw=>
 ZH (h pins s σ H D (I.wish _) hw) (fun _ _ q=>q.m5) fun _ _ z=>False.elim z
end
section
variable {X:Cx} {st:Stmt} {rest:List Stmt} {t u:TS} {e:Expr} {te:TE} {pos:Pos}
def ZV:TS:=fun D σ H=>D.nx σ H
def abY (t u:TS):TS:=fun D σ H=>t { D with nx:=u D } σ H
theorem J3:Hw X [] ZV:=fun _ _ σ H _ I h=>wpAny_execs_nil ⟨σ,H,I,h⟩
theorem yd (h1:PS X st t) (h2:Hw X rest u):Hw X (st::rest) (abY t u):=by
 intro pins s σ H D I h
 refine wpAny_execs_cons (iR (h1 pins s σ H { D with nx:=u D } I h) fun f s1 q=>?_)
 cases f with
 |next=>
  obtain⟨σ',H',I',q⟩:=q
  exact h2 pins s1 σ' H' D I' q
 |ret v=>exact q
 |brk=>exact q
 |cont=>exact q
theorem J4 (h1:PS X st t):Hw X [st] t:=by
 intro pins s σ H D I h
 refine wpAny_execs_cons (iR (h1 pins s σ H D I h) fun f s1 q=>?_)
 cases f with
 |next=>exact wpAny_execs_nil q
 |ret v=>exact q
 |brk=>exact q
 |cont=>exact q
theorem Inv.quiet {pins:List (Addr×Obj)} {σ:St} {H:Hp} {s:Shared} (I:Inv X pins σ H s):interactive X.env=false:=by simp[interactive,I.ok.kind]
def ZW (te:TE):TS:=fun D σ H=>te σ H fun _ H1=>D.nx σ H1
theorem xO (he:PE X e te) (hs:swapsWith e none pos.line X.env=pure false:=by rfl):PS X (.Expr e pos) (ZW te):=by
 intro pins s σ H D I h
 exact wpAny_Expr_any (iR (he pins s σ H _ I h) fun v s1 ⟨x,H1,I1,r1,q1⟩=>⟨σ,H1,I1,q1⟩) I.quiet hs
def abZ (te:TE):TS:=fun D σ H=>te σ H D.rt
theorem N8 (he:PE X e te):PS X (.Return (some e) pos) (abZ te):=by
 intro pins s σ H D I h
 exact wpAny_Return_some (iR (he pins s σ H _ I h) fun v s1 ⟨x,H1,I1,r1,q1⟩=>⟨x,σ,H1,I1,r1,q1⟩)
def ab0 (c:TT) (t u:TS):TS:=fun D σ H=>c σ H fun b H1=>if b=true then t D σ H1 else u D σ H1
theorem Vx {c:Expr} {a b:List Stmt} {tc:TT} (hc:PT X c tc) (ha:Hw X a t) (hb:Hw X b u):PS X (.If c a b pos) (ab0 tc t u):=by
 intro pins s σ H D I h
 refine wpAny_If (iR (hc pins s σ H _ I h) fun d s1 ⟨H1,I1,q1⟩=>?_)
 cases d with
 |true=>exact ha pins s1 σ H1 D I1 q1
 |false=>exact hb pins s1 σ H1 D I1 q1
end
abbrev TG:=V->St->Hp->(St->Hp->Prop)->Prop
abbrev Vy:=List V->St->Hp->(St->Hp->Prop)->Prop
def PG (X:Cx) (target:Expr) (t:TG):Prop:=
 ∀ (pins:List (Addr×Obj)) (s:Shared) (σ:St) (H:Hp) (v:V) (u:Value) (Q:St->Hp->Prop),Inv X pins σ H s->RelV v u->t v σ H Q →
  wpAny (model X.prog X.w) X.A (assign target X.env u) (fun _ s'=>∃ σ' H',Inv X pins σ' H' s'/\Q σ' H') X.xe s
def Ln (X:Cx) (ts:List Expr) (t:Vy):Prop:=
 ∀ (pins:List (Addr×Obj)) (s:Shared) (σ:St) (H:Hp) (vs:List V) (us:List Value) (Q:St->Hp->Prop),Inv X pins σ H s->Vals vs us->t vs σ H Q →
  wpAny (model X.prog X.w) X.A (assignInOrder ((assignEach ts X.env).map (·.2)) us) (fun _ s'=>∃ σ' H',Inv X pins σ' H' s'/\Q σ' H') X.xe s
section
variable {X:Cx} {pos:Pos}
def Vz (i:Nat):TG:=fun v σ H Q=>Q (σ.set i (some v)) H
theorem Cj {i:Nat} {x:Str} (hN:X.N.Nodup) (hi:X.N[i]?=some x) (hx:Loc X.env.scope x) (hf:X.fn x=true\/X.env.scope.names.lookup x=some .local:=by first|exact .inl rfl|exact .inr rfl|assumption):PG X (.Name x pos) (Vz i):=by
 intro pins s σ H v u Q I r h
 exact wpAny_assign_Name (Ep I hN hi hx r (fun s' I'=>⟨_,H,I',h⟩) hf)
def ab1:Vy:=fun vs σ H Q=>vs=[]/\Q σ H
def ZX (t:TG) (u:Vy):Vy:=fun vs σ H Q=>∃ v r,vs=v::r/\t v σ H fun σ' H'=>u r σ' H' Q
theorem R8:Ln X [] ab1:=by
 intro pins s σ H vs us Q I r h
 obtain⟨e,h⟩:=h
 subst e
 cases r
 exact assignInOrder_nil ⟨σ,H,I,h⟩
theorem Oa {e:Expr} {es:List Expr} {t:TG} {u:Vy} (h1:PG X e t) (h2:Ln X es u)
  (hs:(assignEach (e::es) X.env).map (·.2)=assign e X.env::(assignEach es X.env).map (·.2):=by rfl):Ln X (e::es) (ZX t u):=by
 intro pins s σ H vs us Q I r h
 obtain⟨v,vr,e1,h⟩:=h
 subst e1
 cases r with
 |cons r rr=>
  rw[hs]
  refine assignInOrder_cons (iR (h1 pins s σ H _ _ _ I r h) fun _ s1 ⟨σ1,H1,I1,q1⟩=>?_)
  exact h2 pins s1 σ1 H1 _ _ Q I1 rr q1
def ab2 (K:PySem.W.Frag) (n:Nat) (t:Vy):TG:=fun v σ H Q=>∃ a xs,v=.ref a/\tO K H a xs/\xs.length=n/\t xs σ H Q
theorem WR {es:List Expr} {k:Nat} {t:Vy} {n:Nat} (hc:X.calm=true) (h:Ln X es t)
  (hn:(assignEach es X.env).length=n:=by rfl) (hst:(assignEach es X.env).findIdx? (·.1)=none:=by rfl):PG X (.Tuple es k pos) (ab2 X.K n t):=by
 intro pins s σ H v u Q I r hw
 obtain⟨a,xs,e1,hq,hl,hw⟩:=hw
 subst e1
 cases r
 obtain⟨its,rv,ht,hz⟩:=I.tuple hq
 refine assign_Tuple_tuple (I.ok.hd hc) ht (by simp[hn,<-hl,rv.length]) hst fun h' hx=>?_
 have I1:Inv X pins σ H { s with heap:=h' }:=I.kept (t':=s.toks) fun b o e=>hx b o (zI (zw e)) e
 exact h pins _ σ H xs _ Q I1 (by simpa using rv) hw
def ab3 (te:TE) (g:TG):TS:=fun D σ H=>te σ H fun x H1=>g x σ H1 D.nx
theorem Hx {i:Nat} {x:Str} {e:Expr} {te:TE} {pos':Pos} (hN:X.N.Nodup) (hi:X.N[i]?=some x) (hx:Loc X.env.scope x) (he:PE X e te) (hs:swapsWith e (some (.Name x pos')) pos.line X.env=pure false:=by rfl) (hf:X.fn x=true\/X.env.scope.names.lookup x=some .local:=by first|exact .inl rfl|exact .inr rfl|assumption) :
  PS X (.Assign [.Name x pos'] e pos) (ab3 te (Vz i)):=by
 intro pins s σ H D I h
 refine wpAny_Assign_Name (iR (he pins s σ H _ I h) fun v s1 ⟨y,H1,I1,r1,q1⟩=>?_) hs
 exact Ep I1 hN hi hx r1 (fun s2 I2=>⟨_,H1,I2,q1⟩) hf
end
section
variable {X:Cx} {pos:Pos}
end
structure It where
 go:Nat->Hp->Prop
 Z0:Nat->Hp->V->Hp->Prop
 stop:Nat->Hp->Prop
def oh (X:Cx) (pins:List (Addr×Obj)) (H:Hp) (b:Addr):Prop:=
 H b=none/\b≠X.env.locals/\b∉X.fs/\(b∈X.ex\/X.s₀.heap.objs.size<=b)/\(∀ x c,X.env.cells.lookup x=some c->c≠b)/\∀ p∈X.pn++pins,p.1≠b
theorem Inv.Er {X:Cx} {pins:List (Addr×Obj)} {σ:St} {H H':Hp} {s:Shared} {b:Addr} (I:Inv X pins σ H s) (hb:s.heap.objs.size<=b) (hn:H' b=none):oh X pins H' b:=by
 refine⟨hn,ko (z5 I.lt hb),I.abV hb,.inr (zv I.sz hb),fun x c e z=>?_,fun p hp z=>?_⟩
 ·obtain⟨v,q⟩:=I.cell x c e
  exact absurd (z5 q.lt (by rw[z];exact hb)) (JA _)
 ·exact absurd (z5 (zw (I.pin p hp).1) (by rw[z];exact hb)) (JA _)
structure Turn (P:Program) (w:World) (K:PySem.W.Frag) (tg:Expr) (J:It) (fp:List Addr) (it:Addr) (tn:Nat->Heap->Prop):Prop where
 mem:it∈fp
 obj:∀ i h,tn i h->∀ b∈fp,∃ o,h.get? b=some o/\∀ v,o.data≠.cell v
 keep:∀ i h h',tn i h->(∀ b∈fp,∀ o,h.get? b=some o->h'.get? b=some o)->tn i h'
 item:∀ (X:Cx),X.prog=P->X.w=w->X.K=K->X.calm=true->∀ (i:Nat) (pins:List (Addr×Obj)) (s:Shared) (σ:St) (H:Hp) (E:Value->Shared->Prop),Inv X pins σ H s->(∀ b∈fp,oh X pins H b)->tn i s.heap->J.go i H →
  wpAny (model P w) X.A (pyNext (.ref it)) (fun r s1=>∃ u,r=some u ∧
   wpAny (model P w) X.A (letOwnedTupleGo tg (.ref it) u) (fun _ s2=>∃ x H',Inv X pins σ H' s2/\RelV x u/\J.Z0 i H x H'/\tn (i+1) s2.heap/\∀ b∈fp,H' b=none) E s1) E s
 done:∀ (X:Cx),X.prog=P->X.w=w->X.K=K->X.calm=true->∀ (i:Nat) (pins:List (Addr×Obj)) (s:Shared) (σ:St) (H:Hp) (E:Value->Shared->Prop),Inv X pins σ H s->(∀ b∈fp,oh X pins H b)->tn i s.heap->J.stop i H →
  wpAny (model P w) X.A (pyNext (.ref it)) (fun r s1=>r=none/\Inv X pins σ H s1) E s
 self:∀ (A:Around) (i:Nat) (s:Shared) (Q:Value->Shared->Prop) (E:Value->Shared->Prop),tn i s.heap->Q (.ref it) s->wpAny (model P w) A (pyIter (.ref it)) Q E s
abbrev TI:=St->Hp->(It->Hp->Prop)->Prop
def PIE (X:Cx) (pins:List (Addr×Obj)) (σ:St) (tg:Expr) (R:It->Hp->Prop) (itv:Value) (s2:Shared):Prop:=
 ∃ (it:Addr) (fp:List Addr) (tn:Nat->Heap->Prop) (J:It) (H':Hp),itv=.ref it/\Inv X pins σ H' s2/\Turn X.prog X.w X.K tg J fp it tn/\tn 0 s2.heap/\(∀ b∈fp,oh X pins H' b)/\R J H'
def PI (X:Cx) (tg iter:Expr) (wi:TI):Prop:=
 ∀ (pins:List (Addr×Obj)) (s:Shared) (σ:St) (H:Hp) (R:It->Hp->Prop),Inv X pins σ H s->wi σ H R →
  wpAny (model X.prog X.w) X.A (eval iter X.env) (fun v s1=>wpAny (model X.prog X.w) X.A (pyIter v) (PIE X pins σ tg R) X.xe s1) X.xe s
theorem Ay {M:Model} {A:Around} {E:Value->Shared->Prop} {s:Shared} {tg:Expr} {it:Addr} {u:Value} {o:Obj} {n:String} {vs:Array Value} {Q:Unit->Shared->Prop} (ho:s.heap.get? it=some o) (hc:o.cls=.type n) (hd:o.data=.fields vs)
  (hn:["enumerate", "zip", "dict_itemiterator", "dict_reverseitemiterator", "odict_iterator", "itertools.zip_longest", "itertools.pairwise"].contains n=false) (hQ:Q () s):wpAny M A (letOwnedTupleGo tg (.ref it) u) Q E s:=by
 unfold letOwnedTupleGo
 cases tg<;>first
  |exact zd hQ
  |(cases u<;>first
    |exact zd hQ
    |(refine zb (wpAny_load ho ?_)
      rw[hc,hd]
      show wpAny M A (if (["enumerate", "zip", "dict_itemiterator", "dict_reverseitemiterator", "odict_iterator", "itertools.zip_longest", "itertools.pairwise"].contains n&&vs[0]?==some (rawInt _))=true then _ else _) Q E s
      rw[zS (by intro h;rw[hn,Bool.false_and] at h;cases h)]
      exact zd hQ))
def Itl (K:PySem.W.Frag) (a:Addr):It:=
 ⟨fun i H=>∃ xs x,nF K H a xs/\xs[i]?=some x,fun i H x H'=>H'=H/\∀ xs,nF K H a xs->xs[i]?=some x,fun i H=>∃ xs,nF K H a xs/\xs.length<=i⟩
def Itt (K:PySem.W.Frag) (a:Addr):It:=
 ⟨fun i H=>∃ xs x,tO K H a xs/\xs[i]?=some x,fun i H x H'=>H'=H/\∀ xs,tO K H a xs->xs[i]?=some x,fun i H=>∃ xs,tO K H a xs/\xs.length<=i⟩
def Itr (lo:Int) (n:Nat):It:=⟨fun i _=>i < n,fun i H x H'=>H'=H/\x=.int (lo+i),fun i _=>n<=i⟩
theorem Lq {P:Program} {w:World} {K:PySem.W.Frag} {tg:Expr} (a it:Addr):Turn P w K tg (Itl K a) [it] it (fun i h=>h.IsListIter it a i) where
 mem:=by simp
 obj:=fun i h st b hb=>by
  have e:b=it:=by simpa using hb
  subst e
  obtain⟨o,e,c,d⟩:=st
  exact⟨o,e,fun v z=>by rw[d] at z;cases z⟩
 keep:=fun i h h' st k=>st.at fun o e=>k it (by simp) o e
 item:=by
  intro X hP hw hK hc i pins s σ H E I hf st hg
  subst hP hw hK
  obtain⟨xs,x,hq,hx⟩:=hg
  obtain⟨its,rv,p,hz⟩:=I.list hq
  obtain⟨u,hu,ru⟩:=rv.get hx
  obtain⟨f0,f1,f2,f3,f4,f5⟩:=hf it (by simp)
  refine wpAny_pyNext_list_item st p.isList (x:=u) (by simpa using hu) fun h' st' sb=>?_
  have I1:Inv X pins σ H { s with heap:=h' }:=I.turned (t':=s.toks) (fun b o hb e=>(sb.2 b hb).trans e) f0 f1 f3 f4 f5
  obtain⟨o,e,c,d⟩:=id st'
  exact⟨u,rfl,Ay (s:={ s with heap:=h' }) e c d (by decide) ⟨x,H,I1,ru,⟨rfl,fun ys hy=>by rw[I.yc hy hq];exact hx⟩,st',fun b hb=>(hf b hb).1⟩⟩
 done:=by
  intro X hP hw hK hc i pins s σ H E I hf st hg
  subst hP hw hK
  obtain⟨xs,hq,hx⟩:=hg
  obtain⟨its,rv,p,hz⟩:=I.list hq
  obtain⟨f0,f1,f2,f3,f4,f5⟩:=hf it (by simp)
  have hl:=rv.length
  exact wpAny_pyNext_list_end (I.ok.hd hc) st p.isList (by simp;omega) fun h' eb=>⟨rfl,I.turned (t':=s.toks) (fun b o hb e=>eb b o hb e) f0 f1 f3 f4 f5⟩
 self:=fun _ _ _ _ _ st h=>wpAny_pyIter_listiter st h
theorem Hy {P:Program} {w:World} {K:PySem.W.Frag} {tg:Expr} (a it:Addr):Turn P w K tg (Itt K a) [it] it (fun i h=>h.IsTupleIter it a i) where
 mem:=by simp
 obj:=fun i h st b hb=>by
  have e:b=it:=by simpa using hb
  subst e
  obtain⟨o,e,c,d⟩:=st
  exact⟨o,e,fun v z=>by rw[d] at z;cases z⟩
 keep:=fun i h h' st k=>st.at fun o e=>k it (by simp) o e
 item:=by
  intro X hP hw hK hc i pins s σ H E I hf st hg
  subst hP hw hK
  obtain⟨xs,x,hq,hx⟩:=hg
  obtain⟨its,rv,p,hz⟩:=I.tuple hq
  obtain⟨u,hu,ru⟩:=rv.get hx
  obtain⟨f0,f1,f2,f3,f4,f5⟩:=hf it (by simp)
  refine wpAny_pyNext_tuple_item st (show s.heap.IsTuple a its.toArray from p) (x:=u) (by simpa using hu) fun h' st' sb=>?_
  have I1:Inv X pins σ H { s with heap:=h' }:=I.turned (t':=s.toks) (fun b o hb e=>(sb.2 b hb).trans e) f0 f1 f3 f4 f5
  obtain⟨o,e,c,d⟩:=id st'
  exact⟨u,rfl,Ay (s:={ s with heap:=h' }) e c d (by decide) ⟨x,H,I1,ru,⟨rfl,fun ys hy=>by rw[I.Ax hy hq];exact hx⟩,st',fun b hb=>(hf b hb).1⟩⟩
 done:=by
  intro X hP hw hK hc i pins s σ H E I hf st hg
  subst hP hw hK
  obtain⟨xs,hq,hx⟩:=hg
  obtain⟨its,rv,p,hz⟩:=I.tuple hq
  obtain⟨f0,f1,f2,f3,f4,f5⟩:=hf it (by simp)
  have hl:=rv.length
  exact wpAny_pyNext_tuple_end (I.ok.hd hc) st (show s.heap.IsTuple a its.toArray from p) (by simp;omega) fun h' eb=>⟨rfl,I.turned (t':=s.toks) (fun b o hb e=>eb b o hb e) f0 f1 f3 f4 f5⟩
 self:=fun _ _ _ _ _ st h=>wpAny_pyIter_tupleiter st h
theorem Hz {P:Program} {w:World} {K:PySem.W.Frag} {tg:Expr} (it:Addr) (lo:Int) (n:Nat):Turn P w K tg (Itr lo n) [it] it (fun i h=>IsRangeIter h it (lo+(i:Nat) * 1) ((n:Int) - (i:Nat)) 1) where
 mem:=by simp
 obj:=fun i h st b hb=>by
  have e:b=it:=by simpa using hb
  subst e
  exact⟨_,st,fun v z=>by
   have z':Data.fields _=Data.cell v:=z
   cases z'⟩
 keep:=fun i h h' st k=>k it (by simp) _ st
 item:=by
  intro X hP hw hK hc i pins s σ H E I hf st hg
  subst hP hw hK
  obtain⟨f0,f1,f2,f3,f4,f5⟩:=hf it (by simp)
  have W:=Walks.range (prog:=X.prog) (w:=X.w) (I.ok.hd hc) it lo 1 n
  refine W.item i s _ _ hg st fun v h' tk hv st' kk=>?_
  obtain⟨t,rfl⟩:=hv
  have I1:Inv X pins σ H { s with heap:=h',toks:=tk }:=I.turned (fun b o hb e=>kk b o (by simpa using hb) e) f0 f1 f3 f4 f5
  refine⟨_,rfl,Ay (s:={ s with heap:=h',toks:=tk }) (n := "range_iterator") st' rfl rfl (by decide) ⟨.int (lo+i),H,I1,⟨t,?_⟩,⟨rfl,rfl⟩,st',fun b hb=>(hf b hb).1⟩⟩
  rw[Int.mul_one]
 done:=by
  intro X hP hw hK hc i pins s σ H E I hf st hg
  subst hP hw hK
  obtain⟨f0,f1,f2,f3,f4,f5⟩:=hf it (by simp)
  exact wpAny_pyNext_range_end (I.ok.hd hc) st (by have:n<=i:=hg;omega) fun h' eb=>⟨rfl,I.turned (t':=s.toks) (fun b o hb e=>eb b o hb e) f0 f1 f3 f4 f5⟩
 self:=fun _ _ _ _ _ st h=>wpAny_pyIter_rangeiter st h
end L2
namespace L2
open PySem PySem.Spec PyProof.Rows
section
variable {X:Cx} {tg:Expr}
theorem Ob {pins:List (Addr×Obj)} {σ:St} {H:Hp} {s:Shared} {R:It->Hp->Prop} {E:Value->Shared->Prop} {lo hi:Int} {t u v:Tok} {tk:Nat} (I:Inv X pins σ H s) (h1 : -(2 ^ 62)<=lo) (h2:lo < 2 ^ 62) (h3 : -(2 ^ 62)<=hi) (h4:hi < 2 ^ 62)
  (q:R (Itr lo (hi - lo).toNat) H):wpAny (model X.prog X.w) X.A (pyIter (.ref s.heap.objs.size)) (PIE X pins σ tg R) E { s with heap:=s.heap.push { cls:=.type "range", data:=.fields #[.int lo t,.int hi u,.int 1 v] },toks:=tk }:=by
 refine wpAny_pyIter_range (IsRange.new ..) (small_one h1 h2 h3 h4) ?_
 have I1:Inv X pins σ H { s with heap:=s.heap.push { cls:=.type "range", data:=.fields #[.int lo t,.int hi u,.int 1 v] },toks:=tk }:=I.kept fun b o e=>ze _ e
 refine⟨(s.heap.push { cls:=.type "range", data:=.fields #[.int lo t,.int hi u,.int 1 v] }).objs.size,[(s.heap.push { cls:=.type "range", data:=.fields #[.int lo t,.int hi u,.int 1 v] }).objs.size],_,_,H,rfl,
  I1.kept (t':=tk) fun b o e=>ze _ e,Hz _ lo (hi - lo).toNat,?_,fun b hb=>?_,q⟩
 ·have e1:lo+((0:Nat):Int) * 1=lo:=by simp
  have e2:(((hi - lo).toNat:Nat):Int) - ((0:Nat):Int)=Builtin.Range.rangeSize lo hi 1:=by rw[rangeSize_one];split<;>omega
  show IsRangeIter _ _ (lo+((0:Nat):Int) * 1) ((((hi - lo).toNat:Nat):Int) - ((0:Nat):Int)) 1
  rw[e1,e2]
  exact zr _ rfl
 ·have e:b=(s.heap.push { cls:=.type "range", data:=.fields #[.int lo t,.int hi u,.int 1 v] }).objs.size:=by simpa using hb
  subst e
  exact I1.Er (zk _) (I1.hok.fresh (zk _))
def Z1 (ta:TA):TI:=fun σ H R=>ta σ H fun vs H1=>∃ j:Int,vs=[.int j] ∧ -(2 ^ 62)<=j/\j < 2 ^ 62/\R (Itr 0 j.toNat) H1
theorem Lr {a:Expr} {ta:TA} {p pos:Pos} (hg:Gl X "range") (hm:X.mg "range" = none) (ha:PA X [a] ta) (hs:starEach [a] X.env=[(false,eval a X.env)]:=by rfl):PI X tg (.Call (.Name "range" p) [a] [] pos) (Z1 ta):=by
 intro pins s σ H R I h
 refine Call_ (xZ I hg hm boot_range (PyProof.Rows.callWith_type1 (iR (ha pos pins s σ H _ I h) fun us s1 ⟨vs,H1,I1,r1,q1⟩=>?_) hs rfl))
 obtain⟨j,e,q1,q2,q⟩:=q1
 subst e
 cases r1 with
 |cons r rr=>
  cases rr
  obtain⟨t,rfl⟩:=r
  exact call_range_1 (Ob I1 (by omega) (by omega) q1 q2 (by simpa using q))
def ab5 (wi:TI) (g:TG) (tb:TS):TS:=fun D σ H=>wi σ H fun J H1=>∃ W:Nat->Nat->St->Hp->Prop,(∃ m,W 0 m σ H1)/\∀ i m σ H,W i m σ H →
 (J.stop i H/\D.nx σ H)\/(J.go i H/\∃ N:St->Hp->Prop,(∀ σ' H',N σ' H'->∃ m',m' < m/\W (i+1) m' σ' H')/\∀ x H',J.Z0 i H x H'->g x σ H' fun σ2 H2=>tb { D with nx:=N,ct:=N,bk:=D.nx } σ2 H2)
def vJ (fp:List Addr) (h:Heap):List (Addr×Obj):=fp.filterMap fun b=>(h.get? b).map fun o=>(b,o)
theorem ou {fp:List Addr} {h:Heap} {b:Addr} {o:Obj} (hb:b∈fp) (e:h.get? b=some o):(b,o)∈vJ fp h:=List.mem_filterMap.mpr ⟨b,hb,by rw[e];rfl⟩
theorem Ls {fp:List Addr} {h:Heap} {p:Addr×Obj} (hp:p∈vJ fp h):p.1∈fp/\h.get? p.1=some p.2:=by
 obtain⟨b,hb,e⟩:=List.mem_filterMap.mp hp
 cases q:h.get? b with
 |none=>rw[q] at e;cases e
 |some o=>
  rw[q] at e
  have e':(b,o)=p:=ja e
  subst e'
  exact⟨hb,q⟩
theorem Inv.pinned {pins:List (Addr×Obj)} {σ:St} {H:Hp} {s:Shared} {fp:List Addr} (I:Inv X pins σ H s) (hf:∀ b∈fp,oh X pins H b) (ho:∀ b∈fp,∃ o,s.heap.get? b=some o/\∀ v,o.data≠.cell v):Inv X (pins++vJ fp s.heap) σ H s:=
 I.Cg fun p hp=>(List.mem_append.mp hp).elim (fun z=>I.pin p (Zl _ z)) fun z=>by
  obtain⟨hb,e⟩:=Ls z
  obtain⟨f0,f1,f2,_⟩:=hf p.1 hb
  obtain⟨o,e',d⟩:=ho p.1 hb
  rw[e] at e';cases e'
  exact⟨e,f0,f1,f2,d⟩
theorem Inv.pR {pins pl:List (Addr×Obj)} {σ:St} {H:Hp} {s:Shared} (I:Inv X (pins++pl) σ H s):Inv X pins σ H s:=I.Cg fun p hp=>I.pin p (Zl _ (QI _ hp))
theorem HB {iter:Expr} {body:List Stmt} {wi:TI} {g:TG} {tb:TS} {pos:Pos} (hp:PassesOwn (model X.prog X.w) X.A X.env X.xe) (hc:X.calm=true) (hi:PI X tg iter wi) (hg:PG X tg g) (hb:Hw X body tb)
  (hs:∀ x,foldedSetIterable iter X.env x=pure x:=by intro _;rfl):PS X (.For tg iter body [] pos) (ab5 wi g tb):=by
 intro pins s σ H D I h
 refine wpAny_For (iR (hi pins s σ H _ I h) fun v s1 h1=>iR h1 fun itv s2 h2=>?_) hs
 obtain⟨it,fp,tn,J,H2,e,I2,T,st2,f2,W,⟨m0,w0⟩,turn⟩:=h2
 subst e
 have stat:∀ {H':Hp},(∀ b∈fp,H' b=none)->∀ b∈fp,oh X pins H' b:=fun hn b hb=>⟨hn b hb,(f2 b hb).2⟩
 refine codeAny_forLoop_any (fun n s'=>∃ i σ' H',Inv X pins σ' H' s'/\tn i s'.heap/\(∀ b∈fp,H' b=none)/\W i n σ' H') ?_ m0 ⟨0,σ,H2,I2,st2,fun b hb=>(f2 b hb).1,w0⟩
 rintro n s3 ⟨i,σ3,H3,I3,st3,fr3,w3⟩
 rcases turn i n σ3 H3 w3 with⟨stop,qn⟩|⟨go,N,hN,step⟩
 ·refine kF hp (iR (T.done X rfl rfl rfl hc i pins s3 σ3 H3 X.xe I3 (stat fr3) st3 stop) fun r s4 ⟨hr,I4⟩=>?_)
  subst hr
  exact wpAny_execs_nil ⟨σ3,H3,I4,qn⟩
 ·refine kF hp (iR (T.item X rfl rfl rfl hc i pins s3 σ3 H3 X.xe I3 (stat fr3) st3 go) fun r s4 ⟨u,hr,h4⟩=>?_)
  subst hr
  refine kF hp (iR h4 fun _ s5 ⟨x,H5,I5,r5,y5,st5,fr5⟩=>?_)
  have I5':=I5.pinned (stat fr5) (T.obj _ _ st5)
  refine kF hp (iR (hg _ s5 σ3 H5 x u _ I5' r5 (step x H5 y5)) fun _ s6 ⟨σ6,H6,I6,q6⟩=>?_)
  refine kF hp (iR (hb _ s6 σ6 H6 _ I6 q6) fun f s7 q7=>?_)
  have again:∀ {σ7:St} {H7:Hp},Inv X (pins++vJ fp s5.heap) σ7 H7 s7->N σ7 H7->∃ m,m < n/\∃ i σ' H',Inv X pins σ' H' s7/\tn i s7.heap/\(∀ b∈fp,H' b=none)/\W i m σ' H':=fun {σ7 H7} I7 n7=>by
   obtain⟨m',hm,w7⟩:=hN σ7 H7 n7
   refine⟨m',hm,i+1,σ7,H7,I7.pR,T.keep _ _ _ st5 fun b hb o e=>(I7.pin (b,o) (Zl _ (Zl _ (ou hb e)))).1,fun b hb=>?_,w7⟩
   obtain⟨o,e,d⟩:=T.obj _ _ st5 b hb
   exact (I7.pin (b,o) (Zl _ (Zl _ (ou hb e)))).2.1
  cases f with
  |next=>obtain⟨σ7,H7,I7,n7⟩:=q7;exact again I7 n7
  |cont=>obtain⟨σ7,H7,I7,n7⟩:=q7;exact again I7 n7
  |brk=>obtain⟨σ7,H7,I7,q7⟩:=q7;exact⟨σ7,H7,I7.pR,q7⟩
  |ret v=>obtain⟨x7,σ7,H7,I7,r7,q7⟩:=q7;exact⟨x7,σ7,H7,I7.pR,r7,q7⟩
end
end L2
namespace L2
open PySem PySem.Spec PyProof.Rows
abbrev R2:=V->V->Hp->VK->Prop
def tQ (X:Cx) (f:Value->Value->Sem Value) (r:R2):Prop:=
 ∀ (pins:List (Addr×Obj)) (s:Shared) (σ:St) (H:Hp) (x y:V) (v u:Value) (Q:VK),Inv X pins σ H s->RelV x v->RelV y u->r x y H Q →
  wpAny (model X.prog X.w) X.A (f v u) (EP X pins σ Q) X.xe s
def VB (X:Cx) (f:Value->Sem Value) (r:V->Hp->VK->Prop):Prop:=
 ∀ (pins:List (Addr×Obj)) (s:Shared) (σ:St) (H:Hp) (x:V) (v:Value) (Q:VK),Inv X pins σ H s->RelV x v->r x H Q →
  wpAny (model X.prog X.w) X.A (f v) (EP X pins σ Q) X.xe s
def fK (X:Cx) (f:Value) (r:List V->Hp->VK->Prop):Prop:=
 ∀ (pins:List (Addr×Obj)) (s:Shared) (σ:St) (H:Hp) (xs:List V) (us:List Value) (Q:VK),Inv X pins σ H s->Vals xs us->r xs H Q →
  wpAny (model X.prog X.w) X.A (call f us) (EP X pins σ Q) X.xe s
def ab7 (X:Cx) (r:V->Hp->(Bool->Hp->Prop)->Prop):Prop:=
 ∀ (pins:List (Addr×Obj)) (s:Shared) (σ:St) (H:Hp) (x:V) (v:Value) (Q:Bool->Hp->Prop),Inv X pins σ H s->RelV x v->r x H Q →
  wpAny (model X.prog X.w) X.A (truthy v) (TP X pins σ Q) X.xe s
def Z2 (r:R2) (ta tb:TE):TE:=fun σ H Q=>ta σ H fun x H1=>tb σ H1 fun y H2=>r x y H2 Q
def tUn (r:V->Hp->VK->Prop) (ta:TE):TE:=fun σ H Q=>ta σ H fun x H1=>r x H1 Q
def rI (C:Int->Int->Prop) (g:Int->Int->V):R2:=fun x y H Q=>∃ i j,x=.int i/\y=.int j/\C i j/\Q (g i j) H
def WT (g:Int->Int->V):R2:=fun x y H Q=>∃ i j,x=.int i/\y=.int j/\Q (g i j) H
def rU (g:Int->V):V->Hp->VK->Prop:=fun x H Q=>∃ i,x=.int i/\Q (g i) H
section
variable {X:Cx} {a b c:Expr} {ta tb tc:TE} {pos:Pos}
theorem WW (ha:PE X a ta) (hb:PE X b tb) {pins:List (Addr×Obj)} {s:Shared} {σ:St} {H:Hp} {R:V->V->Hp->Prop} (I:Inv X pins σ H s)
  (h:ta σ H fun x H1=>tb σ H1 fun y H2=>R x y H2) {Q:Value->Shared->Prop} {f:Value->Value->Sem Value}
  (hf:∀ v u s2 x y H2,Inv X pins σ H2 s2->RelV x v->RelV y u->R x y H2->wpAny (model X.prog X.w) X.A (f v u) Q X.xe s2) :
  wpAny (model X.prog X.w) X.A (eval a X.env) (fun v s₁=>wpAny (model X.prog X.w) X.A (eval b X.env) (fun u s₂=>wpAny (model X.prog X.w) X.A (f v u) Q X.xe s₂) X.xe s₁) X.xe s:=by
 refine iR (ha pins s σ H _ I h) fun v s1 ⟨x,H1,I1,r1,q1⟩=>?_
 refine iR (hb pins s1 σ H1 _ I1 q1) fun u s2 ⟨y,H2,I2,r2,q2⟩=>?_
 exact hf v u s2 x y H2 I2 r1 r2 q2
theorem Z4 {op:Operator} {r:R2} (ho:tQ X (binaryOp op) r) (ha:PE X a ta) (hb:PE X b tb):PE X (.BinOp a op b pos) (Z2 r ta tb):=by
 intro pins s σ H Q I h
 exact wpAny_BinOp (WW ha hb I h fun v u s2 x y H2 I2 rx ry q=>ho pins s2 σ H2 x y v u Q I2 rx ry q)
theorem Z5 {op:UnaryOp} {r:V->Hp->VK->Prop} (ho:VB X (unaryOp op) r) (ha:PE X a ta):PE X (.UnaryOp op a pos) (tUn r ta):=by
 intro pins s σ H Q I h
 exact UnaryOp_ (iR (ha pins s σ H _ I h) fun v s1 ⟨x,H1,I1,r1,q1⟩=>ho pins s1 σ H1 x v Q I1 r1 q1)
theorem Z6 {f:Value->Value->Sem Value} {C:Int->Int->Prop} {g:Int->Int->Int}
  (rule:∀ (i j:Int) (t u:Tok) (s:Shared) (Q:Value->Shared->Prop) (E:Value->Shared->Prop),C i j->Q (.int (g i j) s.toks) { s with toks:=s.toks+1 }->wpAny (model X.prog X.w) X.A (f (.int i t) (.int j u)) Q E s) :
  tQ X f (rI C fun i j=>.int (g i j)):=by
 intro pins s σ H x y v u Q I rx ry h
 obtain⟨i,j,rfl,rfl,hc,q⟩:=h
 obtain⟨t,rfl⟩:=rx
 obtain⟨t',rfl⟩:=ry
 exact rule i j t t' s _ _ hc ⟨.int (g i j),H,I.tok _,⟨_,rfl⟩,q⟩
theorem Z7 {f:Value->Value->Sem Value} {g:Int->Int->Int}
  (rule:∀ (i j:Int) (t u:Tok) (s:Shared) (Q:Value->Shared->Prop) (E:Value->Shared->Prop),Q (.int (g i j) s.toks) { s with toks:=s.toks+1 }->wpAny (model X.prog X.w) X.A (f (.int i t) (.int j u)) Q E s) :
  tQ X f (WT fun i j=>.int (g i j)):=by
 intro pins s σ H x y v u Q I rx ry h
 obtain⟨i,j,rfl,rfl,q⟩:=h
 obtain⟨t,rfl⟩:=rx
 obtain⟨t',rfl⟩:=ry
 exact rule i j t t' s _ _ ⟨.int (g i j),H,I.tok _,⟨_,rfl⟩,q⟩
theorem WX {f:Value->Value->Sem Value} {g:Int->Int->Bool}
  (rule:∀ (i j:Int) (t u:Tok) (s:Shared) (Q:Value->Shared->Prop) (E:Value->Shared->Prop),Q (.bool (g i j)) s->wpAny (model X.prog X.w) X.A (f (.int i t) (.int j u)) Q E s) :
  tQ X f (WT fun i j=>.bl (g i j)):=by
 intro pins s σ H x y v u Q I rx ry h
 obtain⟨i,j,rfl,rfl,q⟩:=h
 obtain⟨t,rfl⟩:=rx
 obtain⟨t',rfl⟩:=ry
 exact rule i j t t' s _ _ ⟨.bl (g i j),H,I,rfl,q⟩
def ab8 (i j:Int):Prop:=0 < j/\j < 1073741824
def ab9 (i j:Int):Prop:=0<=j/\j<=1000000/\i.natAbs < 2 ^ 64
def WY (i j:Int):Prop:=(-(2 ^ 64) < i/\i < 2 ^ 64)\/(-(2 ^ 64) < j/\j < 2 ^ 64)
theorem WY.ok {i j:Int} (h:WY i j):IntMulOk i j:=by
 rcases h with⟨h1,h2⟩|⟨h1,h2⟩
 ·exact .of_left (intBits_le_64 h1 h2)
 ·exact .of_right (intBits_le_64 h1 h2)
theorem HD (k:Nat):(0:Int)<=2 ^ k:=by
 rw[two_pow_cast]
 exact Int.natCast_nonneg _
theorem W0:tQ X (binaryOp .Add) (WT fun i j=>.int (i+j)):=Z7 fun _ _ _ _ _ _ _ q=>add_int q
theorem W2:tQ X (binaryOp .Mult) (rI WY fun i j=>.int (i * j)):=Z6 fun _ _ _ _ _ _ _ hc q=>mul_int q hc.ok
theorem R9:tQ X (binaryOp .FloorDiv) (rI ab8 fun i j=>.int (i / j)):=Z6 fun i j _ _ _ _ _ hc q=>by
 have h1:(0:Int) < j:=hc.1
 have h2:j < 1073741824:=hc.2
 exact floordiv_int (by omega) (by rw[Int.fdiv_eq_ediv_of_nonneg i (by omega)];exact q) (.inl (PyProof.noPylong_small (by omega)))
theorem W3:tQ X (binaryOp .Mod) (rI (fun _ j=>0 < j) fun i j=>.int (i % j)):=Z6 fun i j _ _ _ _ _ hc q=>by
 have h1:(0:Int) < j:=hc
 exact mod_int' (by omega) (by rw[Int.fmod_eq_emod_of_nonneg i (by omega)];exact q)
theorem W4:tQ X (binaryOp .Pow) (rI ab9 fun i j=>.int (i ^ j.toNat)):=Z6 fun _ _ _ _ _ _ _ hc q=>pow_int_small hc.1 hc.2.1 hc.2.2 q
theorem W5:tQ X (binaryOp .RShift) (rI (fun _ j=>0<=j) fun i j=>.int (i / 2 ^ j.toNat)):=Z6 fun i j _ _ _ _ _ hc q=>
 rshift_int hc (by rw[Int.fdiv_eq_ediv_of_nonneg i (HD _)];exact q)
theorem W6:tQ X (binaryOp .BitAnd) (WT fun i j=>.int (Builtin.bitAnd i j)):=Z7 fun _ _ _ _ _ _ _ q=>and_int q
theorem unI {f:Value->Sem Value} {g:Int->Int}
  (rule:∀ (i:Int) (t:Tok) (s:Shared) (Q:Value->Shared->Prop) (E:Value->Shared->Prop),Q (.int (g i) s.toks) { s with toks:=s.toks+1 }->wpAny (model X.prog X.w) X.A (f (.int i t)) Q E s) :
  VB X f (rU fun i=>.int (g i)):=by
 intro pins s σ H x v Q I rx h
 obtain⟨i,rfl,q⟩:=h
 obtain⟨t,rfl⟩:=rx
 exact rule i t s _ _ ⟨.int (g i),H,I.tok _,⟨_,rfl⟩,q⟩
theorem W7:VB X (unaryOp .USub) (rU fun i=>.int (-i)):=unI fun _ _ _ _ _ q=>neg_int q
end
section
variable {X:Cx} {a b c:Expr} {ta tb tc:TE} {pos:Pos}
theorem W8 {pins:List (Addr×Obj)} {σ:St} {H:Hp} {s:Shared} {Q:VK} {k k':Bool} (I:Inv X pins σ H s) (q:Q (.bl k) H) (e:k=k'):EP X pins σ Q (.bool k') s:=by
 subst e
 exact⟨.bl k,H,I,rfl,q⟩
theorem Z8:tQ X (compareOp .Lt) (WT fun i j=>.bl (decide (i < j))):=WX fun _ _ _ _ _ _ _ q=>lt_int q
theorem Z9:tQ X (compareOp .Gt) (WT fun i j=>.bl (decide (j < i))):=WX fun _ _ _ _ _ _ _ q=>gt_int q
theorem aac:tQ X (compareOp .GtE) (WT fun i j=>.bl (decide (j<=i))):=WX fun _ _ _ _ _ _ _ q=>ge_int q
theorem Lw:tQ X (compareOp .In) (fun x y H Q=>∃ i j,x=.str i/\y=.str j/\Q (.bl (!(Builtin.Str.occurrences j i 0 j.length 1).isEmpty)) H):=by
 intro pins s σ H x y v u Q I rx ry h
 obtain⟨i,j,rfl,rfl,q⟩:=h
 obtain⟨t,rfl⟩:=rx
 obtain⟨t',rfl⟩:=ry
 exact in_str (W8 I q rfl)
theorem tQ.or {f:Value->Value->Sem Value} {r r':R2} (h:tQ X f r) (h':tQ X f r'):tQ X f (fun x y H Q=>r x y H Q\/r' x y H Q):=by
 intro pins s σ H x y v u Q I rx ry q
 rcases q with q|q
 ·exact h pins s σ H x y v u Q I rx ry q
 ·exact h' pins s σ H x y v u Q I rx ry q
theorem d7 (b:Expr) {op:CmpOp} (h:op≠.In:=by decide) (h2:op≠.NotIn:=by decide):behindInMarks op b=false:=by
 have e1:(op==CmpOp.In)=false:=by cases op<;>first|rfl|exact absurd rfl h
 have e2:(op==CmpOp.NotIn)=false:=by cases op<;>first|rfl|exact absurd rfl h2
 cases b<;>simp[behindInMarks,e1,e2]
theorem Sd {op:CmpOp} {r:R2} (ho:tQ X (compareOp op) r) (ha:PE X a ta) (hb:PE X b tb) (hm:behindInMarks op b=false):PE X (.Compare a [op] [b] pos) (Z2 r ta tb):=by
 intro pins s σ H Q I h
 exact wpAny_Compare1 (WW ha hb I h fun v u s2 x y H2 I2 rx ry q=>ho pins s2 σ H2 x y v u Q I2 rx ry q) hm
def aad (t:TE):TT:=fun σ H Q=>t σ H fun x H'=>∃ k,x=.bl k/\Q k H'
theorem Sg {op:CmpOp} {r:R2} (ho:tQ X (compareOp op) r) (ha:PE X a ta) (hb:PE X b tb) (hm:behindInMarks op b=false):PT X (.Compare a [op] [b] pos) (aad (Z2 r ta tb)):=by
 intro pins s σ H Q I h
 refine wpAny_isTrue_Compare1 (iR (ha pins s σ H _ I h) fun v s1 ⟨x,H1,I1,r1,q1⟩=>iR (hb pins s1 σ H1 _ I1 q1) fun u s2 ⟨y,H2,I2,r2,q2⟩=>
  iR (ho pins s2 σ H2 x y v u _ I2 r1 r2 q2) fun c s3 ⟨z,H3,I3,r3,k,e,q3⟩=>?_) hm
 subst e
 cases r3
 exact kq ⟨H3,I3,q3⟩
def W9 (K:PySem.W.Frag) (x:V) (H:Hp) (k:Bool):Prop:=
 match x with
 |.non=>k=false
 |.bl b=>k=b
 |.int i=>k=(i != 0)
 |.str y=>y.length<=sizeLine/\k=((y.length:Int) != 0)
 |.ZK y=>y.size<=sizeLine/\k=((y.size:Int) != 0)
 |.ref p=>(∃ xs,nF K H p xs/\k=!xs.isEmpty)\/(∃ xs,tO K H p xs/\k=!xs.isEmpty)\/∃ kvs,H p=some (.dK kvs)/\k=!kvs.isEmpty
 |_=>False
theorem HF {κ:Type} {kvs:List (κ×V)} {vs:List (κ×Value)} (r:KV kvs vs):(!vs.isEmpty)=!kvs.isEmpty:=by
 cases r<;>rfl
theorem yg {xs:List V} {its:List Value} (r:Vals xs its):(!its.toArray.isEmpty)=!xs.isEmpty:=by
 cases r<;>simp
theorem vK:(sizeLine:Nat) < 2 ^ 63:=by rw[sizeLine_eq];decide
theorem Xa:ab7 X (fun x H Q=>∃ k,W9 X.K x H k/\Q k H):=by
 intro pins s σ H x v Q I rx h
 obtain⟨k,e,q⟩:=h
 have hl:=vK
 have hs:sizeLine=16777216:=sizeLine_eq
 cases x with
 |non=>
  cases rx
  have e':k=false:=e
  subst e'
  exact truthy_none ⟨H,I,q⟩
 |bl b=>
  cases rx
  have e':k=b:=e
  subst e'
  exact kq ⟨H,I,q⟩
 |int i=>
  obtain⟨t,rfl⟩:=rx
  have e':k=(i != 0):=e
  subst e'
  exact PySem.P.truthy_int ⟨H,I,q⟩
 |str y=>
  obtain⟨t,rfl⟩:=rx
  obtain⟨hy,e'⟩:y.length<=sizeLine/\k=((y.length:Int) != 0):=e
  subst e'
  exact PySem.P.truthy_str (by omega) ⟨H,I.tok _,q⟩
 |ZK y=>
  obtain⟨t,rfl⟩:=rx
  obtain⟨hy,e'⟩:y.size<=sizeLine/\k=((y.size:Int) != 0):=e
  subst e'
  exact PySem.W.truthy_bytes (by omega) ⟨H,I.tok _,q⟩
 |ref p=>
  cases rx
  have e':(∃ xs,nF X.K H p xs/\k=!xs.isEmpty)\/(∃ xs,tO X.K H p xs/\k=!xs.isEmpty)\/∃ kvs,H p=some (.dK kvs)/\k=!kvs.isEmpty:=e
  rcases e' with⟨xs,hx,e'⟩|⟨xs,hx,e'⟩|⟨kvs,hx,e'⟩
  ·subst e'
   obtain⟨its,r,pl,hz⟩:=I.list hx
   have hlen:=r.length
   exact wpAny_truthy_list pl.isList (by simp only[zt];omega) ⟨H,I.tok _,by rw[yg r];exact q⟩
  ·subst e'
   obtain⟨its,r,pl,hz⟩:=I.tuple hx
   have hlen:=r.length
   exact truthy_tuple pl (by simp only[zt];omega) ⟨H,I.tok _,by rw[yg r];exact q⟩
  ·subst e'
   obtain⟨hz,hS,vs,r,m⟩:kvs.length<=sizeLine/\(p==sysModules)=false/\∃ vs,KV kvs vs/\s.heap.DictOf (bM X.prog X.w) p vs:=I.hok p _ hx
   have hlen:kvs.length=vs.length:=Paired.length r
   exact wpAny_truthy_dict hS m (by omega) ⟨H,I.tok _,by rw[HF r];exact q⟩
 |_=>exact (show False from e).elim
theorem Oc (ha:PE X a ta) (he:∀ whole,isTrue a X.env whole=(do let v <-whole;standAt a.pos;holding [v] (truthy v))) :
  PT X a (fun σ H Q=>ta σ H fun x H'=>∃ k,W9 X.K x H' k/\Q k H'):=by
 intro pins s σ H Q I h
 exact isTrue_plain (iR (ha pins s σ H _ I h) fun v s1 ⟨x,H1,I1,r1,q1⟩=>Xa pins s1 σ H1 x v Q I1 r1 q1) (he _)
theorem HJ:tQ X (binaryOp .Add) (fun x y H Q=>∃ i j,x=.str i/\y=.str j/\i.length+j.length<=sizeLine/\Q (.str (i++j)) H):=by
 intro pins s σ H x y v u Q I rx ry h
 obtain⟨i,j,rfl,rfl,hz,q⟩:=h
 obtain⟨t,rfl⟩:=rx
 obtain⟨t',rfl⟩:=ry
 exact add_str (fun t' tk=>⟨.str (i++j),H,I.tok _,⟨_,rfl⟩,q⟩) hz
theorem vals1 {x:V} {us:List Value} (r:Vals [x] us):∃ u,us=[u]/\RelV x u:=by
 cases r with
 |cons r1 r2=>cases r2;exact⟨_,rfl,r1⟩
theorem vals2 {x y:V} {us:List Value} (r:Vals [x,y] us):∃ u w',us=[u,w']/\RelV x u/\RelV y w':=by
 cases r with
 |cons r1 r2=>
  cases r2 with
  |cons r3 r4=>cases r4;exact⟨_,_,rfl,r1,r3⟩
theorem Od:fK X (.builtin "abs") (fun xs H Q=>∃ i,xs=[.int i]/\Q (.int (if i < 0 then -i else i)) H):=by
 intro pins s σ H xs us Q I r h
 obtain⟨i,rfl,q⟩:=h
 obtain⟨u,rfl,t,rfl⟩:=vals1 r
 exact call_abs_int fun u tk=>⟨.int (if i < 0 then -i else i),H,I.tok _,⟨_,rfl⟩,q⟩
theorem Lx:fK X (.type "int") (fun xs H Q=>(∃ i,xs=[.int i]/\Q (.int i) H)\/∃ k,xs=[.bl k]/\Q (.int (if k then 1 else 0)) H):=by
 intro pins s σ H xs us Q I r h
 rcases h with⟨i,rfl,q⟩|⟨k,rfl,q⟩
 ·obtain⟨u,rfl,t,rfl⟩:=vals1 r
  exact call_int_int ⟨.int i,H,I,⟨_,rfl⟩,q⟩
 ·obtain⟨u,rfl,r1⟩:=vals1 r
  cases r1
  exact call_int_bool ⟨.int (if k then 1 else 0),H,I.tok _,⟨_,rfl⟩,q⟩
end
end L2
namespace L2
open PySem PySem.Spec PyProof.Rows
structure aae (h:Heap) (x dx C:Addr) (mA:Str->Option Value):Prop where
 obj:h.get? x=some (PySem.W.instObj C dx)
 ns:h.Ns1 dx mA
 ne:dx≠x
theorem Ly {h:Heap} {dx:Addr} {mA:Str->Option Value} (n:h.Ns1 dx mA):∃ od,h.get? dx=some od/\∀ name,PySem.W.lookIn name od=some (mA name):=by
 obtain⟨o,es,ep,ho,hd,hk,_,hm⟩:=n
 refine⟨o,ho,fun name=>?_⟩
 have e:=hm name
 unfold nsFind findBy at e
 rw[<-Array.find?_toList] at e
 unfold PySem.W.lookIn
 rw[hd]
 dsimp only
 split
 ·rename_i y q
  rw[q] at e
  exact congrArg some e
 ·rename_i q
  rw[q] at e
  have a:es.toList.any (·.refKey)=false:=by
   rw[List.any_eq_false]
   intro y hy
   obtain⟨z,t,hkey⟩:=hk y (Array.mem_toList_iff.mp hy)
   simp[DictEntry.refKey,hkey]
  have a':¬ es.toList.any (·.refKey)=true:=by rw[a];exact zC
  rw[zS a']
  exact congrArg some e
theorem aae.look {h:Heap} {x dx C:Addr} {mA:Str->Option Value} (I:aae h x dx C mA):∃ od,PySem.W.InstAt h x (PySem.W.instObj C dx) C (some od)/\∀ name,PySem.W.lookIn name od=some (mA name):=
 let ⟨od,ho,hl⟩:=Ly I.ns
 ⟨od,⟨I.obj,rfl,rfl,ho⟩,hl⟩
section
variable {prog:Program} {w:World} {A:Around} {E:Value->Shared->Prop} {s:Shared} {K:PySem.W.Frag} {x dx C f:Addr} {mA:Str->Option Value} {name:Str} {v:Value}
end
theorem xu.some_of {v:V} {o:Option Value} (r:xu (some v) o):∃ u,o=some u/\RelV v u:=by
 cases o with
 |none=>exact (show False from r).elim
 |some u=>exact⟨u,rfl,r⟩
section
variable {P:Program} {w:World} {H H':Hp} {h h':Heap} {a C dx:Addr} {fs fs':List (Str×V)}
end
structure Cls (K:PySem.W.Frag) (C:Addr):Prop where
 pg:PySem.W.plainGet K C Str.empty=true
 hd:PySem.W.hasDictIn K C=true
 po:PySem.W.plainOver K C=true
 sa:PySem.W.findIn K (.ref C) "__setattr__" = some (some (.builtin "object.__setattr__"))
theorem Cls.get {K:PySem.W.Frag} {C:Addr} (c:Cls K C) (f:Str):PySem.W.plainGet K C f=true:=c.pg
section
variable {X:Cx} {pins:List (Addr×Obj)} {σ:St} {H:Hp} {s:Shared} {a C dx:Addr} {fs:List (Str×V)} {f:Str} {v:V} {A:Around} {E:Value->Shared->Prop}
end
section
variable {X:Cx} {o e value:Expr} {f:Str} {pos pos' tpos:Pos} {ta tv:TE}
end
section
variable {X:Cx} {pins:List (Addr×Obj)} {σ:St} {H:Hp} {s:Shared} {A:Around} {E:Value->Shared->Prop} {Q:Value->Shared->Prop} {c:Value} {b:Bool}
end
end L2
namespace L2
open PySem PySem.Spec PyProof.Rows
structure kh (k:Nat) (A:Around):Prop where
 hd:A.handled=none
 dp:A.depth+3 * k+5 < recursionLimit
 un:A.units+16 * k+200 < cLine
theorem kh.mono {j k:Nat} {A:Around} (r:kh k A) (h:j<=k):kh j A:=⟨r.hd,by have:=r.dp;omega,by have:=r.un;omega⟩
theorem kh.deeper {k:Nat} {A:Around} (r:kh (k+1) A) (env:Env):kh k (A.deeper env):=
 ⟨r.hd,by have:=r.dp;show A.depth+1+3 * k+5 < _;omega,by have:=r.un;show A.units+3+16 * k+200 < _;omega⟩
theorem kh.in1 {k:Nat} {A:Around} (r:kh (k+1) A):kh k A.in1:=
 ⟨r.hd,by have:=r.dp;show A.depth+3 * k+5 < _;omega,by have:=r.un;show A.units+1+16 * k+200 < _;omega⟩
theorem kh.depth {k:Nat} {A:Around} (r:kh k A):A.depth < recursionLimit:=by have:=r.dp;omega
theorem kh.units {k:Nat} {A:Around} (r:kh k A):A.units+64 < cLine:=by have:=r.un;omega
def HN:TA:=fun _ H Q=>Q [] H
def rH (ta:TE) (tr:TA):TA:=fun σ H Q=>ta σ H fun x H1=>tr σ H1 fun xs H2=>Q (x::xs) H2
section
variable {X:Cx} {e:Expr} {es:List Expr} {te:TE} {t:TA} {pos:Pos}
theorem m7:PA X [] HN:=fun _ _ _ _ H Q I h=>Calls.spliced_nil ⟨[],H,I,.nil,h⟩
theorem gO (ha:PE X e te) (hr:PA X es t) (hs:starEach (e::es) X.env=(false,eval e X.env)::starEach es X.env:=by rfl):PA X (e::es) (rH te t):=by
 intro pos pins s σ H Q I h
 rw[hs]
 show wpAny _ _ (spliced ((false,eval e X.env)::backTo pos (starEach es X.env))) _ _ s
 refine Calls.spliced_cons (iR (ha pins s σ H _ I h) fun u s1 ⟨x,H1,I1,r1,q1⟩=>?_)
 exact iR (hr pos pins s1 σ H1 _ I1 q1) fun us s2 ⟨xs,H2,I2,r2,q2⟩=>⟨x::xs,H2,I2,.cons r1 r2,q2⟩
def acd (t:TA):TE:=fun σ H Q=>t σ H fun xs H1=>xs.length<=sizeLine/\∀ p,H1 p=none->Q (.ref p) (upd H1 p (.tup xs))
def aaf (t:TA):TE:=fun σ H Q=>t σ H fun xs H1=>xs.length<=sizeLine/\∀ p,H1 p=none->Q (.ref p) (upd H1 p (.lst xs))
theorem Xb {x1} (h:PA X es t):PE X (.Tuple es x1 pos) (acd t):=by
 intro pins s σ H Q I hq
 refine wpAny_Tuple_spliced (iR (h pos pins s σ H _ I hq) fun us s1 ⟨xs,H1,I1,r,z,q⟩=>⟨by rw[<-r.length];exact z,?_⟩)
 have hf:H1 s1.heap.objs.size=none:=I1.hok.fresh (zk _)
 refine⟨.ref s1.heap.objs.size,upd H1 s1.heap.objs.size (.tup xs),I1.laid (t':=s1.toks) (fun b u e=>ze _ e) (zk _) ?_,rfl,q _ hf⟩
 exact⟨z,us,r,⟨_,zr _ rfl,rfl,⟨_,rfl⟩,rfl⟩⟩
theorem Oe (h:PA X es t):PE X (.List es pos) (aaf t):=by
 intro pins s σ H Q I hq
 refine wpAny_List_spliced (iR (h pos pins s σ H _ I hq) fun us s1 ⟨xs,H1,I1,r,z,q⟩=>⟨by rw[<-r.length];exact z,?_⟩)
 have hf:H1 s1.heap.objs.size=none:=I1.hok.fresh (zk _)
 refine⟨.ref s1.heap.objs.size,upd H1 s1.heap.objs.size (.lst xs),I1.laid (t':=s1.toks) (fun b u e=>ze _ e) (zk _) ?_,rfl,q _ hf⟩
 exact⟨z,us,0,r,zr _ rfl⟩
end
abbrev Sp:=List V->Hp->VK->XK->Prop
abbrev J5:=List Env->Hp->Shared->XK->Value->Shared->Prop
structure HS (P:Program) (w:World) (K:PySem.W.Frag) (mg:Str->Option Value) (base:Heap) (A:Around) (outer:List Env) (s:Shared) (H:Hp):Prop where
 frames:A.frames=some outer
 mod:Mod K mg base
 bs:∀ b o,base.get? b=some o->s.heap.get? b=some o/\H b=none
 RT:base.objs.size<=s.heap.objs.size
 xG:s.heap.FunFrames base outer
 Ww:∀ b∈frs outer,H b=none
 hok:tM P w H s.heap
 bare:AllBare s.gens
def CE (outer:List Env) (P:Program) (w:World) (H:Hp) (s:Shared) (Q:VK) (u:Value) (s':Shared):Prop:=
 ∃ v H',s'.os=s.os/\AllBare s'.gens/\Un (frs outer) [] H H' s.heap s'.heap/\tM P w H' s'.heap/\RelV v u/\Q v H'
def CR (CX:J5) (outer:List Env) (P:Program) (w:World) (H:Hp) (s:Shared) (Q:VK) (E:XK) (r:Result) (s':Shared):Prop:=
 match r with
 |.ok (.ret u)=>CE outer P w H s Q u s'
 |.ok _=>False
 |.error e=>CX outer H s E e s'
structure dB (P:Program) (w:World) (K:PySem.W.Frag) (mg:Str->Option Value) (base:Heap) (CX:J5) (k:Nat) (f:Addr) (fd:FuncData) (ps:List Str) (sp:Sp):Prop where
 len:∀ vs H Q E,sp vs H Q E->vs.length=ps.length
 run:∀ (A:Around) (outer:List Env) (s:Shared) (H:Hp) (args:Args) (us:List Value) (vs:List V) (Q:VK) (E:XK),kh k A->HS P w K mg base A outer s H->BindsTo s fd args (ps.zip us)->Vals vs us->sp vs H Q E →
  codeAny (model P w) A (.call (.ref f) args) (CR CX outer P w H s Q E) s
theorem dB.mono {P:Program} {w:World} {K:PySem.W.Frag} {mg:Str->Option Value} {base:Heap} {CX:J5} {j k:Nat} {f:Addr} {fd:FuncData} {ps:List Str} {sp:Sp} (F:dB P w K mg base CX j f fd ps sp) (h:j<=k) :
  dB P w K mg base CX k f fd ps sp:=⟨F.len,fun A outer s H args us vs Q E hr=>F.run A outer s H args us vs Q E (hr.mono h)⟩
theorem dB.imp {P:Program} {w:World} {K:PySem.W.Frag} {mg:Str->Option Value} {base:Heap} {CX:J5} {k:Nat} {f:Addr} {fd:FuncData} {ps:List Str} {sp sp':Sp} (F:dB P w K mg base CX k f fd ps sp)
  (h:∀ vs H Q E,sp' vs H Q E->sp vs H Q E):dB P w K mg base CX k f fd ps sp':=
 ⟨fun vs H Q E q=>F.len vs H Q E (h _ _ _ _ q),fun A outer s H args us vs Q E hr he hb hv hs=>F.run A outer s H args us vs Q E hr he hb hv (h _ _ _ _ hs)⟩
theorem HS.in1 {P:Program} {w:World} {K:PySem.W.Frag} {mg:Str->Option Value} {base:Heap} {A:Around} {outer:List Env} {s:Shared} {H:Hp} (e:HS P w K mg base A outer s H) :
  HS P w K mg base A.in1 outer s H:=⟨e.frames,e.mod,e.bs,e.RT,e.xG,e.Ww,e.hok,e.bare⟩
section
variable {X:Cx} {pins:List (Addr×Obj)} {σ:St} {H:Hp} {s s':Shared}
theorem Inv.env0 (I:Inv X pins σ H s):HS X.prog X.w X.K X.mg X.base X.A X.stack s H:=
 ⟨I.ok.frames,I.ok.mod,I.bs,zv I.ok.RT I.sz,I.stack,I.J2,I.hok,I.bare⟩
theorem Inv.after {Q:VK} {u:Value} (I:Inv X pins σ H s) (h:CE X.stack X.prog X.w H s Q u s'):EP X pins σ Q u s':=by
 obtain⟨v,H',os,bare,un,hok,r,q⟩:=h
 obtain⟨hh,g,d,t,os'⟩:=s'
 obtain rfl:os'=s.os:=os
 exact⟨v,H',I.call (h':=hh) (g':=g) (d':=d) (t':=t) (ch:=[]) un hok bare (fun b z=>absurd z (by simp)),r,q⟩
end
def aag (sp:Sp) (VD:List V) (E:XK) (t:TA):TE:=fun σ H Q=>t σ H fun vs H1=>sp (vs++VD) H1 Q E
def Binds (K:PySem.W.Frag) (fd:FuncData) (ps:List Str) (ds:List Value):Prop:=
 ∀ (s:Shared) (us:List Value),K.In s.heap->(us++ds).length=ps.length->BindsTo s fd ⟨us,[]⟩ (ps.zip (us++ds))
theorem Binds.all {K:PySem.W.Frag} {fd:FuncData} {ps:List Str} (h:∀ us:List Value,us.length=ps.length->bindArgs fd ⟨us,[]⟩=pure (ps.zip us)):Binds K fd ps []:=fun s us _ hl=>by
 rw[List.append_nil] at hl ⊢
 exact .of_eq (h us hl)
def Passes (CX:J5) (X:Cx) (E:XK):Prop:=∀ (pins:List (Addr×Obj)) (σ:St) (H:Hp) (s:Shared) (e:Value) (s':Shared),Inv X pins σ H s->CX X.stack H s E e s'->X.xe e s'
section
variable {X:Cx} {CX:J5} {k:Nat} {f C:Addr} {fd:FuncData} {ps:List Str} {sp:Sp} {VD:List V} {ds:List Value} {E:XK} {x m:Str} {p pos apos:Pos} {e o:Expr} {es:List Expr} {ta:TE} {t:TA}
theorem Xc {pins:List (Addr×Obj)} {σ:St} {H:Hp} {s:Shared} {Q:VK} {us:List Value} {vs:List V} (F:dB X.prog X.w X.K X.mg X.base CX k f fd ps sp) (hr:kh k X.A) (hb:Binds X.K fd ps ds) (hd:Vals VD ds) (hx:Passes CX X E)
  (I:Inv X pins σ H s) (r:Vals vs us) (h:sp (vs++VD) H Q E):wpAny (model X.prog X.w) X.A (call (.ref f) us) (EP X pins σ Q) X.xe s:=by
 have r2:Vals (vs++VD) (us++ds):=r.append hd
 have hl:(us++ds).length=ps.length:=by rw[<-r2.length];exact F.len _ _ _ _ h
 refine wpAny_call (codeAny_mono (F.run X.A X.stack s H ⟨us,[]⟩ (us++ds) (vs++VD) Q E hr I.env0 (hb s us I.Zq hl) r2 h) fun r s' hq=>?_)
 cases r with
 |error e=>exact hx pins σ H s e s' I hq
 |ok fl=>
  cases fl with
  |ret u=>exact I.after hq
  |next=>exact False.elim hq
  |brk=>exact False.elim hq
  |cont=>exact False.elim hq
theorem Sh (F:dB X.prog X.w X.K X.mg X.base CX k f fd ps sp) (hr:kh k X.A) (hg:Gl X x) (hm:X.mg x=some (.ref f)) (hk:PySem.W.keepIn X.K (.ref f)=true) (hb:Binds X.K fd ps ds) (hd:Vals VD ds) (hx:Passes CX X E)
  (ha:PA X (e::es) t) (hdb:(x==("__debug__" : Str))=false:=by decide) (he:starEach (e::es) X.env=(false,eval e X.env)::starEach es X.env:=by rfl) (hpl:(backTo pos (starEach es X.env)).any (·.1)=false:=by rfl) :
  PE X (.Call (.Name x p) (e::es) [] pos) (aag sp VD E t):=by
 intro pins s σ H Q I h
 refine wpAny_Call_Name_kw (R6 I hg hm ?_ hdb)
 refine PySem.W.callWith_K (h₀:=X.base) I.ok.mod.kin hk (iR (ha pos pins s σ H _ I h) fun us s1 ⟨vs,H1,I1,r,q⟩=>⟨I1.Zq,?_⟩) he hpl
 exact Xc F hr hb hd hx I1 r q
end
section
variable {X:Cx} {CX:J5} {k:Nat} {f C:Addr} {fd:FuncData} {ps ks:List Str} {sp:Sp} {E:XK} {x m:Str} {p pos apos kpos:Pos} {e o:Expr} {es:List Expr} {kws:List Keyword} {te ta:TE} {t tk:TA} {nm:Option Str}
variable {g:List Value->List Value->List Value} {gV:List V->List V->List V}
end
structure cL (N P:List Str) (sc:Scope):Prop where
 kind:sc.kind=.function
 co:sc.isCoroutine=false
 gen:sc.isGenerator=false
 nd:N.Nodup
 pre:N.take P.length=P
 par:∀ x∈P,sc.names.lookup x=some .local\/sc.names.lookup x=some .cell
 Xd:∀ y∈sc.names,y.2≠.free
theorem Az {kindOf:Str->Option NameKind} {x:Str}:∀ {binds:List (Str×Value)} {m:Str->Option Value},(∀ v,(x,v)∉binds)->bindL kindOf binds m x=m x
 |[],_,_=>rfl
 |(n,v)::r,m,h=>by
  unfold bindL
  rw[Az fun w hw=>h w (zg _ hw)]
  split
  ·have:x≠n:=by rintro rfl;exact h v zh
   simp[this]
  ·rfl
theorem Ba {kindOf:Str->Option NameKind} {x:Str}:∀ {binds:List (Str×Value)} {m:Str->Option Value},(∀ v,(x,v)∉binds)->bindC kindOf binds m x=m x
 |[],_,_=>rfl
 |(n,v)::r,m,h=>by
  unfold bindC
  rw[Ba fun w hw=>h w (zg _ hw)]
  split
  ·rfl
  ·have:x≠n:=by rintro rfl;exact h v zh
   simp[this]
theorem Bb {kindOf:Str->Option NameKind} {x:Str} {v:Value}:∀ {P:List Str} {vs:List Value} {i:Nat} {m:Str->Option Value},P.Nodup->P[i]?=some x->vs[i]?=some v->kindOf x=some .local →
  bindL kindOf (P.zip vs) m x=some v
 |[],_,_,_,_,h,_,_=>by simp at h
 |_::_,[],_,_,_,_,h,_=>by simp at h
 |p::P,w::vs,0,m,nd,h1,h2,hk=>by
  simp at h1 h2;subst h1;subst h2
  show bindL kindOf ((p,w)::P.zip vs) m p=_
  unfold bindL
  rw[Az fun v hv=>(List.nodup_cons.mp nd).1 (List.of_mem_zip hv).1,zo hk]
  simp
 |p::P,w::vs,i+1,m,nd,h1,h2,hk=>by
  show bindL kindOf ((p,w)::P.zip vs) m x=_
  unfold bindL
  exact Bb (i:=i) (List.nodup_cons.mp nd).2 (by simpa using h1) (by simpa using h2) hk
theorem Bc {kindOf:Str->Option NameKind} {x:Str} {v:Value}:∀ {P:List Str} {vs:List Value} {i:Nat} {m:Str->Option Value},P.Nodup->P[i]?=some x->vs[i]?=some v->kindOf x≠some .local →
  bindC kindOf (P.zip vs) m x=some v
 |[],_,_,_,_,h,_,_=>by simp at h
 |_::_,[],_,_,_,_,h,_=>by simp at h
 |p::P,w::vs,0,m,nd,h1,h2,hk=>by
  simp at h1 h2;subst h1;subst h2
  show bindC kindOf ((p,w)::P.zip vs) m p=_
  unfold bindC
  rw[Ba fun v hv=>(List.nodup_cons.mp nd).1 (List.of_mem_zip hv).1,zS hk]
  simp
 |p::P,w::vs,i+1,m,nd,h1,h2,hk=>by
  show bindC kindOf ((p,w)::P.zip vs) m x=_
  unfold bindC
  exact Bc (i:=i) (List.nodup_cons.mp nd).2 (by simpa using h1) (by simpa using h2) hk
def start (N:List Str) (vs:List V):St:=vs.map some++List.replicate (N.length - vs.length) none
def Ck (CX:J5) (P:Program) (w:World) (K:PySem.W.Frag) (mg:Str->Option Value) (base:Heap) (N:List Str) (qual:Str) (scope:Scope) (f:Addr) (cd:Value) (A:Around) (outer:List Env) (s:Shared) (H:Hp) (E:XK):Cx where
 prog:=P
 w:=w
 K:=K
 mg:=mg
 base:=base
 A:=A.deeper (envOfC qual scope s.heap.objs.size f cd)
 N:=N
 s₀:=s
 H₀:=H
 env:=envOfC qual scope s.heap.objs.size f cd
 outer:=outer
 stack:=envOfC qual scope s.heap.objs.size f cd::outer
 ex:=[]
 calm:=true
 fn:=fun _=>true
 pn:=[]
 xe:=fun e s'=>wpAny (model P w) (A.deeper (envOfC qual scope s.heap.objs.size f cd)) (leaving (envOfC qual scope s.heap.objs.size f cd) e) (fun _ s''=>CX outer H s E e s'') (fun e' s''=>CX outer H s E e' s'') s'
theorem Es {sc:Scope} {n:Nat} {x:Str} (h:sc.names.lookup x=some .cell):∃ c,(cellsFrom n sc.names []).lookup x=some c:=by
 have q:=PySem.W.cellsFrom_some sc.names n [] (.inl h)
 exact Option.isSome_iff_exists.mp q
theorem Lz {CX:J5} {P:Program} {w:World} {K:PySem.W.Frag} {mg:Str->Option Value} {base:Heap} {N ps:List Str} {qual:Str} {scope:Scope} {f:Addr} {cd:Value} {A:Around} {outer:List Env} {s s1:Shared} {H:Hp} {E:XK} {us:List Value} {vs:List V}
  (S:cL N ps scope) (hd:A.handled=none) (e0:HS P w K mg base A outer s H) (hl:vs.length=ps.length) (r:Vals vs us)
  (x:InCallC s s.heap.objs.size (bindL (envOfC qual scope s.heap.objs.size f cd).kindOf (ps.zip us) fun _=>none) (cellsFrom (s.heap.objs.size+1) scope.names []) (bindC (envOfC qual scope s.heap.objs.size f cd).kindOf (ps.zip us) fun _=>none) s1) :
  Inv (Ck CX P w K mg base N qual scope f cd A outer s H E) [] (start N vs) H s1:=by
 have hpl:ps.length<=N.length:=by have:=congrArg List.length S.pre;rw[kz] at this;omega
 obtain⟨h1,tk,rfl,hk⟩:=x.done
 have noA:∀ b:Addr,b∉(Ck CX P w K mg base N qual scope f cd A outer s H E).ex:=fun b z=>absurd (show b∈([]:List Addr) from z) (by simp)
 refine⟨⟨e0.mod,S.kind,rfl,rfl,zk _,fun y z c h1 h2=>?_,fun y hy=>?_,fun y c _ h=>?_,fun _=>hd,Around.frames_deeper e0.frames,.inr ⟨rfl,rfl⟩,fun b z=>absurd z (noA b),e0.bs,e0.RT,fun b _ _=>noA b,fun b z=>absurd z (noA b),e0.xG,e0.Ww⟩,
  rfl,e0.bare,Un.kept hk,⟨_,x.toInCall.ns,fun i y v h1 h2 h3=>?_⟩,fun y c h=>⟨_,x.cell y c h⟩,e0.hok.fresh (zk _),fun y c h=>?_,fun p hp=>absurd (show p∈([]:List (Addr×Obj)) from hp) (by simp),e0.hok.kept hk,?_⟩
 ·exact name_of_addr x.apart (jv h1) (jv h2)
 ·have hy:scope.names.lookup y=some .cell\/scope.names.lookup y=some .free:=hy
  rcases hy with hy|hy
  ·exact Es hy
  ·exact absurd rfl (S.Xd _ (jv hy))
 ·exact qB (x.above y c (jv h))
 ·have hi:i < vs.length:=by
   unfold start at h2
   by_cases hi:i < vs.length
   ·exact hi
   ·rw[qA (by simpa using hi)] at h2
    rw[QN] at h2
    split at h2<;>cases h2
  have ha:vs[i]?=some v:=by
   unfold start at h2
   rw[ZO (by simpa using hi),z4] at h2
   cases e:vs[i]? with
   |none=>rw[e] at h2;cases h2
   |some a=>rw[e] at h2;cases h2;rfl
  obtain⟨u,hu,rv⟩:=r.get ha
  have hp:ps[i]?=some y:=by
   rw[<-S.pre,List.getElem?_take_of_lt (by omega)];exact h1
  have ndP:ps.Nodup:=by rw[<-S.pre];exact S.nd.sublist (List.take_sublist _ _)
  refine⟨u,rv,?_⟩
  rcases S.par y (JY hp) with k|k
  ·exact .inl ⟨k,Bb ndP hp hu k⟩
  ·obtain⟨c,e⟩:=Es (n:=s.heap.objs.size+1) k
   refine .inr ⟨.inl k,c,e,?_⟩
   have q:=x.cell y c e
   rw[Bc ndP hp hu (by show scope.names.lookup y≠_;rw[k];decide)] at q
   exact q
 ·exact e0.hok.fresh (qB (x.above y c (jv h)))
 ·unfold start
  show _=N.length
  rw[Zs,zi,List.length_replicate]
  omega
theorem aai {CX:J5} {P:Program} {w:World} {K:PySem.W.Frag} {mg:Str->Option Value} {base:Heap} {k:Nat} {f:Addr} {name qual:Str} {params:Arguments} {body:List Stmt} {scope:Scope} {dV kV doc pm cdv ct oc:Value} {an od:Option Addr}
  {osl:Array (Option Value)} {N ps:List Str} {sp:Sp} (lk:K.lookup f=some ⟨oc,od,.func (PySem.W.fnOf name qual params body scope dV kV doc pm an cdv ct),osl⟩) (hcd:PySem.W.codeIn K cdv qual=true) (S:cL N ps scope)
  (len:∀ vs H Q E,sp vs H Q E->vs.length=ps.length)
  (hbody:∀ (A:Around) (outer:List Env) (s:Shared) (H:Hp) (vs:List V) (Q:VK) (E:XK),kh k (A.deeper (envOfC qual scope s.heap.objs.size f cdv))->sp vs H Q E →
   ∃ t,Hw (Ck CX P w K mg base N qual scope f cdv A outer s H E) body t/\t { nx:=fun _ H'=>Q .non H',rt:=Q } (start N vs) H) :
  dB P w K mg base CX (k+1) f (PySem.W.fnOf name qual params body scope dV kV doc pm an cdv ct) ps sp:=by
 refine⟨len,fun A outer s H args us vs Q E hr e0 hb r hsp=>?_⟩
 have hl:=len _ _ _ _ hsp
 have KX:K.In s.heap:=e0.mod.kin.keeps fun b o e=>(e0.bs b o e).1
 have lim:s.heap.NoLimit:=e0.mod.nolimit.keeps fun b o e=>(e0.bs b o e).1
 have hkind:∀ y∈ps.zip us,scope.names.lookup y.1=some .local\/(scope.names.lookup y.1=some .cell/\((cellsFrom (s.heap.objs.size+1) scope.names []).lookup y.1).isSome=true):=fun ⟨n,v⟩ hy=>by
  rcases S.par n (List.of_mem_zip hy).1 with q|q
  ·exact .inl q
  ·exact .inr ⟨q,PySem.W.cellsFrom_some _ _ _ (.inl q)⟩
 refine codeAny_call_function hr.depth (KX _ _ lk) rfl S.co S.gen rfl (PySem.W.codeRec_of KX hcd) (hb _ _ _ _ ?_)
 refine wpAny_newFunctionEnv_cells S.kind hkind fun env he s1 x=>?_
 subst he
 refine⟨lim.keeps x.toInCall.keep,codeAny_func ?_⟩
 obtain⟨t,ht,hq⟩:=hbody A outer s H vs Q E (hr.deeper _) hsp
 have I:Inv (Ck CX P w K mg base N qual scope f cdv A outer s H E) [] (start N vs) H s1:=Lz S hr.hd e0 hl r x
 refine ZH (ht [] s1 (start N vs) H _ I hq) (fun fl s' hs=>?_) fun e s' hs=>hs
 have fin:∀ {σ':St} {H':Hp} {v:V} {u:Value},Inv (Ck CX P w K mg base N qual scope f cdv A outer s H E) [] σ' H' s'->RelV v u->Q v H'->CE outer P w H s Q u s':=
  fun {σ' H' v u} J rv q=>⟨v,H',J.os,J.bare,J.base,J.hok,rv,q⟩
 cases fl with
 |ret u=>
  obtain⟨v,σ',H',J,rv,q⟩:=hs
  exact fin J rv q
 |next=>
  obtain⟨σ',H',J,q⟩:=hs
  exact fin (v:=V.non) (u:=Value.none) J rfl q
 |brk=>
  obtain⟨_,_,_,q⟩:=hs
  exact False.elim q
 |cont=>
  obtain⟨_,_,_,q⟩:=hs
  exact False.elim q
end L2
namespace L2
open PySem PySem.Spec PyProof.Rows
section
variable {X:Cx} {x:Str} {p pos:Pos} {e:Expr} {es:List Expr} {t:TA} {id T:String} {r:List V->Hp->VK->Prop}
def tCB (r:List V->Hp->VK->Prop) (t:TA):TE:=fun σ H Q=>t σ H fun vs H1=>r vs H1 Q
theorem pU (hc:fK X (.builtin id) r) (hg:Gl X x) (hm:X.mg x=none) (hv:bootBuiltins x=some (.builtin id)) (ha:PA X (e::es) t) (hn:x ≠ "__name__" := by decide) (hdb:(x==("__debug__" : Str))=false:=by decide)
  (he:starEach (e::es) X.env=(false,eval e X.env)::starEach es X.env:=by rfl) (hpl:(backTo pos (starEach es X.env)).any (·.1)=false:=by rfl):PE X (.Call (.Name x p) (e::es) [] pos) (tCB r t):=by
 intro pins s σ H Q I h
 refine wpAny_Call_Name_kw (xZ I hg hm hv ?_ hn hdb)
 exact PyProof.Rows.callWith_builtin1 (iR (ha pos pins s σ H _ I h) fun us s1 ⟨vs,H1,I1,r1,q1⟩=>hc pins s1 σ H1 vs us Q I1 r1 q1) he hpl
theorem LC (hc:fK X (.type T) r) (hg:Gl X x) (hm:X.mg x=none) (hv:bootBuiltins x=some (.type T)) (ha:PA X (e::es) t) (hn:x ≠ "__name__" := by decide) (hdb:(x==("__debug__" : Str))=false:=by decide)
  (he:starEach (e::es) X.env=(false,eval e X.env)::starEach es X.env:=by rfl) (hpl:(backTo pos (starEach es X.env)).any (·.1)=false:=by rfl):PE X (.Call (.Name x p) (e::es) [] pos) (tCB r t):=by
 intro pins s σ H Q I h
 refine wpAny_Call_Name_kw (xZ I hg hm hv ?_ hn hdb)
 exact PyProof.Rows.callWith_type1 (iR (ha pos pins s σ H _ I h) fun us s1 ⟨vs,H1,I1,r1,q1⟩=>hc pins s1 σ H1 vs us Q I1 r1 q1) he hpl
end
end L2
namespace HT
open PySem PyProof.Rows
section
open PySem.SeqAt
open PySem.AutoSeq1 (wpAny_loadPart')
open PySem.MeetsSeq PySem.MeetsSeq2 PySem.MeetsSeq3
end
section
variable {prog:Program} {w:World} {A:Around} {E:Value->Shared->Prop} {s:Shared}
theorem Sq {t b:Addr} {vs ws:List Value} {Q:Value->Shared->Prop} (ht:IsTup s.heap t vs.toArray) (hb:IsTup s.heap b ws.toArray) (hv:vs≠[])
  (h1:ws=[]->Q (.ref t) s) (h2:ws≠[]->Q (.ref s.heap.objs.size) { s with heap:=s.heap.push { cls:=.type "tuple", data:=.seq (vs++ws).toArray } })
  (hsz:vs.length+ws.length<=sizeLine):wpAny (model prog w) A (binaryOp .Add (.ref t) (.ref b)) Q E s:=by
 obtain⟨⟨cls,dd,data,sl⟩,ho,hc,n,hd⟩:=id ht
 obtain⟨⟨cls2,dd2,data2,sl2⟩,ho2,hc2,n2,hd2⟩:=id hb
 simp only at hc hd hc2 hd2
 subst hc hd hc2 hd2
 have e:vs.toArray++ws.toArray=(vs++ws).toArray:=by simp
 by_cases hw:ws=[]
 ·exact concat_meets ⟨_,ho,rfl⟩ ⟨_,ho2,rfl⟩ noFill_tuple_add seq_tuple_add PySem.F.slot_tuple_add KA (Kj _ _)
   (tuple_addW1 t b vs.toArray ws.toArray n n2 dd dd2 sl sl2 (by simpa using hv) (by simp[hw])) ⟨ho,ho2,h1 hw⟩
 ·refine concat_meets ⟨_,ho,rfl⟩ ⟨_,ho2,rfl⟩ noFill_tuple_add seq_tuple_add PySem.F.slot_tuple_add KA (Kj _ _)
   (tuple_addW2 t b vs.toArray ws.toArray n n2 dd dd2 sl sl2 (by simpa using hv) (by simpa using hw) (by rw[zt,zt];exact hsz)) ⟨ho,ho2,?_⟩
  rw[e]
  exact h2 hw
def gC (n d:Nat):Option Int->Nat
 |none=>d
 |some v=>if v < 0 then (v+(n:Int)).toNat else min v.toNat n
theorem Et (n d:Nat):gC n d none=d:=rfl
theorem J6 (n d k:Nat):gC n d (some (k:Int))=min k n:=by
 show (if (k:Int) < 0 then ((k:Int)+(n:Int)).toNat else min (k:Int).toNat n)=min k n
 rw[zS (by omega),kX]
theorem Xe (n d:Nat) (hd:d<=n) (o:Option Int):gC n d o<=n:=by
 cases o with
 |none=>exact hd
 |some v=>
  show (if v < 0 then (v+(n:Int)).toNat else min v.toNat n)<=n
  by_cases hv:v < 0
  ·rw[zo hv];omega
  ·rw[zS hv];exact Nat.min_le_right _ _
theorem J7 (v:Int) (n d:Nat):(if v < 0 then max (v+(n:Int)) 0 else min v (n:Int))=((gC n d (some v):Nat):Int):=by
 show (if v < 0 then max (v+(n:Int)) 0 else min v (n:Int))=(((if v < 0 then (v+(n:Int)).toNat else min v.toNat n):Nat):Int)
 by_cases hv:v < 0
 ·simp only[zo hv];omega
 ·simp only[zS hv];omega
theorem HW (lo hi:Option Int) (n:Nat):Builtin.Slice.sliceAdjust lo hi 1 (n:Int)=(((gC n 0 lo:Nat):Int),((gC n n hi:Nat):Int)):=by
 have h1:¬ ((1:Int) < 0):=by omega
 unfold Builtin.Slice.sliceAdjust
 simp only[h1,qk]
 refine Prod.ext ?_ ?_
 ·cases lo with
  |none=>rfl
  |some v=>exact J7 v n 0
 ·cases hi with
  |none=>rfl
  |some v=>exact J7 v n n
theorem HX (i j:Nat):Builtin.Slice.slicePlaces (i:Int) (j:Int) 1=j - i:=by
 unfold Builtin.Slice.slicePlaces
 have h1:(1:Int) > 0:=by omega
 simp only[h1,Q3,Int.ediv_one]
 split<;>omega
theorem yh {v:Value} {o:Option Int} {Q:Option Int->Shared->Prop} (p:IsPart v o) (h:Q o s):wpAny (model prog w) A (Builtin.Slice.slicePartIndex v) Q E s:=by
 cases p with
 |none=>exact slicePart_none h
 |int i t=>exact slicePart_int h
theorem nG {sl:Addr} {vl vu:Value} {lo hi:Option Int} {n:Nat} {Q:Int×Int×Nat->Shared->Prop} (hs:s.heap.IsSliceOf sl vl vu .none) (pl:IsPart vl lo) (pu:IsPart vu hi)
  (h:Q (((gC n 0 lo:Nat):Int),1,gC n n hi - gC n 0 lo) s):wpAny (model prog w) A (Builtin.Slice.sliceApplied (.ref sl) (pure (n:Int))) Q E s:=by
 obtain⟨os,hos,hcs,hds⟩:=id hs
 unfold Builtin.Slice.sliceApplied Builtin.Slice.sliceFields
 refine zb (zb (wpAny_field hos hds (x:=vl) rfl (zb (wpAny_field hos hds (x:=vu) rfl (zb (wpAny_field hos hds (x:=.none) rfl (zd ?_)))))))
 refine zb (slicePart_none ?_)
 show wpAny _ _ (if ((1:Int)==0)=true then _ else _) _ _ s
 rw[zS (by decide)]
 refine zb (yh pl (zb (yh pu (zb (zd ?_)))))
 show wpAny _ _ (match Builtin.Slice.sliceAdjust lo hi 1 (n:Int) with|(lo,hi)=>pure (lo,(1:Int),Builtin.Slice.slicePlaces lo hi 1)) _ _ s
 rw[HW lo hi n]
 show wpAny _ _ (pure (((gC n 0 lo:Nat):Int),(1:Int),Builtin.Slice.slicePlaces ((gC n 0 lo:Nat):Int) ((gC n n hi:Nat):Int) 1)) _ _ s
 rw[HX]
 exact zd h
theorem Og (xs:Array Value) (i k:Nat):((List.range k).filterMap fun (m:Nat)=>xs[((i:Int)+(m:Int) * 1).toNat]?).toArray=((xs.toList.drop i).take k).toArray:=by
 have e:(fun (m:Nat)=>xs[((i:Int)+(m:Int) * 1).toNat]?)=fun m=>xs[i+m]?:=by
  funext m
  have:((i:Int)+(m:Int) * 1).toNat=i+m:=by omega
  rw[this]
 rw[e]
 have:=pick_run xs i k
 rw[List.filterMap_map] at this
 have e2:((fun x=>xs[x]?) ∘ fun x=>i+x)=fun m=>xs[i+m]?:=rfl
 rw[e2] at this
 rw[this]
theorem tU {t sl:Addr} {items:Array Value} {vl vu:Value} {lo hi:Option Int} {Q:Value->Shared->Prop} (ht:IsTup s.heap t items) (hs:s.heap.IsSliceOf sl vl vu .none) (pl:IsPart vl lo) (pu:IsPart vu hi)
  (hw:¬ (gC items.size 0 lo=0/\gC items.size items.size hi=items.size))
  (h:Q (.ref s.heap.objs.size) { s with heap:=s.heap.push { cls:=.type "tuple", data:=.seq ((items.toList.drop (gC items.size 0 lo)).take (gC items.size items.size hi - gC items.size 0 lo)).toArray } })
  (hsz:items.size<=sizeLine):wpAny (model prog w) A (getItem (.ref t) (.ref sl)) Q E s:=by
 have J8:sizeOk (.seq ((items.toList.drop (gC items.size 0 lo)).take (gC items.size items.size hi - gC items.size 0 lo)).toArray):=by
  show ((items.toList.drop (gC items.size 0 lo)).take (gC items.size items.size hi - gC items.size 0 lo)).toArray.size<=sizeLine
  rw[zt,kz,kA,qE]
  omega
 have hj:gC items.size items.size hi<=items.size:=Xe _ _ (zk _) hi
 obtain⟨os,hos,hcs,hds⟩:=id hs
 have hTs:s.TypeIs (.ref sl) "slice" := ⟨os,hos,hcs⟩
 unfold getItem
 try with_reducible refine QU ?_
 first|refine zb (zd ?_)|skip
 refine zb (wpAny_sequenceKey ht.typeIs (by decide) ?_)
 refine zb (Kx (name:=Str.ofString "__getitem__") ht.typeIs PyProof.Rows.slot_tuple_getitem
  (Qr PyProof.Rows.slot_tuple_getitem ht.typeIs entry_tuple_getitem ?_ (args_tuple_getitem _ _)))
 show wpAny _ _ (Builtin.Tuple.tupleItemsOf (.ref t) >>= _) _ _ s
 refine zb (tupleItemsOf_ ht ?_)
 refine zb (QO hTs ?_)
 rw[zo (by decide)]
 refine zb (nG hs pl pu ?_)
 have hno:¬ ((((gC items.size 0 lo:Nat):Int)==0&&(1:Int)==1&&(gC items.size items.size hi - gC items.size 0 lo)==items.size)=true):=by
  intro q
  rw[qq,qq] at q
  have q1:((gC items.size 0 lo:Nat):Int)=0:=eq_of_beq q.1.1
  have q2:gC items.size items.size hi - gC items.size 0 lo=items.size:=eq_of_beq q.2
  exact hw ⟨by omega,by omega⟩
 show wpAny _ _ (if (((gC items.size 0 lo:Nat):Int)==0&&(1:Int)==1&&(gC items.size items.size hi - gC items.size 0 lo)==items.size)=true then _ else _) _ _ s
 rw[zS hno,Og]
 first
  |exact zb (m:=Builtin.Tuple.tupleExact _) (qa (zd ⟨_,rfl,zd h⟩) J8)
  |exact zb (m:=Builtin.Tuple.tupleExact _) (qa (zb (zd (zd ⟨_,rfl,zd h⟩))) J8)
  |exact zb (zb (m:=Builtin.Tuple.tupleExact _) (qa (zd (zd ⟨_,rfl,zd h⟩)) J8))
  |exact zb (zb (m:=Builtin.Tuple.tupleExact _) (qa (zd ⟨_,rfl,zd h⟩) J8))
end
end HT
namespace L2
open PySem PySem.Spec PyProof.Rows
abbrev TO:=St->Hp->(Option Int->Hp->Prop)->Prop
def PO (X:Cx) (e:Option Expr) (t:TO):Prop:=
 ∀ (pins:List (Addr×Obj)) (s:Shared) (σ:St) (H:Hp) (Q:Option Int->Hp->Prop),Inv X pins σ H s->t σ H Q →
  wpAny (model X.prog X.w) X.A (evalPart e X.env) (fun u s'=>∃ o H',Inv X pins σ H' s'/\IsPart u o/\Q o H') X.xe s
def Ss:TO:=fun _ H Q=>Q none H
def aaj (t:TE):TO:=fun σ H Q=>t σ H fun x H1=>∃ i,x=.int i/\Q (some i) H1
section
variable {X:Cx} {e:Expr} {te:TE} {lo hi:Option Expr} {tl th:TO} {pos p2:Pos}
theorem Sv:PO X none Ss:=by
 intro pins s σ H Q I h
 rw[evalPart_none]
 exact zd ⟨none,H,I,.none,h⟩
theorem Sw (h:PE X e te):PO X (some e) (aaj te):=by
 intro pins s σ H Q I hw
 rw[evalPart_some]
 refine iR (h pins s σ H _ I hw) fun u s1 ⟨x,H1,I1,r1,q1⟩=>?_
 obtain⟨i,rfl,q⟩:=q1
 obtain⟨t,rfl⟩:=r1
 exact⟨some i,H1,I1,.int i t,q⟩
def VF (X:Cx) (r:V->Option Int->Option Int->Hp->VK->Prop):Prop:=
 ∀ (pins:List (Addr×Obj)) (s:Shared) (σ:St) (H:Hp) (x:V) (v vl vu:Value) (lo hi:Option Int) (sl:Addr) (Q:VK),Inv X pins σ H s->RelV x v->s.heap.IsSliceOf sl vl vu .none->IsPart vl lo->IsPart vu hi->r x lo hi H Q →
  ∃ T id,typeLookup (.type T) "__getitem__" = pure (some (.builtin id))/\s.TypeIs v T/\wpAny (model X.prog X.w) X.A (getItem v (.ref sl)) (EP X pins σ Q) X.xe s
theorem VF.or {r r':V->Option Int->Option Int->Hp->VK->Prop} (h:VF X r) (h':VF X r'):VF X (fun x lo hi H Q=>r x lo hi H Q\/r' x lo hi H Q):=by
 intro pins s σ H x v vl vu lo hi sl Q I rx hs pl pu q
 rcases q with q|q
 ·exact h pins s σ H x v vl vu lo hi sl Q I rx hs pl pu q
 ·exact h' pins s σ H x v vl vu lo hi sl Q I rx hs pl pu q
def tSl (r:V->Option Int->Option Int->Hp->VK->Prop) (te:TE) (tl th:TO):TE:=fun σ H Q=>te σ H fun x H1=>tl σ H1 fun l H2=>th σ H2 fun u H3=>r x l u H3 Q
theorem Oh {r:V->Option Int->Option Int->Hp->VK->Prop} (hr:VF X r) (he:PE X e te) (hl:PO X lo tl) (hu:PO X hi th):PE X (.Subscript e (.Slice lo hi none p2) pos) (tSl r te tl th):=by
 intro pins s σ H Q I h
 refine Subscript_ (iR (he pins s σ H _ I h) fun v s1 ⟨x,H1,I1,r1,q1⟩=>?_)
 refine wpAny_Slice (iR (hl pins s1 σ H1 _ I1 q1) fun vl s2 ⟨l,H2,I2,pl,q2⟩=>iR (hu pins s2 σ H2 _ I2 q2) fun vu s3 ⟨u,H3,I3,pu,q3⟩=>?_)
 rw[evalPart_none]
 refine zd ?_
 have I4:Inv X pins σ H3 { s3 with heap:=s3.heap.push { cls:=.type "slice", data:=.fields #[vl,vu,.none] } }:=I3.kept (t':=s3.toks) fun b ob q=>ze _ q
 obtain⟨T,id,hT,ht,hg⟩:=hr pins { s3 with heap:=s3.heap.push { cls:=.type "slice", data:=.fields #[vl,vu,.none] } } σ H3 x v vl vu l u s3.heap.objs.size Q I4 r1 (Heap.IsSliceOf.new ..) pl pu q3
 show wpAny (model X.prog X.w) X.A (subscriptTail e (.Slice lo hi none p2) v (.ref s3.heap.objs.size)) (EP X pins σ Q) X.xe { s3 with heap:=s3.heap.push { cls:=.type "slice", data:=.fields #[vl,vu,.none] } }
 exact tail_any (ops:=[.ref s3.heap.objs.size,v]) ht hT hg (by with_unfolding_all rfl)
def Eu (xs:List V) (lo hi:Option Int):List V:=(xs.drop (HT.gC xs.length 0 lo)).take (HT.gC xs.length xs.length hi - HT.gC xs.length 0 lo)
theorem wC (xs:List V) (lo hi:Option Int):(Eu xs lo hi).length<=xs.length:=by
 unfold Eu
 rw[kz,kA]
 omega
def acf (K:PySem.W.Frag):V->Option Int->Option Int->Hp->VK->Prop:=fun x lo hi H Q=>∃ a xs,x=.ref a/\tO K H a xs ∧
 ¬ (HT.gC xs.length 0 lo=0/\HT.gC xs.length xs.length hi=xs.length)/\∀ p,H p=none->Q (.ref p) (upd H p (.tup (Eu xs lo hi)))
theorem Xf:VF X (acf X.K):=by
 intro pins s σ H x v vl vu lo hi sl Q I rx hs pl pu h
 obtain⟨a,xs,rfl,hx,hw,q⟩:=h
 cases rx
 obtain⟨its,r,ht,hz⟩:=I.tuple hx
 have hlen:its.toArray.size=xs.length:=by rw[zt];exact r.length.symm
 refine⟨"tuple", _,PyProof.Rows.slot_tuple_getitem.lookup,ht.typeIs,?_⟩
 refine HT.tU ht hs pl pu (by rw[hlen];exact hw) ?_ (by rw[hlen];exact hz)
 rw[hlen]
 refine⟨.ref s.heap.objs.size,_,I.laid (t':=s.toks) (o:=.tup (Eu xs lo hi)) (fun b ob q=>ze _ q) (zk _) ?_,rfl,q _ (I.hok.fresh (zk _))⟩
 exact⟨zv (wC xs lo hi) hz,_,(r.drop (HT.gC xs.length 0 lo)).take (HT.gC xs.length xs.length hi - HT.gC xs.length 0 lo),pQ.new _ _⟩
def aak (K:PySem.W.Frag):R2:=fun x y H Q=>∃ a b xs ys,x=.ref a/\y=.ref b/\tO K H a xs/\tO K H b ys/\xs≠[]/\xs.length+ys.length<=sizeLine ∧
 (ys=[]->Q (.ref a) H)/\(ys≠[]->∀ p,H p=none->Q (.ref p) (upd H p (.tup (xs++ys))))
theorem Vals.xP {xs:List V} {us:List Value} (r:Vals xs us):us=[]↔xs=[]:=by
 cases r with
 |nil=>simp
 |cons _ _=>simp
theorem Sx:tQ X (binaryOp .Add) (aak X.K):=by
 intro pins s σ H x y v u Q I rx ry h
 obtain⟨a,b,xs,ys,rfl,rfl,ha,hb,hx,hz,q1,q2⟩:=h
 cases rx
 cases ry
 obtain⟨its,r1,p1,_⟩:=I.tuple ha
 obtain⟨its2,r2,p2,_⟩:=I.tuple hb
 refine HT.Sq p1 p2 (fun z=>hx (r1.xP.mp z)) (fun z=>⟨.ref a,H,I,rfl,q1 (r2.xP.mp z)⟩) (fun z=>?_) (by rw[<-r1.length,<-r2.length];exact hz)
 refine⟨.ref s.heap.objs.size,_,I.laid (t':=s.toks) (o:=.tup (xs++ys)) (fun b ob q=>ze _ q) (zk _) ?_,rfl,q2 (fun w=>z (r2.xP.mpr w)) _ (I.hok.fresh (zk _))⟩
 exact⟨by rw[Zs];exact hz,_,r1.append r2,pQ.new _ _⟩
end
end L2
namespace L2
open PySem PySem.Spec PyProof.Rows
def Zr (n:Nat) (i:Int):Option Nat:=if 0<=i then (if i < n then some i.toNat else none) else if -(n:Int)<=i then some (i+n).toNat else none
def z8 {α:Type} (xs:List α) (i:Int):Option α:=(Zr xs.length i).bind fun j=>xs[j]?
theorem Sy {n:Nat} {i:Int} {j:Nat} (h:Zr n i=some j):seqIndex? i n=some j/\j < n ∧ -(n:Int)<=i/\i < n:=by
 unfold Zr at h
 by_cases h0:0<=i
 ·rw[zo h0] at h
  by_cases h1:i < n
  ·rw[zo h1] at h
   have e:i.toNat=j:=ja h
   exact⟨by rw[seqIndex_of h0 h1,e],by omega,by omega,h1⟩
  ·rw[zS h1] at h;cases h
 ·rw[zS h0] at h
  by_cases h1 : -(n:Int)<=i
  ·rw[zo h1] at h
   have e:(i+n).toNat=j:=ja h
   exact⟨by rw[seqIndex_neg (by omega) h1,e],by omega,h1,by omega⟩
  ·rw[zS h1] at h;cases h
theorem Cm {α:Type} {xs:List α} {i:Int} {v:α} (h:z8 xs i=some v):∃ j,seqIndex? i xs.length=some j/\xs[j]?=some v/\j < xs.length ∧ -(xs.length:Int)<=i/\i < xs.length:=by
 unfold z8 at h
 cases e:Zr xs.length i with
 |none=>rw[e] at h;cases h
 |some j=>
  rw[e] at h
  obtain⟨h1,h2,h3,h4⟩:=Sy e
  exact⟨j,h1,h,h2,h3,h4⟩
def J9 (b:Expr):Prop:=∀ o i,subscripted b false o i=operate [o,i] (getItem o i)
def SJ (X:Cx) (r:R2):Prop:=
 ∀ (value slice:Expr) (pins:List (Addr×Obj)) (s:Shared) (σ:St) (H:Hp) (x y:V) (v u:Value) (Q:VK),Inv X pins σ H s->RelV x v->RelV y u->r x y H Q →
  subscripted slice false v u=operate [v,u] (getItem v u)->wpAny (model X.prog X.w) X.A (subscriptTail value slice v u) (EP X pins σ Q) X.xe s
def Xg (X:Cx) (id:String) (r:V->List V->Hp->VK->Prop):Prop:=
 ∀ (pins:List (Addr×Obj)) (s:Shared) (σ:St) (H:Hp) (x:V) (xs:List V) (v:Value) (us:List Value) (Q:VK),Inv X pins σ H s->RelV x v->Vals xs us->r x xs H Q →
  wpAny (model X.prog X.w) X.A (call (.builtin id) (v::us)) (EP X pins σ Q) X.xe s
section
variable {X:Cx} {a b:Expr} {ta tb:TE} {pos:Pos}
theorem SJ.or {r r':R2} (h:SJ X r) (h':SJ X r'):SJ X (fun x y H Q=>r x y H Q\/r' x y H Q):=by
 intro value slice pins s σ H x y v u Q I rx ry q hs
 rcases q with q|q
 ·exact h value slice pins s σ H x y v u Q I rx ry q hs
 ·exact h' value slice pins s σ H x y v u Q I rx ry q hs
theorem Xg.or {id:String} {r r':V->List V->Hp->VK->Prop} (h:Xg X id r) (h':Xg X id r'):Xg X id (fun x xs H Q=>r x xs H Q\/r' x xs H Q):=by
 intro pins s σ H x xs v us Q I rx rs q
 rcases q with q|q
 ·exact h pins s σ H x xs v us Q I rx rs q
 ·exact h' pins s σ H x xs v us Q I rx rs q
theorem aal {r:R2} (hr:SJ X r) (ha:PE X a ta) (hb:PE X b tb) (hs:J9 b):PE X (.Subscript a b pos) (Z2 r ta tb):=by
 intro pins s σ H Q I h
 exact Subscript_ (WW ha hb I h fun v u s2 x y H2 I2 rx ry q=>hr a b pins s2 σ H2 x y v u Q I2 rx ry q (hs _ _))
def aam (K:PySem.W.Frag):R2:=fun x y H Q=>∃ p xs i v,x=.ref p/\y=.int i/\nF K H p xs/\z8 xs i=some v/\Q v H
def aan (K:PySem.W.Frag):R2:=fun x y H Q=>∃ p xs i v,x=.ref p/\y=.int i/\tO K H p xs/\z8 xs i=some v/\Q v H
def aao:R2:=fun x y H Q=>∃ z i c,x=.str z/\y=.int i/\z.length<=sizeLine/\z8 z.cps.toList i=some c/\Q (.str ⟨#[c]⟩) H
theorem SM:SJ X (aam X.K):=by
 intro value slice pins s σ H x y v u Q I rx ry h hs
 obtain⟨p,xs,i,z,rfl,rfl,hq,he,q⟩:=h
 cases rx
 obtain⟨t,rfl⟩:=ry
 obtain⟨its,r,pl,hz⟩:=I.list hq
 obtain⟨j,h1,h2,h3,h4,h5⟩:=Cm he
 obtain⟨w,ew,Ka⟩:=r.get h2
 have hl:=r.length
 have hn:=vK
 have fin:EP X pins σ Q w s:=⟨z,H,I,Ka,q⟩
 by_cases h0:0<=i
 ·have hj:i.toNat=j:=by
   rw[seqIndex_of h0 h5] at h1
   exact ja h1
  exact item_listR pl.isList h0 (by omega) (by rw[hj];simpa using ew) fin hs
 ·have hj:(i+(its.toArray.size:Int)).toNat=j:=by
   rw[seqIndex_neg (by omega) h4] at h1
   rw[zt,<-hl]
   exact ja h1
  exact subscriptTail_builtinR (x:=w) pl.isList.typeIs slot_list_getitem.lookup
   (wpAny_getItem_list_neg (Q:=fun r s'=>r=w/\EP X pins σ Q r s') pl.isList (by omega) (by rw[zt]<;>omega) (by omega) (by rw[hj];simpa using ew) ⟨rfl,fin⟩) hs
theorem Xh:SJ X (aan X.K):=by
 intro value slice pins s σ H x y v u Q I rx ry h hs
 obtain⟨p,xs,i,z,rfl,rfl,hq,he,q⟩:=h
 cases rx
 obtain⟨t,rfl⟩:=ry
 obtain⟨its,r,pl,hz⟩:=I.tuple hq
 obtain⟨j,h1,h2,h3,h4,h5⟩:=Cm he
 obtain⟨w,ew,Ka⟩:=r.get h2
 have hl:=r.length
 have hn:=vK
 have fin:EP X pins σ Q w s:=⟨z,H,I,Ka,q⟩
 exact subscriptTail_builtinR (x:=w) pl.typeIs slot_tuple_getitem.lookup
  (getItem_tuple (j:=j) (Q:=fun r s'=>r=w/\EP X pins σ Q r s') pl (by omega) (by omega) (by rw[zt,<-hl];exact h1) (by simpa using ew) ⟨rfl,fin⟩) hs
theorem Xi:SJ X aao:=by
 intro value slice pins s σ H x y v u Q I rx ry h hs
 obtain⟨z,i,c,rfl,rfl,hz,he,q⟩:=h
 obtain⟨t,rfl⟩:=rx
 obtain⟨t',rfl⟩:=ry
 obtain⟨j,h1,h2,h3,h4,h5⟩:=Cm he
 have hl:z.cps.toList.length=z.length:=by simp[Str.length]
 rw[hl] at h1 h4 h5
 have hn:=vK
 exact tail_any (typeIs_str s z t) slot_str_getitem.lookup (getItem_str (c:=c) (by
  have e1:decide (i < -(2 ^ 63:Int))=false:=ZN (by omega)
  have e2:decide (i>=2 ^ 63)=false:=ZN (by omega)
  rw[e1,e2,Bool.or_false]) (by rw[h1];simpa using h2) ⟨.str ⟨#[c]⟩,H,I.tok _,⟨_,rfl⟩,q⟩) hs
def rIx (K:PySem.W.Frag):R2:=fun x y H Q=>aam K x y H Q\/aan K x y H Q\/aao x y H Q
theorem Xj:SJ X (rIx X.K):=SM.or (Xh.or Xi)
theorem Inv.lst {pins:List (Addr×Obj)} {σ:St} {H:Hp} {s:Shared} {p:Addr} {xs:List V} (I:Inv X pins σ H s) (h:H p=some (.lst xs)) :
  ∃ (its:List Value) (n:Nat),Vals xs its/\s.heap.get? p=some { cls:=.type "list", data:=.seq its.toArray n }/\xs.length<=sizeLine:=by
 obtain⟨z,its,n,r,e⟩:=I.hok p _ h
 exact⟨its,n,r,e,z⟩
theorem Cp (lo hi:Option Int) (n:Nat):(sliceBounds lo hi none n).1=((HT.gC n 0 lo:Nat):Int)/\(sliceBounds lo hi none n).2.1=((HT.gC n n hi:Nat):Int)/\(sliceBounds lo hi none n).2.2=1:=by
 refine⟨?_,?_,rfl⟩
 ·cases lo with
  |none=>simp[sliceBounds,HT.gC]
  |some i=>
   simp only[sliceBounds,HT.gC,Option.getD_none,show (1:Int) > 0 by decide,Q3]
   by_cases h:i < 0
   ·simp only[h,Q3]<;>omega
   ·simp only[h,qk]<;>omega
 ·cases hi with
  |none=>simp[sliceBounds,HT.gC]
  |some i=>
   simp only[sliceBounds,HT.gC,Option.getD_none,show (1:Int) > 0 by decide,Q3]
   by_cases h:i < 0
   ·simp only[h,Q3]<;>omega
   ·simp only[h,qk]<;>omega
theorem z9 (its:List Value) (lo hi:Option Int):slicePick its.toArray lo hi none=((its.drop (HT.gC its.length 0 lo)).take (HT.gC its.length its.length hi - HT.gC its.length 0 lo)).toArray:=by
 obtain⟨h1,h2,h3⟩:=Cp lo hi its.toArray.size
 unfold slicePick
 rw[h1,h2,h3]
 simp only[sliceRange_one,pick_run,zt]<;>rfl
def acg (K:PySem.W.Frag):V->Option Int->Option Int->Hp->VK->Prop:=fun x lo hi H Q=>∃ a xs,x=.ref a/\nF K H a xs/\∀ p,H p=none->Q (.ref p) (upd H p (.lst (Eu xs lo hi)))
theorem SN:VF X (acg X.K):=by
 intro pins s σ H x v vl vu lo hi sl Q I rx hs pl pu h
 obtain⟨a,xs,rfl,hx,q⟩:=h
 cases rx
 obtain⟨its,r,ht,hz⟩:=I.list hx
 have hlen:=r.length
 refine⟨"list", _,slot_list_getitem.lookup,ht.isList.typeIs,?_⟩
 refine wpAny_getItem_list_slice ht.isList hs pl pu .none (by simp) ?_ (by rw[zt]<;>omega)
 rw[z9,<-hlen]
 refine⟨.ref s.heap.objs.size,_,I.laid (t':=s.toks) (o:=.lst (Eu xs lo hi)) (fun b ob q=>ze _ q) (zk _) ?_,rfl,q _ (I.hok.fresh (zk _))⟩
 exact⟨zv (wC xs lo hi) hz,_,0,(r.drop (HT.gC xs.length 0 lo)).take (HT.gC xs.length xs.length hi - HT.gC xs.length 0 lo),zr _ rfl⟩
def pF:V->Bool
 |.non=>true
 |.bl _=>true
 |.int _=>true
 |.str _=>true
 |_=>false
def LK:V->V->Bool
 |.non,.non=>true
 |.bl a,.bl b=>a==b
 |.bl a,.int b=>(if a then 1 else 0)==b
 |.int a,.bl b=>a==(if b then 1 else 0)
 |.int a,.int b=>a==b
 |.str a,.str b=>a==b
 |_,_=>false
theorem Xk {A:Around} {s:Shared} {y x:V} {u v:Value} (ry:RelV y u) (rx:RelV x v) (fy:pF y=true) (fx:pF x=true):SeqAt.EqAt A s u v (LK y x):=by
 cases y with
 |non=>
  cases ry
  cases x with
  |non=>cases rx;exact SeqAt.EqAt.same _
  |bl b=>cases rx;exact SeqAt.EqAt.none_bool b
  |int b=>obtain⟨t,rfl⟩:=rx;exact SeqAt.EqAt.none_int b t
  |str b=>obtain⟨t,rfl⟩:=rx;exact SeqAt.EqAt.none_str b t
  |_=>exact absurd (show false=true from fx) zC
 |bl a=>
  cases ry
  cases x with
  |non=>cases rx;exact SeqAt.EqAt.bool_none a
  |bl b=>cases rx;exact SeqAt.EqAt.bool_bool a b
  |int b=>obtain⟨t,rfl⟩:=rx;exact SeqAt.EqAt.bool_int a b t
  |str b=>obtain⟨t,rfl⟩:=rx;exact SeqAt.EqAt.bool_str a b t
  |_=>exact absurd (show false=true from fx) zC
 |int a=>
  obtain⟨t',rfl⟩:=ry
  cases x with
  |non=>cases rx;exact SeqAt.EqAt.int_none a t'
  |bl b=>cases rx;exact SeqAt.EqAt.int_bool a t' b
  |int b=>obtain⟨t,rfl⟩:=rx;exact SeqAt.EqAt.int_int a t' b t
  |str b=>obtain⟨t,rfl⟩:=rx;exact SeqAt.EqAt.int_str a t' b t
  |_=>exact absurd (show false=true from fx) zC
 |str a=>
  obtain⟨t',rfl⟩:=ry
  cases x with
  |non=>cases rx;exact SeqAt.EqAt.str_none a t'
  |bl b=>cases rx;exact SeqAt.EqAt.str_bool a t' b
  |int b=>obtain⟨t,rfl⟩:=rx;exact SeqAt.EqAt.str_int a t' b t
  |str b=>obtain⟨t,rfl⟩:=rx;exact SeqAt.EqAt.str_str a t' b t
  |_=>exact absurd (show false=true from fx) zC
 |_=>exact absurd (show false=true from fy) zC
def SQ (x:V) (u:Value):Bool:=match u with
 |.none=>LK .non x
 |.bool b=>LK (.bl b) x
 |.int i _=>LK (.int i) x
 |.str z _=>LK (.str z) x
 |_=>false
theorem Oi {x y:V} {u:Value} (r:RelV y u) (f:pF y=true):SQ x u=LK y x:=by
 cases y with
 |non=>cases r;rfl
 |bl b=>cases r;rfl
 |int i=>obtain⟨t,rfl⟩:=r;rfl
 |str z=>obtain⟨t,rfl⟩:=r;rfl
 |_=>exact absurd (show false=true from f) zC
theorem Cq {x:V}:∀ {xs:List V} {us:List Value},Vals xs us->xs.all pF=true->us.any (SQ x)=xs.any fun y=>LK y x
 |_,_,.nil,_=>rfl
 |y::xs,u::us,.cons r t,f=>by
  rw[JE,qq] at f
  rw[Q2,Q2,Oi r f.1,Cq t f.2]
theorem yj {A:Around} {s:Shared} {x:V} {v:Value} (rx:RelV x v) (fx:pF x=true):∀ {xs:List V} {us:List Value},Vals xs us->xs.all pF=true->∀ u∈us,SeqAt.EqAt A s u v (SQ x u)
 |_,_,.nil,_=>fun u hu=>by cases hu
 |y::xs,u::us,.cons r t,f=>fun u' hu=>by
  rw[JE,qq] at f
  rcases List.mem_cons.mp hu with rfl|hu
  ·rw[Oi r f.1];exact Xk r rx f.1 fx
  ·exact yj rx fx t f.2 u' hu
def inV (x:V) (xs:List V):Bool:=xs.any fun y=>LK y x
def rIn (K:PySem.W.Frag) (neg:Bool):R2:=fun x y H Q=>∃ p xs,y=.ref p/\(nF K H p xs\/tO K H p xs)/\pF x=true/\xs.all pF=true/\Q (.bl (if neg then !inV x xs else inV x xs)) H
theorem LQ:tQ X (compareOp .In) (rIn X.K false):=by
 intro pins s σ H x y v u Q I rx ry h
 obtain⟨p,xs,rfl,hq,fx,fs,q⟩:=h
 cases ry
 rcases hq with hq|hq
 ·obtain⟨its,r,pl,hz⟩:=I.list hq
  refine SeqAt.in_listAt (SQ x) pl.isList (fun w hw=>yj rx fx r fs w (by simpa using hw)) ⟨.bl _,H,I,rfl,?_⟩
  rw[show its.toArray.any (SQ x)=its.any (SQ x) by simp,Cq r fs]
  exact q
 ·obtain⟨its,r,pl,hz⟩:=I.tuple hq
  refine SeqAt.in_tupleAt (SQ x) pl (fun w hw=>yj rx fx r fs w (by simpa using hw)) ⟨.bl _,H,I,rfl,?_⟩
  rw[show its.toArray.any (SQ x)=its.any (SQ x) by simp,Cq r fs]
  exact q
theorem Cr:fK X (.builtin "len") (fun xs H Q=>∃ p ys,xs=[.ref p]/\(nF X.K H p ys\/tO X.K H p ys)/\Q (.int ys.length) H):=by
 intro pins s σ H xs us Q I r h
 obtain⟨p,ys,rfl,hq,q⟩:=h
 obtain⟨u,rfl,rx⟩:=vals1 r
 cases rx
 have hn:=vK
 rcases hq with hq|hq
 ·obtain⟨its,r',pl,hz⟩:=I.list hq
  have hlen:=r'.length
  exact Calls.call_len_list pl.isList (by simp only[zt]<;>omega) ⟨.int ys.length,H,I.tok _,⟨s.toks+1,by rw[zt,hlen]⟩,q⟩
 ·obtain⟨its,r',pl,hz⟩:=I.tuple hq
  have hlen:=r'.length
  exact len_tuple pl (by simp only[zt]<;>omega) ⟨.int ys.length,H,I.tok _,⟨s.toks+1,by rw[zt,hlen]⟩,q⟩
theorem Cu:fK X (.builtin "len") (fun xs H Q=>∃ z,xs=[.str z]/\z.length<=sizeLine/\Q (.int z.length) H):=by
 intro pins s σ H xs us Q I r h
 obtain⟨z,rfl,hz,q⟩:=h
 obtain⟨u,rfl,t,rfl⟩:=vals1 r
 have hn:=vK
 exact len_str (by omega) ⟨.int z.length,H,I.tok _,⟨_,rfl⟩,q⟩
theorem fK.or {f:Value} {r r':List V->Hp->VK->Prop} (h:fK X f r) (h':fK X f r'):fK X f (fun xs H Q=>r xs H Q\/r' xs H Q):=by
 intro pins s σ H xs us Q I rs q
 rcases q with q|q
 ·exact h pins s σ H xs us Q I rs q
 ·exact h' pins s σ H xs us Q I rs q
theorem Aa:fK X (.type "tuple") (fun xs H Q=>∃ p ys,xs=[.ref p]/\((nF X.K H p ys/\∀ l,H l=none->Q (.ref l) (upd H l (.tup ys)))\/(tO X.K H p ys/\Q (.ref p) H))):=by
 intro pins s σ H xs us Q I r h
 obtain⟨p,ys,rfl,h⟩:=h
 obtain⟨u,rfl,rx⟩:=vals1 r
 cases rx
 rcases h with⟨hq,q⟩|⟨hq,q⟩
 ·obtain⟨its,r',pl,hz⟩:=I.list hq
  have hlen:=r'.length
  refine call_tuple_list pl.isList (fun h' kp=>?_) (by simp only[zt]<;>omega)
  have I1:Inv X pins σ H { s with heap:=h' }:=I.kept (t':=s.toks) kp
  have I2:Inv X pins σ (upd H h'.objs.size (.tup ys)) { s with heap:=h'.push { cls:=.type "tuple", data:=.seq its.toArray } }:=
   I1.laid (t':=s.toks) (fun b o e=>ze _ e) (zk _) (show dX X.prog X.w _ _ _ (.tup ys) from⟨hz,its,r',pQ.new _ _⟩)
  exact⟨.ref h'.objs.size,_,I2,rfl,q _ (I1.hok.fresh (zk _))⟩
 ·obtain⟨its,r',pl,hz⟩:=I.tuple hq
  exact call_tuple_same pl ⟨.ref p,H,I,rfl,q⟩
def tyV (K:PySem.W.Frag) (T:String) (x:V) (H:Hp):Prop:=match x with
 |.str _=>T = "str"
 |.int _=>T = "int"
 |.ref p=>(T = "list" ∧ ∃ xs,nF K H p xs)\/(T = "tuple" ∧ ∃ o,K.lookup p=some o/\o.cls=.type "tuple" ∧ o.dict=none) ∨
   (T = "dict" ∧ ((∃ kvs,H p=some (.dK kvs))\/∃ kvs,H p=some (.dT kvs)))\/(T = "set" ∧ ∃ S n,H p=some (.set S n))
 |_=>False
theorem Oj {pins:List (Addr×Obj)} {σ:St} {H:Hp} {s:Shared} {T:String} {x:V} {v:Value} (I:Inv X pins σ H s) (r:RelV x v) (ty:tyV X.K T x H) :
  s.TypeIs v T/\∀ a,v=.ref a->∃ ob,s.heap.get? a=some ob/\ob.dict=none:=by
 cases x with
 |str z=>
  obtain⟨t,rfl⟩:=r
  cases (show T = "str" from ty)
  exact⟨typeIs_str s z t,fun _ e=>nomatch e⟩
 |int i=>
  obtain⟨t,rfl⟩:=r
  cases (show T = "int" from ty)
  exact⟨typeIs_int s i t,fun _ e=>nomatch e⟩
 |ref p=>
  cases r
  rcases ty with⟨rfl,xs,hq⟩|⟨rfl,o,hk,hc,hd⟩|⟨rfl,hk⟩|⟨rfl,S,n,hk⟩
  ·obtain⟨its,_,pl,_⟩:=I.list hq
   refine⟨pl.isList.typeIs,fun a e=>?_⟩
   cases e
   obtain⟨o,n,e,c,hd,_⟩:=pl
   exact⟨o,e,hd⟩
  ·refine⟨⟨o,I.Zq p o hk,hc⟩,fun a e=>?_⟩
   cases e
   exact⟨o,I.Zq _ o hk,hd⟩
  ·have z:∃ o,s.heap.get? p=some o/\o.ExactDict:=by
    rcases hk with⟨kvs,hk⟩|⟨kvs,hk⟩
    ·obtain⟨_,_,_,_,o,_,_,e,ex,_⟩:=I.hok p _ hk
     exact⟨o,e,ex⟩
    ·obtain⟨_,_,_,_,o,_,_,e,ex,_⟩:=I.hok p _ hk
     exact⟨o,e,ex⟩
   obtain⟨o,e,ex⟩:=z
   refine⟨⟨o,e,ex.1⟩,fun a e2=>?_⟩
   cases e2
   exact⟨o,e,ex.2.1⟩
  ·obtain⟨o,_,_,_,e,ex,_⟩:=I.hok p _ hk
   refine⟨⟨o,e,ex.1⟩,fun a e2=>?_⟩
   cases e2
   exact⟨o,e,ex.2.1⟩
 |_=>exact False.elim ty
def aci (K:PySem.W.Frag) (T:String) (r:V->List V->Hp->VK->Prop) (to:TE):TE:=fun σ H Q=>to σ H fun x H1=>tyV K T x H1/\r x [] H1 Q
def tBM (K:PySem.W.Frag) (T:String) (r:V->List V->Hp->VK->Prop) (to:TE) (t:TA):TE:=fun σ H Q=>to σ H fun x H1=>tyV K T x H1/\t σ H1 fun xs H2=>r x xs H2 Q
variable {o e:Expr} {es:List Expr} {to:TE} {t:TA} {name:Str} {apos cpos:Pos} {T id:String} {r:V->List V->Hp->VK->Prop}
theorem Xl (pa:PlainAttrs T) (slot:Slot T name id) (hty:typeOf (.builtin id)=pure (.type "method_descriptor")) (hm:Xg X id r) (ho:PE X o to)
  (hbase:attributeBase o name X.env (eval o X.env)=eval o X.env:=by rfl) (hline:(apos.endLine==cpos.line)=true:=by rfl):PE X (.Call (.Attribute o name apos) [] [] cpos) (aci X.K T r to):=by
 intro pins s σ H Q I h
 refine wpAny_Call_method0_late hbase hline (iR (ho pins s σ H _ I h) fun v s1 ⟨x,H1,I1,r1,ty,q1⟩=>?_)
 obtain⟨h1,h2⟩:=Oj I1 r1 ty
 exact⟨T,id,pa,slot,hty,h1,h2,Calls.callWith_builtin rfl (PySem.evalArgs_none (hm pins s1 σ H1 x [] v [] Q I1 r1 .nil q1))⟩
theorem Ew (pa:PlainAttrs T) (slot:Slot T name id) (hty:typeOf (.builtin id)=pure (.type "method_descriptor")) (hm:Xg X id r) (ho:PE X o to) (ha:PA X (e::es) t)
  (hbase:attributeBase o name X.env (eval o X.env)=eval o X.env:=by rfl)
  (hfew:((backTo cpos (starEach (e::es) X.env)).all (fun x=>!x.1)&&(backToKw cpos (keywordEach [] X.env)).all (fun x=>x.1.isSome)
   && decide ((e::es).length+([]:List Keyword).length+(if ([]:List Keyword).isEmpty then 0 else 1) < 30))=true:=by rfl)
  (hline:(apos.endLine==cpos.line)=true:=by rfl) (hs:starEach (e::es) X.env=(false,eval e X.env)::starEach es X.env:=by rfl) (hplain:(backTo cpos (starEach es X.env)).any (·.1)=false:=by rfl) :
  PE X (.Call (.Attribute o name apos) (e::es) [] cpos) (tBM X.K T r to t):=by
 intro pins s σ H Q I h
 refine wpAny_Call_method_late hbase hfew hline rfl (iR (ho pins s σ H _ I h) fun v s1 ⟨x,H1,I1,r1,ty,q1⟩=>?_)
 obtain⟨h1,h2⟩:=Oj I1 r1 ty
 refine⟨T,id,pa,slot,hty,h1,h2,?_⟩
 have hA:=ha cpos pins s1 σ H1 _ I1 q1
 rw[hs] at hA ⊢
 refine Calls.callWith_builtin (by show (false||(backTo cpos (starEach es X.env)).any (·.1))=false;rw[hplain]<;>rfl) (Calls.evalArgs_plain ?_)
 exact iR hA fun us s2 ⟨vs,H2,I2,r2,q2⟩=>hm pins s2 σ H2 x vs v us Q I2 r1 r2 q2
end
end L2
namespace L2
open PySem PySem.Spec PyProof.Rows
def MtM (X:Cx) (id:String) (r:V->List V->Hp->VK->Prop):Prop:=
 ∀ (pins:List (Addr×Obj)) (s:Shared) (σ:St) (H:Hp) (x:V) (xs:List V) (v:Value) (us:List Value) (Q:VK),Inv X pins σ H s->RelV x v->Vals xs us->r x xs H Q →
  wpAny (model X.prog X.w) X.A (call (.builtin id) (v::us)) (EP X pins σ Q) X.xe s
theorem Vals.one:∀ {x:V} {us:List Value},Vals [x] us->∃ u,us=[u]/\RelV x u
 |_,_,.cons r .nil=>⟨_,rfl,r⟩
theorem Vals.two:∀ {x y:V} {us:List Value},Vals [x,y] us->∃ u v,us=[u,v]/\RelV x u/\RelV y v
 |_,_,_,.cons r (.cons q .nil)=>⟨_,_,rfl,r,q⟩
theorem Vals.zero:∀ {us:List Value},Vals [] us->us=[]
 |_,.nil=>rfl
theorem Vals.eraseIdx:∀ {xs:List V} {us:List Value} (i:Nat),Vals xs us->Vals (xs.eraseIdx i) (us.eraseIdx i)
 |_,_,_,.nil=>.nil
 |_,_,0,.cons _ t=>t
 |_,_,i+1,.cons r t=>.cons r (Vals.eraseIdx i t)
theorem Vals.reverse {xs:List V} {us:List Value} (h:Vals xs us):Vals xs.reverse us.reverse:=by
 induction h with
 |nil=>exact .nil
 |cons r t ih=>rw[kQ,kQ];exact Vals.append ih (.cons r .nil)
section
variable {X:Cx} {pins:List (Addr×Obj)} {σ:St} {H:Hp} {s:Shared} {l b:Addr} {xs ys zs:List V}
theorem Inv.HY {its its':List Value} {n:Nat} {f:Array Value->Array Value} {t':Nat} (I:Inv X pins σ H s) (hH:H l=some (.lst xs))
  (e:s.heap.get? l=some { cls:=.type "list", data:=.seq its.toArray n }) (hf:f its.toArray=its'.toArray) (hv:Vals ys its') (hz:ys.length<=sizeLine) :
  Inv X pins σ (upd H l (.lst ys)) { s with heap:=s.heap.update l (Obj.mapSeq f),toks:=t' }:=by
 have q:=PySem.IsL.update e f
 rw[hf] at q
 refine I.write (x:=l) (e:=l) (by rw[hH];exact trivial) (.inl rfl) (fun b' u hb hu=>(Heap.get?_update_other s.heap (Obj.mapSeq f) (QR hb)).trans hu) ⟨_,q⟩ ?_
 exact⟨hz,its',_,hv,q⟩
theorem Inv.fresh (I:Inv X pins σ H s):H s.heap.objs.size=none:=I.hok.fresh (zk _)
theorem Inv.SX (I:Inv X pins σ H s) (hH:H l=some (.lst xs)):xs.length<=sizeLine/\∃ (its:List Value) (n:Nat),Vals xs its/\xs.length=its.length/\s.heap.get? l=some { cls:=.type "list", data:=.seq its.toArray n }:=by
 obtain⟨z,its,n,r,e⟩:=I.hok l _ hH
 exact⟨z,its,n,r,r.length,e⟩
theorem Ol {n:Nat} (h:n<=sizeLine):Builtin.List.listTooLong n=false:=by
 unfold Builtin.List.listTooLong
 exact ZN (by omega)
end
section
variable {X:Cx}
def Kc:V->List V->Hp->VK->Prop:=fun x vs H Q=>∃ l xs y,x=.ref l/\vs=[y]/\H l=some (.lst xs)/\xs.length < sizeLine/\Q .non (upd H l (.lst (xs++[y])))
theorem vL:MtM X "list.append" Kc:=by
 intro pins s σ H x vs v us Q I rx rv h
 obtain⟨l,xs,y,rfl,rfl,hH,hz,q⟩:=h
 cases rx
 obtain⟨u,rfl,ru⟩:=rv.one
 obtain⟨z,its,n,r,hl,e⟩:=I.SX hH
 refine call_meets F.slot_list_append ⟨_,e,rfl⟩ F.entry_list_append (F.args_list_append_2 _ _) (PySem.list_append l its.toArray n u (by rw[zt];omega)) ⟨e,?_⟩
 refine⟨.non,_,I.HY (its':=its++[u]) hH e (by simp) (r.append (.cons ru .nil)) ?_,rfl,q⟩
 rw[Zs,List.length_singleton]
 omega
def S5:V->List V->Hp->VK->Prop:=fun x vs H Q=>∃ l b xs zs,x=.ref l/\vs=[.ref b]/\H l=some (.lst xs)/\H b=some (.lst zs)/\xs.length+zs.length<=sizeLine/\Q .non (upd H l (.lst (xs++zs)))
theorem LR:MtM X "list.extend" S5:=by
 intro pins s σ H x vs v us Q I rx rv h
 obtain⟨l,b,xs,zs,rfl,rfl,hH,hB,hz,q⟩:=h
 cases rx
 obtain⟨u,rfl,ru⟩:=rv.one
 cases ru
 obtain⟨z,its,n,r,hl,e⟩:=I.SX hH
 obtain⟨z2,its2,n2,r2,hl2,e2⟩:=I.SX hB
 have hsz:its.toArray.size+its2.toArray.size<=sizeLine:=by rw[zt,zt];omega
 have aaq:¬ (!its.toArray.isEmpty&&Builtin.List.listTooLong (its.toArray.size+its2.toArray.size))=true:=by
  rw[Ol hsz,Bool.and_false]
  exact zC
 refine call_meets F.slot_list_extend ⟨_,e,rfl⟩ F.entry_list_extend (F.args_list_extend_2 _ _)
  (AutoSeq1.list_extend_list_list_0 l its.toArray n b its2.toArray n2 aaq (by rw[zt];omega) (by omega)) ⟨e,e2,?_⟩
 refine⟨.non,_,I.HY (its':=its++its2) hH e (by simp) (r.append r2) ?_,rfl,q⟩
 rw[Zs]
 omega
def Om:V->List V->Hp->VK->Prop:=fun x vs H Q=>∃ l xs,x=.ref l/\vs=[]/\H l=some (.lst xs)/\Q .non (upd H l (.lst xs.reverse))
theorem Ia:MtM X "list.reverse" Om:=by
 intro pins s σ H x vs v us Q I rx rv h
 obtain⟨l,xs,rfl,rfl,hH,q⟩:=h
 cases rx
 have hus:=rv.zero
 subst hus
 obtain⟨z,its,n,r,hl,e⟩:=I.SX hH
 refine call_meets F.slot_list_reverse ⟨_,e,rfl⟩ F.entry_list_reverse (F.args_list_reverse_1 _) (AutoSeq1.list_reverse_list_0 l its.toArray n (by rw[zt];omega)) ⟨e,?_⟩
 refine⟨.non,_,I.HY (its':=its.reverse) hH e (by simp) r.reverse ?_,rfl,q⟩
 rw[List.length_reverse]
 omega
end
section
variable {prog:Program} {w:World} {A:Around} {E:Value->Shared->Prop} {s:Shared}
end
section
variable {X:Cx}
end
end L2
namespace L2
open PySem PySem.Spec PyProof.Rows
section
variable {κ:Type} [DecidableEq κ]
def mF (kvs:List (κ×V)) (k:κ):Option V:=(kvs.find? fun kv=>decide (kv.1=k)).map (·.2)
def putK (kvs:List (κ×V)) (k:κ) (v:V):List (κ×V):=
 if (kvs.any fun kv=>decide (kv.1=k))=true then kvs.map (fun kv=>if kv.1=k then (kv.1,v) else kv) else kvs++[(k,v)]
def VG (kvs:List (κ×V)) (k:κ):List (κ×V):=kvs.filter fun kv=>decide (kv.1≠k)
theorem pW {p:κ×V} {r:List (κ×V)} {k:κ} (e:p.1=k):mF (p::r) k=some p.2:=by simp[mF,j3,e]
theorem pX {p:κ×V} {r:List (κ×V)} {k:κ} (e:¬ p.1=k):mF (p::r) k=mF r k:=by simp[mF,j3,e]
theorem tW (k:κ):∀ kvs:List (κ×V),(kvs.any fun kv=>decide (kv.1=k))=(mF kvs k).isSome
 |[]=>rfl
 |p::r=>by
  rw[Q2]
  by_cases e:p.1=k
  ·simp only[pW e,JU e,Bool.true_or,Option.isSome_some]
  ·rw[pX e,ZN e,Bool.false_or];exact tW k r
theorem pY (kvs:List (κ×V)) (k:κ) (v:V):(putK kvs k v).length<=kvs.length+1:=by
 unfold putK
 split
 ·rw[zi];omega
 ·rw[Zs,qf,List.length_nil];omega
theorem xu.Ma {o:Option V} {u:Option Value} (r:xu o u):o.isSome=u.isSome:=by
 cases o with
 |none=>cases u with
  |none=>rfl
  |some _=>exact (show False from r).elim
 |some _=>cases u with
  |none=>exact (show False from r).elim
  |some _=>rfl
theorem xu.getD {o:Option V} {u:Option Value} {d:V} {d':Value} (r:xu o u) (rd:RelV d d'):RelV (o.getD d) (u.getD d'):=by
 cases o with
 |none=>cases u with
  |none=>exact rd
  |some _=>exact (show False from r).elim
 |some _=>cases u with
  |none=>exact (show False from r).elim
  |some _=>exact r
theorem KV.val {kvs:List (κ×V)} {vs:List (κ×Value)} (r:KV kvs vs) (k:κ):xu (mF kvs k) (valueAt vs k):=by
 unfold KV at r
 induction r with
 |nil=>exact True.intro
 |@cons p q ps qs h t ih=>
  obtain⟨h1,h2⟩:=h
  by_cases e:p.1=k
  ·have e':q.1=k:=h1.symm.trans e
   have b:valueAt (q::qs) k=some q.2:=by simp[valueAt,j3,e']
   rw[pW e,b];exact h2
  ·have e':¬ q.1=k:=fun z=>e (h1.trans z)
   have b:valueAt (q::qs) k=valueAt qs k:=by simp[valueAt,j3,e']
   rw[pX e,b];exact ih
theorem KV.any {kvs:List (κ×V)} {vs:List (κ×Value)} (r:KV kvs vs) (k:κ):(kvs.any fun kv=>decide (kv.1=k))=vs.any fun kv=>decide (kv.1=k):=by
 unfold KV at r
 induction r with
 |nil=>rfl
 |cons h t ih=>rw[Q2,Q2,ih,h.1]
theorem KV.repl {kvs:List (κ×V)} {vs:List (κ×Value)} (r:KV kvs vs) (k:κ) {y:V} {u:Value} (ry:RelV y u) :
  KV (kvs.map fun kv=>if kv.1=k then (kv.1,y) else kv) (vs.map fun kv=>if kv.1=k then (kv.1,u) else kv):=by
 unfold KV at r ⊢
 induction r with
 |nil=>exact .nil
 |@cons p q ps qs h t ih=>
  rw[zl,zl]
  refine .cons ?_ ih
  obtain⟨h1,h2⟩:=h
  by_cases e:p.1=k
  ·rw[zo e,zo (h1.symm.trans e)];exact⟨h1,ry⟩
  ·rw[zS e,zS (fun z=>e (h1.trans z))];exact⟨h1,h2⟩
theorem KV.put {kvs:List (κ×V)} {vs:List (κ×Value)} (r:KV kvs vs) (k:κ) {y:V} {u:Value} (ry:RelV y u):KV (putK kvs k y) (stored vs k u):=by
 unfold putK stored
 rw[r.any k]
 by_cases e:(vs.any fun kv=>decide (kv.1=k))=true
 ·rw[zo e,zo e];exact r.repl k ry
 ·rw[zS e,zS e];exact Paired.snoc r ⟨rfl,ry⟩
theorem KV.drop {kvs:List (κ×V)} {vs:List (κ×Value)} (r:KV kvs vs) (k:κ):KV (VG kvs k) (without vs k):=by
 unfold KV at r ⊢
 unfold VG without
 induction r with
 |nil=>exact .nil
 |@cons p q ps qs h t ih=>
  obtain⟨h1,h2⟩:=h
  rw[Kt,Kt]
  by_cases e:p.1=k
  ·have a:¬ decide (p.1≠k)=true:=by simp[e]
   have b:¬ decide (q.1≠k)=true:=by simp[h1.symm.trans e]
   rw[zS a,zS b];exact ih
  ·have e':¬ q.1=k:=fun z=>e (h1.trans z)
   have a:decide (p.1≠k)=true:=by simp[e]
   have b:decide (q.1≠k)=true:=by simp[e']
   rw[zo a,zo b];exact .cons ⟨h1,h2⟩ ih
theorem KV.length {kvs:List (κ×V)} {vs:List (κ×Value)} (r:KV kvs vs):kvs.length=vs.length:=Paired.length r
end
theorem Ey {P:Program} {w:World} {k:Key} {u:Value} (r:RelV (kV k) u):(bM P w).is k u=true:=by
 cases k with
 |inl i=>obtain⟨t,e⟩:=(show ∃ t,u=Value.int i t from r);subst e;exact El P w i t
 |inr x=>obtain⟨t,e⟩:=(show ∃ t,u=Value.str x t from r);subst e;exact Em P w x t
theorem Bd {P:Program} {w:World}:∀ {ks:List Key} {us:List Value},Vals (ks.map kV) us->ItemsAre (bM P w) ks us
 |[],_,r=>by rw[jS] at r;cases r;exact .nil
 |k::ks,_,r=>by
  rw[zl] at r
  cases r with
  |cons h t=>exact .cons (Ey h) (Bd t)
abbrev KT (H:Hp):List (List Key×V)->List (List Key×Addr×Value)->Prop:=Paired fun p q=>p.1=q.1/\H q.2.1=some (.tup (p.1.map kV))/\RelV p.2 q.2.2
theorem KT.val {H:Hp} {kvs:List (List Key×V)} {xs:List (List Key×Addr×Value)} (r:KT H kvs xs) (k:List Key):xu (mF kvs k) ((atKey xs k).map (·.2)):=by
 induction r with
 |nil=>exact True.intro
 |@cons p q ps qs h t ih=>
  obtain⟨h1,_,h2⟩:=h
  by_cases e:p.1=k
  ·have e':q.1=k:=h1.symm.trans e
   have b:atKey (q::qs) k=some q.2:=by simp[atKey,j3,e']
   rw[pW e,b];exact h2
  ·have e':¬ q.1=k:=fun z=>e (h1.trans z)
   have b:atKey (q::qs) k=atKey qs k:=by simp[atKey,j3,e']
   rw[pX e,b];exact ih
theorem KT.repl {H:Hp} {kvs:List (List Key×V)} {xs:List (List Key×Addr×Value)} (r:KT H kvs xs) (k:List Key) {y:V} {u:Value} (ry:RelV y u) :
  KT H (kvs.map fun kv=>if kv.1=k then (kv.1,y) else kv) (xs.map (putAt k u)):=by
 induction r with
 |nil=>exact .nil
 |@cons p q ps qs h t ih=>
  rw[zl,zl]
  refine .cons ?_ ih
  obtain⟨h1,h2,h3⟩:=h
  unfold putAt
  by_cases e:p.1=k
  ·rw[zo e,zo (h1.symm.trans e)];exact⟨h1,h2,ry⟩
  ·rw[zS e,zS (fun z=>e (h1.trans z))];exact⟨h1,h2,h3⟩
theorem KT.put {H:Hp} {kvs:List (List Key×V)} {xs:List (List Key×Addr×Value)} (r:KT H kvs xs) (k:List Key) {b:Addr} {y:V} {u:Value} (hb:H b=some (.tup (k.map kV))) (ry:RelV y u) :
  KT H (putK kvs k y) (storedH xs k b u):=by
 have e:(kvs.any fun kv=>decide (kv.1=k))=(atKey xs k).isSome:=by
  rw[tW,(r.val k).Ma,Option.isSome_map]
 unfold putK storedH
 rw[e]
 by_cases q:(atKey xs k).isSome=true
 ·rw[zo q,zo q];exact r.repl k ry
 ·rw[zS q,zS q];exact Paired.snoc r ⟨rfl,hb,ry⟩
theorem KT.keeps {H H':Hp} {kvs:List (List Key×V)} {xs:List (List Key×Addr×Value)} (r:KT H kvs xs) (ht:∀ b ys,H b=some (.tup ys)->H' b=some (.tup ys)):KT H' kvs xs:=
 Paired.RZ r fun _ _ z=>⟨z.1,ht _ _ z.2.1,z.2.2⟩
section
variable {P:Program} {w:World} {H:Hp} {h:Heap} {a:Addr}
theorem VH {u:HO} (ok:tM P w H h) (e:Rd H a u):dX P w H h a u:=e.ok ok
theorem Ez {kvs:List (Key×V)} (ok:tM P w H h) (e:Rd H a (.dK kvs)):kvs.length<=sizeLine/\(a==sysModules)=false/\∃ vs,KV kvs vs/\h.DictOf (bM P w) a vs:=
 show dX P w H h a (.dK kvs) from VH ok e
theorem VJ {kvs:List (Key×V)} (ok:tM P w H h) (e:H a=some (.dK kvs)):kvs.length<=sizeLine/\(a==sysModules)=false/\∃ vs,KV kvs vs/\h.DictOf (bM P w) a vs:=Ez ok (.inl e)
theorem Ib {ks:List Key} (ok:tM P w H h) (e:H a=some (.tup (ks.map kV))):(tupleKind (bM P w)).is h ks a:=by
 obtain⟨_,its,r,o,h1,h2,⟨n,h3⟩,_⟩:=(show dX P w H h a (.tup (ks.map kV)) from ok a _ e)
 exact⟨o,its.toArray,n,h1,h2,h3,by simpa using Bd r⟩
theorem Oo {kvs:List (List Key×V)} (ok:tM P w H h) (e:Rd H a (.dT kvs)):kvs.length<=sizeLine/\(a==sysModules)=false ∧
  ∃ xs,KT H kvs xs/\h.DictOfH (tupleKind (bM P w)) a xs:=by
 obtain⟨z,y,xs,r,o,es,ep,h1,h2,h3,h4,h5⟩:=(show dX P w H h a (.dT kvs) from VH ok e)
 refine⟨z,y,xs,r,o,es,ep,h1,h2,h3,h4,fun x hx=>?_,h5⟩
 have all:∀ {l:List (List Key×V)} {m:List (List Key×Addr×Value)},KT H l m->∀ x∈m,(tupleKind (bM P w)).is h x.1 x.2.1:=by
  intro l m q
  induction q with
  |nil=>intro x hx;exact nomatch hx
  |@cons p q ps qs hq t ih=>
   intro x hx
   rcases List.mem_cons.mp hx with e|hx
   ·subst e
    exact Ib ok (by rw[<-hq.1];exact hq.2.1)
   ·exact ih x hx
 exact all r x hx
theorem aar {kvs:List (List Key×V)} (ok:tM P w H h) (e:H a=some (.dT kvs)):kvs.length<=sizeLine/\(a==sysModules)=false ∧
  ∃ xs,KT H kvs xs/\h.DictOfH (tupleKind (bM P w)) a xs:=Oo ok (.inl e)
end
def Ie (H:Hp) (a:Addr) (y:V) (r:Option V):Prop:=
 (∃ kvs k,Rd H a (.dK kvs)/\y=kV k/\r=mF kvs k)\/∃ kvs k b,Rd H a (.dT kvs)/\y=.ref b/\H b=some (.tup (k.map kV))/\r=mF kvs k
def Ig (H:Hp) (a:Addr) (y v:V) (H':Hp):Prop:=
 (∃ kvs k,H a=some (.dK kvs)/\y=kV k/\kvs.length < sizeLine/\H'=upd H a (.dK (putK kvs k v))) ∨
 ∃ kvs k b,H a=some (.dT kvs)/\y=.ref b/\H b=some (.tup (k.map kV))/\kvs.length < sizeLine/\H'=upd H a (.dT (putK kvs k v))
theorem Ie.k {H:Hp} {a:Addr} {kvs:List (Key×V)} {k:Key} (e:H a=some (.dK kvs)):Ie H a (kV k) (mF kvs k):=.inl ⟨kvs,k,.inl e,rfl,rfl⟩
theorem Ie.t {H:Hp} {a b:Addr} {kvs:List (List Key×V)} {k:List Key} (e:H a=some (.dT kvs)) (eb:H b=some (.tup (k.map kV))):Ie H a (.ref b) (mF kvs k):=.inr ⟨kvs,k,b,.inl e,rfl,eb,rfl⟩
theorem Ig.k {H:Hp} {a:Addr} {kvs:List (Key×V)} {k:Key} {v:V} (e:H a=some (.dK kvs)) (hl:kvs.length < sizeLine):Ig H a (kV k) v (upd H a (.dK (putK kvs k v))):=.inl ⟨kvs,k,e,rfl,hl,rfl⟩
theorem Ig.t {H:Hp} {a b:Addr} {kvs:List (List Key×V)} {k:List Key} {v:V} (e:H a=some (.dT kvs)) (eb:H b=some (.tup (k.map kV))) (hl:kvs.length < sizeLine) :
  Ig H a (.ref b) v (upd H a (.dT (putK kvs k v))):=.inr ⟨kvs,k,b,e,rfl,eb,hl,rfl⟩
section
variable {X:Cx} {pins:List (Addr×Obj)} {σ:St} {H:Hp} {s:Shared} {a:Addr} {y v:V} {u r:Value} {o:Option V} {A:Around} {E:Value->Shared->Prop}
theorem Inv.big (I:Inv X pins σ H s):sysModules < s.heap.objs.size:=by
 have h:mainGlobals < s.heap.objs.size:=(I.mod.glob.keeps I.bk).lt
 exact Nat.lt_trans (by decide) h
theorem Mf {Q:Value->Shared->Prop} (hu:A.units+1 < cLine) (I:Inv X pins σ H s) (g:Ie H a y (some v)) (ry:RelV y u) (h:∀ w' s',Inv X pins σ H s'->RelV v w'->Q w' s') :
  wpAny (model X.prog X.w) A (getItem (.ref a) u) Q E s:=by
 rcases g with⟨kvs,k,e,ey,l⟩|⟨kvs,k,b,e,ey,eb,l⟩
 ·subst ey
  obtain⟨z,hd,vs,rel,dd⟩:=Ez I.hok e
  obtain⟨w',hw,Ka⟩:=xu.some_of (v:=v) (o:=valueAt vs k) (by rw[l];exact rel.val k)
  exact wpAny_getItem_of (Ey ry) dd.mapOf hw (h w' _ (I.tok _) Ka)
 ·subst ey
  cases (show u=Value.ref b from ry)
  obtain⟨z,hd,xs,rel,dd⟩:=Oo I.hok e
  obtain⟨w',hw,Ka⟩:=xu.some_of (v:=v) (o:=(atKey xs k).map (·.2)) (by rw[l];exact rel.val k)
  obtain⟨p,hp,hp2⟩:=Option.map_eq_some_iff.mp hw
  refine wpAny_getItem_heap (tupleKind_room_in1 hu) (Ib I.hok eb) dd hp ?_
  rw[hp2]
  exact h w' _ (I.tok _) Ka
theorem Cv {h':Heap} {t':Nat} {ob:HO} (I:Inv X pins σ H s) (mu:ZL (H a)) (hs:Heap.SameBut a s.heap h') (he:∃ q,h'.get? a=some q) (new:dX X.prog X.w (upd H a ob) h' a ob) :
  Inv X pins σ (upd H a ob) { s with heap:=h',toks:=t' }:=
 I.write (x:=a) (e:=a) mu (.inl rfl) (fun b q hb z=>(hs.2 b hb).trans z) he new
theorem Oq {P:Program} {w:World} {H':Hp} {h':Heap} {kvs:List (Key×V)} {vs:List (Key×Value)} (z:kvs.length<=sizeLine) (hd:(a==sysModules)=false) (rel:KV kvs vs) (dd:h'.DictOf (bM P w) a vs) :
  dX P w H' h' a (.dK kvs):=⟨z,hd,vs,rel,dd⟩
theorem Mg {H':Hp} {Q:Unit->Shared->Prop} (hu:A.units+1 < cLine) (I:Inv X pins σ H s) (g:Ig H a y v H') (ry:RelV y u) (rv:RelV v r) (h:∀ s',Inv X pins σ H' s'->Q () s') :
  wpAny (model X.prog X.w) A (setItem (.ref a) u r) Q E s:=by
 rcases g with⟨kvs,k,e,ey,l,eH⟩|⟨kvs,k,b,e,ey,eb,l,eH⟩
 ·subst ey eH
  obtain⟨z,hd,vs,rel,dd⟩:=VJ I.hok e
  have hz:vs.length<=sizeLine:=by rw[<-rel.length];exact z
  have hl:(putK kvs k v).length<=sizeLine:=by have:=pY kvs k v;omega
  refine wpAny_setItem_pairs (hsz:=hz) (Ey ry) dd fun h' Xm hs=>h _ ?_
  have he:∃ q,h'.get? a=some q:=let ⟨q,_,_,hq,_⟩:=Xm;⟨q,hq⟩
  exact Cv I (by rw[e];exact True.intro) hs he (Oq hl hd (rel.put k rv) Xm)
 ·subst ey eH
  cases (show u=Value.ref b from ry)
  obtain⟨z,hd,xs,rel,dd⟩:=aar I.hok e
  have hz:xs.length<=sizeLine:=by rw[<-Paired.length rel];exact z
  have hl:(putK kvs k v).length<=sizeLine:=by have:=pY kvs k v;omega
  refine wpAny_setItem_heap (hsz:=hz) (tupleKind_room_in1 hu) (Ib I.hok eb) dd fun h' Xm hs=>h _ ?_
  obtain⟨q,es,ep,hq,h2,h3,h4,_,h5⟩:=Xm
  refine Cv I (by rw[e];exact True.intro) hs ⟨q,hq⟩ ⟨hl,hd,_,(rel.put k eb rv).keeps fun c ys ec=>?_,q,es,ep,hq,h2,h3,h4,h5⟩
  rw[aC (j9 ec e (fun z=>nomatch z))]
  exact ec
end
section
variable {X:Cx} {pins:List (Addr×Obj)} {σ:St} {H:Hp} {s:Shared} {a:Addr} {kvs:List (Key×V)} {k:Key} {u:Value} {A:Around} {E:Value->Shared->Prop}
end
def Xn (i:Expr):Prop:=∀ ov iv,subscripted i false ov iv=operate [ov,iv] (getItem ov iv)
theorem S7 {prog:Program} {w:World} {A:Around} {E:Value->Shared->Prop} {s:Shared} {env:Env} {value slice:Expr} {pos:Pos} {T id:String} {Q:Value->Shared->Prop}
  (hl:typeLookup (.type T) "__getitem__" = pure (some (.builtin id))) (hs:Xn slice)
  (h:wpAny (model prog w) A (eval value env) (fun o s₁=>wpAny (model prog w) A (eval slice env) (fun i s₂=>s₂.TypeIs o T/\wpAny (model prog w) A (getItem o i) Q E s₂) E s₁) E s) :
  wpAny (model prog w) A (eval (.Subscript value slice pos) env) Q E s:=by
 refine Subscript_ (ZH h (fun o s₁ h₁=>ZH h₁ (fun i s₂ h₂=>?_) fun _ _ x=>x) fun _ _ x=>x)
 obtain⟨hT,h₂⟩:=h₂
 unfold subscriptTail
 refine zb ?_
 rw[getitemInPython_of_ne hT.not_modules]
 refine zb (wpAny_specialOf hT hl ?_)
 have fin:wpAny (model prog w) A (subscripted slice false o i) (fun r s₃=>wpAny (model prog w) A (letTemporaryGo value o r >>= fun _=>pure r) Q E s₃) E s₂:=by
  rw[hs o i]
  exact wpAny_operating (ZH h₂ (fun r s₃ h₃=>zb (wpAny_letTemporaryGo (zd h₃))) fun _ _ x=>x)
 first
  |exact zd (zb fin)
  |exact zb (zd (zb fin))
  |exact zb fin
theorem EY {X:Cx} {pins:List (Addr×Obj)} {σ:St} {H:Hp} {s:Shared} {a:Addr} {y:V} {o:Option V} (I:Inv X pins σ H s) (g:Ie H a y o):s.TypeIs (.ref a) "dict" := by
 rcases g with⟨kvs,k,e,_,_⟩|⟨kvs,k,b,e,_,_,_⟩
 ·obtain⟨_,_,vs,_,dd⟩:=Ez I.hok e
  exact dd.typeIs
 ·obtain⟨_,_,xs,_,dd⟩:=Oo I.hok e
  exact dd.typeIs
def aas (td ty:TE):TE:=fun σ H Q=>td σ H fun x H1=>ty σ H1 fun y H2=>∃ a v,x=.ref a/\Ie H2 a y (some v)/\Q v H2
def aat (td ty tv:TE):TS:=fun D σ H=>tv σ H fun v H1=>td σ H1 fun x H2=>ty σ H2 fun y H3=>∃ a H4,x=.ref a/\Ig H3 a y v H4/\D.nx σ H4
section
variable {X:Cx} {o i e value:Expr} {pos pos' tpos:Pos} {td ty tv:TE}
theorem S8 (hu:X.A.units+1 < cLine) (ho:PE X o td) (hi:PE X i ty) (hs:Xn i):PE X (.Subscript o i pos) (aas td ty):=by
 intro pins s σ H Q I h
 refine S7 PySem.F.slot_dict_getitem.lookup hs (iR (ho pins s σ H _ I h) fun u s1 ⟨x,H1,I1,rx,q1⟩=>iR (hi pins s1 σ H1 _ I1 q1) fun iv s2 ⟨y,H2,I2,ry,a,v,ex,g,q2⟩=>?_)
 subst ex
 obtain rfl:u=Value.ref a:=rx
 exact⟨EY I2 g,Mf hu I2 g ry fun w' s3 I3 Ka=>⟨v,H2,I3,Ka,q2⟩⟩
theorem S9 (hu:X.A.units+1 < cLine) (ho:PE X o td) (hi:PE X i ty) (hv:PE X value tv) (hs:swapsWith value (some (.Subscript o i pos')) pos.line X.env=pure false) :
  PS X (.Assign [.Subscript o i pos'] value pos) (aat td ty tv):=by
 intro pins s σ H D I h
 refine wpAny_Assign_Subscript (iR (hv pins s σ H _ I h) fun r s1 ⟨v,H1,I1,rv,q1⟩=>iR (ho pins s1 σ H1 _ I1 q1) fun u s2 ⟨x,H2,I2,rx,q2⟩=>iR (hi pins s2 σ H2 _ I2 q2) fun iv s3 ⟨y,H3,I3,ry,a,H4,ex,g,q3⟩=>?_) hs
 subst ex
 obtain rfl:u=Value.ref a:=rx
 exact Mg hu I3 g ry rv fun s4 I4=>⟨σ,H4,I4,q3⟩
end
theorem Ot {P:Program} {w:World} {H:Hp} (h:Heap) (hb:sysModules < h.objs.size):dX P w H (h.push { cls:=.type "dict", data:=.dict #[] }) h.objs.size (.dK []):=
 ⟨qv _,beq_eq_false_iff_ne.mpr (QR (zI hb)),[],.nil,Heap.DictOf.new h⟩
def Xo:TE:=fun _ H Q=>∀ p,H p=none->Q (.ref p) (upd H p (.dK []))
section
variable {X:Cx} {pos:Pos}
theorem Ou:PE X (.Dict [] [] pos) Xo:=fun pins s σ H Q I h=>
 wpAny_Dict_empty ⟨.ref s.heap.objs.size,_,I.laid (a:=s.heap.objs.size) (o:=.dK []) (t':=s.toks) (fun _ _ q=>ze _ q) (zk _) (Ot s.heap I.big),rfl,h _ (I.hok.fresh (zk _))⟩
end
structure M1 (X:Cx) (o:Expr) (m:Str) (apos:Pos) (e:Expr) (cpos:Pos):Prop where
 base:attributeBase o m X.env (eval o X.env)=eval o X.env
 few:((backTo cpos (starEach [e] X.env)).all (fun x=>!x.1)&&(backToKw cpos (keywordEach [] X.env)).all (fun x=>x.1.isSome)
  && decide (([e]:List Expr).length+([]:List Keyword).length+(if ([]:List Keyword).isEmpty then 0 else 1) < 30))=true
 line:(apos.endLine==cpos.line)=true
 trees:backTo cpos (starEach [e] X.env)=[(false,eval e X.env)]
structure M2 (X:Cx) (o:Expr) (m:Str) (apos:Pos) (e f:Expr) (cpos:Pos):Prop where
 base:attributeBase o m X.env (eval o X.env)=eval o X.env
 few:((backTo cpos (starEach [e,f] X.env)).all (fun x=>!x.1)&&(backToKw cpos (keywordEach [] X.env)).all (fun x=>x.1.isSome)
  && decide (([e,f]:List Expr).length+([]:List Keyword).length+(if ([]:List Keyword).isEmpty then 0 else 1) < 30))=true
 line:(apos.endLine==cpos.line)=true
 trees:backTo cpos (starEach [e,f] X.env)=[(false,eval e X.env),(false,eval f X.env)]
section
variable {X:Cx} {pins:List (Addr×Obj)} {σ:St} {H:Hp} {s:Shared} {a:Addr} {y d:V} {u r:Value} {o:Option V} {A:Around} {E:Value->Shared->Prop}
end
section
variable {X:Cx} {o e f:Expr} {apos cpos:Pos} {td ty tx:TE}
end
section
variable {X:Cx} {pins:List (Addr×Obj)} {σ:St} {H:Hp} {s:Shared} {a:Addr} {kvs:List (Key×V)} {A:Around} {E:Value->Shared->Prop}
end
section
variable {X:Cx} {pins:List (Addr×Obj)} {σ:St} {H:Hp} {s:Shared} {a:Addr} {y:V} {u:Value} {A:Around} {E:Value->Shared->Prop}
end
end L2
namespace Att
open PySem PySem.W PySem.Calls PyProof.Rows
theorem xH {P:Params} {h:Heap}:∀ (ns:List Int) (vs:List Value),WellAll P h vs (ns.map WData.int)->IntsAre vs ns:=by
 intro ns
 induction ns with
 |nil=>
  intro vs w
  rw[jS] at w
  cases w
  exact .nil
 |cons n ns ih=>
  intro vs w
  rw[zl] at w
  cases w with
  |cons a b=>
   cases a
   exact .cons _ _ (ih _ b)
theorem Mh {l:OpenLaw} {n:Nat} (hn:l.most=some n) {P:Params} {h:Heap} {args:List WData} {vals:List Value}
  (hpre:l.row.toRowW.claim.pre args=true) (hwl:WellAll P h vals args) :
  ∃ a vs ns,vals=[Value.ref a]/\args=[WData.list (ns.map WData.int)]/\h.get? a=some { cls:=.type "list", data:=.seq vs.toArray }/\IntsAre vs ns/\ns.length<=n:=by
 have hsh:WShape.hasAll [] args [.list .int]=true:=(pre_splitW hpre).1
 have hc:l.pre.holds [] { args:=args }=true:=(pre_splitW hpre).2
 obtain⟨d,r,rfl,h1,h2⟩:=hasAllW_cons hsh
 obtain rfl:=hasAllW_nil h2
 obtain⟨xs,rfl,h3⟩:=hasW_list h1
 obtain⟨ns,rfl⟩:=items_int h3
 have hlen:ns.length<=n:=by
  unfold OpenLaw.pre at hc
  have h4:(WTm.not (.lt (.lit (.int (n:Int))) (.len (.arg 0)))).holds [] { args:=[.list (ns.map .int)] }=true:=by
   have h4:=(holds_andW hc).1
   rw[hn] at h4
   exact h4
  have h5:=condW_of h4 (w_not (w_lt w_lit (w_len_list (w_arg rfl))))
  rw[zi] at h5
  refine Nat.le_of_not_lt fun q=>?_
  have q':(n:Int) < ((ns.length:Nat):Int):=by omega
  first
   |(rw[JU q'] at h5;exact absurd h5 (by decide))
   |(simp at h5;omega)
 cases hwl with
 |cons w1 w2=>
  cases w2
  cases w1 with
  |list ho hall=>exact⟨_,_,ns,rfl,rfl,ho,xH ns _ hall,hlen⟩
theorem Mi (l:OpenLaw) (args:List WData):l.row.toRowW.claim.post args (.bool true) args=true:=
 postW_of (r:=l.row.toRowW) (X:=(true==true))
  (show WShape.has [] (.bool true) .bool=true by first|rfl|decide|simp[WShape.has,WShape.arms,WShape.armsAll])
  (show (WTm.eq .res (.lit (.bool true))).value [] { args:=args,res:=some (.bool true),after:=args }=some (.bool (true==true)) from w_eq_bool (w_res rfl) w_lit) rfl
theorem Fb {l:OpenLaw} {n:Nat} {q:Program} {loose:List Str} {XP:(Str->Option Value)->Heap->Prop} {YP:World->Heap->Prop} {d:DefRec}
  (hn:l.most=some n) (hdf:d.params.defaults=[])
  (call:∀ (w:World) (s₀ s₁:Shared) (mg mb:Str->Option Value) (fa:Addr) (o:Obj) (pm cd doc:Value) (a:Addr) (vs:List Value) (ns:List Int),
   Ground q loose [] XP w s₀ mg mb s₁.heap->YP w s₁.heap →
   s₁.heap.get? fa=some o->o.data=.func (docDef d.name d.params d.body d.scope pm cd doc)->s₁.heap.CodeRec cd d.name->mg d.name=some (.ref fa) →
   s₁.heap.get? a=some { cls:=.type "list", data:=.seq vs.toArray }->IntsAre vs ns->ns.length<=n->s₁.gens=#[] →
   codeAny (model l.prog w) callerA (.call (.ref fa) ⟨[.ref a],[]⟩) (fun r s'=>r=.ok (.ret (.bool true))/\OldK s₁.heap s'.heap/\s'.os=s₁.os/\AllBare s'.gens) s₁) :
  WalkO q loose XP YP l.row.toRowW d [] (fun f vs=>PySem.call f vs):=by
 intro w s₀ s₁ mg mb G Y fa o pm cd doc dV kV ho hd hcd hD hmg hg args vals as hpre hlay hrd hwl hlo
 obtain rfl:dV=.none:=Dflts.none hD hdf
 obtain rfl:kV=.none:=Dflts.noKw hD
 obtain⟨a,vs,ns,rfl,rfl,hobj,hints,hlen⟩:=Mh hn hpre hwl
 refine enter_call (codeAny_mono (call w s₀ s₁ mg mb fa o pm cd doc a vs ns G Y ho (fd_plain hd) hcd hmg hobj hints hlen hg) fun r s' hq=>?_)
 obtain⟨rfl,h2,h3,h4⟩:=hq
 exact⟨.inl ⟨.bool true,.bool true,[],rfl,fun _=>rfl,.bool true,Mi l _,fun _=>⟨List.Pairwise.nil,fun _ hm=>(nomatch hm)⟩⟩,h2,h3,h4⟩
section
variable {prog:Program} {w:World} {A:Around} {E:Value->Shared->Prop} {s:Shared} {K:Frag}
end
end Att
namespace L2
open PySem PySem.Spec PyProof.Rows
theorem Bf:∀ {vs:List Value} {ns:List Int},IntsAre vs ns->Vals (ns.map V.int) vs
 |_,_,.nil=>.nil
 |_,_,.cons n t h=>.cons ⟨t,rfl⟩ (Bf h)
def Only (H:Hp):Prop:=∀ b,H b=none\/∃ o xs,H b=some (.lq o (.lst xs))
theorem Ov {P:Program} {w:World} {K:PySem.W.Frag} {mg mb:Str->Option Value} {CX:J5} {k:Nat} {fa a:Addr} {fd:FuncData} {x:Str} {sp:Sp} {s₁:Shared} {vs:List Value} {ns:List Int}
  (KX:K.In s₁.heap) (hns:s₁.heap.Ns mainGlobals mg) (hb:s₁.heap.Ns builtinsNs mb) (hbb:∀ x:Str,x ≠ "__name__" → mb x=bootBuiltins x) (hlim:s₁.heap.NoLimit) (hg:s₁.gens=#[])
  (ha:s₁.heap.get? a=some { cls:=.type "list", data:=.seq vs.toArray }) (hi:IntsAre vs ns) (hl:ns.length<=sizeLine) (hr:kh k callerA)
  (F:∀ base:Heap,K.In base->base.Ns mainGlobals mg->dB P w K mg base CX k fa fd [x] sp) (hbind:∀ (s:Shared) (u:Value),BindsTo s fd ⟨[u],[]⟩ [(x,u)])
  (hsp:∀ H:Hp,Only H->nF K H a (ns.map V.int)->sp [.ref a] H (fun v _=>v=.bl true) fun _ _ _=>False)
  (hCX:∀ H e s',CX [] H s₁ (fun _ _ _=>False) e s'->False) :
  codeAny (model P w) callerA (.call (.ref fa) ⟨[.ref a],[]⟩) (fun r s'=>r=.ok (.ret (.bool true))/\OldK s₁.heap s'.heap/\s'.os=s₁.os/\AllBare s'.gens) s₁:=by
 have rv:=Bf hi
 have lenV:=hi.length
 have core:∀ H:Hp,Only H->nF K H a (ns.map V.int)->tM P w H s₁.heap->(∀ b,H b≠none->b=a)->(H a≠none->K.lookup a=none) →
   codeAny (model P w) callerA (.call (.ref fa) ⟨[.ref a],[]⟩) (fun r s'=>r=.ok (.ret (.bool true))/\OldK s₁.heap s'.heap/\s'.os=s₁.os/\AllBare s'.gens) s₁:=by
  intro H hO hS hok hA hK
  have Kd:∀ {b:Addr} {o:Obj},s₁.heap.get? b=some o->H b=none->(Cd s₁.heap H).get? b=some o:=fun e n=>N5 e n
  have noA:∀ {b:Addr} {o:Obj} {es:Array DictEntry} {ep:Nat},s₁.heap.get? b=some o->o.data=.dict es ep->H b=none:=fun {b o es ep} e d=>by
   cases q:H b with
   |none=>rfl
   |some u=>
    have e':b=a:=hA b (by rw[q];simp)
    subst e'
    rw[ha] at e;cases e
    have d':Data.seq vs.toArray _=Data.dict es ep:=d
    cases d'
  have nsK:∀ {b:Addr} {m:Str->Option Value},s₁.heap.Ns b m->(Cd s₁.heap H).Ns b m:=fun {b m} ⟨o,es,ep,e,d,r⟩=>⟨o,es,ep,Kd e (noA e d),d,r⟩
  have hKb:K.In (Cd s₁.heap H):=fun b o e=>Kd (KX b o e) (by
   cases q:H b with
   |none=>rfl
   |some u=>
    have e':b=a:=hA b (by rw[q];simp)
    subst e'
    rw[hK (by rw[q];simp)] at e;cases e)
  have hM:Mod K mg (Cd s₁.heap H):=⟨hKb,nsK hns,⟨mb,nsK hb,hbb⟩,let ⟨mc,h1,h2⟩:=hlim;⟨mc,nsK h1,h2⟩⟩
  have e0:HS P w K mg (Cd s₁.heap H) callerA [] s₁ H:=⟨rfl,hM,fun b o e=>R0 e,Nat.le_of_eq (Lj _ _),trivial,fun b hb=>absurd (show b∈([]:List Addr) from hb) (by simp),hok,.of_eq hg⟩
  refine codeAny_mono ((F _ hKb (nsK hns)).run callerA [] s₁ H ⟨[.ref a],[]⟩ [.ref a] [.ref a] _ _ hr e0 (hbind s₁ (.ref a)) (.cons rfl .nil) (hsp H hO hS)) fun r s' h=>?_
  cases r with
  |error e=>exact (hCX H e s' h).elim
  |ok fl=>
   cases fl with
   |next=>exact False.elim h
   |brk=>exact False.elim h
   |cont=>exact False.elim h
   |ret u=>
    obtain⟨v,H',os,bare,un,hok',r',q⟩:=h
    have q':v=.bl true:=q
    subst q'
    obtain rfl:u=Value.bool true:=r'
    refine⟨rfl,OldK.of_keep fun b o e=>?_,os,bare⟩
    cases q:H b with
    |none=>exact un.keep b o e q (by intro z;exact absurd (show b∈([]:List Addr) from z) (by simp)) (by simp)
    |some u=>
     rcases hO b with z|⟨ob,xs,z⟩
     ·rw[q] at z;cases z
     ·have z2:=un.q8 b ob _ z
      obtain⟨e1,_⟩:=hok b _ z
      obtain⟨e2,_⟩:=hok' b _ z2
      rw[e] at e1;cases e1
      exact e2
 cases hk:K.lookup a with
 |some o=>
  have e:=KX a o hk
  rw[ha] at e
  cases e
  refine core (fun _=>none) (fun _=>.inl rfl) (.inr ⟨_,vs.toArray,_,hk,rfl,rfl,rfl,by rw[zt,lenV];exact hl,by simpa using rv⟩) (fun b u z=>by have z':(none:Option HO)=some u:=z;cases z') (fun b z=>absurd rfl z) fun z=>absurd rfl z
 |none=>
  refine core (fun b=>if b=a then some (.lq { cls:=.type "list", data:=.seq vs.toArray } (.lst (ns.map V.int))) else none) (fun b=>?_) (.inl (.inr ⟨{ cls:=.type "list", data:=.seq vs.toArray },zo rfl⟩)) (fun b u z=>?_) (fun b z=>?_) fun _=>hk
  ·by_cases hb:b=a
   ·exact .inr ⟨_,_,zo hb⟩
   ·exact .inl (zS hb)
  ·by_cases hb:b=a
   ·have z':=(zo hb).symm.trans z
    cases z'
    subst hb
    exact⟨ha,by rw[zi];exact hl,vs,_,rv,ha⟩
   ·have z':=(zS hb).symm.trans z
    cases z'
  ·by_cases hb:b=a
   ·exact hb
   ·exact absurd (zS hb) z
end L2
namespace L2
open PySem PySem.Spec PyProof.Rows
theorem Tc {l:PySem.W.OpenLaw} {n k:Nat} {q:Program} {loose:List Str} {XP:(Str->Option Value)->Heap->Prop} {YP:World->Heap->Prop} {d:DefRec} {K:Params->PySem.W.Frag} {CX:World->J5} {sp:World->Sp} {x:Str}
  (hn:l.most=some n) (hn2:n<=sizeLine) (hdf:d.params.defaults=[]) (hr:kh k callerA)
  (hY:∀ (w:World) (h:Heap),YP w h->(K w.params).In h)
  (F:∀ (w:World) (mg:Str->Option Value) (fa:Addr) (h:Heap),(K w.params).In h->h.Ns mainGlobals mg->mg d.name=some (.ref fa) →
   ∃ fd:FuncData,(∀ (s:Shared) (u:Value),BindsTo s fd ⟨[u],[]⟩ [(x,u)]) ∧
    ∀ base:Heap,(K w.params).In base->base.Ns mainGlobals mg->dB l.prog w (K w.params) mg base (CX w) k fa fd [x] (sp w))
  (hsp:∀ (w:World) (H:Hp) (a:Addr) (ns:List Int),ns.length<=n->Only H->nF (K w.params) H a (ns.map V.int)->sp w [.ref a] H (fun v _=>v=.bl true) fun _ _ _=>False)
  (hCX:∀ (w:World) (H:Hp) (s:Shared) (e:Value) (s':Shared),CX w [] H s (fun _ _ _=>False) e s'->False) :
  PySem.W.WalkO q loose XP YP l.row.toRowW d [] (fun f vs=>PySem.call f vs):=by
 refine Att.Fb hn hdf fun w s₀ s₁ mg mb fa o pm cd doc a vs ns G Y ho hd hcd hmg hobj hints hlen hg=>?_
 have KX:=hY w _ Y
 obtain⟨fd,hb,hF⟩:=F w mg fa _ KX G.T.g hmg
 exact Ov KX G.T.g G.T.b G.T.builtins G.T.nolimit hg hobj hints (zv hlen hn2) hr hF hb (fun H hO hS=>hsp w H a ns hlen hO hS) fun H e s'=>hCX w H s₁ e s'
theorem Ow {l:PySem.W.OpenLaw} {n k:Nat} {q:Program} {loose:List Str} {XP:(Str->Option Value)->Heap->Prop} {YP:World->Heap->Prop} {d:DefRec} {K:Params->PySem.W.Frag} {CX:J5} {sp:PySem.W.Frag->Sp} {x:Str}
  (hn:l.most=some n) (hn2:n<=sizeLine) (hdf:d.params.defaults=[]) (hr:kh k callerA)
  (hY:∀ (w:World) (h:Heap),YP w h->(K w.params).In h)
  (F:∀ (w:World) (mg:Str->Option Value) (fa:Addr) (h:Heap),(K w.params).In h->h.Ns mainGlobals mg->mg d.name=some (.ref fa) →
   ∃ fd:FuncData,(∀ (s:Shared) (u:Value),BindsTo s fd ⟨[u],[]⟩ [(x,u)]) ∧
    ∀ base:Heap,(K w.params).In base->base.Ns mainGlobals mg->dB l.prog w (K w.params) mg base CX k fa fd [x] (sp (K w.params)))
  (hsp:∀ (K:PySem.W.Frag) (H:Hp) (a:Addr) (ns:List Int),ns.length<=n->Only H->nF K H a (ns.map V.int)->sp K [.ref a] H (fun v _=>v=.bl true) fun _ _ _=>False)
  (hCX:∀ (H:Hp) (s:Shared) (e:Value) (s':Shared),CX [] H s (fun _ _ _=>False) e s'->False) :
  PySem.W.WalkO q loose XP YP l.row.toRowW d [] (fun f vs=>PySem.call f vs):=
 Tc (K:=K) (CX:=fun _=>CX) (sp:=fun w=>sp (K w.params)) hn hn2 hdf hr hY F (fun w H a ns h1 h2 h3=>hsp (K w.params) H a ns h1 h2 h3) fun _ H s e s'=>hCX H s e s'
end L2
namespace L2
open PySem PySem.Spec PyProof.Rows
def cY (s:Stmt):Arguments:=match s with
 |.FunctionDef _ a _ _ _ _ _ _ _ _=>a
 |_=>{ posonlyargs:=[],args:=[],vararg:=none,kwonlyargs:=[],kw_defaults:=[],kwarg:=none,defaults:=[] }
def bV (s:Stmt):List Stmt:=match s with
 |.FunctionDef _ _ b _ _ _ _ _ _ _=>b
 |_=>[]
def aH (s:Stmt):Scope:=match s with
 |.FunctionDef _ _ _ _ _ _ sc _ _ _=>sc
 |_=>{ kind:=.function,names:=[],isGenerator:=false,isCoroutine:=false }
abbrev nH:J5:=fun _ _ _ _ _ _=>False
abbrev E0:XK:=fun _ _ _=>False
theorem aav {X:Cx}:Passes nH X E0:=fun _ _ _ _ _ _ _ h=>h.elim
structure zZ (K:PySem.W.Frag) (x qual:Str) (st:Stmt) (f:Addr) (fd:FuncData):Prop where
 ex:∃ (oc:Value) (od:Option Addr) (kV doc pm:Value) (an:Option Addr) (cdv ct:Value) (osl:Array (Option Value)),
  fd=PySem.W.fnOf x qual (cY st) (bV st) (aH st) .none kV doc pm an cdv ct/\K.lookup f=some ⟨oc,od,.func fd,osl⟩/\PySem.W.codeIn K cdv qual=true
 kp:PySem.W.keepIn K (.ref f)=true
section
variable {P:Program} {w:World} {K:PySem.W.Frag} {mg:Str->Option Value} {base:Heap}
theorem zZ.ok {x qual:Str} {st:Stmt} {f:Addr} {fd:FuncData} {N ps:List Str} {k:Nat} {sp:Sp} (F:zZ K x qual st f fd) (S:cL N ps (aH st)) (len:∀ vs H Q E,sp vs H Q E->vs.length=ps.length)
  (hbody:∀ (cdv:Value) (A:Around) (outer:List Env) (s:Shared) (H:Hp) (vs:List V) (Q:VK) (E:XK),kh k (A.deeper (envOfC qual (aH st) s.heap.objs.size f cdv))->sp vs H Q E →
   ∃ t,Hw (Ck nH P w K mg base N qual (aH st) f cdv A outer s H E).N7 (bV st) t/\t { nx:=fun _ H'=>Q .non H',rt:=Q } (start N vs) H):dB P w K mg base nH (k+1) f fd ps sp:=by
 obtain⟨oc,od,kV,doc,pm,an,cdv,ct,osl,rfl,lk,hcd⟩:=F.ex
 refine aai lk hcd S len fun A outer s H vs Q E hr hsp=>?_
 obtain⟨t,h,q⟩:=hbody cdv A outer s H vs Q E hr hsp
 exact⟨t,h.N7,q⟩
theorem zZ.binds {x qual:Str} {st:Stmt} {f:Addr} {fd:FuncData} {ps:List Str} (F:zZ K x qual st f fd)
  (h:∀ (kV doc pm:Value) (an:Option Addr) (cdv ct:Value) (us:List Value),us.length=ps.length->bindArgs (PySem.W.fnOf x qual (cY st) (bV st) (aH st) .none kV doc pm an cdv ct) ⟨us,[]⟩=pure (ps.zip us)):Binds K fd ps []:=by
 obtain⟨oc,od,kV,doc,pm,an,cdv,ct,osl,rfl,lk,hcd⟩:=F.ex
 exact .all (h kV doc pm an cdv ct)
theorem jm {x qual:Str} {st:Stmt} {f:Addr} {oc:Value} {od an:Option Addr} {osl:Array (Option Value)} {kV doc pm cdv ct:Value} (l:K.lookup f=some ⟨oc,od,.func (PySem.W.fnOf x qual (cY st) (bV st) (aH st) .none kV doc pm an cdv ct),osl⟩)
  (c:PySem.W.codeIn K cdv qual=true) (k:PySem.W.keepIn K (.ref f)=true):zZ K x qual st f (PySem.W.fnOf x qual (cY st) (bV st) (aH st) .none kV doc pm an cdv ct):=⟨⟨oc,od,kV,doc,pm,an,cdv,ct,osl,rfl,l,c⟩,k⟩
end
section
variable {X:Cx}
theorem pv (i:Nat) {x:Str} {pos:Pos} (hN:X.N[i]?=some x:=by rfl) (hv:Hv X.env.scope x:=by first|exact QP rfl|exact qi (QP rfl)|exact qi (qi rfl)) (hd:(x==("__debug__" : Str))=false:=by decide)
  (hcd:(x==("__classdict__" : Str))=false:=by decide):PE X (.Name x pos) (R5 i):=mZ hN hv hd hcd
end
def Same (H H':Hp):Prop:=∀ b o,H b=some o->H' b=some o
theorem Same.refl (H:Hp):Same H H:=fun _ _ h=>h
theorem Same.trans {H H1 H2:Hp} (a:Same H H1) (b:Same H1 H2):Same H H2:=fun c o h=>b c o (a c o h)
theorem Same.free {H H':Hp} (e:Same H H') {l:Addr} (h:H' l=Option.none):H l=Option.none:=by
 cases q:H l with
 |none=>rfl
 |some o=>
  rw[e l o q] at h
  cases h
theorem Same.seq {K:PySem.W.Frag} {H H':Hp} {a:Addr} {xs:List V} (e:Same H H') (h:nF K H a xs):nF K H' a xs:=by
 rcases h with (h|⟨o,h⟩)|h
 ·exact .inl (.inl (e _ _ h))
 ·exact .inl (.inr ⟨o,e _ _ h⟩)
 ·exact .inr h
end L2
end
section
namespace P1
open PySem PySem.Spec PyProof.Rows L2
inductive Dt where
 |non|bl (b:Bool)|int (i:Int)|str (x:Str)|tup (xs:List Dt)|lst (xs:List Dt)|emp
inductive Bx where
 |z (d:Dt)|l (ds:List Dt)|o (ds:List Dt)|n (kvs:List (Key×Dt))|m (kvs:List (Key×Dt)) (w:Option Addr)
abbrev Ev:=List (Option Bx)
def FzL (K:PySem.W.Frag) (H:Hp) (a:Addr) (xs:List V):Prop:=
 (∃ o,H a=some (.lq o (.lst xs))) ∨
  ∃ (o:Obj) (its:Array Value) (n:Nat),K.lookup a=some o/\o.cls=.type "list" ∧ o.dict=none/\o.data=.seq its n/\its.size<=sizeLine/\Vals xs its.toList
theorem FzL.sq {K:PySem.W.Frag} {H:Hp} {a:Addr} {xs:List V} (h:FzL K H a xs):nF K H a xs:=by
 rcases h with h|h
 ·exact .inl (.inr h)
 ·exact .inr h
mutual
def Rep (K:PySem.W.Frag) (H:Hp):Dt->V->Prop
 |.non,v=>v=.non
 |.bl b,v=>v=.bl b
 |.int i,v=>v=.int i
 |.str x,v=>v=.str x/\x.length<=sizeLine
 |.tup ds,v=>∃ a vs,v=.ref a/\tO K H a vs/\aF K H ds vs
 |.lst ds,v=>∃ a vs,v=.ref a/\FzL K H a vs/\aF K H ds vs
 |.emp,v=>∃ a o,v=.ref a/\H a=some (.lq o (.dK []))
def aF (K:PySem.W.Frag) (H:Hp):List Dt->List V->Prop
 |[],vs=>vs=[]
 |d::ds,vs=>∃ v r,vs=v::r/\Rep K H d v/\aF K H ds r
end
structure Kp (H H':Hp):Prop where
 t:∀ a xs,H a=some (.tup xs)->H' a=some (.tup xs)
 f:∀ a o u,H a=some (.lq o u)->H' a=some (.lq o u)
theorem Kp.of {H H':Hp} (s:Same H H'):Kp H H':=⟨fun a _ h=>s a _ h,fun a _ _ h=>s a _ h⟩
theorem Kp.sqT {K:PySem.W.Frag} {H H':Hp} {a:Addr} {xs:List V} (k:Kp H H') (h:tO K H a xs):tO K H' a xs:=by
 rcases h with (h|⟨o,h⟩)|h
 ·exact .inl (.inl (k.t _ _ h))
 ·exact .inl (.inr ⟨o,k.f _ _ _ h⟩)
 ·exact .inr h
theorem Kp.fzL {K:PySem.W.Frag} {H H':Hp} {a:Addr} {xs:List V} (k:Kp H H') (h:FzL K H a xs):FzL K H' a xs:=by
 rcases h with⟨o,h⟩|h
 ·exact .inl ⟨o,k.f _ _ _ h⟩
 ·exact .inr h
theorem Kp.lst {H:Hp} {a:Addr} {xs:List V} {o:HO} (h:H a=some (.lst xs)):Kp H (upd H a o):=by
 refine⟨fun b ys e=>?_,fun b ob u e=>?_⟩
 ·rw[aC (j9 e h (by intro z;cases z))];exact e
 ·rw[aC (j9 e h (by intro z;cases z))];exact e
theorem Kp.dk {H:Hp} {a:Addr} {xs:List (Key×V)} {o:HO} (h:H a=some (.dK xs)):Kp H (upd H a o):=by
 refine⟨fun b ys e=>?_,fun b ob u e=>?_⟩
 ·rw[aC (j9 e h (by intro z;cases z))];exact e
 ·rw[aC (j9 e h (by intro z;cases z))];exact e
mutual
theorem Rep.kp {K:PySem.W.Frag} {H H':Hp} (k:Kp H H'):∀ {d:Dt} {v:V},Rep K H d v->Rep K H' d v
 |.non,_,h=>by simpa only[Rep] using h
 |.bl _,_,h=>by simpa only[Rep] using h
 |.int _,_,h=>by simpa only[Rep] using h
 |.str _,_,h=>by simpa only[Rep] using h
 |.tup ds,_,h=>by
  simp only[Rep] at h ⊢
  obtain⟨a,vs,e,q,r⟩:=h
  exact⟨a,vs,e,k.sqT q,aF.kp k r⟩
 |.lst ds,_,h=>by
  simp only[Rep] at h ⊢
  obtain⟨a,vs,e,q,r⟩:=h
  exact⟨a,vs,e,k.fzL q,aF.kp k r⟩
 |.emp,_,h=>by
  simp only[Rep] at h ⊢
  obtain⟨a,o,e,q⟩:=h
  exact⟨a,o,e,k.f _ _ _ q⟩
theorem aF.kp {K:PySem.W.Frag} {H H':Hp} (k:Kp H H'):∀ {ds:List Dt} {vs:List V},aF K H ds vs->aF K H' ds vs
 |[],_,h=>by simpa only[aF] using h
 |d::ds,_,h=>by
  simp only[aF] at h ⊢
  obtain⟨v,r,e,q,t⟩:=h
  exact⟨v,r,e,Rep.kp k q,aF.kp k t⟩
end
theorem aF.length {K:PySem.W.Frag} {H:Hp}:∀ {ds:List Dt} {vs:List V},aF K H ds vs->vs.length=ds.length
 |[],_,h=>by simp only[aF] at h;subst h;rfl
 |d::ds,_,h=>by
  simp only[aF] at h
  obtain⟨v,r,rfl,_,t⟩:=h
  simp[aF.length t]
theorem aF.nil {K:PySem.W.Frag} {H:Hp}:aF K H [] []:=by simp only[aF]
theorem aF.cons {K:PySem.W.Frag} {H:Hp} {d:Dt} {v:V} {ds:List Dt} {vs:List V} (h:Rep K H d v) (t:aF K H ds vs):aF K H (d::ds) (v::vs):=by
 simp only[aF];exact⟨v,vs,rfl,h,t⟩
theorem aF.append {K:PySem.W.Frag} {H:Hp}:∀ {ds es:List Dt} {vs us:List V},aF K H ds vs->aF K H es us->aF K H (ds++es) (vs++us)
 |[],_,_,_,h,t=>by simp only[aF] at h;subst h;exact t
 |d::ds,_,_,_,h,t=>by
  simp only[aF] at h
  obtain⟨v,r,rfl,q,h⟩:=h
  exact aF.cons q (aF.append h t)
theorem aF.drop {K:PySem.W.Frag} {H:Hp}:∀ (n:Nat) {ds:List Dt} {vs:List V},aF K H ds vs->aF K H (ds.drop n) (vs.drop n)
 |0,_,_,h=>h
 |n+1,[],_,h=>by simp only[aF] at h;subst h;exact aF.nil
 |n+1,d::ds,_,h=>by
  simp only[aF] at h
  obtain⟨v,r,rfl,q,h⟩:=h
  exact aF.drop n h
theorem aF.take {K:PySem.W.Frag} {H:Hp}:∀ (n:Nat) {ds:List Dt} {vs:List V},aF K H ds vs->aF K H (ds.take n) (vs.take n)
 |0,_,_,_=>aF.nil
 |n+1,[],_,h=>by simp only[aF] at h;subst h;exact aF.nil
 |n+1,d::ds,_,h=>by
  simp only[aF] at h
  obtain⟨v,r,rfl,q,h⟩:=h
  exact aF.cons q (aF.take n h)
theorem aF.get {K:PySem.W.Frag} {H:Hp}:∀ {ds:List Dt} {vs:List V} {i:Nat} {d:Dt},aF K H ds vs->ds[i]?=some d->∃ v,vs[i]?=some v/\Rep K H d v
 |[],_,_,_,_,e=>by simp at e
 |d::ds,_,0,_,h,e=>by
  simp only[aF] at h
  obtain⟨v,r,rfl,q,h⟩:=h
  simp at e;subst e;exact⟨v,rfl,q⟩
 |d::ds,_,i+1,_,h,e=>by
  simp only[aF] at h
  obtain⟨v,r,rfl,q,h⟩:=h
  obtain⟨u,e1,e2⟩:=aF.get h (i:=i) (by simpa using e)
  exact⟨u,by simpa using e1,e2⟩
def VL:Key->Prop
 |.inl _=>True
 |.inr x=>x.length<=sizeLine
def fL (K:PySem.W.Frag) (H:Hp) (kvs:List (Key×Dt)) (ks:List (Key×V)):Prop:=ks.map (·.1)=kvs.map (·.1)/\aF K H (kvs.map (·.2)) (ks.map (·.2))/\∀ p∈kvs,VL p.1
theorem fL.kp {K:PySem.W.Frag} {H H':Hp} {kvs:List (Key×Dt)} {ks:List (Key×V)} (h:fL K H kvs ks) (k:Kp H H'):fL K H' kvs ks:=⟨h.1,h.2.1.kp k,h.2.2⟩
def aR (K:PySem.W.Frag) (H:Hp):Bx->V->Prop
 |.z d,v=>Rep K H d v
 |.l ds,v=>∃ a vs,v=.ref a/\Rd H a (.lst vs)/\aF K H ds vs
 |.o ds,v=>∃ a vs,v=.ref a/\H a=some (.lst vs)/\aF K H ds vs
 |.n kvs,v=>∃ a ks,v=.ref a/\Rd H a (.dK ks)/\fL K H kvs ks
 |.m kvs w,v=>∃ a ks,v=.ref a/\H a=some (.dK ks)/\fL K H kvs ks/\∀ b,w=some b->b=a
theorem aR.same {K:PySem.W.Frag} {H H':Hp} (s:Same H H') {b:Bx} {v:V} (h:aR K H b v):aR K H' b v:=by
 cases b with
 |z d=>exact Rep.kp (.of s) h
 |l ds=>
  obtain⟨a,vs,e,q,r⟩:=h
  refine⟨a,vs,e,?_,r.kp (.of s)⟩
  rcases q with q|⟨o,q⟩
  ·exact .inl (s _ _ q)
  ·exact .inr ⟨o,s _ _ q⟩
 |o ds=>
  obtain⟨a,vs,e,q,r⟩:=h
  exact⟨a,vs,e,s _ _ q,r.kp (.of s)⟩
 |n kvs=>
  obtain⟨a,vs,e,q,r⟩:=h
  refine⟨a,vs,e,?_,r.kp (.of s)⟩
  rcases q with q|⟨o,q⟩
  ·exact .inl (s _ _ q)
  ·exact .inr ⟨o,s _ _ q⟩
 |m kvs _=>
  obtain⟨a,vs,e,q,r⟩:=h
  exact⟨a,vs,e,s _ _ q,r.1.kp (.of s),r.2⟩
def m9:Bx->Option (List Dt)
 |.z (.lst ds)=>some ds
 |.l ds=>some ds
 |.o ds=>some ds
 |_=>none
theorem aR.z6 {K:PySem.W.Frag} {H:Hp} {b:Bx} {v:V} {ds:List Dt} (h:aR K H b v) (e:m9 b=some ds):∃ a vs,v=.ref a/\nF K H a vs/\aF K H ds vs:=by
 cases b with
 |z d=>
  cases d<;>first|(cases e;done)|skip
  cases e
  simp only[aR,Rep] at h
  obtain⟨a,vs,e,q,r⟩:=h
  exact⟨a,vs,e,q.sq,r⟩
 |l ds'=>
  cases e
  obtain⟨a,vs,e,q,r⟩:=h
  exact⟨a,vs,e,.inl q,r⟩
 |o ds'=>
  cases e
  obtain⟨a,vs,e,q,r⟩:=h
  exact⟨a,vs,e,.inl (.inl q),r⟩
 |n _=>cases e
 |m _ _=>cases e
abbrev pG (K:PySem.W.Frag) (H:Hp):List Bx->List V->Prop:=Paired (aR K H)
theorem pG.same {K:PySem.W.Frag} {H H':Hp} (s:Same H H') {bs:List Bx} {vs:List V} (h:pG K H bs vs):pG K H' bs vs:=Paired.imp' (fun _ _ q=>aR.same s q) h
def Nw (H:Hp):Bx->V->Prop
 |.o _,v=>∀ a,v=.ref a->H a=none
 |.m _ _,v=>∀ a,v=.ref a->H a=none
 |_,_=>True
theorem Nw.old {H H1:Hp} (s:Same H H1) {b:Bx} {v:V} (h:Nw H1 b v):Nw H b v:=by
 cases b with
 |o ds=>exact fun a e=>s.free (h a e)
 |m ds _=>exact fun a e=>s.free (h a e)
 |_=>trivial
def loose:Bx->Bool
 |.z _=>false
 |_=>true
def pZ:Bx->Bool
 |.o _=>true
 |.m _ _=>true
 |_=>false
structure aQ (K:PySem.W.Frag) (H0 H:Hp) (σ:L2.St) (ρ:Ev):Prop where
 len:σ.length=ρ.length
 val:∀ (i:Nat) b,ρ[i]?=some (some b)->∃ v,σ[i]?=some (some v)/\aR K H b v
 own:∀ (i j:Nat) c a b,ρ[i]?=some (some c)->pZ c=true->σ[i]?=some (some (.ref a))->ρ[j]?=some (some b)->loose b=true->σ[j]?=some (some (.ref a))->i=j
 base:Same H0 H
 new:∀ (i:Nat) c a,ρ[i]?=some (some c)->pZ c=true->σ[i]?=some (some (.ref a))->H0 a=none
theorem aQ.grow {K:PySem.W.Frag} {H0 H H':Hp} {σ:L2.St} {ρ:Ev} (r:aQ K H0 H σ ρ) (s:Same H H'):aQ K H0 H' σ ρ:=
 ⟨r.len,fun i b e=>let ⟨v,e1,h⟩:=r.val i b e;⟨v,e1,h.same s⟩,r.own,r.base.trans s,r.new⟩
def tF (K:PySem.W.Frag) (f:Ev->Option Bx):TE:=fun σ H Q=>∃ H0 ρ b,aQ K H0 H σ ρ/\f ρ=some b/\∀ v H',Same H H'->Nw H b v->aR K H' b v->Q v H'
def tFA (K:PySem.W.Frag) (f:Ev->Option (List Bx)):TA:=fun σ H Q=>∃ H0 ρ bs,aQ K H0 H σ ρ/\f ρ=some bs/\∀ vs H',Same H H'->pG K H' bs vs->Q vs H'
def Td (K:PySem.W.Frag) (f:Ev->Option Bool):TT:=fun σ H Q=>∃ H0 ρ b,aQ K H0 H σ ρ/\f ρ=some b/\∀ H',Same H H'->Q b H'
def PV (X:Cx) (e:Expr) (f:Ev->Option Bx):Prop:=PE X e (tF X.K f)
structure QV (X:Cx) (e:Expr) (f:Ev->Option Bx):Prop where
 run:PV X e f
def PVs (X:Cx) (es:List Expr) (f:Ev->Option (List Bx)):Prop:=PA X es (tFA X.K f)
structure RV (X:Cx) (es:List Expr) (f:Ev->Option (List Bx)):Prop where
 run:PVs X es f
def PB (X:Cx) (e:Expr) (f:Ev->Option Bool):Prop:=PT X e (Td X.K f)
structure QB (X:Cx) (e:Expr) (f:Ev->Option Bool):Prop where
 run:PB X e f
theorem Cw {X:Cx} {e:Expr} {t t':TE} (h:PE X e t) (m:∀ σ H Q,t' σ H Q->t σ H Q):PE X e t':=fun pins s σ H Q I q=>h pins s σ H Q I (m σ H Q q)
theorem paM {X:Cx} {e:List Expr} {t t':TA} (h:PA X e t) (m:∀ σ H Q,t' σ H Q->t σ H Q):PA X e t':=fun pos pins s σ H Q I q=>h pos pins s σ H Q I (m σ H Q q)
theorem ptM {X:Cx} {e:Expr} {t t':TT} (h:PT X e t) (m:∀ σ H Q,t' σ H Q->t σ H Q):PT X e t':=fun pins s σ H Q I q=>h pins s σ H Q I (m σ H Q q)
theorem pwM {X:Cx} {e:Expr} {t t':TT} (h:PW X e t) (m:∀ σ H Q,t' σ H Q->t σ H Q):PW X e t':=fun wh pins s σ H Q I q=>h wh pins s σ H Q I (m σ H Q q)
theorem Ox {X:Cx} {e:Stmt} {t t':TS} (h:PS X e t) (m:∀ D σ H,t' D σ H->t D σ H):PS X e t':=fun pins s σ H D I q=>h pins s σ H D I (m D σ H q)
theorem Xp {X:Cx} {e:List Stmt} {t t':TS} (h:Hw X e t) (m:∀ D σ H,t' D σ H->t D σ H):Hw X e t':=fun pins s σ H D I q=>h pins s σ H D I (m D σ H q)
def rF (K:PySem.W.Frag) (g:Bx->Bx->Option Bx):R2:=fun x y H Q=>∃ a b c,aR K H a x/\aR K H b y/\g a b=some c/\∀ w H',Same H H'->Nw H c w->aR K H' c w->Q w H'
def rF1 (K:PySem.W.Frag) (g:Bx->Option Bx):V->Hp->VK->Prop:=fun x H Q=>∃ a c,aR K H a x/\g a=some c/\∀ w H',Same H H'->Nw H c w->aR K H' c w->Q w H'
def rFs (K:PySem.W.Frag) (g:List Bx->Option Bx):List V->Hp->VK->Prop:=fun xs H Q=>∃ bs c,pG K H bs xs/\g bs=some c/\∀ w H',Same H H'->Nw H c w->aR K H' c w->Q w H'
abbrev Cy (X:Cx) (f:Value->Value->Sem Value) (g:Bx->Bx->Option Bx):Prop:=tQ X f (rF X.K g)
abbrev UnF (X:Cx) (f:Value->Sem Value) (g:Bx->Option Bx):Prop:=VB X f (rF1 X.K g)
abbrev pH (X:Cx) (f:Value) (g:List Bx->Option Bx):Prop:=fK X f (rFs X.K g)
theorem tQ.imp {X:Cx} {f:Value->Value->Sem Value} {r r':R2} (h:tQ X f r) (m:∀ x y H Q,r' x y H Q->r x y H Q):tQ X f r':=fun pins s σ H x y v u Q I rx ry q=>h pins s σ H x y v u Q I rx ry (m x y H Q q)
theorem VB.imp {X:Cx} {f:Value->Sem Value} {r r':V->Hp->VK->Prop} (h:VB X f r) (m:∀ x H Q,r' x H Q->r x H Q):VB X f r':=fun pins s σ H x v Q I rx q=>h pins s σ H x v Q I rx (m x H Q q)
theorem fK.imp {X:Cx} {f:Value} {r r':List V->Hp->VK->Prop} (h:fK X f r) (m:∀ x H Q,r' x H Q->r x H Q):fK X f r':=fun pins s σ H xs us Q I rx q=>h pins s σ H xs us Q I rx (m xs H Q q)
def b2 (g:Bx->Bx->Option Bx) (fa fb:Ev->Option Bx):Ev->Option Bx:=fun ρ=>(fa ρ).bind fun x=>(fb ρ).bind fun y=>g x y
def b1 (g:Bx->Option Bx) (fa:Ev->Option Bx):Ev->Option Bx:=fun ρ=>(fa ρ).bind g
def dY (g:List Bx->Option Bx) (fs:Ev->Option (List Bx)):Ev->Option Bx:=fun ρ=>(fs ρ).bind g
theorem bind_some {α β:Type} {o:Option α} {f:α->Option β} {b:β} (h:o.bind f=some b):∃ a,o=some a/\f a=some b:=by
 cases o with
 |none=>cases h
 |some a=>exact⟨a,rfl,h⟩
theorem Oz {K:PySem.W.Frag} {g:Bx->Bx->Option Bx} {fa fb:Ev->Option Bx} (σ:L2.St) (H:Hp) (Q:VK) (h:tF K (b2 g fa fb) σ H Q):Z2 (rF K g) (tF K fa) (tF K fb) σ H Q:=by
 obtain⟨H0,ρ,c,E,e,q⟩:=h
 obtain⟨a,ea,e⟩:=bind_some e
 obtain⟨b,eb,e⟩:=bind_some e
 refine⟨H0,ρ,a,E,ea,fun v H1 s1 n1 r1=>⟨H0,ρ,b,E.grow s1,eb,fun u H2 s2 n2 r2=>?_⟩⟩
 exact⟨a,b,c,r1.same s2,r2,e,fun w H3 s3 n3 r3=>q w H3 ((s1.trans s2).trans s3) (n3.old (s1.trans s2)) r3⟩
theorem aay {K:PySem.W.Frag} {g:Bx->Option Bx} {fa:Ev->Option Bx} (σ:L2.St) (H:Hp) (Q:VK) (h:tF K (b1 g fa) σ H Q):tUn (rF1 K g) (tF K fa) σ H Q:=by
 obtain⟨H0,ρ,c,E,e,q⟩:=h
 obtain⟨a,ea,e⟩:=bind_some e
 exact⟨H0,ρ,a,E,ea,fun v H1 s1 n1 r1=>⟨a,c,r1,e,fun w H3 s3 n3 r3=>q w H3 (s1.trans s3) (n3.old s1) r3⟩⟩
theorem convs {K:PySem.W.Frag} {g:List Bx->Option Bx} {fs:Ev->Option (List Bx)} (σ:L2.St) (H:Hp) (Q:VK) (h:tF K (dY g fs) σ H Q):tCB (rFs K g) (tFA K fs) σ H Q:=by
 obtain⟨H0,ρ,c,E,e,q⟩:=h
 obtain⟨a,ea,e⟩:=bind_some e
 exact⟨H0,ρ,a,E,ea,fun v H1 s1 r1=>⟨a,c,r1,e,fun w H3 s3 n3 r3=>q w H3 (s1.trans s3) (n3.old s1) r3⟩⟩
section
variable {X:Cx} {a b c e:Expr} {es:List Expr} {fa fb fc f:Ev->Option Bx} {fs:Ev->Option (List Bx)} {pos:Pos}
theorem aU {op:Operator} {g:Bx->Bx->Option Bx} (ho:Cy X (binaryOp op) g) (ha:QV X a fa) (hb:QV X b fb):QV X (.BinOp a op b pos) (b2 g fa fb):=⟨have ha:=ha.run;have hb:=hb.run;Cw (Z4 ho ha hb) Oz⟩
theorem aaz {op:UnaryOp} {g:Bx->Option Bx} (ho:UnF X (unaryOp op) g) (ha:QV X a fa):QV X (.UnaryOp op a pos) (b1 g fa):=⟨have ha:=ha.run;Cw (Z5 ho ha) aay⟩
theorem yq {op:CmpOp} {g:Bx->Bx->Option Bx} (ho:Cy X (compareOp op) g) (ha:QV X a fa) (hb:QV X b fb) (hm:behindInMarks op b=false):QV X (.Compare a [op] [b] pos) (b2 g fa fb):=⟨have ha:=ha.run;have hb:=hb.run;Cw (Sd ho ha hb hm) Oz⟩
def OD:Bx->Option Bool
 |.z (.bl b)=>some b
 |_=>none
theorem OJ {K:PySem.W.Frag} {H:Hp} {b:Bx} {v:V} {k:Bool} (h:aR K H b v) (e:OD b=some k):v=.bl k:=by
 cases b with
 |z d=>
  cases d<;>first|(cases e;done)|skip
  cases e
  simpa only[aR,Rep] using h
 |_=>cases e
theorem aaA {K:PySem.W.Frag} {f:Ev->Option Bx} (σ:L2.St) (H:Hp) (Q:Bool->Hp->Prop) (h:Td K (fun ρ=>(f ρ).bind OD) σ H Q):tF K f σ H (fun x H'=>∃ k,x=.bl k/\Q k H'):=by
 obtain⟨H0,ρ,k,E,e,q⟩:=h
 obtain⟨b,eb,e⟩:=bind_some e
 exact⟨H0,ρ,b,E,eb,fun v H1 s1 n1 r1=>⟨k,OJ r1 e,q H1 s1⟩⟩
theorem d8 {op:CmpOp} {g:Bx->Bx->Option Bx} (ho:Cy X (compareOp op) g) (ha:QV X a fa) (hb:QV X b fb) (hm:behindInMarks op b=false):QB X (.Compare a [op] [b] pos) (fun ρ=>(b2 g fa fb ρ).bind OD):=⟨have ha:=ha.run;have hb:=hb.run;ptM (Sg ho ha hb hm) fun σ H Q h=>Oz σ H _ (aaA σ H Q h)⟩
def vM (ρ:Ev) (i:Nat):Option Bx:=match ρ[i]? with
 |some (some (.o ds))=>some (.l ds)
 |some (some (.m kvs _))=>some (.n kvs)
 |some (some b)=>some b
 |_=>none
theorem Fd {K:PySem.W.Frag} {H0 H:Hp} {σ:L2.St} {ρ:Ev} {i:Nat} {b:Bx} (E:aQ K H0 H σ ρ) (e:vM ρ i=some b):∃ v,σ[i]?=some (some v)/\aR K H b v:=by
 unfold vM at e
 split at e
 ·rename_i ds h
  cases e
  obtain⟨v,e1,a,vs,e2,q,r⟩:=E.val i _ h
  exact⟨v,e1,a,vs,e2,.inl q,r⟩
 ·rename_i ds h
  cases e
  obtain⟨v,e1,a,vs,e2,q,r⟩:=E.val i _ h
  exact⟨v,e1,a,vs,e2,.inl q,r.1⟩
 ·rename_i b' h
  cases e
  exact E.val i _ h
 ·cases e
theorem tX {ρ:Ev} {i:Nat} {b:Bx} (e:vM ρ i=some b):pZ b=false:=by
 unfold vM at e
 split at e
 ·cases e;rfl
 ·cases e;rfl
 ·rename_i b' h1 h2 h3
  cases e
  cases b with
  |o ds=>exact absurd rfl (h1 ds)
  |m ds _=>exact absurd rfl (h2 ds _)
  |_=>rfl
 ·cases e
theorem aj (i:Nat) {x:Str} (hN:X.N[i]?=some x:=by rfl) (hv:Hv X.env.scope x:=by first|exact QP rfl|exact qi (QP rfl)|exact qi (qi rfl)) (hd:(x==("__debug__" : Str))=false:=by decide) (hcd:(x==("__classdict__" : Str))=false:=by decide):QV X (.Name x pos) (fun ρ=>vM ρ i):=⟨Cw (mZ hN hv hd hcd) fun σ H Q h=>by
 obtain⟨H0,ρ,b,E,e,q⟩:=h
 obtain⟨v,e1,r⟩:=Fd E e
 refine⟨v,e1,q v H (Same.refl H) ?_ r⟩
 cases b with
 |o ds=>have:=tX e;cases this
 |m ds _=>have:=tX e;cases this
 |_=>trivial⟩
def cB (d:Dt):Ev->Option Bx:=fun _=>some (.z d)
theorem Te {v:V} {d:Dt} (h:PE X e (tC v)) (r:∀ H,Rep X.K H d v):PV X e (cB d):=Cw h fun σ H Q q=>by
 obtain⟨H0,ρ,b,E,e,q⟩:=q
 cases e
 exact q v H (Same.refl H) trivial (r H)
theorem aD {i j}:QV X (.Constant (.int i) j pos) (cB (.int i)):=⟨Te Wy fun H=>by simp only[Rep]⟩
theorem pI {i j}:QV X (.Constant (.bool i) j pos) (cB (.bl i)):=⟨Te ZQ fun H=>by simp only[Rep]⟩
theorem Xq {j}:QV X (.Constant .none j pos) (cB .non):=⟨Te Wz fun H=>by simp only[Rep]⟩
theorem O1 {x:Str} {j} (hx:x.length<=sizeLine:=by decide):PV X (.Constant (.str x) j pos) (cB (.str x)):=Te WD fun H=>by unfold Rep;exact⟨rfl,hx⟩
def Tf:Bx->Option Bool
 |.z .non=>some false
 |.z (.bl b)=>some b
 |.z (.int i)=>some (i != 0)
 |.z (.str x)=>some ((x.length:Int) != 0)
 |.z (.tup ds)=>some (!ds.isEmpty)
 |.z (.lst ds)=>some (!ds.isEmpty)
 |.l ds=>some (!ds.isEmpty)
 |.o ds=>some (!ds.isEmpty)
 |.z .emp=>none
 |.n _=>none
 |.m _ _=>none
theorem aF.isEmpty {K:PySem.W.Frag} {H:Hp} {ds:List Dt} {vs:List V} (h:aF K H ds vs):(!ds.isEmpty)=!vs.isEmpty:=by
 have:=h.length
 cases ds<;>cases vs<;>simp_all
theorem Tg {K:PySem.W.Frag} {H:Hp} {b:Bx} {v:V} {k:Bool} (r:aR K H b v) (e:Tf b=some k):W9 K v H k:=by
 cases b with
 |z d=>
  cases d with
  |non=>cases e;simp only[aR,Rep] at r;subst r;rfl
  |bl b=>cases e;simp only[aR,Rep] at r;subst r;rfl
  |int b=>cases e;simp only[aR,Rep] at r;subst r;rfl
  |str x=>cases e;simp only[aR,Rep] at r;obtain⟨rfl,h⟩:=r;exact⟨h,rfl⟩
  |tup ds=>
   cases e;simp only[aR,Rep] at r
   obtain⟨a,vs,rfl,q,r⟩:=r
   exact .inr (.inl ⟨vs,q,r.isEmpty⟩)
  |lst ds=>
   cases e
   obtain⟨a,vs,rfl,q,r⟩:=r.z6 rfl
   exact .inl ⟨vs,q,r.isEmpty⟩
  |emp=>cases e
 |l ds=>
  cases e
  obtain⟨a,vs,rfl,q,r⟩:=r.z6 rfl
  exact .inl ⟨vs,q,r.isEmpty⟩
 |o ds=>
  cases e
  obtain⟨a,vs,rfl,q,r⟩:=r.z6 rfl
  exact .inl ⟨vs,q,r.isEmpty⟩
 |n _=>cases e
 |m _ _=>cases e
theorem sy (h:QV X e f) (he:∀ whole,isTrue e X.env whole=(do let v <-whole;standAt e.pos;holding [v] (truthy v)):=by intro _;rfl):QB X e (fun ρ=>(f ρ).bind Tf):=⟨have h:=h.run;ptM (Oc h he) fun σ H Q q=>by
 obtain⟨H0,ρ,k,E,e,q⟩:=q
 obtain⟨b,eb,e⟩:=bind_some e
 exact⟨H0,ρ,b,E,eb,fun v H1 s1 n1 r1=>⟨k,Tg r1 e,q H1 s1⟩⟩⟩
def O2 (p q:Ev->Option Bool):Ev->Option Bool:=fun ρ=>(p ρ).bind fun c=>if c=true then q ρ else some false
def O4 (p q:Ev->Option Bool):Ev->Option Bool:=fun ρ=>(p ρ).bind fun c=>if c=true then some true else q ρ
def Ih (p:Ev->Option Bool):Ev->Option Bool:=fun ρ=>(p ρ).bind fun c=>some (!c)
def PBW (X:Cx) (e:Expr) (f:Ev->Option Bool):Prop:=PW X e (Td X.K f)
structure Xr (X:Cx) (e:Expr) (f:Ev->Option Bool):Prop where
 run:PBW X e f
variable {p q:Ev->Option Bool} {rest:List Expr}
theorem O5 (ha:QB X a p):Xr X (.BoolOp .And [a] pos) p:=⟨have ha:=ha.run;R7 ha⟩
theorem tY (ha:QB X a p):Xr X (.BoolOp .Or [a] pos) p:=⟨have ha:=ha.run;WK ha⟩
theorem Ti {K:PySem.W.Frag} (σ:L2.St) (H:Hp) (Q:Bool->Hp->Prop) (h:Td K (O2 p q) σ H Q):ZR (Td K p) (Td K q) σ H Q:=by
 obtain⟨H0,ρ,k,E,e,w⟩:=h
 obtain⟨c,ec,e⟩:=bind_some e
 refine⟨H0,ρ,c,E,ec,fun H1 s1=>?_⟩
 cases c with
 |true=>rw[zo rfl] at e ⊢;exact⟨H0,ρ,k,E.grow s1,e,fun H2 s2=>w H2 (s1.trans s2)⟩
 |false=>rw[zS zC] at e ⊢;cases e;exact w H1 s1
theorem Xu {K:PySem.W.Frag} (σ:L2.St) (H:Hp) (Q:Bool->Hp->Prop) (h:Td K (O4 p q) σ H Q):tOr (Td K p) (Td K q) σ H Q:=by
 obtain⟨H0,ρ,k,E,e,w⟩:=h
 obtain⟨c,ec,e⟩:=bind_some e
 refine⟨H0,ρ,c,E,ec,fun H1 s1=>?_⟩
 cases c with
 |true=>rw[zo rfl] at e ⊢;cases e;exact w H1 s1
 |false=>rw[zS zC] at e ⊢;exact⟨H0,ρ,k,E.grow s1,e,fun H2 s2=>w H2 (s1.trans s2)⟩
theorem Tj (ha:QB X a p) (hb:Xr X (.BoolOp .And (b::rest) pos) q):Xr X (.BoolOp .And (a::b::rest) pos) (O2 p q):=⟨have ha:=ha.run;have hb:=hb.run;pwM (WL ha hb) Ti⟩
theorem sI (ha:QB X a p) (hb:Xr X (.BoolOp .Or (b::rest) pos) q):Xr X (.BoolOp .Or (a::b::rest) pos) (O4 p q):=⟨have ha:=ha.run;have hb:=hb.run;pwM (ZS ha hb) Xu⟩
theorem Mj (h:Xr X e p):QB X e p:=⟨have h:=h.run;h.pt⟩
theorem Cz (ha:QB X a p):QB X (.UnaryOp .Not a pos) (Ih p):=⟨have ha:=ha.run;ptM (WM ha) fun σ H Q h=>by
 obtain⟨H0,ρ,k,E,e,w⟩:=h
 obtain⟨c,ec,e⟩:=bind_some e
 cases e
 exact⟨H0,ρ,c,E,ec,fun H1 s1=>w H1 s1⟩⟩
theorem Ke:PVs X [] (fun _=>some []):=paM m7 fun σ H Q h=>by
 obtain⟨H0,ρ,bs,E,e,q⟩:=h
 cases e
 exact q [] H (Same.refl H) .nil
def au (f:Ev->Option Bx) (fs:Ev->Option (List Bx)):Ev->Option (List Bx):=fun ρ=>(f ρ).bind fun b=>(fs ρ).bind fun bs=>some (b::bs)
theorem Fe (h1:PV X e f) (h2:PVs X es fs) (hs:starEach (e::es) X.env=(false,eval e X.env)::starEach es X.env:=by rfl):PVs X (e::es) (au f fs):=paM (gO h1 h2 hs) fun σ H Q h=>by
 obtain⟨H0,ρ,bs,E,e,q⟩:=h
 obtain⟨b,eb,e⟩:=bind_some e
 obtain⟨bs',ebs,e⟩:=bind_some e
 cases e
 refine⟨H0,ρ,b,E,eb,fun v H1 s1 n1 r1=>⟨H0,ρ,bs',E.grow s1,ebs,fun vs H2 s2 r2=>?_⟩⟩
 exact q (v::vs) H2 (s1.trans s2) (.cons (r1.same s2) r2)
def Hu:Bx->Option Bx
 |.z d=>some (.z d)
 |.o ds=>some (.z (.lst ds))
 |.l _=>none
 |.n _=>none
 |.m _ _=>none
theorem sJ {pins:List (Addr×Obj)} {σ:L2.St} {H:Hp} {s:Shared} {a:Addr} {vs:List V} (I:L2.Inv X pins σ H s) (h:H a=some (.lst vs)):∃ o,L2.Inv X pins σ (upd H a (.lq o (.lst vs))) s:=by
 obtain⟨z,its,n,r,e⟩:=I.hok a _ h
 refine⟨{ cls:=.type "list", data:=.seq its.toArray n },⟨I.ok,I.os,I.bare,⟨I.base.keep,I.base.slot,fun b ob q1 q2 q3=>?_,I.base.there,fun b xs q=>?_,fun b ob u q=>?_,fun b ps q=>?_⟩,I.loc,I.cell,?_,fun x c q=>?_,fun p hp=>?_,?_,I.len⟩⟩
 ·have:=I.base.free b ob q1 q2 q3
  rw[aC (bQ h this).symm];exact this
 ·have:=I.base.tups b xs q
  rw[aC (j9 this h (by intro z;cases z))];exact this
 ·have:=I.base.q8 b ob u q
  rw[aC (j9 this h (by intro z;cases z))];exact this
 ·obtain⟨m,this⟩:=I.base.tR b ps q
  rw[aC (j9 this h (by intro z;cases z))];exact⟨m,this⟩
 ·rw[aC (bQ h I.free).symm];exact I.free
 ·rw[aC (bQ h (I.lV x c q)).symm];exact I.lV x c q
 ·obtain⟨q1,q2,q3⟩:=I.pin p hp
  refine⟨q1,?_,q3⟩
  rw[aC (bQ h q2).symm];exact q2
 ·intro b u q
  by_cases hb:b=a
  ·subst hb
   rw[aP] at q;cases q
   exact⟨e,z,its,n,r,e⟩
  ·rw[aC hb] at q
   refine (I.hok b u q).stay (fun c v _ w=>w) (fun c w=>?_) fun c xs w=>?_
   ·rw[aC (j9 w h (by intro z;cases z))];exact w
   ·rw[aC (j9 w h (by intro z;cases z))];exact w
theorem p7 (h:QV X e f):QV X e (b1 Hu f):=⟨by
 have h:=h.run
 intro pins s σ H Q I q
 obtain⟨H0,ρ,b,E,e,q⟩:=q
 obtain⟨x,ex,e⟩:=bind_some e
 cases x with
 |z d=>
  cases e
  exact h pins s σ H Q I ⟨H0,ρ,_,E,ex,fun v H' s' n' r'=>q v H' s' trivial r'⟩
 |l ds=>cases e
 |n ds=>cases e
 |m ds _=>cases e
 |o ds=>
  cases e
  refine iR (h pins s σ H (fun v H'=>Same H H'/\Nw H (.o ds) v/\aR X.K H' (.o ds) v) I ⟨H0,ρ,_,E,ex,fun v H' s' n' r'=>⟨s',n',r'⟩⟩) fun u s1 hq=>?_
  obtain⟨v,H1,I1,rv,s',n',r'⟩:=hq
  obtain⟨a,vs,rfl,ha,rs⟩:=r'
  obtain⟨o,I2⟩:=sJ I1 ha
  refine⟨.ref a,_,I2,rv,q _ _ (fun c ob hc=>?_) trivial ?_⟩
  ·rw[aC (bQ hc (n' a rfl))];exact s' c ob hc
  ·simp only[aR,Rep]
   exact⟨a,vs,rfl,.inl ⟨o,aP⟩,rs.kp (.lst ha)⟩⟩
def CG:List Bx->Option (List Dt)
 |[]=>some []
 |.z d::r=>(CG r).bind fun ds=>some (d::ds)
 |_=>none
theorem yr {K:PySem.W.Frag} {H:Hp}:∀ {bs:List Bx} {vs:List V} {ds:List Dt},pG K H bs vs->CG bs=some ds->aF K H ds vs
 |_,_,_,.nil,e=>by cases e;exact aF.nil
 |b::bs,_,_,.cons h t,e=>by
  cases b with
  |z d=>
   simp only[CG] at e
   obtain⟨ds',e1,e2⟩:=bind_some e
   cases e2
   exact aF.cons h (yr t e1)
  |_=>cases e
theorem yu:∀ {bs:List Bx} {ds:List Dt},CG bs=some ds->ds.length=bs.length
 |[],_,e=>by cases e;rfl
 |.z d::r,_,e=>by
  simp only[CG] at e
  obtain⟨ds',e1,e2⟩:=bind_some e
  cases e2
  simp[yu e1]
 |.l _::_,_,e=>by cases e
 |.o _::_,_,e=>by cases e
 |.n _::_,_,e=>by cases e
 |.m _ _::_,_,e=>by cases e
def tZ (bs:List Bx):Option Bx:=if bs.length<=1000 then (CG bs).bind fun ds=>some (.z (.tup ds)) else none
def p8 (bs:List Bx):Option Bx:=if bs.length<=1000 then (CG bs).bind fun ds=>some (.o ds) else none
theorem bJ {H:Hp} {p:Addr} {o:HO} (h:H p=none):Same H (upd H p o):=fun b u e=>by rw[aC (bQ e h)];exact e
theorem VN {n:Nat} (h:n<=1000):n<=sizeLine:=zv h (by decide)
theorem oA {x1} (h:RV X es fs):QV X (.Tuple es x1 pos) (dY tZ fs):=⟨have h:=h.run;Cw (Xb h) fun σ H Q q=>by
 obtain⟨H0,ρ,c,E,e,q⟩:=q
 obtain⟨bs,ebs,e⟩:=bind_some e
 refine⟨H0,ρ,bs,E,ebs,fun vs H1 s1 r1=>?_⟩
 unfold tZ at e
 split at e
 ·rename_i hl
  obtain⟨ds,e1,e⟩:=bind_some e
  cases e
  have r2:=yr r1 e1
  refine⟨VN (by rw[r2.length,yu e1];exact hl),fun p hp=>q _ _ (s1.trans (bJ hp)) trivial ?_⟩
  simp only[aR,Rep]
  exact⟨p,vs,rfl,.inl (.inl aP),r2.kp (.of (bJ hp))⟩
 ·cases e⟩
theorem lu (h:RV X es fs):QV X (.List es pos) (dY p8 fs):=⟨have h:=h.run;Cw (Oe h) fun σ H Q q=>by
 obtain⟨H0,ρ,c,E,e,q⟩:=q
 obtain⟨bs,ebs,e⟩:=bind_some e
 refine⟨H0,ρ,bs,E,ebs,fun vs H1 s1 r1=>?_⟩
 unfold p8 at e
 split at e
 ·rename_i hl
  obtain⟨ds,e1,e⟩:=bind_some e
  cases e
  have r2:=yr r1 e1
  refine⟨VN (by rw[r2.length,yu e1];exact hl),fun p hp=>q _ _ (s1.trans (bJ hp)) (fun a ea=>by cases ea;exact s1.free hp) ?_⟩
  exact⟨p,vs,rfl,aP,r2.kp (.of (bJ hp))⟩
 ·cases e⟩
theorem bB {x:Str} {id:String} {g:List Bx->Option Bx} {p:Pos} (hc:pH X (.builtin id) g) (hg:Gl X x) (hm:X.mg x=none) (hv:bootBuiltins x=some (.builtin id)) (ha:RV X (e::es) fs) (hn:x ≠ "__name__" := by decide) (hdb:(x==("__debug__" : Str))=false:=by decide) (he:starEach (e::es) X.env=(false,eval e X.env)::starEach es X.env:=by rfl) (hpl:(backTo pos (starEach es X.env)).any (·.1)=false:=by rfl):QV X (.Call (.Name x p) (e::es) [] pos) (dY g fs):=⟨have ha:=ha.run;Cw (pU hc hg hm hv ha hn hdb he hpl) convs⟩
theorem lO {x:Str} {T:String} {g:List Bx->Option Bx} {p:Pos} (hc:pH X (.type T) g) (hg:Gl X x) (hm:X.mg x=none) (hv:bootBuiltins x=some (.type T)) (ha:RV X (e::es) fs) (hn:x ≠ "__name__" := by decide) (hdb:(x==("__debug__" : Str))=false:=by decide) (he:starEach (e::es) X.env=(false,eval e X.env)::starEach es X.env:=by rfl) (hpl:(backTo pos (starEach es X.env)).any (·.1)=false:=by rfl):QV X (.Call (.Name x p) (e::es) [] pos) (dY g fs):=⟨have ha:=ha.run;Cw (LC hc hg hm hv ha hn hdb he hpl) convs⟩
end
inductive Out where
 |nx (ρ:Ev)|rt (b:Bx)|bk (ρ:Ev)|ct (ρ:Ev)
def O6 (K:PySem.W.Frag) (H0:Hp) (D:Ends):Out->Prop
 |.nx ρ=>∀ σ H,aQ K H0 H σ ρ->D.nx σ H
 |.rt b=>∀ v H,Same H0 H->Nw H0 b v->aR K H b v->D.rt v H
 |.bk ρ=>∀ σ H,aQ K H0 H σ ρ->D.bk σ H
 |.ct ρ=>∀ σ H,aQ K H0 H σ ρ->D.ct σ H
def tG (K:PySem.W.Frag) (g:Ev->Option Out):TS:=fun D σ H=>∃ H0 ρ r,aQ K H0 H σ ρ/\g ρ=some r/\O6 K H0 D r
def PG1 (X:Cx) (st:Stmt) (g:Ev->Option Out):Prop:=PS X st (tG X.K g)
structure Ml (X:Cx) (st:Stmt) (g:Ev->Option Out):Prop where
 run:PG1 X st g
def Ln (X:Cx) (st:List Stmt) (g:Ev->Option Out):Prop:=Hw X st (tG X.K g)
structure NQ (X:Cx) (st:List Stmt) (g:Ev->Option Out):Prop where
 run:Ln X st g
def aG (g1 g2:Ev->Option Out):Ev->Option Out:=fun ρ=>(g1 ρ).bind fun r=>match r with
 |.nx ρ'=>g2 ρ'
 |r=>some r
section
variable {X:Cx} {a b c e:Expr} {es:List Expr} {fa fb fc f:Ev->Option Bx} {fs:Ev->Option (List Bx)} {pos:Pos} {st:Stmt} {rest:List Stmt} {g g1 g2:Ev->Option Out}
theorem aO  : NQ X [] (fun ρ=>some (.nx ρ)):=⟨Xp J3 fun D σ H h=>by
 obtain⟨H0,ρ,r,E,e,q⟩:=h
 cases e
 exact q σ H E⟩
theorem aq (h1:Ml X st g1) (h2:NQ X rest g2):NQ X (st::rest) (aG g1 g2):=⟨have h1:=h1.run;have h2:=h2.run;Xp (yd h1 h2) fun D σ H h=>by
 obtain⟨H0,ρ,r,E,e,q⟩:=h
 obtain⟨r1,e1,e⟩:=bind_some e
 refine⟨H0,ρ,r1,E,e1,?_⟩
 cases r1 with
 |nx ρ'=>exact fun σ' H' E'=>⟨H0,ρ',r,E',e,q⟩
 |rt b=>cases e;exact q
 |bk ρ'=>cases e;exact q
 |ct ρ'=>cases e;exact q⟩
def O7:Bx->Option Out
 |.l _=>none
 |.n _=>none
 |b=>some (.rt b)
theorem d9 (h:QV X e f):Ml X (.Return (some e) pos) (fun ρ=>(f ρ).bind O7):=⟨have h:=h.run;Ox (N8 h) fun D σ H h=>by
 obtain⟨H0,ρ,r,E,e,q⟩:=h
 obtain⟨b,eb,e⟩:=bind_some e
 refine⟨H0,ρ,b,E,eb,fun v H1 s1 n1 r1=>?_⟩
 cases b with
 |l ds=>cases e
 |z d=>cases e;exact q v H1 (E.base.trans s1) trivial r1
 |o ds=>cases e;exact q v H1 (E.base.trans s1) (n1.old E.base) r1
 |n ds=>cases e
 |m ds _=>cases e;exact q v H1 (E.base.trans s1) (n1.old E.base) r1⟩
def Ab (i:Nat) (ρ:Ev):Option Out:=match ρ[i]? with
 |some (some b)=>O7 b
 |_=>none
theorem CJ (i:Nat) {x:Str} {p:Pos} (hN:X.N[i]?=some x:=by rfl) (hv:Hv X.env.scope x:=by first|exact QP rfl|exact qi (QP rfl)|exact qi (qi rfl)) (hd:(x==("__debug__" : Str))=false:=by decide) (hcd:(x==("__classdict__" : Str))=false:=by decide):Ml X (.Return (some (.Name x p)) pos) (Ab i):=⟨Ox (N8 (mZ hN hv hd hcd)) fun D σ H h=>by
 obtain⟨H0,ρ,r,E,e,q⟩:=h
 unfold Ab at e
 split at e
 ·rename_i b hb
  obtain⟨v,e1,r1⟩:=E.val i b hb
  refine⟨v,e1,?_⟩
  cases b with
  |l ds=>cases e
  |z d=>cases e;exact q v H E.base trivial r1
  |o ds=>cases e;exact q v H E.base (fun a ea=>E.new i _ a hb rfl (by rw[e1,ea])) r1
  |n ds=>cases e
  |m ds _=>cases e;exact q v H E.base (fun a ea=>E.new i _ a hb rfl (by rw[e1,ea])) r1
 ·cases e⟩
def Bg (p:Ev->Option Bool) (g1 g2:Ev->Option Out):Ev->Option Out:=fun ρ=>(p ρ).bind fun k=>if k=true then g1 ρ else g2 ρ
theorem mH {p:Ev->Option Bool} {u v:List Stmt} (hc:QB X c p) (ha:NQ X u g1) (hb:NQ X v g2):Ml X (.If c u v pos) (Bg p g1 g2):=⟨have hc:=hc.run;have ha:=ha.run;have hb:=hb.run;Ox (Vx hc ha hb) fun D σ H h=>by
 obtain⟨H0,ρ,r,E,e,q⟩:=h
 obtain⟨k,ek,e⟩:=bind_some e
 refine⟨H0,ρ,k,E,ek,fun H1 s1=>?_⟩
 cases k with
 |true=>rw[zo rfl] at e ⊢;exact⟨H0,ρ,r,E.grow s1,e,q⟩
 |false=>rw[zS zC] at e ⊢;exact⟨H0,ρ,r,E.grow s1,e,q⟩⟩
theorem getset {α:Type} {l:List α} {i j:Nat} {x y:α} (h:(l.set i x)[j]?=some y):(j=i/\y=x/\i < l.length)\/(j≠i/\l[j]?=some y):=by
 rw[kU] at h
 by_cases e:i=j
 ·subst e
  rw[zo rfl] at h
  split at h
  ·cases h;exact .inl ⟨rfl,rfl,by assumption⟩
  ·cases h
 ·rw[zS e] at h
  exact .inr ⟨fun z=>e z.symm,h⟩
theorem vN {α:Type} {l:List α} {i:Nat} (x:α) (h:i < l.length):(l.set i x)[i]?=some x:=by
 rw[kU,zo rfl,zo h]
theorem nJ {α:Type} {l:List α} {i j:Nat} (x:α) (h:j≠i):(l.set i x)[j]?=l[j]?:=by
 rw[kU,zS (QR h)]
theorem aQ.set {K:PySem.W.Frag} {H0 H H1:Hp} {σ:L2.St} {ρ:Ev} {i:Nat} {b:Bx} {v:V} (E:aQ K H0 H σ ρ) (s:Same H H1) (r:aR K H1 b v) (hl:pZ b=true\/loose b=false) (n:Nw H b v):aQ K H0 H1 (σ.set i (some v)) (ρ.set i (some b)):=by
 have E1:=E.grow s
 have apart:∀ (j:Nat) (b':Bx) (a:Addr),ρ[j]?=some (some b')->loose b'=true->σ[j]?=some (some (.ref a))->H a≠none:=fun j b' a e1 e2 e3 z=>by
  obtain⟨v',e4,r'⟩:=E.val j b' e1
  rw[e3] at e4;cases e4
  cases b' with
  |z d=>cases e2
  |l ds=>
   obtain⟨a',vs,e5,q,_⟩:=r'
   cases e5
   rcases q with q|⟨o,q⟩<;>(rw[z] at q;cases q)
  |o ds=>
   obtain⟨a',vs,e5,q,_⟩:=r'
   cases e5
   rw[z] at q;cases q
  |n ds=>
   obtain⟨a',vs,e5,q,_⟩:=r'
   cases e5
   rcases q with q|⟨o,q⟩<;>(rw[z] at q;cases q)
  |m ds _=>
   obtain⟨a',vs,e5,q,_⟩:=r'
   cases e5
   rw[z] at q;cases q
 have nw:pZ b=true->∀ a,v=.ref a->H a=none:=fun ho=>by
  cases b with
  |o ds=>exact n
  |m ds _=>exact n
  |_=>cases ho
 refine⟨by rw[jb,jb];exact E.len,fun j b' e=>?_,fun j k c a b' e1 ec e2 e3 e4 e5=>?_,E1.base,fun j c a e1 ec e2=>?_⟩
 ·rcases getset e with⟨rfl,e',hi⟩|⟨hne,e'⟩
  ·cases e'
   exact⟨v,vN _ (by rw[E.len];exact hi),r⟩
  ·rw[nJ _ hne]
   exact E1.val j b' e'
 ·rcases getset e1 with⟨rfl,e',hi⟩|⟨hne,e'⟩
  ·cases e'
   rw[vN _ (by rw[E.len];exact hi)] at e2
   cases e2
   rcases getset e3 with⟨rfl,e3',_⟩|⟨Tn,e3'⟩
   ·rfl
   ·rw[nJ _ Tn] at e5
    exact absurd (nw ec a rfl) (apart k b' a e3' e4 e5)
  ·rw[nJ _ hne] at e2
   rcases getset e3 with⟨rfl,e3',hi⟩|⟨Tn,e3'⟩
   ·cases e3'
    rw[vN _ (by rw[E.len];exact hi)] at e5
    cases e5
    have hlo:loose c=true:=by cases c<;>first|rfl|cases ec
    rcases hl with hl|hl
    ·exact absurd (nw hl a rfl) (apart j _ a e' hlo e2)
    ·rw[hl] at e4;cases e4
   ·rw[nJ _ Tn] at e5
    exact E.own j k c a b' e' ec e2 e3' e4 e5
 ·rcases getset e1 with⟨rfl,e',hi⟩|⟨hne,e'⟩
  ·cases e'
   rw[vN _ (by rw[E.len];exact hi)] at e2
   cases e2
   exact E.base.free (nw ec a rfl)
  ·rw[nJ _ hne] at e2
   exact E.new j c a e' ec e2
def O8 (ρ:Ev) (i:Nat):Bx->Option Ev
 |.l _=>none
 |.n _=>none
 |b=>some (ρ.set i (some b))
theorem Tp {K:PySem.W.Frag} {H0 H H1:Hp} {σ:L2.St} {ρ ρ':Ev} {i:Nat} {b:Bx} {v:V} (E:aQ K H0 H σ ρ) (s:Same H H1) (r:aR K H1 b v) (n:Nw H b v) (e:O8 ρ i b=some ρ'):aQ K H0 H1 (σ.set i (some v)) ρ':=by
 cases b with
 |l ds=>cases e
 |z d=>cases e;exact E.set s r (.inr rfl) n
 |o d=>cases e;exact E.set s r (.inl rfl) n
 |n ds=>cases e
 |m d _=>cases e;exact E.set s r (.inl rfl) n
theorem bH (i:Nat) {x:Str} {p:Pos} (hN:X.N.Nodup) (he:QV X e f) (hi:X.N[i]?=some x:=by rfl) (hx:Loc X.env.scope x:=by first|exact QP rfl|exact qi rfl) (hs:swapsWith e (some (.Name x p)) pos.line X.env=pure false:=by rfl) (hf:X.fn x=true\/X.env.scope.names.lookup x=some .local:=by first|exact .inl rfl|exact .inr rfl):Ml X (.Assign [.Name x p] e pos) (fun ρ=>(f ρ).bind fun b=>(O8 ρ i b).bind fun ρ'=>some (.nx ρ')):=⟨have he:=he.run;Ox (Hx hN hi hx he hs hf) fun D σ H h=>by
 obtain⟨H0,ρ,r,E,e,q⟩:=h
 obtain⟨b,eb,e⟩:=bind_some e
 obtain⟨ρ',eρ,e⟩:=bind_some e
 cases e
 exact⟨H0,ρ,b,E,eb,fun v H1 s1 n1 r1=>q _ _ (Tp E s1 r1 n1 eρ)⟩⟩
def Lo (σ:L2.St) (ρ:Ev) (σ':L2.St) (ρ':Ev):Prop:=∀ (j:Nat) b,loose b=true->ρ'[j]?=some (some b)->ρ[j]?=some (some b)/\σ'[j]?=σ[j]?
theorem Lo.refl {σ:L2.St} {ρ:Ev}:Lo σ ρ σ ρ:=fun _ _ _ e=>⟨e,rfl⟩
theorem Lo.trans {σ σ1 σ2:L2.St} {ρ ρ1 ρ2:Ev} (a:Lo σ ρ σ1 ρ1) (b:Lo σ1 ρ1 σ2 ρ2):Lo σ ρ σ2 ρ2:=fun j c l e=>by
 obtain⟨e1,e2⟩:=b j c l e
 obtain⟨e3,e4⟩:=a j c l e1
 exact⟨e3,e2.trans e4⟩
theorem Lo.set {σ:L2.St} {ρ:Ev} (i:Nat) (v:V) (d:Dt):Lo σ ρ (σ.set i (some v)) (ρ.set i (some (.z d))):=fun j b l e=>by
 rcases getset e with⟨rfl,e',_⟩|⟨hne,e'⟩
 ·cases e';cases l
 ·exact⟨e',nJ _ hne⟩
def tgF (K:PySem.W.Frag) (g:Dt->Ev->Option Ev):TG:=fun v σ H Q=>∃ H0 ρ d ρ',aQ K H0 H σ ρ/\Rep K H d v/\g d ρ=some ρ'/\∀ σ',aQ K H0 H σ' ρ'->Lo σ ρ σ' ρ'->Q σ' H
def PTg (X:Cx) (t:Expr) (g:Dt->Ev->Option Ev):Prop:=PG X t (tgF X.K g)
structure RW (X:Cx) (t:Expr) (g:Dt->Ev->Option Ev):Prop where
 run:PTg X t g
theorem bf (i:Nat) {x:Str} (hN:X.N.Nodup) (hi:X.N[i]?=some x:=by rfl) (hx:Loc X.env.scope x:=by first|exact QP rfl|exact qi rfl) (hf:X.fn x=true\/X.env.scope.names.lookup x=some .local:=by first|exact .inl rfl|exact .inr rfl):RW X (.Name x pos) (fun d ρ=>some (ρ.set i (some (.z d)))):=⟨fun pins s σ H v u Q I r h=>by
 obtain⟨H0,ρ,d,ρ',E,rd,e,q⟩:=h
 cases e
 exact Cj hN hi hx hf pins s σ H v u Q I r (q _ (E.set (b:=.z d) (Same.refl H) rd (.inr rfl) trivial) (Lo.set i v d))⟩
def acp (K:PySem.W.Frag) (g:List Dt->Ev->Option Ev):Vy:=fun vs σ H Q=>∃ H0 ρ ds ρ',aQ K H0 H σ ρ/\aF K H ds vs/\g ds ρ=some ρ'/\∀ σ',aQ K H0 H σ' ρ'->Lo σ ρ σ' ρ'->Q σ' H
def acq (X:Cx) (t:List Expr) (g:List Dt->Ev->Option Ev):Prop:=L2.Ln X t (acp X.K g)
structure Tq (X:Cx) (t:List Expr) (g:List Dt->Ev->Option Ev):Prop where
 run:acq X t g
def O9:List Dt->Ev->Option Ev
 |[],ρ=>some ρ
 |_,_=>none
def vO (g:Dt->Ev->Option Ev) (gs:List Dt->Ev->Option Ev):List Dt->Ev->Option Ev
 |d::ds,ρ=>(g d ρ).bind (gs ds)
 |_,_=>none
theorem Tr  : Tq X [] O9:=⟨fun pins s σ H vs us Q I r h=>by
 obtain⟨H0,ρ,ds,ρ',E,rd,e,q⟩:=h
 cases ds with
 |nil=>cases e;unfold aF at rd;exact R8 pins s σ H vs us Q I r ⟨rd,q _ E Lo.refl⟩
 |cons d ds=>cases e⟩
theorem Fg {t:Expr} {ts:List Expr} {gt:Dt->Ev->Option Ev} {gs:List Dt->Ev->Option Ev} (h1:RW X t gt) (h2:Tq X ts gs) (hs:(assignEach (t::ts) X.env).map (·.2)=assign t X.env::(assignEach ts X.env).map (·.2):=by rfl):Tq X (t::ts) (vO gt gs):=⟨have h1:=h1.run;have h2:=h2.run;fun pins s σ H vs us Q I r h=>by
 obtain⟨H0,ρ,ds,ρ',E,rd,e,q⟩:=h
 cases ds with
 |nil=>cases e
 |cons d ds=>
  unfold aF at rd
  obtain⟨v,vr,rfl,r1,r2⟩:=rd
  simp only[vO] at e
  obtain⟨ρ1,e1,e⟩:=bind_some e
  exact Oa h1 h2 hs pins s σ H _ us Q I r ⟨v,vr,rfl,H0,ρ,d,ρ1,E,r1,e1,fun σ1 E1 L1=>⟨H0,ρ1,ds,ρ',E1,r2,e,fun σ2 E2 L2=>q σ2 E2 (L1.trans L2)⟩⟩⟩
def Fi (n:Nat) (gs:List Dt->Ev->Option Ev):Dt->Ev->Option Ev
 |.tup ds,ρ=>if ds.length=n then gs ds ρ else none
 |_,_=>none
theorem Xv {ts:List Expr} {k n:Nat} {gs:List Dt->Ev->Option Ev} (hc:X.calm=true) (h:Tq X ts gs) (hn:(assignEach ts X.env).length=n:=by rfl) (hst:(assignEach ts X.env).findIdx? (·.1)=none:=by rfl):RW X (.Tuple ts k pos) (Fi n gs):=⟨have h:=h.run;fun pins s σ H v u Q I r hw=>by
 obtain⟨H0,ρ,d,ρ',E,rd,e,q⟩:=hw
 cases d with
 |tup ds=>
  simp only[Fi] at e
  split at e
  ·rename_i hl
   unfold Rep at rd
   obtain⟨a,vs,rfl,hq,rs⟩:=rd
   exact WR hc h hn hst pins s σ H _ u Q I r ⟨a,vs,rfl,hq,by rw[rs.length];exact hl,H0,ρ,ds,ρ',E,rs,e,q⟩
  ·cases e
 |_=>cases e⟩
def Tt (ρ:Ev) (i:Nat):Bx->Option Out
 |.z d=>match ρ[i]? with
  |some (some (.o ds))=>if ds.length < sizeLine then some (.nx (ρ.set i (some (.o (ds++[d]))))) else none
  |_=>none
 |_=>none
theorem aQ.Xw {K:PySem.W.Frag} {H0 H:Hp} {σ:L2.St} {ρ:Ev} {i:Nat} {c0 c1:Bx} {a:Addr} {u:HO} (E:aQ K H0 H σ ρ) (h:ρ[i]?=some (some c0)) (ho:pZ c0=true) (hs:σ[i]?=some (some (.ref a))) (k:Kp H (upd H a u)) (r:aR K (upd H a u) c1 (.ref a)) :
  aQ K H0 (upd H a u) σ (ρ.set i (some c1)):=by
 have hi:i < ρ.length:=(List.getElem?_eq_some_iff.mp h).1
 have hb:H0 a=none:=E.new i c0 a h ho hs
 have lo:∀ c,pZ c=true->loose c=true:=fun c hc=>by cases c<;>first|rfl|cases hc
 refine⟨by rw[jb];exact E.len,fun j b' e=>?_,fun j k' c a' b' e1 ec e2 e3 e4 e5=>?_,fun c o e=>?_,fun j c a' e1 ec e2=>?_⟩
 ·rcases getset e with⟨rfl,e',_⟩|⟨hne,e'⟩
  ·cases e'
   exact⟨_,hs,r⟩
  ·obtain⟨v,e1,r'⟩:=E.val j b' e'
   refine⟨v,e1,?_⟩
   have away:∀ a',v=.ref a'->loose b'=true->a'≠a:=fun a' ev hl z=>by
    subst z
    exact hne (E.own i j c0 _ _ h ho hs e' hl (by rw[e1,ev])).symm
   cases b' with
   |z d=>exact Rep.kp k r'
   |l ds'=>
    obtain⟨a',vs',rfl,q,rr⟩:=r'
    refine⟨a',vs',rfl,?_,rr.kp k⟩
    have hn:=away a' rfl rfl
    rcases q with q|⟨o,q⟩
    ·exact .inl (by rw[aC hn];exact q)
    ·exact .inr ⟨o,by rw[aC hn];exact q⟩
   |o ds'=>
    obtain⟨a',vs',rfl,q,rr⟩:=r'
    have hn:=away a' rfl rfl
    exact⟨a',vs',rfl,by rw[aC hn];exact q,rr.kp k⟩
   |n ds'=>
    obtain⟨a',vs',rfl,q,rr⟩:=r'
    refine⟨a',vs',rfl,?_,rr.kp k⟩
    have hn:=away a' rfl rfl
    rcases q with q|⟨o,q⟩
    ·exact .inl (by rw[aC hn];exact q)
    ·exact .inr ⟨o,by rw[aC hn];exact q⟩
   |m ds'=>
    obtain⟨a',vs',rfl,q,rr⟩:=r'
    have hn:=away a' rfl rfl
    exact⟨a',vs',rfl,by rw[aC hn];exact q,rr.1.kp k,rr.2⟩
 ·have back:∀ (m:Nat) (b:Bx),(ρ.set i (some c1))[m]?=some (some b)->loose b=true->∃ b0,ρ[m]?=some (some b0)/\loose b0=true/\(pZ b=true->pZ b0=true):=fun m b e l=>by
   rcases getset e with⟨rfl,e',_⟩|⟨hne,e'⟩
   ·exact⟨_,h,lo _ ho,fun _=>ho⟩
   ·exact⟨b,e',l,fun z=>z⟩
  obtain⟨b0,q1,q2,q3⟩:=back j _ e1 (lo _ ec)
  obtain⟨b1,q4,q5,_⟩:=back k' _ e3 e4
  exact E.own j k' b0 a' b1 q1 (q3 ec) e2 q4 q5 e5
 ·rw[aC (bQ e hb)];exact E.base c o e
 ·rcases getset e1 with⟨rfl,e',_⟩|⟨hne,e'⟩
  ·exact E.new _ c0 a' h ho e2
  ·exact E.new j c a' e' ec e2
theorem aQ.HY {K:PySem.W.Frag} {H0 H:Hp} {σ:L2.St} {ρ:Ev} {i:Nat} {ds es:List Dt} {a:Addr} {vs us:List V} (E:aQ K H0 H σ ρ) (h:ρ[i]?=some (some (.o ds))) (hs:σ[i]?=some (some (.ref a))) (ha:H a=some (.lst vs)) (r:aF K H es us) :
  aQ K H0 (upd H a (.lst us)) σ (ρ.set i (some (.o es))):=E.Xw h rfl hs (.lst ha) ⟨a,us,rfl,aP,r.kp (.lst ha)⟩
theorem qb (i:Nat) {x:Str} {p apos cpos:Pos} (he:QV X e f) (hN:X.N[i]?=some x:=by rfl) (hv:Hv X.env.scope x:=by first|exact QP rfl|exact qi (QP rfl)|exact qi (qi rfl)) (hd:(x==("__debug__" : Str))=false:=by decide) (hcd:(x==("__classdict__" : Str))=false:=by decide) (hst:starEach [e] X.env=[(false,eval e X.env)]:=by rfl) (hbase:attributeBase (.Name x p) "append" X.env (eval (.Name x p) X.env)=eval (.Name x p) X.env:=by rfl) (hfew:((backTo cpos (starEach [e] X.env)).all (fun x=>!x.1)&&(backToKw cpos (keywordEach [] X.env)).all (fun x=>x.1.isSome)&&decide ([e].length+([]:List Keyword).length+(if ([]:List Keyword).isEmpty then 0 else 1) < 30))=true:=by rfl) (hline:(apos.endLine==cpos.line)=true:=by rfl) (hs:swapsWith (.Call (.Attribute (.Name x p) "append" apos) [e] [] cpos) none pos.line X.env=pure false:=by rfl):Ml X (.Expr (.Call (.Attribute (.Name x p) "append" apos) [e] [] cpos) pos) (fun ρ=>(f ρ).bind (Tt ρ i)):=⟨have he:=he.run;Ox (xO (Ew kn PySem.F.slot_list_append PySem.F.type_list_append vL (mZ (i:=i) hN hv hd hcd) (gO he m7 (by rw[hst]<;>rfl)) hbase hfew hline (by rw[hst]<;>rfl) rfl) hs) fun D σ H h=>by
  obtain⟨H0,ρ,r,E,e,q⟩:=h
  obtain⟨b,eb,e⟩:=bind_some e
  cases b with
  |z d=>
   simp only[Tt] at e
   split at e
   ·rename_i ds hρ
    split at e
    ·rename_i hl
     cases e
     obtain⟨v,e1,a,vs,rfl,ha,rs⟩:=E.val i _ hρ
     refine⟨_,e1,.inl ⟨rfl,vs,.inl (.inl ha)⟩,H0,ρ,_,E,eb,fun u H1 s1 n1 r1=>?_⟩
     have E1:=E.grow s1
     refine⟨a,vs,u,rfl,rfl,s1 _ _ ha,by rw[rs.length];exact hl,q _ _ ?_⟩
     exact E1.HY hρ e1 (s1 _ _ ha) ((rs.kp (.of s1)).append (aF.cons r1 aF.nil))
    ·cases e
   ·cases e
  |_=>cases e⟩
end
def Its (x:Str):It:=⟨fun i _=>i < x.cps.size,fun i H v H'=>H'=H/\∃ c,x.cps[i]?=some c/\v=.str ⟨#[c]⟩,fun i _=>x.cps.size<=i⟩
def acr (h:Heap) (it:Addr) (x:Str) (i:Nat):Prop:=∃ t,h.IsStrIter it "str_ascii_iterator" x t i\/h.IsStrIter it "str_iterator" x t i
theorem Fj {P:Program} {w:World} {K:PySem.W.Frag} {tg:Expr} (it:Addr) (x:Str):Turn P w K tg (Its x) [it] it (fun i h=>acr h it x i) where
 mem:=by simp
 obj:=fun i h st b hb=>by
  have e:b=it:=by simpa using hb
  subst e
  obtain⟨t,⟨o,e,c,d⟩|⟨o,e,c,d⟩⟩:=st
  ·exact⟨o,e,fun v z=>by rw[d] at z;cases z⟩
  ·exact⟨o,e,fun v z=>by rw[d] at z;cases z⟩
 keep:=fun i h h' st k=>by
  obtain⟨t,⟨o,e,c⟩|⟨o,e,c⟩⟩:=st
  ·exact⟨t,.inl ⟨o,k it (by simp) o e,c⟩⟩
  ·exact⟨t,.inr ⟨o,k it (by simp) o e,c⟩⟩
 item:=by
  intro X hP hw hK hc i pins s σ H E I hf st hg
  subst hP hw hK
  obtain⟨f0,f1,f2,f3,f4,f5⟩:=hf it (by simp)
  have hi:i < x.cps.size:=hg
  have hx:x.cps[i]?=some x.cps[i]:=by simp[hi]
  obtain⟨t,st|st⟩:=st
  ·refine wpAny_pyNext_ascii_item st hx fun h' st' sb=>?_
   have I1:L2.Inv X pins σ H { s with heap:=h',toks:=s.toks+1 }:=I.turned (fun b o hb e=>(sb.2 b hb).trans e) f0 f1 f3 f4 f5
   obtain⟨o,e,c,d⟩:=id st'
   exact⟨_,rfl,Ay (s:={ s with heap:=h',toks:=s.toks+1 }) e c d (by decide) ⟨.str ⟨#[x.cps[i]]⟩,H,I1,⟨_,rfl⟩,⟨rfl,_,hx,rfl⟩,⟨t,.inl st'⟩,fun b hb=>(hf b hb).1⟩⟩
  ·refine wpAny_pyNext_wide_item st hx fun h' st' sb=>?_
   have I1:L2.Inv X pins σ H { s with heap:=h',toks:=s.toks+1 }:=I.turned (fun b o hb e=>(sb.2 b hb).trans e) f0 f1 f3 f4 f5
   obtain⟨o,e,c,d⟩:=id st'
   exact⟨_,rfl,Ay (s:={ s with heap:=h',toks:=s.toks+1 }) e c d (by decide) ⟨.str ⟨#[x.cps[i]]⟩,H,I1,⟨_,rfl⟩,⟨rfl,_,hx,rfl⟩,⟨t,.inr st'⟩,fun b hb=>(hf b hb).1⟩⟩
 done:=by
  intro X hP hw hK hc i pins s σ H E I hf st hg
  subst hP hw hK
  obtain⟨f0,f1,f2,f3,f4,f5⟩:=hf it (by simp)
  have hx:x.cps[i]?=none:=by have:x.cps.size<=i:=hg;simp[this]
  obtain⟨t,st|st⟩:=st
  ·exact wpAny_pyNext_ascii_end (I.ok.hd hc) st hx fun h' eb=>⟨rfl,I.turned (t':=s.toks) (fun b o hb e=>eb b o hb e) f0 f1 f3 f4 f5⟩
  ·exact wpAny_pyNext_wide_end (I.ok.hd hc) st hx fun h' eb=>⟨rfl,I.turned (t':=s.toks) (fun b o hb e=>eb b o hb e) f0 f1 f3 f4 f5⟩
 self:=fun _ _ _ _ _ st h=>by
  obtain⟨t,st|st⟩:=st
  ·exact wpAny_pyIter_striter_ascii st h
  ·exact wpAny_pyIter_striter_wide st h
section
variable {X:Cx} {tg:Expr}
def acs (K:PySem.W.Frag) (tl:TE):TI:=fun σ H R=>tl σ H fun x H1=>(∃ a,x=.ref a/\(∃ xs,nF K H1 a xs)/\R (Itl K a) H1)\/(∃ a,x=.ref a/\(∃ xs,tO K H1 a xs)/\R (Itt K a) H1)\/∃ y,x=.str y/\R (Its y) H1
theorem Ii {l:Expr} {tl:TE} (hl:PE X l tl):PI X tg l (acs X.K tl):=by
 intro pins s σ H R I h
 refine iR (hl pins s σ H _ I h) fun v s1 ⟨x,H1,I1,r1,q1⟩=>?_
 have fp1:∀ (o:Obj) (b:Addr),b∈[s1.heap.objs.size]->oh X pins H1 b:=fun o b hb=>by
  have e:b=s1.heap.objs.size:=by simpa using hb
  subst e
  exact I1.Er (zk _) (I1.hok.fresh (zk _))
 rcases q1 with⟨a,e,⟨xs,hq⟩,q⟩|⟨a,e,⟨xs,hq⟩,q⟩|⟨y,e,q⟩
 ·subst e
  cases r1
  obtain⟨its,rv,p,hz⟩:=I1.list hq
  refine wpAny_pyIter_list p.isList ?_
  exact⟨s1.heap.objs.size,[s1.heap.objs.size],_,_,H1,rfl,I1.kept (t':=s1.toks) fun b o e=>ze _ e,Lq a _,⟨_,zr _ rfl,rfl,rfl⟩,fp1 default,q⟩
 ·subst e
  cases r1
  obtain⟨its,rv,p,hz⟩:=I1.tuple hq
  refine wpAny_pyIter_tuple (show s1.heap.IsTuple a its.toArray from p) ?_
  exact⟨s1.heap.objs.size,[s1.heap.objs.size],_,_,H1,rfl,I1.kept (t':=s1.toks) fun b o e=>ze _ e,Hy a _,⟨_,zr _ rfl,rfl,rfl⟩,fp1 default,q⟩
 ·subst e
  obtain⟨t,rfl⟩:=r1
  cases ha:y.cps.all (· < 128) with
  |true=>
   refine wpAny_pyIter_ascii ha ?_
   exact⟨s1.heap.objs.size,[s1.heap.objs.size],_,_,H1,rfl,I1.kept (t':=s1.toks) fun b o e=>ze _ e,Fj _ y,⟨t,.inl ⟨_,zr _ rfl,rfl,rfl⟩⟩,fp1 default,q⟩
  |false=>
   refine wpAny_pyIter_wide ha ?_
   exact⟨s1.heap.objs.size,[s1.heap.objs.size],_,_,H1,rfl,I1.kept (t':=s1.toks) fun b o e=>ze _ e,Fj _ y,⟨t,.inr ⟨_,zr _ rfl,rfl,rfl⟩⟩,fp1 default,q⟩
end
def Yields (K:PySem.W.Frag) (J:It) (ds:List Dt) (Hs:Hp):Prop:=∀ (i:Nat) (H:Hp),Same Hs H →
 (∀ d,ds[i]?=some d->J.go i H/\∀ x H',J.Z0 i H x H'->Same H H'/\Rep K H' d x)/\(ds.length<=i->J.stop i H)
theorem Yields.of {K:PySem.W.Frag} {J:It} {ds:List Dt} {Hs:Hp} (h:∀ (i:Nat) (H:Hp),Same Hs H →
  (∀ d,ds[i]?=some d->J.go i H/\∀ x H',J.Z0 i H x H'->H'=H/\Rep K H d x)/\(ds.length<=i->J.stop i H)):Yields K J ds Hs:=fun i H s=>
 ⟨fun d e=>⟨((h i H s).1 d e).1,fun x H' y=>by
  obtain⟨rfl,r⟩:=((h i H s).1 d e).2 x H' y
  exact⟨Same.refl _,r⟩⟩,(h i H s).2⟩
def signs (x:Str):List Dt:=x.cps.toList.map fun c=>.str ⟨#[c]⟩
theorem Yields.list {K:PySem.W.Frag} {Hs:Hp} {a:Addr} {vs:List V} {ds:List Dt} (h:nF K Hs a vs) (r:aF K Hs ds vs):Yields K (Itl K a) ds Hs:=.of fun i H s=>by
 have h':=s.seq h
 have r':=r.kp (.of s)
 refine⟨fun d e=>?_,fun e=>⟨vs,h',by rw[r.length];exact e⟩⟩
 obtain⟨v,ev,rv⟩:=r'.get e
 refine⟨⟨vs,v,h',ev⟩,fun x H' y=>?_⟩
 obtain⟨y1,y2⟩:=y
 have:=y2 vs h'
 rw[ev] at this;cases this
 exact⟨y1,rv⟩
theorem Yields.tup {K:PySem.W.Frag} {Hs:Hp} {a:Addr} {vs:List V} {ds:List Dt} (h:tO K Hs a vs) (r:aF K Hs ds vs):Yields K (Itt K a) ds Hs:=.of fun i H s=>by
 have h':=(Kp.of s).sqT h
 have r':=r.kp (.of s)
 refine⟨fun d e=>?_,fun e=>⟨vs,h',by rw[r.length];exact e⟩⟩
 obtain⟨v,ev,rv⟩:=r'.get e
 refine⟨⟨vs,v,h',ev⟩,fun x H' y=>?_⟩
 obtain⟨y1,y2⟩:=y
 have:=y2 vs h'
 rw[ev] at this;cases this
 exact⟨y1,rv⟩
theorem Yields.str {K:PySem.W.Frag} {Hs:Hp} (x:Str):Yields K (Its x) (signs x) Hs:=.of fun i H s=>by
 refine⟨fun d e=>?_,fun e=>?_⟩
 ·unfold signs at e
  rw[z4] at e
  cases h:x.cps.toList[i]? with
  |none=>rw[h] at e;cases e
  |some c=>
   rw[h] at e;cases e
   have hc:x.cps[i]?=some c:=by simpa using h
   have hi:i < x.cps.size:=by
    have:=(List.getElem?_eq_some_iff.mp h).1
    simpa using this
   refine⟨hi,fun v H' y=>?_⟩
   obtain⟨y1,c',hc',rfl⟩:=y
   rw[hc] at hc';cases hc'
   refine⟨y1,?_⟩
   unfold Rep
   exact⟨rfl,by show (1:Nat)<=sizeLine;decide⟩
 ·have:(signs x).length=x.cps.size:=by simp[signs]
  show x.cps.size<=i
  omega
def CK (lo:Int) (n:Nat):List Dt:=(List.range n).map fun k=>.int (lo+(k:Nat))
theorem Yields.rng {K:PySem.W.Frag} {Hs:Hp} (lo:Int) (n:Nat):Yields K (Itr lo n) (CK lo n) Hs:=.of fun i H s=>by
 refine⟨fun d e=>?_,fun e=>?_⟩
 ·unfold CK at e
  rw[z4] at e
  by_cases hi:i < n
  ·rw[kb hi] at e
   cases e
   refine⟨hi,fun v H' y=>?_⟩
   obtain⟨y1,y2⟩:=y
   refine⟨y1,?_⟩
   unfold Rep
   exact y2
  ·rw[ZU (by simp;omega)] at e
   cases e
 ·have:(CK lo n).length=n:=by simp[CK]
  show n<=i
  omega
def iF (K:PySem.W.Frag) (f:Ev->Option (List Dt)):TI:=fun σ H R=>∃ H0 ρ ds,aQ K H0 H σ ρ/\f ρ=some ds/\∀ J H',Same H H' →
 (∀ Hs,Same Hs H'->(∀ a,H a=none->Hs a=H' a)->(∀ a o u,H' a=some (.lq o u)->Hs a=H' a)->(∀ a vs,H' a=some (.tup vs)->Hs a=H' a)->Yields K J ds Hs)->R J H'
def PIF (X:Cx) (tg iter:Expr) (f:Ev->Option (List Dt)):Prop:=PI X tg iter (iF X.K f)
structure QIF (X:Cx) (tg iter:Expr) (f:Ev->Option (List Dt)):Prop where
 run:PIF X tg iter f
def Pa:Bx->Option (List Dt)
 |.z (.lst ds)=>some ds
 |.z (.tup ds)=>some ds
 |.z (.str x)=>some (signs x)
 |.o ds=>some ds
 |_=>none
section
variable {X:Cx} {tg e:Expr} {es:List Expr} {f:Ev->Option Bx} {fs:Ev->Option (List Bx)}
mutual
theorem Rep.part {K:PySem.W.Frag} {H Hs:Hp} (hf:∀ a o u,H a=some (.lq o u)->Hs a=H a) (ht:∀ a vs,H a=some (.tup vs)->Hs a=H a):∀ {d:Dt} {v:V},Rep K H d v->Rep K Hs d v
 |.non,_,h=>by simpa only[Rep] using h
 |.bl _,_,h=>by simpa only[Rep] using h
 |.int _,_,h=>by simpa only[Rep] using h
 |.str _,_,h=>by simpa only[Rep] using h
 |.tup ds,_,h=>by
  simp only[Rep] at h ⊢
  obtain⟨a,vs,e,q,r⟩:=h
  refine⟨a,vs,e,?_,aF.part hf ht r⟩
  rcases q with (q|⟨o,q⟩)|q
  ·exact .inl (.inl ((ht _ _ q).trans q))
  ·exact .inl (.inr ⟨o,(hf _ _ _ q).trans q⟩)
  ·exact .inr q
 |.lst ds,_,h=>by
  simp only[Rep] at h ⊢
  obtain⟨a,vs,e,q,r⟩:=h
  refine⟨a,vs,e,?_,aF.part hf ht r⟩
  rcases q with⟨o,q⟩|q
  ·exact .inl ⟨o,(hf _ _ _ q).trans q⟩
  ·exact .inr q
 |.emp,_,h=>by
  simp only[Rep] at h ⊢
  obtain⟨a,o,e,q⟩:=h
  exact⟨a,o,e,(hf _ _ _ q).trans q⟩
theorem aF.part {K:PySem.W.Frag} {H Hs:Hp} (hf:∀ a o u,H a=some (.lq o u)->Hs a=H a) (ht:∀ a vs,H a=some (.tup vs)->Hs a=H a):∀ {ds:List Dt} {vs:List V},aF K H ds vs->aF K Hs ds vs
 |[],_,h=>by simpa only[aF] using h
 |d::ds,_,h=>by
  simp only[aF] at h ⊢
  obtain⟨v,r,e,q,t⟩:=h
  exact⟨v,r,e,Rep.part hf ht q,aF.part hf ht t⟩
end
theorem uc (h:QV X e f):QIF X tg e (fun ρ=>(f ρ).bind Pa):=⟨have h:=h.run;fun pins s σ H R I q=>by
 refine Ii h pins s σ H R I ?_
 obtain⟨H0,ρ,ds,E,e,q⟩:=q
 obtain⟨b,eb,e⟩:=bind_some e
 refine⟨H0,ρ,b,E,eb,fun v H1 s1 n1 r1=>?_⟩
 cases b with
 |z d=>
  cases d with
  |tup ds'=>
   cases e
   simp only[aR,Rep] at r1
   obtain⟨a,vs,rfl,hq,rs⟩:=r1
   refine .inr (.inl ⟨a,rfl,⟨vs,hq⟩,q _ _ s1 fun Hs hs hn hf ht=>.tup ?_ (rs.part hf ht)⟩)
   rcases hq with (hq|⟨o,hq⟩)|hq
   ·exact .inl (.inl ((ht _ _ hq).trans hq))
   ·exact .inl (.inr ⟨o,(hf _ _ _ hq).trans hq⟩)
   ·exact .inr hq
  |lst ds'=>
   cases e
   simp only[aR,Rep] at r1
   obtain⟨a,vs,rfl,hq,rs⟩:=r1
   refine .inl ⟨a,rfl,⟨vs,hq.sq⟩,q _ _ s1 fun Hs hs hn hf ht=>.list ?_ (rs.part hf ht)⟩
   rcases hq with⟨o,hq⟩|hq
   ·exact .inl (.inr ⟨o,(hf _ _ _ hq).trans hq⟩)
   ·exact .inr hq
  |str x=>
   cases e
   simp only[aR,Rep] at r1
   obtain⟨rfl,_⟩:=r1
   exact .inr (.inr ⟨x,rfl,q _ _ s1 fun Hs hs hn hf ht=>.str x⟩)
  |_=>cases e
 |l ds'=>cases e
 |n ds'=>cases e
 |m ds'=>cases e
 |o ds'=>
  cases e
  obtain⟨a,vs,rfl,hq,rs⟩:=r1
  refine .inl ⟨a,rfl,⟨vs,.inl (.inl hq)⟩,q _ _ s1 fun Hs hs hn hf ht=>.list (.inl (.inl ((hn a (n1 a rfl)).trans hq))) (rs.part hf ht)⟩⟩
def Xx:List Bx->Option (List Dt)
 |[.z (.int j)]=>if -(2 ^ 62)<=j/\j < 2 ^ 62 then some (CK 0 j.toNat) else none
 |_=>none
theorem ig {p pos:Pos} (hg:Gl X "range") (hm:X.mg "range" = none) (ha:RV X [e] fs) (hs:starEach [e] X.env=[(false,eval e X.env)]:=by rfl):QIF X tg (.Call (.Name "range" p) [e] [] pos) (fun ρ=>(fs ρ).bind Xx):=⟨have ha:=ha.run;fun pins s σ H R I q=>by
 refine Lr hg hm ha hs pins s σ H R I ?_
 obtain⟨H0,ρ,ds,E,e,q⟩:=q
 obtain⟨bs,eb,e⟩:=bind_some e
 refine⟨H0,ρ,bs,E,eb,fun vs H1 s1 r1=>?_⟩
 unfold Xx at e
 split at e
 ·rename_i j
  split at e
  ·rename_i hj
   cases e
   cases r1 with
   |cons p t=>
    cases t
    simp only[aR,Rep] at p
    subst p
    exact⟨j,rfl,hj.1,hj.2,q _ _ s1 fun Hs _ _ _ _=>.rng 0 _⟩
  ·cases e
 ·cases e⟩
def ni (gt:Dt->Ev->Option Ev) (gb:Ev->Option Out):List Dt->Ev->Option Out
 |[],ρ=>some (.nx ρ)
 |d::ds,ρ=>(gt d ρ).bind fun ρ1=>(gb ρ1).bind fun r=>match r with
  |.nx ρ2=>ni gt gb ds ρ2
  |.ct ρ2=>ni gt gb ds ρ2
  |.bk ρ2=>some (.nx ρ2)
  |.rt b=>some (.rt b)
noncomputable def cM (H:Hp) (σ:L2.St) (ρ:Ev):Hp:=fun a=>@ite _ (∃ (i:Nat) (c:Bx),ρ[i]?=some (some c)/\pZ c=true/\σ[i]?=some (some (.ref a))) (Classical.propDecidable _) none (H a)
theorem lG {H:Hp} {σ:L2.St} {ρ:Ev}:Same (cM H σ ρ) H:=fun a o e=>by
 unfold cM at e
 split at e
 ·cases e
 ·exact e
theorem aQ.rebase {K:PySem.W.Frag} {H0 Hs H:Hp} {σ:L2.St} {ρ:Ev} (E:aQ K Hs H σ ρ) (s:Same H0 Hs):aQ K H0 H σ ρ:=⟨E.len,E.val,E.own,s.trans E.base,fun i c a e1 ec e2=>s.free (E.new i c a e1 ec e2)⟩
theorem aQ.sans {K:PySem.W.Frag} {H0 H:Hp} {σ:L2.St} {ρ:Ev} (E:aQ K H0 H σ ρ):aQ K (cM H σ ρ) H σ ρ:=⟨E.len,E.val,E.own,lG,fun i c a e1 ec e2=>by
 unfold cM
 rw[zo ⟨i,c,e1,ec,e2⟩]⟩
theorem aQ.sub {K:PySem.W.Frag} {H0 H:Hp} {σ:L2.St} {ρ:Ev} (E:aQ K H0 H σ ρ):Same H0 (cM H σ ρ):=fun a o e=>by
 unfold cM
 split
 ·rename_i h
  obtain⟨i,c,e1,ec,e2⟩:=h
  rw[E.new i c a e1 ec e2] at e;cases e
 ·exact E.base a o e
theorem dI {K:PySem.W.Frag} {H0 H:Hp} {σ:L2.St} {ρ:Ev} (E:aQ K H0 H σ ρ) {a:Addr} (h:∀ vs,H a≠some (.lst vs)) (h2:∀ vs,H a≠some (.dK vs)):cM H σ ρ a=H a:=by
 unfold cM
 split
 ·rename_i hh
  obtain⟨i,c,e1,ec,e2⟩:=hh
  obtain⟨v,e3,rc⟩:=E.val i _ e1
  rw[e2] at e3;cases e3
  cases c with
  |o ds=>obtain⟨a',vs,e4,q,_⟩:=rc;cases e4;exact absurd q (h vs)
  |m ds _=>obtain⟨a',vs,e4,q,_⟩:=rc;cases e4;exact absurd q (h2 vs)
  |_=>cases ec
 ·rfl
theorem O6.rebase {K:PySem.W.Frag} {H0 Hs:Hp} {D:Ends} {r:Out} (s:Same H0 Hs) (h:O6 K H0 D r):O6 K Hs D r:=by
 cases r with
 |nx ρ=>exact fun σ H E=>h σ H (E.rebase s)
 |bk ρ=>exact fun σ H E=>h σ H (E.rebase s)
 |ct ρ=>exact fun σ H E=>h σ H (E.rebase s)
 |rt b=>exact fun v H s' n r=>h v H (s.trans s') (n.old s) r
theorem nM {gt:Dt->Ev->Option Ev} {gb:Ev->Option Out} {J:It} {ds:List Dt} {H0 H1:Hp} {σ:L2.St} {ρ:Ev} {D:Ends} {r:Out} (E1:aQ X.K H0 H1 σ ρ) (Y:Yields X.K J ds (cM H1 σ ρ)) (e:ni gt gb ds ρ=some r) (q:O6 X.K H0 D r) :
  ∃ W:Nat->Nat->L2.St->Hp->Prop,(∃ m,W 0 m σ H1)/\∀ i m σ H,W i m σ H →
   (J.stop i H/\D.nx σ H)\/(J.go i H/\∃ N:L2.St->Hp->Prop,(∀ σ' H',N σ' H'->∃ m',m' < m/\W (i+1) m' σ' H')/\∀ x H',J.Z0 i H x H'->tgF X.K gt x σ H' fun σ2 H2=>tG X.K gb { D with nx:=N,ct:=N,bk:=D.nx } σ2 H2):=by
 have E2:=E1.sans
 have q2:=q.rebase E1.sub
 generalize cM H1 σ ρ=Hs at Y E2 q2
 refine⟨fun i m σ' H'=>m=ds.length - i/\i<=ds.length/\∃ ρ',aQ X.K Hs H' σ' ρ'/\ni gt gb (ds.drop i) ρ'=some r,⟨ds.length,by simp,qv _,ρ,E2,by simpa using e⟩,?_⟩
 rintro i m σ' H' ⟨rfl,hi',ρ',E',e'⟩
 obtain⟨y1,y2⟩:=Y i H' E'.base
 by_cases hlt:i < ds.length
 ·right
  have hd:ds[i]?=some ds[i]:=by simp[hlt]
  obtain⟨go,yl⟩:=y1 _ hd
  rw[kM hlt] at e'
  simp only[ni] at e'
  obtain⟨ρ1,e1,e'⟩:=bind_some e'
  obtain⟨r1,e2,e'⟩:=bind_some e'
  refine⟨go,fun σ2 H2=>∃ ρ2,aQ X.K Hs H2 σ2 ρ2/\ni gt gb (ds.drop (i+1)) ρ2=some r,fun σ2 H2 ⟨ρ2,E3,e3⟩=>⟨ds.length - (i+1),by omega,rfl,hlt,ρ2,E3,e3⟩,fun x H2 yy=>?_⟩
  obtain⟨sm,rx⟩:=yl x H2 yy
  refine⟨Hs,ρ',ds[i],ρ1,E'.grow sm,rx,e1,fun σ1 E3 _=>⟨Hs,ρ1,r1,E3,e2,?_⟩⟩
  cases r1 with
  |nx ρ2=>exact fun σ2 H3 E4=>⟨ρ2,E4,e'⟩
  |ct ρ2=>exact fun σ2 H3 E4=>⟨ρ2,E4,e'⟩
  |bk ρ2=>cases e';exact q2
  |rt b=>cases e';exact q2
 ·left
  have hge:ds.length<=i:=by omega
  refine⟨y2 hge,?_⟩
  rw[List.drop_eq_nil_of_le hge] at e'
  cases e'
  exact q2 σ' H' E'
theorem sO {iter:Expr} {body:List Stmt} {fi:Ev->Option (List Dt)} {gt:Dt->Ev->Option Ev} {gb:Ev->Option Out} {pos:Pos} (hp:PassesOwn (model X.prog X.w) X.A X.env X.xe) (hc:X.calm=true) (hi:QIF X tg iter fi) (hg:RW X tg gt) (hb:NQ X body gb) (hs:∀ x,foldedSetIterable iter X.env x=pure x:=by intro _;rfl):Ml X (.For tg iter body [] pos) (fun ρ=>(fi ρ).bind fun ds=>ni gt gb ds ρ):=⟨have hi:=hi.run;have hg:=hg.run;have hb:=hb.run;Ox (HB hp hc hi hg hb hs) fun D σ H h=>by
 obtain⟨H0,ρ,r,E,e,q⟩:=h
 obtain⟨ds,ed,e⟩:=bind_some e
 refine⟨H0,ρ,ds,E,ed,fun J H1 s1 y=>?_⟩
 have E1:=E.grow s1
 refine nM E1 ?_ e q
 refine y _ lG (fun a ha=>?_) (fun a o u ha=>dI E1 (fun vs z=>by rw[ha] at z;cases z) (fun vs z=>by rw[ha] at z;cases z)) fun a vs ha=>dI E1 (fun vs z=>by rw[ha] at z;cases z) (fun vs z=>by rw[ha] at z;cases z)
 unfold cM
 split
 ·rename_i hh
  obtain⟨i,c,e1,ec,e2⟩:=hh
  obtain⟨v,e3,rc⟩:=E.val i _ e1
  rw[e2] at e3;cases e3
  cases c with
  |o ds=>obtain⟨a',vs,e4,q,_⟩:=rc;cases e4;rw[ha] at q;cases q
  |m ds _=>obtain⟨a',vs,e4,q,_⟩:=rc;cases e4;rw[ha] at q;cases q
  |_=>cases ec
 ·rfl⟩
theorem aQ.lend {K:PySem.W.Frag} {H0 H:Hp} {σ:L2.St} {ρ:Ev} {i:Nat} {ds:List Dt} (E:aQ K H0 H σ ρ) (h:ρ[i]?=some (some (.o ds))):aQ K H0 H σ (ρ.set i (some (.l ds))):=by
 have back:∀ (j:Nat) (b:Bx),(ρ.set i (some (.l ds)))[j]?=some (some b)->(j=i/\b=.l ds)\/(j≠i/\ρ[j]?=some (some b)):=fun j b e=>by
  rcases getset e with⟨rfl,e',_⟩|⟨hne,e'⟩
  ·cases e';exact .inl ⟨rfl,rfl⟩
  ·exact .inr ⟨hne,e'⟩
 refine⟨by rw[jb];exact E.len,fun j b e=>?_,fun j k c a b e1 ec e2 e3 e4 e5=>?_,E.base,fun j c a e1 ec e2=>?_⟩
 ·rcases back j b e with⟨rfl,rfl⟩|⟨hne,e'⟩
  ·obtain⟨v,e1,a,vs,e2,q,r⟩:=E.val _ _ h
   exact⟨v,e1,a,vs,e2,.inl q,r⟩
  ·exact E.val j b e'
 ·rcases back j _ e1 with⟨rfl,z⟩|⟨hne,e'⟩
  ·subst z;cases ec
  ·rcases back k _ e3 with⟨rfl,z⟩|⟨Tn,e3'⟩
   ·exact E.own j _ c a _ e' ec e2 h rfl e5
   ·exact E.own j k c a b e' ec e2 e3' e4 e5
 ·rcases back j _ e1 with⟨rfl,z⟩|⟨hne,e'⟩
  ·subst z;cases ec
  ·exact E.new j c a e' ec e2
def nq (i:Nat) (gt:Dt->Ev->Option Ev) (gb:Ev->Option Out) (ρ:Ev):Option Out:=match ρ[i]? with
 |some (some (.o ds))=>ni gt gb ds (ρ.set i (some (.l ds)))
 |some (some (.l ds))=>ni gt gb ds ρ
 |some (some b)=>(Pa b).bind fun ds=>ni gt gb ds ρ
 |_=>none
theorem Pb {H0 H:Hp} {σ:L2.St} {ρ:Ev} {i:Nat} {ds:List Dt} (E:aQ X.K H0 H σ ρ) (h:ρ[i]?=some (some (.l ds))):∃ a vs,σ[i]?=some (some (.ref a))/\nF X.K H a vs/\Yields X.K (Itl X.K a) ds (cM H σ ρ):=by
 obtain⟨v,e1,a,vs,rfl,q,r⟩:=E.val i _ h
 have hk:cM H σ ρ a=H a:=by
  unfold cM
  split
  ·rename_i hh
   obtain⟨j,c,e2,ec,e3⟩:=hh
   have:=E.own j i c a _ e2 ec e3 h rfl e1
   subst this
   rw[h] at e2;cases e2;cases ec
  ·rfl
 refine⟨a,vs,e1,.inl q,.list (.inl ?_) (r.part (fun b o u hb=>dI E (fun vs z=>by rw[hb] at z;cases z) (fun vs z=>by rw[hb] at z;cases z)) fun b ws hb=>dI E (fun vs z=>by rw[hb] at z;cases z) (fun vs z=>by rw[hb] at z;cases z))⟩
 rcases q with q|⟨o,q⟩
 ·exact .inl (hk.trans q)
 ·exact .inr ⟨o,hk.trans q⟩
theorem qO (i:Nat) {x:Str} {p:Pos} {body:List Stmt} {gt:Dt->Ev->Option Ev} {gb:Ev->Option Out} {pos:Pos} (hp:PassesOwn (model X.prog X.w) X.A X.env X.xe) (hc:X.calm=true) (hg:RW X tg gt) (hb:NQ X body gb) (hN:X.N[i]?=some x:=by rfl) (hv:Hv X.env.scope x:=by first|exact QP rfl|exact qi (QP rfl)|exact qi (qi rfl)) (hd:(x==("__debug__" : Str))=false:=by decide) (hcd:(x==("__classdict__" : Str))=false:=by decide) (hs:∀ y,foldedSetIterable (.Name x p) X.env y=pure y:=by intro _;rfl):Ml X (.For tg (.Name x p) body [] pos) (nq i gt gb):=⟨have hg:=hg.run;have hb:=hb.run;Ox (HB hp hc (Ii (mZ (i:=i) hN hv hd hcd)) hg hb hs) fun D σ H h=>by
 obtain⟨H0,ρ,r,E,e,q⟩:=h
 unfold nq at e
 split at e
 ·rename_i ds hρ
  have E1:=E.lend hρ
  have hi:i < ρ.length:=(List.getElem?_eq_some_iff.mp hρ).1
  obtain⟨a,vs,e1,sq,Y⟩:=Pb E1 (vN _ hi)
  exact⟨_,e1,.inl ⟨a,rfl,⟨vs,sq⟩,nM E1 Y e q⟩⟩
 ·rename_i ds hρ
  obtain⟨a,vs,e1,sq,Y⟩:=Pb E hρ
  exact⟨_,e1,.inl ⟨a,rfl,⟨vs,sq⟩,nM E Y e q⟩⟩
 ·rename_i b n1 n2 hρ
  obtain⟨ds,ed,e⟩:=bind_some e
  obtain⟨v,e1,rb⟩:=E.val i _ hρ
  have hf:∀ b o u,H b=some (.lq o u)->cM H σ ρ b=H b:=fun b o u hb=>dI E (fun vs z=>by rw[hb] at z;cases z) (fun vs z=>by rw[hb] at z;cases z)
  have ht:∀ b ws,H b=some (.tup ws)->cM H σ ρ b=H b:=fun b ws hb=>dI E (fun vs z=>by rw[hb] at z;cases z) (fun vs z=>by rw[hb] at z;cases z)
  cases b with
  |z d=>
   cases d with
   |tup ds'=>
    cases ed
    simp only[aR,Rep] at rb
    obtain⟨a,vs,rfl,hq,rs⟩:=rb
    refine⟨_,e1,.inr (.inl ⟨a,rfl,⟨vs,hq⟩,nM E (.tup ?_ (rs.part hf ht)) e q⟩)⟩
    rcases hq with (hq|⟨o,hq⟩)|hq
    ·exact .inl (.inl ((ht _ _ hq).trans hq))
    ·exact .inl (.inr ⟨o,(hf _ _ _ hq).trans hq⟩)
    ·exact .inr hq
   |lst ds'=>
    cases ed
    simp only[aR,Rep] at rb
    obtain⟨a,vs,rfl,hq,rs⟩:=rb
    refine⟨_,e1,.inl ⟨a,rfl,⟨vs,hq.sq⟩,nM E (.list ?_ (rs.part hf ht)) e q⟩⟩
    rcases hq with⟨o,hq⟩|hq
    ·exact .inl (.inr ⟨o,(hf _ _ _ hq).trans hq⟩)
    ·exact .inr hq
   |str x=>
    cases ed
    simp only[aR,Rep] at rb
    obtain⟨rfl,_⟩:=rb
    exact⟨_,e1,.inr (.inr ⟨x,rfl,nM E (.str x) e q⟩)⟩
   |_=>cases ed
  |l ds'=>cases ed
  |o ds'=>exact absurd rfl (n1 ds')
  |n ds'=>cases ed
  |m ds'=>cases ed
 ·cases e⟩
end
def SubL (cells:List (Str×Addr)):List (Str×Addr)->Prop
 |[]=>True
 |(n,c)::r=>cells.lookup n=some c/\SubL cells r
theorem SubL.get {cells:List (Str×Addr)}:∀ {cl:List (Str×Addr)},SubL cells cl->∀ {x:Str} {c:Addr},cl.lookup x=some c->cells.lookup x=some c
 |[],_,_,_,e=>by cases e
 |(n,d)::r,h,x,c,e=>by
  rw[List.lookup_cons] at e
  by_cases hx:x==n
  ·simp only[hx] at e
   cases e
   have:x=n:=by simpa using hx
   rw[this];exact h.1
  ·have hx:(x==n)=false:=by simpa using hx
   simp only[hx] at e
   exact SubL.get h.2 e
structure Cap (X:Cx) (scope:Scope) (cl:List (Str×Addr)) (x:Str) (i:Nat):Prop where
 n:X.N[i]?=some x
 k:X.env.kindOf x=some .cell\/X.env.kindOf x=some .free
 k':(relabel scope X.env).names.lookup x=some .cell\/(relabel scope X.env).names.lookup x=some .free
 c:∃ c,cl.lookup x=some c
def Ad (X:Cx) (scope:Scope) (cl:List (Str×Addr)):List Str->List Nat->Prop
 |[],[]=>True
 |x::xs,i::is=>Cap X scope cl x i/\Ad X scope cl xs is
 |_,_=>False
theorem Ad.get {X:Cx} {scope:Scope} {cl:List (Str×Addr)}:∀ {xs:List Str} {is:List Nat},Ad X scope cl xs is->xs.length=is.length/\∀ (j:Nat) (x:Str),xs[j]?=some x->∃ i,is[j]?=some i/\Cap X scope cl x i
 |[],[],_=>⟨rfl,fun j x e=>by simp at e⟩
 |x::xs,i::is,h=>by
  obtain⟨h1,h2⟩:=h
  obtain⟨l,g⟩:=Ad.get h2
  refine⟨by simp[l],fun j y e=>?_⟩
  cases j with
  |zero=>simp at e;subst e;exact⟨i,rfl,h1⟩
  |succ j=>obtain⟨k,e1,e2⟩:=g j y (by simpa using e);exact⟨k,by simpa using e1,e2⟩
 |[],_::_,h=>h.elim
 |_::_,[],h=>h.elim
def Xy (names:List (Str×NameKind)) (x:Str):Bool:=match names.lookup x with
 |some .cell=>true
 |_=>false
def vI (X:Cx) (N':List Str) (scope:Scope) (cl:List (Str×Addr)) (C:Addr) (s₀:Shared) (H₀:Hp) (fp:List Addr):Cx:=
 { X with N:=N',s₀:=s₀,H₀:=H₀,env:=compEnvC scope (cellsFrom (C+1) scope.names cl) C X.env,outer:=X.stack,ex:=fp,fn:=Xy scope.names,pn:=[],xe:=fun _ _=>False }
structure Xz (h:Heap) (cs:List (Str×Addr)):Prop where
 inj:∀ x y c,cs.lookup x=some c->cs.lookup y=some c->x=y
 cell:∀ x c,cs.lookup x=some c->∃ v,h.IsCell c v
theorem iT {α:Type} {x n:Str} {a:α} {l:List (Str×α)} (h:x≠n):((n,a)::l).lookup x=l.lookup x:=by
 rw[List.lookup_cons,beq_eq_false_iff_ne.mpr h]
theorem Pg:∀ (names:List (Str×NameKind)) (h:Heap) (acc:List (Str×Addr)),Xz h acc->Xz (pushCells h names) (cellsFrom h.objs.size names acc)
 |[],_,_,x=>x
 |(n,k)::r,h,acc,x=>by
  unfold pushCells cellsFrom
  split
  ·have hlt:∀ y c,acc.lookup y=some c->c≠h.objs.size:=fun y c e=>let ⟨_,q⟩:=x.cell y c e;zI q.lt
   have:=Pg r (h.push { cls:=.type "cell", data:=.cell none }) ((n,h.objs.size)::acc) ⟨fun y z c e1 e2=>?_,fun y c e=>?_⟩
   ·rwa [Z3] at this
   ·by_cases hy:y=n<;>by_cases hz:z=n
    ·rw[hy,hz]
    ·subst hy;rw[JI] at e1;rw[iT hz] at e2;cases e1;exact absurd rfl (hlt _ _ e2)
    ·subst hz;rw[JI] at e2;rw[iT hy] at e1;cases e2;exact absurd rfl (hlt _ _ e1)
    ·rw[iT hy] at e1;rw[iT hz] at e2;exact x.inj y z c e1 e2
   ·by_cases hy:y=n
    ·subst hy;rw[JI] at e;cases e;exact⟨none,_,zr _ rfl,rfl⟩
    ·rw[iT hy] at e
     obtain⟨v,q⟩:=x.cell y c e
     exact⟨v,q.keeps fun b o e=>ze _ e⟩
  ·exact Pg r h acc x
theorem ud:∀ (names:List (Str×NameKind)) (n:Nat) (acc:List (Str×Addr)) (x:Str) (c:Addr),(cellsFrom n names acc).lookup x=some c->acc.lookup x=some c\/n<=c
 |[],_,_,_,_,e=>.inl e
 |(m,k)::r,n,acc,x,c,e=>by
  unfold cellsFrom at e
  split at e
  ·rcases ud r _ _ x c e with h|h
   ·by_cases hx:x=m
    ·subst hx;rw[JI] at h;cases h;exact .inr (zk _)
    ·rw[iT hx] at h;exact .inl h
   ·exact .inr (by omega)
  ·exact ud r _ _ x c e
theorem CN:∀ (names:List (Str×NameKind)) (n:Nat) (acc:List (Str×Addr)) (x:Str),(x,NameKind.cell)∉names->(cellsFrom n names acc).lookup x=acc.lookup x
 |[],_,_,_,_=>rfl
 |(m,k)::r,n,acc,x,h=>by
  unfold cellsFrom
  have hr:(x,NameKind.cell)∉r:=fun z=>h (zg _ z)
  split
  ·rename_i hk
   rw[CN r _ _ x hr,iT fun z=>h (by rw[z,<-beq_iff_eq.mp hk];exact zh ..)]
  ·exact CN r _ _ x hr
theorem Ij:∀ (names:List (Str×NameKind)) (n:Nat) (acc:List (Str×Addr)) (x:Str),((x,NameKind.cell)∈names\/∃ c,acc.lookup x=some c)->∃ c,(cellsFrom n names acc).lookup x=some c
 |[],_,_,_,h=>h.elim (fun z=>by simp at z) fun z=>z
 |(m,k)::r,n,acc,x,h=>by
  unfold cellsFrom
  split
  ·refine Ij r _ _ x ?_
   by_cases hx:x=m
   ·exact .inr ⟨n,by rw[hx,JI]⟩
   ·rw[iT hx]
    exact h.imp_left fun z=>(List.mem_cons.mp z).elim (fun z=>absurd (congrArg Prod.fst z) hx) fun z=>z
  ·rename_i hk
   exact Ij r _ _ x (h.imp_left fun z=>(List.mem_cons.mp z).elim (fun z=>by cases z;exact absurd rfl hk) fun z=>z)
theorem Mp {M:Model} {A:Around} {E:Value->Shared->Prop} {s:Shared} {scope:Scope} {g:Addr} {cl:List (Str×Addr)} {qual:Str} {env:Env} {Q:Env->Shared->Prop}
  (h:Q (newEnv scope s.heap.objs.size g (cellsFrom (s.heap.objs.size+1) scope.names cl) qual none .none (some env) builtinsNs) { s with heap:=pushCells (s.heap.push { cls:=.type "dict", data:=.dict #[] }) scope.names }) :
  wpAny M A (newFunctionEnv scope g cl [] qual none .none (some env)) Q E s:=by
 simp only[newFunctionEnv,Option.isSome_some,Q3]
 refine zb (wpAny_alloc ?_)
 refine zb (wpAny_layCells _ (fun name kind cells=>by cases kind==NameKind.cell<;>simp) _ _ _ _ ?_)
 rw[show ({ s with heap:=s.heap.push { cls:=.type "dict", data:=.dict #[] } }:Shared).heap.objs.size=s.heap.objs.size+1 from Z3 ..]
 rw[List.forIn_nil]
 exact zb (zd (zd h))
structure oF (X:Cx) (scope:Scope) (cl:List (Str×Addr)) (xs:List Str) (is:List Nat):Prop where
 clos:closureFor scope X.env=pure cl
 kind:scope.kind=.function
 cell:∀ y∈scope.names,y.2=.cell->cl.lookup y.1=none
 names:∀ y∈scope.names,y.2=.local->scope.names.lookup y.1=some .local
 sub:SubL X.env.cells cl
 has:∀ x,((relabel scope X.env).names.lookup x=some .cell\/(relabel scope X.env).names.lookup x=some .free)->(x,NameKind.cell)∈scope.names\/∃ c,cl.lookup x=some c
 cap:Ad X scope cl xs is
def sS (is:List Nat) (σ:L2.St):L2.St:=is.map fun i=>(σ[i]?).bind fun v=>v
def jf (is:List Nat) (ρ:Ev):Ev:=is.map fun i=>vM ρ i
def NT (n m:Nat) (g:Dt->Ev->Option Ev):Prop:=∀ d ρ ρ',g d ρ=some ρ'->ρ'.length=ρ.length/\∀ j,j < n\/m<=j->ρ'[j]?=ρ[j]?
def Tv (n m:Nat) (g:List Dt->Ev->Option Ev):Prop:=∀ d ρ ρ',g d ρ=some ρ'->ρ'.length=ρ.length/\∀ j,j < n\/m<=j->ρ'[j]?=ρ[j]?
theorem bW {n i m:Nat} (h:n<=i:=by decide) (h':i < m:=by decide):NT n m (fun d ρ=>some (ρ.set i (some (.z d)))):=fun d ρ ρ' e=>by
 cases e
 exact⟨by rw[jb],fun j hj=>nJ _ (by omega)⟩
theorem Tw {n m:Nat}:Tv n m O9:=fun d ρ ρ' e=>by
 cases d with
 |nil=>cases e;exact⟨rfl,fun _ _=>rfl⟩
 |cons=>cases e
theorem Fl {n m:Nat} {g:Dt->Ev->Option Ev} {gs:List Dt->Ev->Option Ev} (h:NT n m g) (hs:Tv n m gs):Tv n m (vO g gs):=fun d ρ ρ' e=>by
 cases d with
 |nil=>cases e
 |cons d ds=>
  simp only[vO] at e
  obtain⟨ρ1,e1,e⟩:=bind_some e
  obtain⟨a,b⟩:=h _ _ _ e1
  obtain⟨a',b'⟩:=hs _ _ _ e
  exact⟨a'.trans a,fun j hj=>(b' j hj).trans (b j hj)⟩
theorem XC {n m k:Nat} {gs:List Dt->Ev->Option Ev} (hs:Tv n m gs):NT n m (Fi k gs):=fun d ρ ρ' e=>by
 cases d with
 |tup ds=>
  simp only[Fi] at e
  split at e
  ·exact hs _ _ _ e
  ·cases e
 |_=>cases e
def q9 (gt:Dt->Ev->Option Ev) (p:Ev->Option Bool) (fs:Ev->Option (List Dt)) (ρ:Ev):List Dt->Option (List Dt)
 |[]=>some []
 |d::ds=>(gt d ρ).bind fun ρ1=>(p ρ1).bind fun k=>if k=true then (fs ρ1).bind fun ys=>(q9 gt p fs ρ ds).bind fun zs=>some (ys++zs) else q9 gt p fs ρ ds
def XD:Bx->Option (List Dt)
 |.z y=>some [y]
 |_=>none
def yw (gt:Dt->Ev->Option Ev) (p:Ev->Option Bool) (fe:Ev->Option Bx) (ρ:Ev):List Dt->Option (List Dt):=q9 gt p (fun ρ=>(fe ρ).bind XD) ρ
theorem vP {b:Bx} {ys:List Dt} (h:XD b=some ys):∃ y,b=.z y/\ys=[y]:=by
 cases b<;>cases h
 exact⟨_,rfl,rfl⟩
theorem vQ {gt:Dt->Ev->Option Ev} {p:Ev->Option Bool} {fe:Ev->Option Bx} {ρ:Ev}:∀ {ds out:List Dt},yw gt p fe ρ ds=some out->out.length<=ds.length
 |[],_,e=>by cases e;exact zk _
 |d::ds,out,e=>by
  simp only[yw,q9] at e
  obtain⟨ρ1,_,e⟩:=bind_some e
  obtain⟨k,_,e⟩:=bind_some e
  cases k with
  |false=>
   rw[zS zC] at e
   exact zv (vQ (gt:=gt) (p:=p) (fe:=fe) e) (by simp)
  |true=>
   rw[zo rfl] at e
   obtain⟨ys,ey,e⟩:=bind_some e
   obtain⟨zs,ez,e⟩:=bind_some e
   obtain⟨b,_,ey⟩:=bind_some ey
   obtain⟨y,_,rfl⟩:=vP ey
   cases e
   simpa using vQ (gt:=gt) (p:=p) (fe:=fe) ez
def Tests (X:Cx) (ifs:List Expr) (p:Ev->Option Bool):Prop:=(ifs=[]/\p=fun _=>some true)\/∃ c,ifs=[c]/\PB X c p
structure sU (X:Cx) (ifs:List Expr) (p:Ev->Option Bool):Prop where
 run:Tests X ifs p
section
variable {X:Cx} {elt tgt iter:Expr} {ifs:List Expr} {scope:Scope} {cl:List (Str×Addr)} {pos:Pos} {xs ts:List Str} {is:List Nat} {gt:Dt->Ev->Option Ev} {p:Ev->Option Bool} {fe:Ev->Option Bx} {fi:Ev->Option (List Dt)}
theorem Ph {pins:List (Addr×Obj)} {σ:L2.St} {H3:Hp} {s3:Shared} {fp:List Addr} (I3:L2.Inv X pins σ H3 s3) (O:oF X scope cl xs is)
  (hf:∀ b∈fp,oh X pins H3 b) (hfl:∀ b∈fp,b < s3.heap.objs.size) :
  L2.Inv (vI X (xs++ts) scope cl s3.heap.objs.size s3 H3 fp) [] (sS is σ++List.replicate ts.length none) H3 { s3 with heap:=pushCells (s3.heap.push { cls:=.type "dict", data:=.dict #[] }) scope.names }:=by
 obtain⟨hl,hc⟩:=O.cap.get
 have hsub:=O.sub
 have hsz:(s3.heap.push { cls:=.type "dict", data:=.dict #[] }).objs.size=s3.heap.objs.size+1:=Z3 ..
 have hk:∀ b o,s3.heap.get? b=some o->(pushCells (s3.heap.push { cls:=.type "dict", data:=.dict #[] }) scope.names).get? b=some o:=fun b o e=>pushCells_keeps _ _ b o (ze _ e)
 have cf:Xz (pushCells (s3.heap.push { cls:=.type "dict", data:=.dict #[] }) scope.names) (cellsFrom (s3.heap.objs.size+1) scope.names cl):=by
  rw[<-hsz]
  refine Pg _ _ _ ⟨fun x y c e1 e2=>I3.ok.inj x y c (hsub.get e1) (hsub.get e2),fun x c e=>?_⟩
  obtain⟨v,q⟩:=I3.cell x c (hsub.get e)
  exact⟨v,q.keeps fun b o e=>ze _ e⟩
 have from':∀ x c,(cellsFrom (s3.heap.objs.size+1) scope.names cl).lookup x=some c->X.env.cells.lookup x=some c\/s3.heap.objs.size < c:=fun x c e=>(ud _ _ _ x c e).imp_left hsub.get
 refine⟨⟨I3.ok.mod,O.kind,I3.ok.glob,I3.ok.blt,zk _,cf.inj,fun x hx=>Ij _ _ _ x (O.has x hx),fun x c hx e=>?_,I3.ok.hd,I3.ok.frames,.inl rfl,fun b hb=>⟨zI (hfl b hb),fun x c e=>?_⟩,I3.bs,zv I3.ok.RT I3.sz,fun b o e hb=>?_,fun b hb hb'=>?_,I3.stack,I3.J2⟩,
  rfl,I3.bare,Un.kept hk,⟨_,(Heap.Ns.new s3.heap (.type "dict")).keeps (pushCells_keeps _ _),fun j x v e1 e2 _=>?_⟩,cf.cell,I3.hok.fresh (zk _),fun x c e=>(from' x c e).elim (I3.lV x c) fun h=>I3.hok.fresh (qB h),fun q hq=>absurd (show q∈([]:List (Addr×Obj)) from hq) (by simp),I3.hok.kept hk,?_⟩
 ·refine (ud _ _ _ x c e).elim (fun h=>?_) fun h=>qB h
  have hx:(x,NameKind.cell)∈scope.names:=by
   have hx:Xy scope.names x=true:=hx
   unfold Xy at hx
   split at hx
   ·rename_i q;exact mem_of_lookup q
   ·cases hx
  rw[O.cell _ hx rfl] at h;cases h
 ·rcases from' x c e with h|h
  ·exact (hf b hb).2.2.2.2.1 x c h
  ·exact ko (Nat.lt_trans (hfl b hb) h)
 ·obtain⟨_,_,_,z,_⟩:=hf b hb
  rcases z with z|z
  ·exact I3.ok.N6 b o e z
  ·exact absurd (z5 (zw e) (zv I3.ok.RT z)) (JA _)
 ·obtain⟨_,n1,n2,_⟩:=hf b hb
  rcases List.mem_cons.mp (I3.Ce b hb') with z|z
  ·exact n1 z
  ·exact n2 z
 ·have hj:j < is.length:=by
   by_cases hj:j < is.length
   ·exact hj
   ·rw[qA (by simp[sS];omega)] at e2
    rw[QN] at e2
    split at e2<;>cases e2
  have e1':xs[j]?=some x:=by
   have e1:(xs++ts)[j]?=some x:=e1
   rw[ZO (by omega)] at e1;exact e1
  obtain⟨i,ei,hcp⟩:=hc j x e1'
  have e3:σ[i]?=some (some v):=by
   rw[ZO (by simp[sS];omega)] at e2
   unfold sS at e2
   rw[z4,ei] at e2
   cases q:σ[i]? with
   |none=>rw[Option.map_some,q] at e2;cases e2
   |some o=>
    rw[Option.map_some,q] at e2
    have:o=some v:=by simpa using e2
    rw[this]
  have vis:Hv X.env.scope x:=by
   rcases hcp.k with k|k
   ·exact .inr (.inl k)
   ·exact .inr (.inr k)
  obtain⟨m',hn',hlk⟩:=I3.loc
  obtain⟨u,r,l⟩:=hlk i x v hcp.n e3 vis
  refine⟨u,r,?_⟩
  rcases l with⟨k,_⟩|⟨k,c,ec,ic⟩
  ·rcases hcp.k with k'|k'<;>(rw[k] at k';cases k')
  ·obtain⟨c',ec'⟩:=hcp.c
   have:=hsub.get ec'
   rw[ec] at this;cases this
   refine .inr ⟨hcp.k',c,(CN _ _ _ x fun z=>by rw[O.cell _ z rfl] at ec';cases ec').trans ec',?_⟩
   obtain⟨o,ho,hd⟩:=ic
   exact⟨o,hk c o ho,hd⟩
 ·show (sS is σ++List.replicate ts.length none).length=(xs++ts).length
  simp[sS,hl]
theorem aQ.caps {K:PySem.W.Frag} {H0 H:Hp} {σ:L2.St} {ρ:Ev} (E:aQ K H0 H σ ρ) (is:List Nat) (n:Nat):aQ K H H (sS is σ++List.replicate n none) (jf is ρ++List.replicate n none):=by
 have RX:∀ (j:Nat) c,(jf is ρ++List.replicate n none)[j]?=some (some c)->pZ c=false:=fun j c e=>by
  by_cases hj:j < is.length
  ·rw[ZO (by simp[jf];omega)] at e
   unfold jf at e
   rw[z4] at e
   cases q:is[j]? with
   |none=>rw[q] at e;cases e
   |some i=>
    rw[q] at e
    have:vM ρ i=some c:=by simpa using e
    exact tX this
  ·rw[qA (by simp[jf];omega),QN] at e
   split at e<;>cases e
 refine⟨by simp[sS,jf],fun j b e=>?_,fun j k c a b e ec=>absurd ec (by rw[RX j c e];exact zC),Same.refl H,fun j c a e ec=>absurd ec (by rw[RX j c e];exact zC)⟩
 by_cases hj:j < is.length
 ·rw[ZO (by simp[jf];omega)] at e
  rw[ZO (by simp[sS];omega)]
  unfold jf at e
  unfold sS
  rw[z4] at e ⊢
  cases q:is[j]? with
  |none=>rw[q] at e;cases e
  |some i=>
   rw[q] at e
   have:vM ρ i=some b:=by simpa using e
   obtain⟨v,e1,r⟩:=Fd E this
   exact⟨v,by simp[e1],r⟩
 ·rw[qA (by simp[jf];omega),QN] at e
  split at e<;>cases e
theorem aQ.forget {K:PySem.W.Frag} {H0 H:Hp} {σ:L2.St} {ρ ρ':Ev} (E:aQ K H0 H σ ρ') (hl:ρ'.length=ρ.length) (h:∀ (j:Nat) b,ρ[j]?=some (some b)->ρ'[j]?=some (some b)):aQ K H0 H σ ρ:=
 ⟨E.len.trans hl,fun j b e=>E.val j b (h j b e),fun i j c a b e1 ec e2 e3 e4 e5=>E.own i j c a b (h _ _ e1) ec e2 (h _ _ e3) e4 e5,E.base,fun i c a e1 ec e2=>E.new i c a (h _ _ e1) ec e2⟩
structure Tz (Hb:Hp) (σ:L2.St) (ρ:Ev) (n:Nat):Prop where
 own:∀ (j:Nat) c,ρ[j]?=some (some c)->pZ c=false
 lt:∀ (j:Nat) b,ρ[j]?=some (some b)->j < n
 old:∀ (j:Nat) c a,ρ[j]?=some (some c)->loose c=true->σ[j]?=some (some (.ref a))->Hb a≠none
def Fx (σ σ':L2.St) (ρ:Ev):Prop:=∀ (j:Nat) c,loose c=true->ρ[j]?=some (some c)->σ'[j]?=σ[j]?
theorem Tz.fx {Hb:Hp} {σ σ':L2.St} {ρ:Ev} {n:Nat} (P:Tz Hb σ ρ n) (f:Fx σ σ' ρ):Tz Hb σ' ρ n:=⟨P.own,P.lt,fun j c a e hl ea=>P.old j c a e hl (by rw[<-f j c hl e];exact ea)⟩
theorem known {K:PySem.W.Frag} {H0 H:Hp} {σ:L2.St} {ρ:Ev} (E:aQ K H0 H σ ρ) (j:Nat) (c:Bx) (a:Addr) (e:ρ[j]?=some (some c)) (hl:loose c=true) (ea:σ[j]?=some (some (.ref a))):H a≠none:=fun z=>by
 obtain⟨v,e1,rc⟩:=E.val j _ e
 rw[ea] at e1;cases e1
 cases c with
 |z d=>cases hl
 |l dz=>
  obtain⟨a',vs,e2,q,_⟩:=rc
  cases e2
  rcases q with q|⟨o,q⟩<;>(rw[z] at q;cases q)
 |n dz=>
  obtain⟨a',vs,e2,q,_⟩:=rc
  cases e2
  rcases q with q|⟨o,q⟩<;>(rw[z] at q;cases q)
 |o dz=>
  obtain⟨a',vs,e2,q,_⟩:=rc
  cases e2
  rw[z] at q;cases q
 |m dz _=>
  obtain⟨a',vs,e2,q,_⟩:=rc
  cases e2
  rw[z] at q;cases q
theorem aQ.grown {K:PySem.W.Frag} {Hb H:Hp} {σ:L2.St} {ρ:Ev} {n:Nat} {D:Addr} {o:HO} (E:aQ K Hb H σ ρ) (P:Tz Hb σ ρ n) (hD:Hb D=none) (kp:Kp H (upd H D o)):aQ K Hb (upd H D o) σ ρ:=by
 refine⟨E.len,fun j b e=>?_,fun j k c a b e ec=>absurd ec (by rw[P.own j c e];exact zC),fun c o e=>?_,fun j c a e ec=>absurd ec (by rw[P.own j c e];exact zC)⟩
 ·obtain⟨v,ev,rb⟩:=E.val j b e
  refine⟨v,ev,?_⟩
  cases b with
  |z d=>exact Rep.kp kp rb
  |o dz=>have:=P.own j _ e;cases this
  |m dz _=>have:=P.own j _ e;cases this
  |n dz=>
   obtain⟨a,vs,rfl,q,rr⟩:=rb
   refine⟨a,vs,rfl,?_,rr.kp kp⟩
   have ha:a≠D:=fun z=>P.old j _ _ e rfl ev (by rw[z];exact hD)
   exact q.imp (fun q=>by rw[aC ha];exact q) fun ⟨o,q⟩=>⟨o,by rw[aC ha];exact q⟩
  |l dz=>
   obtain⟨a,vs,rfl,q,rr⟩:=rb
   refine⟨a,vs,rfl,?_,rr.kp kp⟩
   have ha:a≠D:=fun z=>P.old j _ _ e rfl ev (by rw[z];exact hD)
   exact q.imp (fun q=>by rw[aC ha];exact q) fun ⟨o,q⟩=>⟨o,by rw[aC ha];exact q⟩
 ·rw[aC (bQ e hD)];exact E.base c o e
def Fo (X:Cx) (el:Addr->Env->Sem Unit) (fs:Ev->Option (List Dt)) (Ac:Addr->Hp->List Dt->HO->Prop) (N n:Nat):Prop:=∀ (pins:List (Addr×Obj)) (s:Shared) (σ:L2.St) (H Hb:Hp) (ρ:Ev) (D:Addr) (o:HO) (o1 ys:List Dt),L2.Inv X pins σ H s->aQ X.K Hb H σ ρ->Tz Hb σ ρ n->Hb D=none->fs ρ=some ys->H D=some o->Ac D H o1 o->o1.length+ys.length<=N →
 wpAny (model X.prog X.w) X.A (el D X.env) (fun _ s'=>∃ σ' H' o',L2.Inv X pins σ' H' s'/\aQ X.K Hb H' σ' ρ/\Fx σ σ' ρ/\H' D=some o'/\Ac D H' (o1++ys) o') X.xe s
theorem Pj {el:Addr->Env->Sem Unit} {fs:Ev->Option (List Dt)} {Ac:Addr->Hp->List Dt->HO->Prop} {N n:Nat} (h:∀ (pins:List (Addr×Obj)) (s:Shared) (σ:L2.St) (H Hb:Hp) (ρ:Ev) (D:Addr) (o:HO) (o1 ys:List Dt),L2.Inv X pins σ H s->aQ X.K Hb H σ ρ->fs ρ=some ys->H D=some o->Ac D H o1 o->o1.length+ys.length<=N →
  wpAny (model X.prog X.w) X.A (el D X.env) (fun _ s'=>∃ H9 o',L2.Inv X pins σ (upd H9 D o') s'/\Same H H9/\Kp H9 (upd H9 D o')/\Ac D (upd H9 D o') (o1++ys) o') X.xe s):Fo X el fs Ac N n:=fun pins s σ H Hb ρ D o o1 ys I E P hD e1 e2 a1 l=>by
 refine ZH (h pins s σ H Hb ρ D o o1 ys I E e1 e2 a1 l) (fun _ s' ⟨H9,o',I',s9,kp,a'⟩=>?_) fun _ _ z=>z
 exact⟨σ,_,o',I',(E.grow s9).grown P hD kp,fun _ _ _ _=>rfl,aP,a'⟩
theorem Bh {comp:Expr} {d:Nat} {ipos:Pos} {Ac:Addr->Hp->List Dt->HO->Prop} {el:Addr->Env->Sem Unit} {fs:Ev->Option (List Dt)} {N n m:Nat} {pins:List (Addr×Obj)} {σ:L2.St} {H Hb:Hp} {s:Shared} {it D:Addr} {fp:List Addr} {tn:Nat->Heap->Prop} {J:It} {ds o0 out:List Dt} {o:HO} {ρ:Ev} {R:Result->Shared->Prop}
  (hcalm:X.calm=true) (hx:X.xe=fun _ _=>False) (Ei:PTg X tgt gt) (hif:Tests X ifs p) (hel:Fo X el fs Ac N m) (htk:NT n m gt) (hnm:n<=m)
  (I:L2.Inv X pins σ H s) (E:aQ X.K Hb H σ ρ) (P:Tz Hb σ ρ n) (hD:Hb D=none) (hHD:H D=some o) (hA:Ac D H o0 o)
  (T:Turn X.prog X.w X.K tgt J fp it tn) (st:tn 0 s.heap) (hf:∀ b∈fp,oh X pins H b) (Y:Yields X.K J ds Hb)
  (hout:q9 gt p fs ρ ds=some out) (hN:o0.length+out.length<=N)
  (VP:∀ {D:Addr} {H H':Hp} {o1:List Dt} {o:HO},Kp H H'->Ac D H o1 o->Ac D H' o1 o)
  (hturn:∀ (it:Value) (D:Addr) (env:Env),compTurn comp d it (.ref D) env=(standAt ipos >>= fun _=>pyNext it >>= fun r=>match r with
   |none=>pure (.done .next)
   |some v=>letOwnedTupleGo tgt it v >>= fun _=>assign tgt env v >>= fun _=>(forIn ifs true fun c r=>if r=true then isTrue c env (eval c env) >>= fun ok=>pure (ForInStep.yield ok) else pure (ForInStep.yield r)) >>= fun ok=>if ok=true then el D env >>= fun _=>again (.compLoop comp d it (.ref D) env) else again (.compLoop comp d it (.ref D) env)))
  (hsh:∀ {it acc:Value} {env:Env} {Q:Fin->Shared->Prop} {E:Value->Shared->Prop} {s:Shared},wpAny (model X.prog X.w) X.A ((compTurn comp d it acc env).onRaise (fun x=>noteFrame x env >>= fun _=>theTreesLotGoes x)) Q E s->wpAny (model X.prog X.w) (X.A.under (.compLoop comp d it acc env)) ((model X.prog X.w).den (.compLoop comp d it acc env)) Q E s)
  (hR:∀ s' σ' H' o',L2.Inv X pins σ' H' s'->aQ X.K Hb H' σ' ρ->Fx σ σ' ρ->H' D=some o'->Ac D H' (o0++out) o'->R (.ok .next) s') :
  codeAny (model X.prog X.w) X.A (.compLoop comp d (.ref it) (.ref D) X.env) R s:=by
 have hfC:∀ {H':Hp},(∀ b∈fp,H' b=none)->∀ b∈fp,oh X pins H' b:=fun {H'} hn b hb=>⟨hn b hb,(hf b hb).2⟩
 refine codeAny_loop rfl (fun k s'=>∃ (i:Nat) (σ':L2.St) (H':Hp) (o1 o2:List Dt) (o:HO),k=ds.length - i/\i<=ds.length/\L2.Inv X pins σ' H' s'/\tn i s'.heap/\(∀ b∈fp,H' b=none)/\aQ X.K Hb H' σ' ρ/\Fx σ σ' ρ/\H' D=some o/\Ac D H' o1 o/\q9 gt p fs ρ (ds.drop i)=some o2/\o1++o2=o0++out) ?_ ds.length
  ⟨0,σ,H,o0,out,o,by simp,qv _,I,st,fun b hb=>(hf b hb).1,E,fun _ _ _ _=>rfl,hHD,hA,by simpa using hout,rfl⟩
 rintro k s4 ⟨i,σ4,H4,o1,o2,o,rfl,hi,I4,st4,fr4,E4,F4,hD4,r4,e4,ho⟩
 have P4:=P.fx F4
 refine hsh (wpAny_noted ?_)
 rw[hturn]
 obtain⟨y1,y2⟩:=Y i H4 E4.base
 by_cases hlt:i < ds.length
 ·have hd:ds[i]?=some ds[i]:=by simp[hlt]
  obtain⟨go,yl⟩:=y1 _ hd
  rw[kM hlt] at e4
  simp only[q9] at e4
  obtain⟨ρ1,e1,e4⟩:=bind_some e4
  obtain⟨k,ek,e4⟩:=bind_some e4
  obtain⟨hl1,hk1⟩:=htk _ _ _ e1
  have back:∀ {σ5:L2.St} {H5:Hp},aQ X.K Hb H5 σ5 ρ1->aQ X.K Hb H5 σ5 ρ:=fun E5=>E5.forget hl1 fun j b e=>by rw[hk1 j (.inl (P.lt j b e))];exact e
  refine zb (Jn (zb ?_))
  refine iR (T.item X rfl rfl rfl hcalm i pins s4 σ4 H4 _ I4 (hfC fr4) st4 go) fun r s5 ⟨u,hr,h5⟩=>?_
  subst hr
  refine zb (iR h5 fun _ s6 ⟨x,H6,I6,r6,y6,st6,fr6⟩=>?_)
  obtain⟨sm,rx⟩:=yl x H6 y6
  have E4:=E4.grow sm
  have hD4:=sm _ _ hD4
  have r4:=VP (.of sm) r4
  have I6':=I6.pinned (hfC fr6) (T.obj _ _ st6)
  have ha:=Ei _ s6 σ4 H6 x u (fun σ' H'=>H'=H6/\aQ X.K Hb H6 σ' ρ1/\Lo σ4 ρ σ' ρ1) I6' r6 ⟨Hb,ρ,ds[i],ρ1,E4,rx,e1,fun σ' E' L'=>⟨rfl,E',L'⟩⟩
  rw[hx] at ha
  refine zb (ZH ha (fun _ s7 h7=>?_) fun _ _ z=>z.elim)
  obtain⟨σ7,H7,I7,rfl,E7,L7⟩:=h7
  have P7:Tz Hb σ7 ρ1 m:=by
   refine⟨fun j c e=>?_,fun j c e=>?_,fun j c a e hl ea=>?_⟩
   ·cases c with
    |o ds=>exact P.own j _ (L7 j _ rfl e).1
    |m ds _=>exact P.own j _ (L7 j _ rfl e).1
    |_=>rfl
   ·refine Nat.lt_of_not_le fun h=>?_
    rw[hk1 j (.inr h)] at e
    exact absurd (z5 (P.lt j c e) hnm) (Nat.not_lt.mpr h)
   ·obtain⟨e',ee⟩:=L7 j c hl e
    exact P4.old j c a e' hl (by rw[<-ee];exact ea)
  have VR:∀ {σ5:L2.St},Fx σ7 σ5 ρ1->Fx σ σ5 ρ:=fun f j c hl e=>by
   have e':ρ1[j]?=some (some c):=by rw[hk1 j (.inl (P.lt j c e))];exact e
   exact (f j c hl e').trans ((L7 j c hl e').2.trans (F4 j c hl e))
  have ht:wpAny (model X.prog X.w) X.A (forIn ifs true fun c r=>if r=true then do let ok <-isTrue c X.env (eval c X.env);pure (ForInStep.yield ok) else pure (ForInStep.yield r))
    (fun ok s8=>ok=k/\∃ H8,L2.Inv X (pins++vJ fp s6.heap) σ7 H8 s8/\Same H7 H8) (notedBy (model X.prog X.w) X.A X.env fun e s'=>R (.error e) s') s7:=by
   rcases hif with⟨rfl,rfl⟩|⟨c,rfl,hc⟩
   ·cases ek
    exact wpAny_tests_nil ⟨rfl,H7,I7,Same.refl H7⟩
   ·refine wpAny_tests_one ?_
    have:=hc _ s7 σ7 H7 (fun b H8=>b=k/\Same H7 H8) I7 ⟨Hb,ρ1,k,E7,ek,fun H8 s8=>⟨rfl,s8⟩⟩
    rw[hx] at this
    exact ZH this (fun b s8 ⟨H8,I8,eb,s8'⟩=>⟨eb,H8,I8,s8'⟩) fun _ _ z=>z.elim
  refine zb (ZH ht (fun ok s8 h8=>?_) fun _ _ z=>z)
  obtain⟨rfl,H8,I8,Zt⟩:=h8
  have Pk:∀ {σ9:L2.St} {H9:Hp} {s9:Shared},L2.Inv X (pins++vJ fp s6.heap) σ9 H9 s9->L2.Inv X pins σ9 H9 s9/\tn (i+1) s9.heap/\∀ b∈fp,H9 b=none:=fun {σ9 H9 s9} I9=>by
   refine⟨I9.pR,T.keep _ _ _ st6 fun b hb o e=>(I9.pin (b,o) (Zl _ (Zl _ (ou hb e)))).1,fun b hb=>?_⟩
   obtain⟨o,e,d⟩:=T.obj _ _ st6 b hb
   exact (I9.pin (b,o) (Zl _ (Zl _ (ou hb e)))).2.1
  cases ok with
  |false=>
   rw[zS zC] at e4
   obtain⟨I9,st9,fr9⟩:=Pk I8
   exact zd ⟨rfl,ds.length - (i+1),by omega,i+1,σ7,H8,o1,o2,o,rfl,hlt,I9,st9,fr9,back (E7.grow Zt),VR (fun _ _ _ _=>rfl),Zt _ _ hD4,VP (.of Zt) r4,e4,ho⟩
  |true=>
   rw[zo rfl] at e4
   obtain⟨ys,eb,e4⟩:=bind_some e4
   obtain⟨zs,e5,e4⟩:=bind_some e4
   cases e4
   have hl:=congrArg List.length ho
   simp only[Zs] at hl
   have he:=hel _ s8 σ7 H8 Hb ρ1 D o o1 ys I8 (E7.grow Zt) P7 hD eb (Zt _ _ hD4) (VP (.of Zt) r4) (by omega)
   rw[hx] at he
   refine zb (ZH he (fun _ s10 h10=>?_) fun _ _ z=>z.elim)
   obtain⟨σ9,H9,o',I10,E9,F9,XF,a5⟩:=h10
   obtain⟨I11,acv,acw⟩:=Pk I10
   exact zd ⟨rfl,ds.length - (i+1),by omega,i+1,σ9,H9,o1++ys,zs,o',rfl,hlt,I11,acv,acw,back E9,VR F9,XF,a5,e5,by rw[qV];exact ho⟩
 ·have hge:ds.length<=i:=by omega
  rw[List.drop_eq_nil_of_le hge] at e4
  cases e4
  refine zb (Jn (zb ?_))
  refine iR (T.done X rfl rfl rfl hcalm i pins s4 σ4 H4 _ I4 (hfC fr4) st4 (y2 hge)) fun r s5 ⟨hr,I5⟩=>?_
  subst hr
  rw[List.append_nil] at ho
  exact zd (hR s5 σ4 H4 o I5 E4 F4 hD4 (by rw[<-ho];exact r4))
theorem Bj {prog:Program} {w:World} {A:Around} {R:Result->Shared->Prop} {s:Shared} {e:Expr} {d:Nat} {target iter:Expr} {ifs:List Expr} {it acc:Value} {env:Env} (hg:(clausesOf e)[d]?=some ⟨target,iter,ifs,0⟩)
  (hd:∀ {Q:Fin->Shared->Prop} {E:Value->Shared->Prop},wpAny (model prog w) A ((compStart e d it acc env).onRaise (fun x=>do noteFrame x env;standAt theWindowsPlace)) Q E s->wpAny (model prog w) (A.under (.compStart e d it acc env)) ((model prog w).den (.compStart e d it acc env)) Q E s) (hq:Code.quiet (.compLoop e d it acc env)=true:=by rfl)
  (h0:codeAny (model prog w) A (.compLoop e d it acc env) R s)
  (h:wpAny (model prog w) A (pyIter it) (fun it' s'=>codeAny (model prog w) A (.compLoop e d it' acc env) R s') (notedBy (model prog w) A env fun x s'=>R (.error x) s') s) :
  codeAny (model prog w) A (.compStart e d it acc env) R s:=by
 refine codeAny_of_tree (hd ?_)
 refine wpAny_notedAt ?_
 unfold compStart
 rw[hg]
 show wpAny _ _ (ask >>= _) _ _ s
 refine zb (Kn (wpAny_ite ?_))
 split
 ·exact zd (And.intro hq h0)
 ·refine zb (JP ?_)
  show wpAny _ _ (standAt iter.pos >>= _) _ _ s
  exact zb (Jn (zb (ZH h (fun it' s' h'=>zd (And.intro hq h')) fun _ _ x=>x)))
def nO (H:Hp) (D:Addr):Hp:=fun b=>if b=D then none else H b
theorem jo {H:Hp} {D b:Addr} (h:b≠D):nO H D b=H b:=zS h
theorem oG {H:Hp} {D:Addr}:Same (nO H D) H:=fun b o e=>by
 by_cases h:b=D
 ·rw[nO,zo h] at e;cases e
 ·rw[jo h] at e;exact e
theorem aQ.onto {K:PySem.W.Frag} {Hb Zu H:Hp} {σ:L2.St} {ρ:Ev} (E:aQ K Hb H σ ρ) (P:∀ (j:Nat) c,ρ[j]?=some (some c)->pZ c=false) (s:Same Zu H):aQ K Zu H σ ρ:=
 ⟨E.len,E.val,E.own,s,fun j c a e ec=>absurd ec (by rw[P j c e];exact zC)⟩
def inC (fi:Ev->Option (List Dt)) (gt:Dt->Ev->Option Ev) (p:Ev->Option Bool) (fs:Ev->Option (List Dt)):Ev->Option (List Dt):=fun ρ=>(fi ρ).bind fun ds=>q9 gt p fs ρ ds
theorem Fp {comp:Expr} {d:Nat} {Ac:Addr->Hp->List Dt->HO->Prop} {el:Addr->Env->Sem Unit} {fs:Ev->Option (List Dt)} {N n m:Nat}
  (hcalm:X.calm=true) (hx:X.xe=fun _ _=>False) (hi:PIF X tgt iter fi) (Ei:PTg X tgt gt) (hif:Tests X ifs p) (hel:Fo X el fs Ac N m) (htk:NT n m gt) (hnm:n<=m)
  (VP:∀ {D:Addr} {H H':Hp} {o1:List Dt} {o:HO},Kp H H'->Ac D H o1 o->Ac D H' o1 o) (hAo:∀ {D:Addr} {H:Hp} {o1:List Dt} {o:HO},Ac D H o1 o->(∀ ob u,o≠.lq ob u)/\∀ vs,o≠.tup vs)
  (hs:∀ x,foldedSetIterable iter X.env x=pure x)
  (hturn:∀ (it:Value) (D:Addr) (env:Env),compTurn comp d it (.ref D) env=(standAt iter.pos >>= fun _=>pyNext it >>= fun r=>match r with
   |none=>pure (.done .next)
   |some v=>letOwnedTupleGo tgt it v >>= fun _=>assign tgt env v >>= fun _=>(forIn ifs true fun c r=>if r=true then isTrue c env (eval c env) >>= fun ok=>pure (ForInStep.yield ok) else pure (ForInStep.yield r)) >>= fun ok=>if ok=true then el D env >>= fun _=>again (.compLoop comp d it (.ref D) env) else again (.compLoop comp d it (.ref D) env)))
  (hstart:∀ {it acc:Value} {env:Env} {R:Result->Shared->Prop} {s:Shared},codeAny (model X.prog X.w) X.A (.compLoop comp d it acc env) R s->wpAny (model X.prog X.w) X.A (pyIter it) (fun it' s'=>codeAny (model X.prog X.w) X.A (.compLoop comp d it' acc env) R s') (notedBy (model X.prog X.w) X.A env fun x s'=>R (.error x) s') s->codeAny (model X.prog X.w) X.A (.compStart comp d it acc env) R s)
  (hsh:∀ {it acc:Value} {env:Env} {Q:Fin->Shared->Prop} {E:Value->Shared->Prop} {s:Shared},wpAny (model X.prog X.w) X.A ((compTurn comp d it acc env).onRaise (fun x=>noteFrame x env >>= fun _=>theTreesLotGoes x)) Q E s->wpAny (model X.prog X.w) (X.A.under (.compLoop comp d it acc env)) ((model X.prog X.w).den (.compLoop comp d it acc env)) Q E s) :
  Fo X (fun D env=>do let x <-eval iter env;standAt iter.pos;let x <-foldedSetIterable iter env x;let _ <-runOwn (.compStart comp d (<-holding [x] (pyIter x)) (.ref D) env) env) (inC fi gt p fs) Ac N n:=by
 intro pins s σ H Hb ρ D o o1 ys I E P hD e hHD hA hl
 obtain⟨ds,ed,e⟩:=bind_some e
 refine zb (ZH (hi pins s σ H (fun J H'=>Same H H'/\∀ Hs,Same Hs H'->(∀ a,H a=none->Hs a=H' a)->(∀ a o u,H' a=some (.lq o u)->Hs a=H' a)->(∀ a vs,H' a=some (.tup vs)->Hs a=H' a)->Yields X.K J ds Hs) I ⟨Hb,ρ,ds,E,ed,fun J H' s' y=>⟨s',y⟩⟩) (fun v s1 h1=>?_) fun _ _ z=>z)
 refine zb (Jn (zb (wpAny_of_eq (hs v) (zb (QU (ZH h1 (fun itv s2 h2=>?_) fun _ _ z=>z))))))
 obtain⟨it,fp,tn,J,H2,rfl,I2,T,st,hf,s12,Y⟩:=h2
 have hD2:=s12 _ _ hHD
 have hA2:=VP (.of s12) hA
 have Yb:Yields X.K J ds (nO H2 D):=Y _ oG (fun a ha=>jo fun z=>by rw[z,hHD] at ha;cases ha) (fun a ob u ha=>jo fun z=>by rw[z,hD2] at ha;cases ha;exact (hAo hA).1 _ _ rfl) fun a vs ha=>jo fun z=>by rw[z,hD2] at ha;cases ha;exact (hAo hA).2 _ rfl
 have sb:Same Hb (nO H2 D):=fun a u ea=>by rw[jo (bQ ea hD)];exact s12 _ _ (E.base _ _ ea)
 have E2:aQ X.K (nO H2 D) H2 σ ρ:=(E.grow s12).onto P.own oG
 have P2:Tz (nO H2 D) σ ρ n:=⟨P.own,P.lt,fun j c a ec hl ea z=>P.old j c a ec hl ea (sb.free z)⟩
 have lp:∀ {R:Result->Shared->Prop},(∀ s' σ' H' o',L2.Inv X pins σ' H' s'->aQ X.K (nO H2 D) H' σ' ρ->Fx σ σ' ρ->H' D=some o'->Ac D H' (o1++ys) o'->R (.ok .next) s')->codeAny (model X.prog X.w) X.A (.compStart comp d (.ref it) (.ref D) X.env) R s2:=fun hR=>
  have h:=Bh hcalm hx Ei hif hel htk hnm I2 E2 P2 (zo rfl) hD2 hA2 T st hf Yb e hl VP hturn hsh hR
  hstart h (T.self _ 0 _ _ _ st h)
 exact zb (wpAny_runOwn (lp fun s' σ' H' o' I' E' F' hD' a'=>zd ⟨σ',H',o',I',E'.onto P.own (sb.trans E'.base),F',hD',a'⟩))
theorem vR {comp:Expr} {mk:Sem Value} {o0:Obj} {O0:HO} {Ac:Addr->Hp->List Dt->HO->Prop} {el:Addr->Env->Sem Unit} {fs:Ev->Option (List Dt)} {N m:Nat} {pins:List (Addr×Obj)} {σ:L2.St} {H2:Hp} {s2:Shared} {it:Addr} {fp:List Addr} {tn:Nat->Heap->Prop} {J:It} {ds out:List Dt} {ρ:Ev} {RR:Value->Addr->Result->Shared->Prop} {E:Value->Shared->Prop}
  (O:oF X scope cl xs is) (hcalm:X.calm=true)
  (Ei:∀ C s₀ H₀ fp,PTg (vI X (xs++ts) scope cl C s₀ H₀ fp) tgt gt) (hif:∀ C s₀ H₀ fp,Tests (vI X (xs++ts) scope cl C s₀ H₀ fp) ifs p) (helt:∀ C s₀ H₀ fp,Fo (vI X (xs++ts) scope cl C s₀ H₀ fp) el fs Ac N m) (htk:NT is.length m gt) (hnm:is.length<=m)
  (I2:L2.Inv X pins σ H2 s2) (Ec:aQ X.K H2 H2 (sS is σ++List.replicate ts.length none) (jf is ρ++List.replicate ts.length none)) (T:Turn X.prog X.w X.K tgt J fp it tn) (st:tn 0 s2.heap) (hf:∀ b∈fp,oh X pins H2 b) (Y:Yields X.K J ds H2)
  (hout:q9 gt p fs (jf is ρ++List.replicate ts.length none) ds=some out) (hlen:out.length<=N)
  (hRR:∀ (D C:Addr) (s':Shared) (H':Hp) (o:HO),H2 D=none->L2.Inv X pins σ H' s'->oh X pins H' C->(∃ m,s'.heap.Ns C m)->Same H2 H'->H' D=some o->Ac D H' out o->RR (.ref D) C (.ok .next) s')
  (hmk:∀ {Q:Value->Shared->Prop},Q (.ref s2.heap.objs.size) { s2 with heap:=s2.heap.push o0 }->wpAny (model X.prog X.w) X.A mk Q E s2) (hO0:∀ H,dX X.prog X.w H (s2.heap.push o0) s2.heap.objs.size O0) (hA0:∀ H,Ac s2.heap.objs.size H [] O0)
  (VP:∀ {D:Addr} {H H':Hp} {o1:List Dt} {o:HO},Kp H H'->Ac D H o1 o->Ac D H' o1 o)
  (hturn:∀ (it:Value) (D:Addr) (env:Env),compTurn comp 0 it (.ref D) env=(standAt iter.pos >>= fun _=>pyNext it >>= fun r=>match r with
   |none=>pure (.done .next)
   |some v=>letOwnedTupleGo tgt it v >>= fun _=>assign tgt env v >>= fun _=>(forIn ifs true fun c r=>if r=true then isTrue c env (eval c env) >>= fun ok=>pure (ForInStep.yield ok) else pure (ForInStep.yield r)) >>= fun ok=>if ok=true then el D env >>= fun _=>again (.compLoop comp 0 it (.ref D) env) else again (.compLoop comp 0 it (.ref D) env)))
  (hstart:∀ {it acc:Value} {env:Env} {R:Result->Shared->Prop} {s:Shared},codeAny (model X.prog X.w) X.A (.compLoop comp 0 it acc env) R s->wpAny (model X.prog X.w) X.A (pyIter it) (fun it' s'=>codeAny (model X.prog X.w) X.A (.compLoop comp 0 it' acc env) R s') (notedBy (model X.prog X.w) X.A env fun x s'=>R (.error x) s') s->codeAny (model X.prog X.w) X.A (.compStart comp 0 it acc env) R s)
  (hsh:∀ {it acc:Value} {env:Env} {Q:Fin->Shared->Prop} {E:Value->Shared->Prop} {s:Shared},wpAny (model X.prog X.w) X.A ((compTurn comp 0 it acc env).onRaise (fun x=>noteFrame x env >>= fun _=>theTreesLotGoes x)) Q E s->wpAny (model X.prog X.w) (X.A.under (.compLoop comp 0 it acc env)) ((model X.prog X.w).den (.compLoop comp 0 it acc env)) Q E s) :
  wpAny (model X.prog X.w) X.A mk (fun acc s₃=>wpAny (model X.prog X.w) X.A (newFunctionEnv scope X.env.globals cl [] X.env.qual none .none (some X.env)) (fun cenv s₄=>
   codeAny (model X.prog X.w) X.A (.compStart comp 0 (.ref it) acc { cenv with scope:=relabel scope X.env }) (RR acc cenv.locals) s₄) E s₃) E s2:=by
 refine hmk (Mp ?_)
 have hD:H2 s2.heap.objs.size=none:=I2.hok.fresh (zk _)
 have I3:L2.Inv X pins σ (upd H2 s2.heap.objs.size O0) { s2 with heap:=s2.heap.push o0 }:=
  I2.laid (t':=s2.toks) (fun b o e=>ze _ e) (zk _) (hO0 _)
 have aaG:∀ b∈fp,b < s2.heap.objs.size:=fun b hb=>let ⟨o,e,_⟩:=T.obj 0 _ st b hb;zw e
 have hf3:∀ b∈fp,oh X pins (upd H2 s2.heap.objs.size O0) b:=fun b hb=>⟨by rw[aC (zI (aaG b hb))];exact (hf b hb).1,(hf b hb).2⟩
 have st3:tn 0 (s2.heap.push o0):=T.keep 0 _ _ st fun b hb o e=>ze _ e
 have TF:∀ b∈fp,b < (s2.heap.push o0).objs.size:=fun b hb=>by rw[Z3];exact qr (aaG b hb)
 generalize hs3:({ s2 with heap:=s2.heap.push o0 }:Shared)=s3 at *
 have acz:s3.heap=s2.heap.push o0:=by rw[<-hs3]
 rw[<-acz] at st3 TF
 have IC:=Ph (ts:=ts) I3 O hf3 TF
 have st1:tn 0 (pushCells (s3.heap.push { cls:=.type "dict", data:=.dict #[] }) scope.names):=T.keep 0 _ _ st3 fun b hb o e=>pushCells_keeps _ _ b o (ze _ e)
 have hfC:∀ b∈fp,oh (vI X (xs++ts) scope cl s3.heap.objs.size s3 (upd H2 s2.heap.objs.size O0) fp) [] (upd H2 s2.heap.objs.size O0) b:=fun b hb=>by
  obtain⟨f0,f1,f2,f3,f4,f5⟩:=hf3 b hb
  refine⟨f0,zI (TF b hb),fun z=>?_,.inl hb,fun x c e z=>?_,fun q hq=>absurd (show q∈([]:List (Addr×Obj)) from hq) (by simp)⟩
  ·rcases List.mem_cons.mp (I3.Ce b z) with q|q
   ·exact f1 q
   ·exact f2 q
  ·rcases ud _ _ _ x c e with h|h
   ·exact f4 x c (O.sub.get h) z
   ·rw[z] at h;exact absurd (z5 (TF b hb) (Nat.le_of_succ_le h)) (JA _)
 have P0:Tz H2 (sS is σ++List.replicate ts.length none) (jf is ρ++List.replicate ts.length none) is.length:=by
  have g:∀ (j:Nat) c,(jf is ρ++List.replicate ts.length none)[j]?=some (some c)->j < is.length/\pZ c=false:=fun j c e=>by
   by_cases hj:j < is.length
   ·refine⟨hj,?_⟩
    rw[ZO (by simp[jf];omega)] at e
    unfold jf at e
    rw[z4] at e
    cases q:is[j]? with
    |none=>rw[q] at e;cases e
    |some i=>rw[q] at e;exact tX (by simpa using e)
   ·rw[qA (by simp[jf];omega),QN] at e
    split at e<;>cases e
  exact⟨fun j c e=>(g j c e).2,fun j c e=>(g j c e).1,known Ec⟩
 have h:=Bh (X:=vI X (xs++ts) scope cl s3.heap.objs.size s3 (upd H2 s2.heap.objs.size O0) fp) (R:=RR (.ref s2.heap.objs.size) s3.heap.objs.size) (o0:=[]) hcalm rfl (Ei _ _ _ _) (hif _ _ _ _) (helt _ _ _ _) htk hnm IC (Ec.grow (bJ hD)) P0 hD aP (hA0 _) T st1 hfC Y hout (by simpa using hlen) VP hturn hsh fun s5 σ5 H5 o5 I5 E5 _ hD5 a5=>by
  have IB:L2.Inv X pins σ H5 s5:=I3.call' (ch:=fp) I5.os I5.base I5.hok I5.bare fun b hb=>by
   obtain⟨f0,f1,f2,f3,f4,f5⟩:=hf3 b hb
   exact⟨f3,f1,f4,f5⟩
  obtain⟨m,hn,_⟩:=I5.loc
  exact hRR _ _ s5 H5 o5 hD IB (I3.Er (zk _) I5.free) ⟨m,hn⟩ E5.base hD5 a5
 exact hstart h (T.self _ 0 _ _ _ st1 h)
def NZ (K:PySem.W.Frag) (_:Addr) (H:Hp) (o1:List Dt) (o:HO):Prop:=∃ us,o=.lst us/\aF K H o1 us
theorem NZ.kp {K:PySem.W.Frag} {D:Addr} {H H':Hp} {o1:List Dt} {o:HO} (k:Kp H H'):NZ K D H o1 o->NZ K D H' o1 o:=fun ⟨us,e,r⟩=>⟨us,e,r.kp k⟩
def Fq (fe:Ev->Option Bx):Ev->Option (List Dt):=fun ρ=>(fe ρ).bind XD
theorem Kf {n:Nat} (h:PV X elt fe):Fo X (fun D env=>do let _ <-call (.builtin "list.append") [.ref D,<-eval elt env]) (Fq fe) (NZ X.K) 100000 n:=by
 refine Pj fun pins s σ H Hb ρ D o o1 ys I En ee hD ⟨us,e,r4⟩ hl=>?_
 subst e
 obtain⟨b,eb,ee⟩:=bind_some ee
 obtain⟨y,rfl,rfl⟩:=vP ee
 refine zb (ZH (h pins s σ H (fun v H9=>Same H H9/\Rep X.K H9 y v) I ⟨Hb,ρ,_,En,eb,fun v H9 s9 _ r9=>⟨s9,r9⟩⟩) (fun v s9 h9=>?_) fun _ _ z=>z)
 obtain⟨v',H9,I9,rv,Zv,r9⟩:=h9
 have XF:=Zv _ _ hD
 refine zb (ZH ((vL (X:=X)) _ s9 σ H9 (.ref D) [v'] (.ref D) [v] (fun w H10=>H10=upd H9 D (.lst (us++[v']))) I9 rfl (.cons rv .nil) ⟨_,us,v',rfl,rfl,XF,by rw[r4.length];have h0:(100000:Nat) < sizeLine:=(by decide);simp at hl;omega,rfl⟩) (fun w s10 h10=>?_) fun _ _ z=>z)
 obtain⟨w',H10,I10,_,rfl⟩:=h10
 have kp:Kp H9 (upd H9 D (.lst (us++[v']))):=.lst XF
 exact zd ⟨H9,_,I10,Zv,kp,us++[v'],rfl,((r4.kp (.of Zv)).append (aF.cons r9 aF.nil)).kp kp⟩
theorem uf {pins:List (Addr×Obj)} {σ:L2.St} {H2:Hp} {s2:Shared} {it:Addr} {fp:List Addr} {tn:Nat->Heap->Prop} {J:It} {ds out:List Dt} {ρ:Ev} {RR:Value->Addr->Result->Shared->Prop} {E:Value->Shared->Prop}
  (O:oF X scope cl xs is) (hcalm:X.calm=true)
  (Ei:∀ C s₀ H₀ fp,PTg (vI X (xs++ts) scope cl C s₀ H₀ fp) tgt gt) (hif:∀ C s₀ H₀ fp,Tests (vI X (xs++ts) scope cl C s₀ H₀ fp) ifs p) (helt:∀ C s₀ H₀ fp,PV (vI X (xs++ts) scope cl C s₀ H₀ fp) elt fe) (htk:NT is.length (is.length+ts.length) gt)
  (I2:L2.Inv X pins σ H2 s2) (Ec:aQ X.K H2 H2 (sS is σ++List.replicate ts.length none) (jf is ρ++List.replicate ts.length none)) (T:Turn X.prog X.w X.K tgt J fp it tn) (st:tn 0 s2.heap) (hf:∀ b∈fp,oh X pins H2 b) (Y:Yields X.K J ds H2)
  (hlen:ds.length<=100000) (hout:yw gt p fe (jf is ρ++List.replicate ts.length none) ds=some out)
  (hRR:∀ (D C:Addr) (s':Shared) (H':Hp) (us:List V),H2 D=none->L2.Inv X pins σ H' s'->oh X pins H' C->(∃ m,s'.heap.Ns C m)->Same H2 H'->H' D=some (.lst us)->aF X.K H' out us->RR (.ref D) C (.ok .next) s') :
  wpAny (model X.prog X.w) X.A (newList []) (fun acc s₃=>wpAny (model X.prog X.w) X.A (newFunctionEnv scope X.env.globals cl [] X.env.qual none .none (some X.env)) (fun cenv s₄=>
   codeAny (model X.prog X.w) X.A (.compStart (.ListComp elt [⟨tgt,iter,ifs,0⟩] scope pos) 0 (.ref it) acc { cenv with scope:=relabel scope X.env }) (RR acc cenv.locals) s₄) E s₃) E s2:=
 vR (Ac:=NZ X.K) (O0:=.lst []) (N:=100000) O hcalm Ei hif (fun C s₀ H₀ fp=>Kf (helt C s₀ H₀ fp)) htk (Nat.le_add_right ..) I2 Ec T st hf Y hout (zv (vQ hout) hlen) (fun D C s' H' o a b c d e f g=>by obtain⟨us,rfl,r⟩:=g;exact hRR D C s' H' us a b c d e f r)
  qa (fun _=>⟨qv _,[],0,.nil,zr _ rfl⟩) (fun _=>⟨[],rfl,aF.nil⟩) NZ.kp (fun _ _ _=>rfl) codeAny_compStart_list fun h=>h
end
def iC (K:PySem.W.Frag) (f:Ev->Option (List Dt)):TI:=fun σ H R=>∃ H0 ρ ds,aQ K H0 H σ ρ/\f ρ=some ds/\∀ J H',Same H H'->Yields K J ds H'->R J H'
def PIC (X:Cx) (tg iter:Expr) (f:Ev->Option (List Dt)):Prop:=PI X tg iter (iC X.K f)
structure Zw (X:Cx) (tg iter:Expr) (f:Ev->Option (List Dt)):Prop where
 run:PIC X tg iter f
def TJ:Bx->Option (List Dt)
 |.z (.lst ds)=>some ds
 |.z (.tup ds)=>some ds
 |.z (.str x)=>some (signs x)
 |.o ds=>some ds
 |.l ds=>some ds
 |_=>none
section
variable {X:Cx} {e elt tgt iter:Expr} {es ifs:List Expr} {f:Ev->Option Bx} {fs:Ev->Option (List Bx)} {scope:Scope} {cl:List (Str×Addr)} {pos:Pos} {xs ts:List Str} {is:List Nat} {gt:Dt->Ev->Option Ev} {p:Ev->Option Bool} {fe:Ev->Option Bx} {fi:Ev->Option (List Dt)}
theorem CP (h:QIF X tgt iter fi):Zw X tgt iter fi:=⟨have h:=h.run;fun pins s σ H R I q=>by
 obtain⟨H0,ρ,ds,E,e,q⟩:=q
 exact h pins s σ H R I ⟨H0,ρ,ds,E,e,fun J H' s' y=>q J H' s' (y H' (Same.refl H') (fun _ _=>rfl) (fun _ _ _ _=>rfl) fun _ _ _=>rfl)⟩⟩
theorem gP (h:QV X e f):Zw X tgt e (fun ρ=>(f ρ).bind TJ):=⟨have h:=h.run;fun pins s σ H R I q=>by
 refine Ii h pins s σ H R I ?_
 obtain⟨H0,ρ,ds,E,e,q⟩:=q
 obtain⟨b,eb,e⟩:=bind_some e
 refine⟨H0,ρ,b,E,eb,fun v H1 s1 n1 r1=>?_⟩
 cases b with
 |z d=>
  cases d with
  |tup ds'=>
   cases e
   simp only[aR,Rep] at r1
   obtain⟨a,vs,rfl,hq,rs⟩:=r1
   exact .inr (.inl ⟨a,rfl,⟨vs,hq⟩,q _ _ s1 (.tup hq rs)⟩)
  |lst ds'=>
   cases e
   obtain⟨a,vs,rfl,hq,rs⟩:=r1.z6 rfl
   exact .inl ⟨a,rfl,⟨vs,hq⟩,q _ _ s1 (.list hq rs)⟩
  |str x=>
   cases e
   simp only[aR,Rep] at r1
   obtain⟨rfl,_⟩:=r1
   exact .inr (.inr ⟨x,rfl,q _ _ s1 (.str x)⟩)
  |_=>cases e
 |l ds'=>
  cases e
  obtain⟨a,vs,rfl,hq,rs⟩:=r1.z6 rfl
  exact .inl ⟨a,rfl,⟨vs,hq⟩,q _ _ s1 (.list hq rs)⟩
 |o ds'=>
  cases e
  obtain⟨a,vs,rfl,hq,rs⟩:=r1.z6 rfl
  exact .inl ⟨a,rfl,⟨vs,hq⟩,q _ _ s1 (.list hq rs)⟩
 |n _=>cases e
 |m _ _=>cases e⟩
def fM (fi:Ev->Option (List Dt)) (gt:Dt->Ev->Option Ev) (p:Ev->Option Bool) (fe:Ev->Option Bx) (is:List Nat) (n:Nat):Ev->Option Bx:=fun ρ=>(fi ρ).bind fun ds=>
 if ds.length<=100000 then (yw gt p fe (jf is ρ++List.replicate n none) ds).bind fun out=>some (.o out) else none
theorem jY (ts:List Str) (O:oF X scope cl xs is) (hcalm:X.calm=true) (hi:Zw X tgt iter fi) (Ei:∀ C s₀ H₀ fp,RW (vI X (xs++ts) scope cl C s₀ H₀ fp) tgt gt) (hif:∀ C s₀ H₀ fp,sU (vI X (xs++ts) scope cl C s₀ H₀ fp) ifs p) (helt:∀ C s₀ H₀ fp,QV (vI X (xs++ts) scope cl C s₀ H₀ fp) elt fe) (htk:NT is.length (is.length+ts.length) gt) (hs:∀ x,foldedSetIterable iter X.env x=pure x:=by intro _;rfl):QV X (.ListComp elt [⟨tgt,iter,ifs,0⟩] scope pos) (fM fi gt p fe is ts.length):=⟨have hi:=hi.run;have Ei:=fun C s₀ H₀ fp=>(Ei C s₀ H₀ fp).run;have hif:=fun C s₀ H₀ fp=>(hif C s₀ H₀ fp).run;have helt:=fun C s₀ H₀ fp=>(helt C s₀ H₀ fp).run;fun pins s σ H Q I h=>by
 obtain⟨H0,ρ,b,E,e,q⟩:=h
 obtain⟨ds,ed,e⟩:=bind_some e
 split at e
 ·rename_i hlen
  obtain⟨out,eo,e⟩:=bind_some e
  cases e
  rw[eval_ListComp]
  refine js (use:=none) rfl hs O.clos O.kind O.names ?_
  refine iR (hi pins s σ H (fun J H'=>Same H H'/\Yields X.K J ds H') I ⟨H0,ρ,ds,E,ed,fun J H' s' y=>⟨s',y⟩⟩) fun v s1 h1=>iR h1 fun itv s2 h2=>?_
  obtain⟨it,fp,tn,J,H2,rfl,I2,T,st,hf,s12,Y⟩:=h2
  refine uf (RR:=fun acc C=>compPost (model X.prog X.w) X.A X.xe none (EP X pins σ Q) acc C) (ts:=ts) (xs:=xs) O hcalm Ei hif helt htk I2 ((E.grow s12).caps is ts.length) T st hf Y hlen eo ?_
  intro D C s' H' us hD I' fC ⟨m,hn⟩ s2' hD' r'
  refine⟨m,hn,fun h' sb=>⟨.ref D,H',?_,rfl,q _ _ (s12.trans s2') (fun a ea=>by cases ea;exact s12.free hD) ⟨D,us,rfl,hD',r'⟩⟩⟩
  obtain⟨f0,f1,f2,f3,f4,f5⟩:=fC
  exact I'.turned (t':=s'.toks) (fun b o hb e=>(sb.2 b hb).trans e) f0 f1 f3 f4 f5
 ·cases e⟩
theorem ug (i:Nat) {y:Str} {py spos:Pos} (ts:List Str) (O:oF X scope cl xs is) (hcalm:X.calm=true) (hN:X.N.Nodup) (hi:Zw X tgt iter fi) (Ei:∀ C s₀ H₀ fp,RW (vI X (xs++ts) scope cl C s₀ H₀ fp) tgt gt) (hif:∀ C s₀ H₀ fp,sU (vI X (xs++ts) scope cl C s₀ H₀ fp) ifs p) (helt:∀ C s₀ H₀ fp,QV (vI X (xs++ts) scope cl C s₀ H₀ fp) elt fe) (htk:NT is.length (is.length+ts.length) gt) (hsw:swapsWith (.ListComp elt [⟨tgt,iter,ifs,0⟩] scope pos) (some (.Name y py)) spos.line X.env=pure true:=by with_unfolding_all rfl) (hy:X.N[i]?=some y:=by rfl) (hx:Loc X.env.scope y:=by first|exact QP rfl|exact qi rfl) (hf:X.fn y=true\/X.env.scope.names.lookup y=some .local:=by first|exact .inl rfl|exact .inr rfl) (hs:∀ x,foldedSetIterable iter X.env x=pure x:=by intro _;rfl):Ml X (.Assign [.Name y py] (.ListComp elt [⟨tgt,iter,ifs,0⟩] scope pos) spos) (fun ρ=>(fM fi gt p fe is ts.length ρ).bind fun b=>(O8 ρ i b).bind fun ρ'=>some (.nx ρ')):=⟨have hi:=hi.run;have Ei:=fun C s₀ H₀ fp=>(Ei C s₀ H₀ fp).run;have hif:=fun C s₀ H₀ fp=>(hif C s₀ H₀ fp).run;have helt:=fun C s₀ H₀ fp=>(helt C s₀ H₀ fp).run;fun pins s σ H D I h=>by
 obtain⟨H0,ρ,r,E,e,q⟩:=h
 obtain⟨b,eb,e⟩:=bind_some e
 obtain⟨ds,ed,eb⟩:=bind_some eb
 split at eb
 ·rename_i hlen
  obtain⟨out,eo,eb⟩:=bind_some eb
  cases eb
  cases e
  rw[exec_Assign_Name_used _ _ _ _ hsw]
  refine zb (Jn (zb ?_))
  show wpAny _ X.A (do let _ <-comprehension (.ListComp elt [⟨tgt,iter,ifs,0⟩] scope pos) scope X.env _ (newList []) false (eval iter X.env) (some (assign (.Name y py) X.env))) _ _ s
  refine zb (ZH (js (use:=some (assign (.Name y py) X.env)) (Q:=fun _ s'=>SP X pins D .next s') rfl hs O.clos O.kind O.names ?_) (fun _ s' hq=>zd (zd hq)) fun _ _ e=>e)
  refine iR (hi pins s σ H (fun J H'=>Same H H'/\Yields X.K J ds H') I ⟨H0,ρ,ds,E,ed,fun J H' s' y=>⟨s',y⟩⟩) fun v s1 h1=>iR h1 fun itv s2 h2=>?_
  obtain⟨it,fp,tn,J,H2,rfl,I2,T,st,hf',s12,Y⟩:=h2
  refine uf (RR:=fun acc C=>compPost (model X.prog X.w) X.A X.xe (some (assign (.Name y py) X.env)) (fun _ s'=>SP X pins D .next s') acc C) (ts:=ts) (xs:=xs) O hcalm Ei hif helt htk I2 ((E.grow s12).caps is ts.length) T st hf' Y hlen eo ?_
  intro Da C s' H' us hD I' fC ⟨m,hn⟩ s2' hD' r'
  show wpAny _ X.A (assign (.Name y py) X.env (.ref Da)) _ _ s'
  obtain⟨f0,f1,f2,f3,f4,f5⟩:=fC
  obtain⟨oC,es',ep,hoC,hdC,hrest⟩:=id hn
  have I'':L2.Inv X (pins++[(C,oC)]) σ H' s':=I'.Cg fun pp hp=>by
   rcases List.mem_append.mp hp with z|z
   ·exact I'.pin pp (Zl _ z)
   ·have:pp=(C,oC):=by simpa using z
    subst this
    exact⟨hoC,f0,f1,f2,fun v z=>by rw[hdC] at z;cases z⟩
  refine iR (L2.Cj hN hy hx hf (pins++[(C,oC)]) s' σ H' (.ref Da) (.ref Da) (fun σ' H''=>σ'=σ.set i (some (.ref Da))/\H''=H') I'' rfl ⟨rfl,rfl⟩) fun _ s'' ⟨σ',H'',J',e1,e2⟩=>?_
  subst e1 e2
  have hC':=(J'.pin (C,oC) (by simp)).1
  refine⟨m,⟨oC,es',ep,hC',hdC,hrest⟩,fun h' sb=>?_⟩
  refine⟨σ.set i (some (.ref Da)),H'',J'.pR.turned (t':=s''.toks) (fun b o hb e=>(sb.2 b hb).trans e) f0 f1 f3 f4 f5,q _ _ ?_⟩
  exact E.set (s12.trans s2') (b:=.o out) ⟨Da,us,rfl,hD',r'⟩ (.inl rfl) fun a ea=>by cases ea;exact s12.free hD
 ·cases eb⟩
def lend:Bx->Bx
 |.o ds=>.l ds
 |.m ds _=>.n ds
 |b=>b
def isO:Bx->Bool
 |.o _=>true
 |.m _ _=>true
 |_=>false
def pP (K:PySem.W.Frag) (n:Nat) (F:List Bx->Option Bx):Sp:=fun vs H Q _=>vs.length=n/\∃ bs r,pG K H bs vs/\bs.all (fun b=>!isO b)=true/\F bs=some r/\∀ v H',Same H H'->Nw H r v->aR K H' r v->Q v H'
def jq (n:Nat) (g:Ev->Option Out):List Bx->Option Bx:=fun bs=>(g (bs.map some++List.replicate (n - bs.length) none)).bind fun r=>match r with
 |.rt b=>some b
 |.nx _=>some (.z .non)
 |_=>none
theorem aQ.start {K:PySem.W.Frag} {H:Hp} {N:List Str} {bs:List Bx} {vs:List V} (r:pG K H bs vs) (ho:bs.all (fun b=>!isO b)=true):aQ K H H (L2.start N vs) (bs.map some++List.replicate (N.length - bs.length) none):=by
 have hl:bs.length=vs.length:=Paired.length r
 have get:∀ (i:Nat) b,(bs.map some++List.replicate (N.length - bs.length) none)[i]?=some (some b)->bs[i]?=some b:=fun i b e=>by
  by_cases hi:i < bs.length
  ·rw[ZO (by simpa using hi),z4] at e
   cases q:bs[i]? with
   |none=>rw[q] at e;cases e
   |some b'=>rw[q] at e;simpa using e
  ·rw[qA (by simp;omega),QN] at e
   split at e<;>cases e
 have RX:∀ (i:Nat) c,(bs.map some++List.replicate (N.length - bs.length) none)[i]?=some (some c)->pZ c=true->False:=fun i c e ec=>by
  have:=List.all_eq_true.mp ho _ (JY (get i _ e))
  cases c with
  |o ds=>cases this
  |m ds _=>cases this
  |_=>cases ec
 refine⟨?_,fun i b e=>?_,fun i j c a b e ec=>(RX i c e ec).elim,Same.refl H,fun i c a e ec=>(RX i c e ec).elim⟩
 ·unfold L2.start
  simp[hl]
 ·have e':=get i b e
  have hi:i < bs.length:=(List.getElem?_eq_some_iff.mp e').1
  have:∀ {bs:List Bx} {vs:List V} {i:Nat} {b:Bx},Paired (aR K H) bs vs->bs[i]?=some b->∃ v,vs[i]?=some v/\aR K H b v:=by
   intro bs vs i b r
   induction r generalizing i with
   |nil=>intro e;simp at e
   |cons p t ih=>
    intro e
    cases i with
    |zero=>simp at e;subst e;exact⟨_,rfl,p⟩
    |succ i=>obtain⟨v,e1,e2⟩:=ih (i:=i) (by simpa using e);exact⟨v,by simpa using e1,e2⟩
  obtain⟨v,e1,e2⟩:=this r e'
  refine⟨v,?_,e2⟩
  unfold L2.start
  rw[ZO (by simp;omega),z4,e1]
  rfl
end
section
variable {P:Program} {w:World} {K:PySem.W.Frag} {mg:Str->Option Value} {base:Heap}
theorem acC {x qual:Str} {st:Stmt} {f:Addr} {fd:FuncData} {N ps:List Str} {k:Nat} {g:Ev->Option Out} (F:zZ K x qual st f fd) (S:cL N ps (aH st))
  (hbody:∀ (cdv:Value) (A:Around) (outer:List Env) (s:Shared) (H:Hp) (E:XK),kh k (A.deeper (envOfC qual (aH st) s.heap.objs.size f cdv))->Ln (Ck nH P w K mg base N qual (aH st) f cdv A outer s H E).N7 (bV st) g) :
  dB P w K mg base nH (k+1) f fd ps (pP K ps.length (jq N.length g)):=by
 refine F.ok S (fun vs H Q E h=>h.1) fun cdv A outer s H vs Q E hr h=>?_
 obtain⟨hl,bs,r,rb,ho,e,q⟩:=h
 refine⟨_,hbody cdv A outer s H E hr,?_⟩
 obtain⟨r',er,e⟩:=bind_some e
 refine⟨H,_,r',aQ.start rb ho,er,?_⟩
 cases r' with
 |rt b=>cases e;exact fun v H' s' n' r'=>q v H' s' n' r'
 |nx ρ=>cases e;exact fun σ H' E'=>q _ H' E'.base trivial (by unfold aR Rep;rfl)
 |bk ρ=>cases e
 |ct ρ=>cases e
end
section
variable {X:Cx} {k:Nat} {f:Addr} {fd:FuncData} {ps:List Str} {F:List Bx->Option Bx} {x:Str} {p pos:Pos} {e:Expr} {es:List Expr} {fs:Ev->Option (List Bx)} {n:Nat}
theorem Ft {K:PySem.W.Frag} {H:Hp}:∀ {bs:List Bx} {vs:List V},pG K H bs vs->pG K H (bs.map lend) vs
 |_,_,.nil=>.nil
 |b::bs,_,.cons h t=>by
  refine .cons ?_ (Ft t)
  cases b with
  |z d=>exact h
  |l ds=>exact h
  |o ds=>obtain⟨a,vs,e,q,r⟩:=h;exact⟨a,vs,e,.inl q,r⟩
  |n ds=>exact h
  |m ds _=>obtain⟨a,vs,e,q,r⟩:=h;exact⟨a,vs,e,.inl q,r.1⟩
theorem Kg:∀ bs:List Bx,(bs.map lend).all (fun b=>!isO b)=true
 |[]=>rfl
 |b::bs=>by
  rw[zl,JE,Kg bs]
  cases b<;>rfl
def fY (n:Nat) (F:List Bx->Option Bx) (fs:Ev->Option (List Bx)):Ev->Option Bx:=fun ρ=>(fs ρ).bind fun bs=>if bs.length=n then F (bs.map lend) else none
theorem cN (G:dB X.prog X.w X.K X.mg X.base nH k f fd ps (pP X.K n F)) (hr:kh k X.A) (hg:Gl X x) (hm:X.mg x=some (.ref f)) (hk:PySem.W.keepIn X.K (.ref f)=true) (hb:Binds X.K fd ps []) (ha:RV X (e::es) fs) (hdb:(x==("__debug__" : Str))=false:=by decide) (he:starEach (e::es) X.env=(false,eval e X.env)::starEach es X.env:=by rfl) (hpl:(backTo pos (starEach es X.env)).any (·.1)=false:=by rfl):QV X (.Call (.Name x p) (e::es) [] pos) (fY n F fs):=⟨have ha:=ha.run;Cw (Sh G hr hg hm hk hb .nil (aav) ha hdb he hpl) fun σ H Q h=>by
 obtain⟨H0,ρ,r,E,e,q⟩:=h
 obtain⟨bs,eb,e⟩:=bind_some e
 refine⟨H0,ρ,bs,E,eb,fun vs H1 s1 r1=>?_⟩
 split at e
 ·rename_i hn
  rw[List.append_nil]
  exact⟨by rw[<-Paired.length r1];exact hn,_,r,Ft r1,Kg bs,e,fun v H2 s2 n2 r2=>q v H2 (s1.trans s2) (n2.old s1) r2⟩
 ·cases e⟩
end
end P1
end
section
namespace P1
open PySem PySem.Spec PyProof.Rows L2 SeqAt
mutual
def rJ:Dt->Nat
 |.tup xs=>qd xs+1
 |.lst xs=>qd xs+1
 |_=>1
def qd:List Dt->Nat
 |[]=>0
 |d::ds=>max (rJ d) (qd ds)
end
mutual
def uh:Dt->Dt->Option Bool
 |.non,.non=>some true
 |.non,.bl _=>some false|.non,.int _=>some false|.non,.str _=>some false|.non,.tup _=>some false|.non,.lst _=>some false
 |.bl a,.bl b=>some (a==b)
 |.bl a,.int b=>some ((if a then 1 else 0)==b)
 |.bl _,.non=>some false|.bl _,.str _=>some false|.bl _,.tup _=>some false|.bl _,.lst _=>some false
 |.int a,.int b=>some (a==b)
 |.int a,.bl b=>some (a==(if b then 1 else 0))
 |.int _,.non=>some false|.int _,.str _=>some false|.int _,.tup _=>some false|.int _,.lst _=>some false
 |.str a,.str b=>some (a==b)
 |.str _,.non=>some false|.str _,.bl _=>some false|.str _,.int _=>some false|.str _,.tup _=>some false|.str _,.lst _=>some false
 |.tup xs,.tup ys=>jJ xs ys
 |.tup _,.non=>some false|.tup _,.bl _=>some false|.tup _,.int _=>some false|.tup _,.str _=>some false|.tup _,.lst _=>some false
 |.lst xs,.lst ys=>jJ xs ys
 |.lst _,.non=>some false|.lst _,.bl _=>some false|.lst _,.int _=>some false|.lst _,.str _=>some false|.lst _,.tup _=>some false
 |_,_=>none
def jJ:List Dt->List Dt->Option Bool
 |[],[]=>some true
 |[],_::_=>some false
 |_::_,[]=>some false
 |x::xs,y::ys=>match uh x y with
  |some b=>match jJ xs ys with
   |some c=>some (b&&c)
   |none=>none
  |none=>none
end
mutual
theorem Fv:∀ {d:Dt} {k:Bool},uh d d=some k->k=true
 |.non,_,e=>by cases e;rfl
 |.bl b,_,e=>by cases e;simp
 |.int b,_,e=>by cases e;simp
 |.str b,_,e=>by cases e;simp
 |.tup xs,_,e=>vU (ds:=xs) e
 |.lst xs,_,e=>vU (ds:=xs) e
 |.emp,_,e=>by cases e
theorem vU:∀ {ds:List Dt} {k:Bool},jJ ds ds=some k->k=true
 |[],_,e=>by simp only[jJ] at e;cases e;rfl
 |d::ds,_,e=>by
  simp only[jJ] at e
  cases h:uh d d with
  |none=>rw[h] at e;cases e
  |some b=>
   rw[h] at e
   simp only at e
   cases h2:jJ ds ds with
   |none=>rw[h2] at e;cases e
   |some c=>
    rw[h2] at e
    cases e
    rw[Fv h,vU h2]
    rfl
end
theorem xQ (xs ys:List Dt):uh (.tup xs) (.tup ys)=jJ xs ys:=rfl
theorem qe:∀ {xs ys:List Dt} {k:Bool},jJ xs ys=some k->∃ e:Nat->Bool,(∀ (j:Nat) x y,xs[j]?=some x->ys[j]?=some y->uh x y=some (e j))/\k=((List.range (min xs.length ys.length)).all e&&xs.length==ys.length)
 |[],[],k,h=>by simp only[jJ] at h;cases h;exact⟨fun _=>true,fun j x y e=>by simp at e,by simp⟩
 |[],y::ys,k,h=>by simp only[jJ] at h;cases h;exact⟨fun _=>true,fun j x y e=>by simp at e,by simp⟩
 |x::xs,[],k,h=>by simp only[jJ] at h;cases h;exact⟨fun _=>true,fun j x y _ e=>by simp at e,by simp⟩
 |x::xs,y::ys,k,h=>by
  simp only[jJ] at h
  cases h1:uh x y with
  |none=>rw[h1] at h;cases h
  |some b=>
   rw[h1] at h
   simp only at h
   cases h2:jJ xs ys with
   |none=>rw[h2] at h;cases h
   |some c=>
    rw[h2] at h
    cases h
    obtain⟨e,g,hc⟩:=qe h2
    refine⟨fun j=>match j with|0=>b|j+1=>e j,fun j u v eu ev=>?_,?_⟩
    ·cases j with
     |zero=>simp at eu ev;subst eu ev;exact h1
     |succ j=>exact g j u v (by simpa using eu) (by simpa using ev)
    ·have:min (x::xs).length (y::ys).length=min xs.length ys.length+1:=by simp only[qf];omega
     rw[this,List.range_succ_eq_map,JE,List.all_map,hc]
     have hb:((x::xs).length==(y::ys).length)=(xs.length==ys.length):=by
      rw[ki];simp
     rw[hb,Bool.and_assoc]
     rfl
theorem qg:∀ {ds:List Dt} {j:Nat} {d:Dt},ds[j]?=some d->rJ d<=qd ds
 |[],_,_,e=>by simp at e
 |d::ds,0,_,e=>by simp at e;subst e;simp only[qd];exact Nat.le_max_left _ _
 |d::ds,j+1,_,e=>by
  simp only[qd]
  exact zv (qg (ds:=ds) (j:=j) (by simpa using e)) (Nat.le_max_right _ _)
section
variable {X:Cx} {pins:List (Addr×Obj)} {σ:L2.St} {H:Hp} {s:Shared}
theorem xR (I:L2.Inv X pins σ H s) {a:Addr} {vs:List V} (h:tO X.K H a vs):∃ ob,s.heap.get? a=some ob/\ob.cls=.type "tuple" := by
 obtain⟨its,_,⟨ob,e,c,_⟩,_⟩:=I.tuple h
 exact⟨ob,e,c⟩
theorem xT (I:L2.Inv X pins σ H s) {a:Addr} {vs:List V} (h:nF X.K H a vs):∃ ob,s.heap.get? a=some ob/\ob.cls=.type "list" := by
 obtain⟨its,_,⟨ob,n,e,c,_⟩,_⟩:=I.list h
 exact⟨ob,e,c⟩
theorem oH (I:L2.Inv X pins σ H s) {a:Addr} {o:Obj} (h:H a=some (.lq o (.dK []))):∃ ob,s.heap.get? a=some ob/\ob.cls=.type "dict" := by
 obtain⟨e,_,_,vs,_,ob,es,ep,e2,ex,_⟩:=I.hok a _ h
 exact⟨ob,e2,ex.1⟩
theorem vV {a:Addr} {n m:String} (h:∃ ob,s.heap.get? a=some ob/\ob.cls=.type n) (q:∃ ob,s.heap.get? a=some ob/\ob.cls=.type m) (hn:n≠m):False:=by
 obtain⟨o,e,c⟩:=h
 obtain⟨o',e',c'⟩:=q
 rw[e] at e';cases e'
 rw[c] at c'
 exact hn (by injection c')
mutual
theorem Rep.inj (I:L2.Inv X pins σ H s):∀ {d e:Dt} {v:V},Rep X.K H d v->Rep X.K H e v->d=e
 |.non,e,v,h,q=>by
  simp only[Rep] at h;subst h
  cases e<;>simp only[Rep] at q<;>first|rfl|(cases q;done)|(obtain⟨a,b,z,_⟩:=q;cases z;done)|(obtain⟨z,_⟩:=q;cases z;done)
 |.bl _,e,v,h,q=>by
  simp only[Rep] at h;subst h
  cases e<;>simp only[Rep] at q<;>first|(cases q;rfl)|(cases q;done)|(obtain⟨a,b,z,_⟩:=q;cases z;done)|(obtain⟨z,_⟩:=q;cases z;done)
 |.int _,e,v,h,q=>by
  simp only[Rep] at h;subst h
  cases e<;>simp only[Rep] at q<;>first|(cases q;rfl)|(cases q;done)|(obtain⟨a,b,z,_⟩:=q;cases z;done)|(obtain⟨z,_⟩:=q;cases z;done)
 |.str x,e,v,h,q=>by
  simp only[Rep] at h
  have hv:v=.str x:=h.1
  subst hv
  cases e with
  |str y=>
   simp only[Rep] at q
   have z:V.str x=V.str y:=q.1
   injection z with z
   rw[z]
  |tup es=>simp only[Rep] at q;obtain⟨a,b,z,_⟩:=q;cases z
  |lst es=>simp only[Rep] at q;obtain⟨a,b,z,_⟩:=q;cases z
  |emp=>simp only[Rep] at q;obtain⟨a,b,z,_⟩:=q;cases z
  |_=>simp only[Rep] at q;cases q
 |.tup ds,e,v,h,q=>by
  simp only[Rep] at h
  obtain⟨a,vs,rfl,sq,r⟩:=h
  cases e with
  |tup es=>
   simp only[Rep] at q
   obtain⟨b,us,z,Ik,r'⟩:=q
   cases z
   have:=I.Ax sq Ik
   subst this
   rw[aF.inj I r r']
  |lst es=>
   simp only[Rep] at q
   obtain⟨b,us,z,Ik,r'⟩:=q
   cases z
   exact (vV (xR I sq) (xT I Ik.sq) (by decide)).elim
  |emp=>
   simp only[Rep] at q
   obtain⟨b,o,z,Ik⟩:=q
   cases z
   exact (vV (xR I sq) (oH I Ik) (by decide)).elim
  |str x=>simp only[Rep] at q;have z:=q.1;cases z
  |_=>simp only[Rep] at q;cases q
 |.lst ds,e,v,h,q=>by
  simp only[Rep] at h
  obtain⟨a,vs,rfl,sq,r⟩:=h
  cases e with
  |lst es=>
   simp only[Rep] at q
   obtain⟨b,us,z,Ik,r'⟩:=q
   cases z
   have:=I.yc sq.sq Ik.sq
   subst this
   rw[aF.inj I r r']
  |tup es=>
   simp only[Rep] at q
   obtain⟨b,us,z,Ik,r'⟩:=q
   cases z
   exact (vV (xT I sq.sq) (xR I Ik) (by decide)).elim
  |emp=>
   simp only[Rep] at q
   obtain⟨b,o,z,Ik⟩:=q
   cases z
   exact (vV (xT I sq.sq) (oH I Ik) (by decide)).elim
  |str x=>simp only[Rep] at q;have z:=q.1;cases z
  |_=>simp only[Rep] at q;cases q
 |.emp,e,v,h,q=>by
  simp only[Rep] at h
  obtain⟨a,o,rfl,sq⟩:=h
  cases e with
  |emp=>rfl
  |tup es=>
   simp only[Rep] at q
   obtain⟨b,us,z,Ik,r'⟩:=q
   cases z
   exact (vV (oH I sq) (xR I Ik) (by decide)).elim
  |lst es=>
   simp only[Rep] at q
   obtain⟨b,us,z,Ik,r'⟩:=q
   cases z
   exact (vV (oH I sq) (xT I Ik.sq) (by decide)).elim
  |str x=>simp only[Rep] at q;have z:=q.1;cases z
  |_=>simp only[Rep] at q;cases q
theorem aF.inj (I:L2.Inv X pins σ H s):∀ {ds es:List Dt} {vs:List V},aF X.K H ds vs->aF X.K H es vs->ds=es
 |[],es,vs,h,q=>by
  simp only[aF] at h;subst h
  cases es with
  |nil=>rfl
  |cons e es=>simp only[aF] at q;obtain⟨_,_,z,_⟩:=q;cases z
 |d::ds,es,vs,h,q=>by
  simp only[aF] at h
  obtain⟨v,r,rfl,h1,h2⟩:=h
  cases es with
  |nil=>simp only[aF] at q;cases q
  |cons e es=>
   simp only[aF] at q
   obtain⟨v',r',z,q1,q2⟩:=q
   cases z
   rw[Rep.inj I h1 q1,aF.inj I h2 q2]
end
theorem V0 (I:L2.Inv X pins σ H s):∀ (n:Nat) {A:Around} {d e:Dt} {x y:V} {u v:Value} {k:Bool},min (rJ d) (rJ e)<=n->A.units+n < cLine->Rep X.K H d x->Rep X.K H e y->RelV x u->RelV y v->uh d e=some k->EqAt A s u v k:=by
 intro n
 induction n with
 |zero=>
  intro A d e x y u v k hn
  have h1:1<=rJ d:=by cases d<;>simp only[rJ]<;>omega
  have h2:1<=rJ e:=by cases e<;>simp only[rJ]<;>omega
  omega
 |succ n ih=>
  intro A d e x y u v k hn hA rd re ru rv ek
  have hu:A.units < cLine:=by omega
  by_cases hxy:u=v/\∃ a,u=.ref a
  ·obtain⟨rfl,a,rfl⟩:=hxy
   have hx:x=.ref a:=by have:=ru.abs;simpa [WQ] using this.symm
   have hy:y=.ref a:=by have:=rv.abs;simpa [WQ] using this.symm
   subst hx hy
   have:=Rep.inj I rd re
   subst this
   rw[Fv ek]
   exact EqAt.same _
  ·have items:∀ {ds es:List Dt} {vs us:List V} {its its2:List Value} {f:Nat->Bool},min (qd ds) (qd es)<=n->aF X.K H ds vs->aF X.K H es us->Vals vs its->Vals us its2->(∀ (j:Nat) x y,ds[j]?=some x->es[j]?=some y->uh x y=some (f j)) →
     ∀ j (h1:j < its.toArray.size) (h2:j < its2.toArray.size),EqAt A.in1 s its.toArray[j] its2.toArray[j] (f j):=by
    intro ds es vs us its its2 f hm r1 r2 w1 w2 hf j h1 h2
    have l1:=w1.length
    have l2:=w2.length
    have l3:=r1.length
    have l4:=r2.length
    have j1:j < its.length:=by simpa using h1
    have j2:j < its2.length:=by simpa using h2
    have d1:ds[j]?=some ds[j]:=by simp
    have d2:es[j]?=some es[j]:=by simp
    obtain⟨a,ea,ra⟩:=r1.get d1
    obtain⟨b,eb,rb⟩:=r2.get d2
    obtain⟨p,ep,rp⟩:=w1.get ea
    obtain⟨q,eq,rq⟩:=w2.get eb
    have e1:its.toArray[j]=p:=by simpa [j1] using ep
    have e2:its2.toArray[j]=q:=by simpa [j2] using eq
    rw[e1,e2]
    have m1:=qg d1
    have m2:=qg d2
    exact ih (by omega) (by rw[units_in1];omega) ra rb rp rq (hf j _ _ d1 d2)
   cases d with
   |non=>
    cases rd;cases ru
    cases e with
    |non=>cases re;cases rv;cases ek;exact EqAt.same _
    |bl b=>cases re;cases rv;cases ek;exact EqAt.none_bool b
    |int b=>cases re;obtain⟨t,rfl⟩:=rv;cases ek;exact EqAt.none_int b t
    |str b=>obtain⟨rfl,_⟩:=re;obtain⟨t,rfl⟩:=rv;cases ek;exact EqAt.none_str b t
    |tup es=>obtain⟨b,us,rfl,sq,_⟩:=re;cases rv;cases ek;obtain⟨_,_,p,_⟩:=I.tuple sq;exact EqAt.none_tuple p hu
    |lst es=>obtain⟨b,us,rfl,sq,_⟩:=re;cases rv;cases ek;obtain⟨_,_,p,_⟩:=I.list sq.sq;exact EqAt.none_list p.isList hu
    |emp=>cases ek
   |bl a=>
    cases rd;cases ru
    cases e with
    |non=>cases re;cases rv;cases ek;exact EqAt.bool_none a
    |bl b=>cases re;cases rv;cases ek;exact EqAt.bool_bool a b
    |int b=>cases re;obtain⟨t,rfl⟩:=rv;cases ek;exact EqAt.bool_int a b t
    |str b=>obtain⟨rfl,_⟩:=re;obtain⟨t,rfl⟩:=rv;cases ek;exact EqAt.bool_str a b t
    |tup es=>obtain⟨b,us,rfl,sq,_⟩:=re;cases rv;cases ek;obtain⟨_,_,p,_⟩:=I.tuple sq;exact EqAt.bool_tuple a p hu
    |lst es=>obtain⟨b,us,rfl,sq,_⟩:=re;cases rv;cases ek;obtain⟨_,_,p,_⟩:=I.list sq.sq;exact EqAt.bool_list a p.isList hu
    |emp=>cases ek
   |int a=>
    cases rd;obtain⟨t',rfl⟩:=ru
    cases e with
    |non=>cases re;cases rv;cases ek;exact EqAt.int_none a t'
    |bl b=>cases re;cases rv;cases ek;exact EqAt.int_bool a t' b
    |int b=>cases re;obtain⟨t,rfl⟩:=rv;cases ek;exact EqAt.int_int a t' b t
    |str b=>obtain⟨rfl,_⟩:=re;obtain⟨t,rfl⟩:=rv;cases ek;exact EqAt.int_str a t' b t
    |tup es=>obtain⟨b,us,rfl,sq,_⟩:=re;cases rv;cases ek;obtain⟨_,_,p,_⟩:=I.tuple sq;exact EqAt.int_tuple a t' p hu
    |lst es=>obtain⟨b,us,rfl,sq,_⟩:=re;cases rv;cases ek;obtain⟨_,_,p,_⟩:=I.list sq.sq;exact EqAt.int_list a t' p.isList hu
    |emp=>cases ek
   |str a=>
    obtain⟨rfl,_⟩:=rd;obtain⟨t',rfl⟩:=ru
    cases e with
    |non=>cases re;cases rv;cases ek;exact EqAt.str_none a t'
    |bl b=>cases re;cases rv;cases ek;exact EqAt.str_bool a t' b
    |int b=>cases re;obtain⟨t,rfl⟩:=rv;cases ek;exact EqAt.str_int a t' b t
    |str b=>obtain⟨rfl,_⟩:=re;obtain⟨t,rfl⟩:=rv;cases ek;exact EqAt.str_str a t' b t
    |tup es=>obtain⟨b,us,rfl,sq,_⟩:=re;cases rv;cases ek;obtain⟨_,_,p,_⟩:=I.tuple sq;exact EqAt.str_tuple a t' p hu
    |lst es=>obtain⟨b,us,rfl,sq,_⟩:=re;cases rv;cases ek;obtain⟨_,_,p,_⟩:=I.list sq.sq;exact EqAt.str_list a t' p.isList hu
    |emp=>cases ek
   |tup ds=>
    obtain⟨a,vs,rfl,sa,ra⟩:=rd;cases ru
    obtain⟨its,wv,p,_⟩:=I.tuple sa
    cases e with
    |non=>cases re;cases rv;cases ek;exact EqAt.tuple_none p hu
    |bl b=>cases re;cases rv;cases ek;exact EqAt.tuple_bool b p hu
    |int b=>cases re;obtain⟨t,rfl⟩:=rv;cases ek;exact EqAt.tuple_int b t p hu
    |str b=>obtain⟨rfl,_⟩:=re;obtain⟨t,rfl⟩:=rv;cases ek;exact EqAt.tuple_str b t p hu
    |lst es=>obtain⟨b,us,rfl,sq,_⟩:=re;cases rv;cases ek;obtain⟨_,_,p2,_⟩:=I.list sq.sq;exact EqAt.tuple_list p p2.isList hu
    |tup es=>
     obtain⟨b,us,rfl,sb,rb⟩:=re;cases rv
     obtain⟨its2,wu,p2,_⟩:=I.tuple sb
     change jJ _ _=some _ at ek
     obtain⟨f,hf,rfl⟩:=qe ek
     have hne:a≠b:=fun z=>hxy ⟨by rw[z],a,rfl⟩
     have z:=EqAt.of_refs hne (RcAt.tuples (A:=A) (e:=f) p p2 hu (items (by simp only[rJ] at hn;omega) ra rb wv wu hf))
     have q1:its.toArray.size=ds.length:=by rw[zt,<-wv.length,ra.length]
     have q2:its2.toArray.size=es.length:=by rw[zt,<-wu.length,rb.length]
     rw[q1,q2] at z
     exact z
    |emp=>cases ek
   |lst ds=>
    obtain⟨a,vs,rfl,sa,ra⟩:=rd;cases ru
    obtain⟨its,wv,p,_⟩:=I.list sa.sq
    cases e with
    |non=>cases re;cases rv;cases ek;exact EqAt.list_none p.isList hu
    |bl b=>cases re;cases rv;cases ek;exact EqAt.list_bool b p.isList hu
    |int b=>cases re;obtain⟨t,rfl⟩:=rv;cases ek;exact EqAt.list_int b t p.isList hu
    |str b=>obtain⟨rfl,_⟩:=re;obtain⟨t,rfl⟩:=rv;cases ek;exact EqAt.list_str b t p.isList hu
    |tup es=>obtain⟨b,us,rfl,sq,_⟩:=re;cases rv;cases ek;obtain⟨_,_,p2,_⟩:=I.tuple sq;exact EqAt.list_tuple p.isList p2 hu
    |lst es=>
     obtain⟨b,us,rfl,sb,rb⟩:=re;cases rv
     obtain⟨its2,wu,p2,_⟩:=I.list sb.sq
     change jJ _ _=some _ at ek
     obtain⟨f,hf,rfl⟩:=qe ek
     have hne:a≠b:=fun z=>hxy ⟨by rw[z],a,rfl⟩
     have q1:its.toArray.size=ds.length:=by rw[zt,<-wv.length,ra.length]
     have q2:its2.toArray.size=es.length:=by rw[zt,<-wu.length,rb.length]
     by_cases hsz:its.toArray.size=its2.toArray.size
     ·have z:=EqAt.of_refs hne (RcAt.lists (A:=A) (e:=f) p.isList p2.isList hsz hu (items (by simp only[rJ] at hn;omega) ra rb wv wu hf))
      have hl:ds.length=es.length:=by omega
      rw[q1] at z
      rw[hl,Nat.min_self,beq_self_eq_true,kC,<-hl]
      exact z
     ·have hl:(ds.length==es.length)=false:=by rw[beq_eq_false_iff_ne];omega
      rw[hl,Bool.and_false]
      exact EqAt.of_refs hne (RcAt.lists_lengths p.isList p2.isList (by simpa using hsz) hu)
    |emp=>cases ek
   |emp=>cases e<;>cases ek
theorem Fw (I:L2.Inv X pins σ H s) {n:Nat} {A:Around} {ds es:List Dt} {vs us:List V} {its its2:List Value} {f:Nat->Bool} (hm:min (qd ds) (qd es)<=n) (hA:A.units+n+1 < cLine) (r1:aF X.K H ds vs) (r2:aF X.K H es us) (w1:Vals vs its) (w2:Vals us its2)
  (hf:∀ (j:Nat) x y,ds[j]?=some x->es[j]?=some y->uh x y=some (f j)):∀ j (h1:j < its.toArray.size) (h2:j < its2.toArray.size),EqAt A.in1 s its.toArray[j] its2.toArray[j] (f j):=by
 intro j h1 h2
 have l1:=w1.length
 have l2:=w2.length
 have l3:=r1.length
 have l4:=r2.length
 have j1:j < its.length:=by simpa using h1
 have j2:j < its2.length:=by simpa using h2
 have d1:ds[j]?=some (ds[j]'(by omega)):=by simp
 have d2:es[j]?=some (es[j]'(by omega)):=by simp
 obtain⟨a,ea,ra⟩:=r1.get d1
 obtain⟨b,eb,rb⟩:=r2.get d2
 obtain⟨p,ep,rp⟩:=w1.get ea
 obtain⟨q,eq,rq⟩:=w2.get eb
 have e1:its.toArray[j]=p:=by simpa [j1] using ep
 have e2:its2.toArray[j]=q:=by simpa [j2] using eq
 rw[e1,e2]
 have m1:=qg d1
 have m2:=qg d2
 exact V0 I n (by omega) (by rw[units_in1];omega) ra rb rp rq (hf j _ _ d1 d2)
end
def jK (K:PySem.W.Frag) (H:Hp):Dt->V->Prop
 |.lst ds,v=>∃ a vs,v=.ref a/\nF K H a vs/\aF K H ds vs
 |d,v=>Rep K H d v
def lH:Bx->Bool
 |.n _=>true
 |.m _ _=>true
 |_=>false
def toD:Bx->Dt
 |.z d=>d
 |.l ds=>.lst ds
 |.o ds=>.lst ds
 |.n _=>.non
 |.m _ _=>.non
theorem aR.toD {K:PySem.W.Frag} {H:Hp} {b:Bx} {v:V} (h:aR K H b v) (hm:lH b=false):jK K H (toD b) v:=by
 cases b with
 |z d=>
  cases d with
  |lst ds=>exact h.z6 rfl
  |_=>exact h
 |l ds=>exact h.z6 rfl
 |o ds=>exact h.z6 rfl
 |n _=>cases hm
 |m _ _=>cases hm
section
variable {X:Cx} {pins:List (Addr×Obj)} {σ:L2.St} {H:Hp} {s:Shared}
theorem Kh (I:L2.Inv X pins σ H s) {d e:Dt} {x y:V} {u v:Value} {k:Bool} (hm:min (rJ d) (rJ e)<=100) (hA:X.A.units+100 < cLine) (rd:jK X.K H d x) (re:jK X.K H e y) (ru:RelV x u) (rv:RelV y v) (ek:uh d e=some k):RcAt X.A s u v k/\RcNeAt X.A s u v (!k):=by
 have hu:X.A.units < cLine:=by omega
 cases d with
 |non=>
  cases rd;cases ru
  cases e with
  |non=>
   cases re;cases rv
   cases ek
   exact⟨.none_none,.none_none⟩
  |bl x2=>
   cases re;cases rv
   cases ek
   exact⟨.none_bool x2,.none_bool x2⟩
  |int x2=>
   cases re;obtain⟨t2,rfl⟩:=rv
   cases ek
   exact⟨.none_int x2 t2,.none_int x2 t2⟩
  |str x2=>
   obtain⟨rfl,_⟩:=re;obtain⟨t2,rfl⟩:=rv
   cases ek
   exact⟨.none_str x2 t2,.none_str x2 t2⟩
  |tup x2=>
   obtain⟨a2,vs2,rfl,yx,Il⟩:=re;cases rv;obtain⟨its2,w2,p2,_⟩:=I.tuple yx
   cases ek
   exact⟨.none_tuple p2 hu,.none_tuple p2 hu⟩
  |lst x2=>
   obtain⟨a2,vs2,rfl,yx,Il⟩:=re;cases rv;obtain⟨its2,w2,p2,_⟩:=I.list yx
   cases ek
   exact⟨.none_list p2.isList hu,.none_list p2.isList hu⟩
  |emp=>cases ek
 |bl x1=>
  cases rd;cases ru
  cases e with
  |non=>
   cases re;cases rv
   cases ek
   exact⟨.bool_none x1,.bool_none x1⟩
  |bl x2=>
   cases re;cases rv
   cases ek
   exact⟨.bool_bool x1 x2,.bool_bool x1 x2⟩
  |int x2=>
   cases re;obtain⟨t2,rfl⟩:=rv
   cases ek
   exact⟨.bool_int x1 x2 t2,.bool_int x1 x2 t2⟩
  |str x2=>
   obtain⟨rfl,_⟩:=re;obtain⟨t2,rfl⟩:=rv
   cases ek
   exact⟨.bool_str x1 x2 t2,.bool_str x1 x2 t2⟩
  |tup x2=>
   obtain⟨a2,vs2,rfl,yx,Il⟩:=re;cases rv;obtain⟨its2,w2,p2,_⟩:=I.tuple yx
   cases ek
   exact⟨.bool_tuple x1 p2 hu,.bool_tuple x1 p2 hu⟩
  |lst x2=>
   obtain⟨a2,vs2,rfl,yx,Il⟩:=re;cases rv;obtain⟨its2,w2,p2,_⟩:=I.list yx
   cases ek
   exact⟨.bool_list x1 p2.isList hu,.bool_list x1 p2.isList hu⟩
  |emp=>cases ek
 |int x1=>
  cases rd;obtain⟨t1,rfl⟩:=ru
  cases e with
  |non=>
   cases re;cases rv
   cases ek
   exact⟨.int_none x1 t1,.int_none x1 t1⟩
  |bl x2=>
   cases re;cases rv
   cases ek
   exact⟨.int_bool x1 t1 x2,.int_bool x1 t1 x2⟩
  |int x2=>
   cases re;obtain⟨t2,rfl⟩:=rv
   cases ek
   exact⟨.int_int x1 t1 x2 t2,.int_int x1 t1 x2 t2⟩
  |str x2=>
   obtain⟨rfl,_⟩:=re;obtain⟨t2,rfl⟩:=rv
   cases ek
   exact⟨.int_str x1 t1 x2 t2,.int_str x1 t1 x2 t2⟩
  |tup x2=>
   obtain⟨a2,vs2,rfl,yx,Il⟩:=re;cases rv;obtain⟨its2,w2,p2,_⟩:=I.tuple yx
   cases ek
   exact⟨.int_tuple x1 t1 p2 hu,.int_tuple x1 t1 p2 hu⟩
  |lst x2=>
   obtain⟨a2,vs2,rfl,yx,Il⟩:=re;cases rv;obtain⟨its2,w2,p2,_⟩:=I.list yx
   cases ek
   exact⟨.int_list x1 t1 p2.isList hu,.int_list x1 t1 p2.isList hu⟩
  |emp=>cases ek
 |str x1=>
  obtain⟨rfl,_⟩:=rd;obtain⟨t1,rfl⟩:=ru
  cases e with
  |non=>
   cases re;cases rv
   cases ek
   exact⟨.str_none x1 t1,.str_none x1 t1⟩
  |bl x2=>
   cases re;cases rv
   cases ek
   exact⟨.str_bool x1 t1 x2,.str_bool x1 t1 x2⟩
  |int x2=>
   cases re;obtain⟨t2,rfl⟩:=rv
   cases ek
   exact⟨.str_int x1 t1 x2 t2,.str_int x1 t1 x2 t2⟩
  |str x2=>
   obtain⟨rfl,_⟩:=re;obtain⟨t2,rfl⟩:=rv
   cases ek
   exact⟨.str_str x1 t1 x2 t2,.str_str x1 t1 x2 t2⟩
  |tup x2=>
   obtain⟨a2,vs2,rfl,yx,Il⟩:=re;cases rv;obtain⟨its2,w2,p2,_⟩:=I.tuple yx
   cases ek
   exact⟨.str_tuple x1 t1 p2 hu,.str_tuple x1 t1 p2 hu⟩
  |lst x2=>
   obtain⟨a2,vs2,rfl,yx,Il⟩:=re;cases rv;obtain⟨its2,w2,p2,_⟩:=I.list yx
   cases ek
   exact⟨.str_list x1 t1 p2.isList hu,.str_list x1 t1 p2.isList hu⟩
  |emp=>cases ek
 |tup x1=>
  obtain⟨a1,vs1,rfl,sq1,rr1⟩:=rd;cases ru;obtain⟨TQ,w1,p1,_⟩:=I.tuple sq1
  cases e with
  |non=>
   cases re;cases rv
   cases ek
   exact⟨.tuple_none p1 hu,.tuple_none p1 hu⟩
  |bl x2=>
   cases re;cases rv
   cases ek
   exact⟨.tuple_bool x2 p1 hu,.tuple_bool x2 p1 hu⟩
  |int x2=>
   cases re;obtain⟨t2,rfl⟩:=rv
   cases ek
   exact⟨.tuple_int x2 t2 p1 hu,.tuple_int x2 t2 p1 hu⟩
  |str x2=>
   obtain⟨rfl,_⟩:=re;obtain⟨t2,rfl⟩:=rv
   cases ek
   exact⟨.tuple_str x2 t2 p1 hu,.tuple_str x2 t2 p1 hu⟩
  |tup x2=>
   obtain⟨a2,vs2,rfl,yx,Il⟩:=re;cases rv;obtain⟨its2,w2,p2,_⟩:=I.tuple yx
   change jJ _ _=some _ at ek
   obtain⟨f,hf,rfl⟩:=qe ek
   have q1:TQ.toArray.size=x1.length:=by rw[zt,<-w1.length,rr1.length]
   have q2:its2.toArray.size=x2.length:=by rw[zt,<-w2.length,Il.length]
   have it:=Fw I (n:=99) (A:=X.A) (by simp only[rJ] at hm;omega) (by omega) rr1 Il w1 w2 hf
   rw[<-q1,<-q2]
   exact⟨.tuples p1 p2 hu it,.tuples p1 p2 hu it⟩
  |lst x2=>
   obtain⟨a2,vs2,rfl,yx,Il⟩:=re;cases rv;obtain⟨its2,w2,p2,_⟩:=I.list yx
   cases ek
   exact⟨.tuple_list p1 p2.isList hu,.tuple_list p1 p2.isList hu⟩
  |emp=>cases ek
 |lst x1=>
  obtain⟨a1,vs1,rfl,sq1,rr1⟩:=rd;cases ru;obtain⟨TQ,w1,p1,_⟩:=I.list sq1
  cases e with
  |non=>
   cases re;cases rv
   cases ek
   exact⟨.list_none p1.isList hu,.list_none p1.isList hu⟩
  |bl x2=>
   cases re;cases rv
   cases ek
   exact⟨.list_bool x2 p1.isList hu,.list_bool x2 p1.isList hu⟩
  |int x2=>
   cases re;obtain⟨t2,rfl⟩:=rv
   cases ek
   exact⟨.list_int x2 t2 p1.isList hu,.list_int x2 t2 p1.isList hu⟩
  |str x2=>
   obtain⟨rfl,_⟩:=re;obtain⟨t2,rfl⟩:=rv
   cases ek
   exact⟨.list_str x2 t2 p1.isList hu,.list_str x2 t2 p1.isList hu⟩
  |tup x2=>
   obtain⟨a2,vs2,rfl,yx,Il⟩:=re;cases rv;obtain⟨its2,w2,p2,_⟩:=I.tuple yx
   cases ek
   exact⟨.list_tuple p1.isList p2 hu,.list_tuple p1.isList p2 hu⟩
  |lst x2=>
   obtain⟨a2,vs2,rfl,yx,Il⟩:=re;cases rv;obtain⟨its2,w2,p2,_⟩:=I.list yx
   change jJ _ _=some _ at ek
   obtain⟨f,hf,rfl⟩:=qe ek
   have q1:TQ.toArray.size=x1.length:=by rw[zt,<-w1.length,rr1.length]
   have q2:its2.toArray.size=x2.length:=by rw[zt,<-w2.length,Il.length]
   have it:=Fw I (n:=99) (A:=X.A) (by simp only[rJ] at hm;omega) (by omega) rr1 Il w1 w2 hf
   by_cases hsz:TQ.toArray.size=its2.toArray.size
   ·have hl:x1.length=x2.length:=by omega
    rw[hl,Nat.min_self,beq_self_eq_true,kC,<-hl,<-q1]
    exact⟨.lists p1.isList p2.isList hsz hu it,.lists p1.isList p2.isList hsz hu it⟩
   ·have hl:(x1.length==x2.length)=false:=by rw[beq_eq_false_iff_ne];omega
    rw[hl,Bool.and_false]
    exact⟨.lists_lengths p1.isList p2.isList (by simpa using hsz) hu,.lists_lengths p1.isList p2.isList (by simpa using hsz) hu⟩
  |emp=>cases ek
 |emp=>cases e<;>cases ek
def eqB (a b:Bx):Option Bx:=if lH a=true\/lH b=true then none else if min (rJ (toD a)) (rJ (toD b))<=100 then (uh (toD a) (toD b)).bind fun k=>some (.z (.bl k)) else none
def Kl (a b:Bx):Option Bx:=if lH a=true\/lH b=true then none else if min (rJ (toD a)) (rJ (toD b))<=100 then (uh (toD a) (toD b)).bind fun k=>some (.z (.bl (!k))) else none
theorem of_eq (hu:X.A.units+100 < cLine):Cy X (compareOp .Eq) eqB:=by
 intro pins s σ H x y v u Q I rx ry h
 obtain⟨a,b,c,ra,rb,e,q⟩:=h
 unfold eqB at e
 split at e
 ·cases e
 rename_i hz
 have ha:lH a=false:=by cases h:lH a with|false=>rfl|true=>exact absurd (.inl h) hz
 have hb:lH b=false:=by cases h:lH b with|false=>rfl|true=>exact absurd (.inr h) hz
 split at e
 ·rename_i hm
  obtain⟨k,ek,e⟩:=bind_some e
  cases e
  exact (Kh I hm hu (ra.toD ha) (rb.toD hb) rx ry ek).1 X.prog X.w X.xe _ ⟨.bl k,H,I,rfl,q _ H (Same.refl H) trivial (by unfold aR Rep;rfl)⟩
 ·cases e
theorem wD (hu:X.A.units+100 < cLine):Cy X (compareOp .NotEq) Kl:=by
 intro pins s σ H x y v u Q I rx ry h
 obtain⟨a,b,c,ra,rb,e,q⟩:=h
 unfold Kl at e
 split at e
 ·cases e
 rename_i hz
 have ha:lH a=false:=by cases h:lH a with|false=>rfl|true=>exact absurd (.inl h) hz
 have hb:lH b=false:=by cases h:lH b with|false=>rfl|true=>exact absurd (.inr h) hz
 split at e
 ·rename_i hm
  obtain⟨k,ek,e⟩:=bind_some e
  cases e
  exact (Kh I hm hu (ra.toD ha) (rb.toD hb) rx ry ek).2 X.prog X.w X.xe _ ⟨.bl (!k),H,I,rfl,q _ H (Same.refl H) trivial (by unfold aR Rep;rfl)⟩
 ·cases e
end
section
variable {X:Cx} {pins:List (Addr×Obj)} {σ:L2.St} {H:Hp} {s:Shared}
theorem Ae {K:PySem.W.Frag} {H:Hp} {i:Int}:aR K H (.z (.int i)) (.int i):=by unfold aR Rep;rfl
theorem Im {K:PySem.W.Frag} {H:Hp} {b:Bool}:aR K H (.z (.bl b)) (.bl b):=by unfold aR Rep;rfl
theorem TV {K:PySem.W.Frag} {H:Hp} {x:Str} (h:x.length<=sizeLine):aR K H (.z (.str x)) (.str x):=by unfold aR Rep;exact⟨rfl,h⟩
theorem Fy {K:PySem.W.Frag} {H:Hp} {i:Int} {v:V} (h:aR K H (.z (.int i)) v):v=.int i:=by simpa only[aR,Rep] using h
theorem Pn {K:PySem.W.Frag} {H:Hp} {x:Str} {v:V} (h:aR K H (.z (.str x)) v):v=.str x/\x.length<=sizeLine:=by simpa only[aR,Rep] using h
theorem inT {K:PySem.W.Frag} {H:Hp} {ds:List Dt} {v:V} (h:aR K H (.z (.tup ds)) v):∃ a vs,v=.ref a/\tO K H a vs/\aF K H ds vs:=by simpa only[aR,Rep] using h
def i2 (g:Int->Int->Option Dt):Bx->Bx->Option Bx
 |.z (.int i),.z (.int j)=>(g i j).bind fun d=>some (.z d)
 |_,_=>none
theorem yC {f:Value->Value->Sem Value} {r:R2} {g:Int->Int->Option Dt} (ho:tQ X f r) (h:∀ i j d H Q,g i j=some d->(∀ v,Rep X.K H d v->Q v H)->r (.int i) (.int j) H Q):Cy X f (i2 g):=tQ.imp ho fun x y H Q q=>by
 obtain⟨a,b,c,ra,rb,e,q⟩:=q
 unfold i2 at e
 split at e
 ·rename_i i j
  obtain⟨d,ed,e⟩:=bind_some e
  cases e
  rw[Fy ra,Fy rb]
  exact h i j d H Q ed fun v rv=>q v H (Same.refl H) trivial rv
 ·cases e
theorem okI {K:PySem.W.Frag} {H:Hp} {i:Int}:Rep K H (.int i) (.int i):=by unfold Rep;rfl
theorem okT {K:PySem.W.Frag} {H:Hp} {b:Bool}:Rep K H (.bl b) (.bl b):=by unfold Rep;rfl
abbrev gtB:=i2 fun i j=>some (.bl (decide (j < i)))
abbrev geB:=i2 fun i j=>some (.bl (decide (j<=i)))
abbrev rK:=i2 fun i j=>if 0 < j/\j < 1073741824 then some (.int (i / j)) else none
abbrev jg:=i2 fun i j=>if 0 < j then some (.int (i % j)) else none
abbrev XH:=i2 fun i j=>if 0<=j/\j<=1000/\i.natAbs < 2 ^ 64 then some (.int (i ^ j.toNat)) else none
theorem Km:Cy X (compareOp .Gt) gtB:=yC Z9 fun i j d H Q e q=>by cases e;exact⟨i,j,rfl,rfl,q _ okT⟩
theorem aaK:Cy X (compareOp .GtE) geB:=yC aac fun i j d H Q e q=>by cases e;exact⟨i,j,rfl,rfl,q _ okT⟩
theorem oJ:Cy X (binaryOp .FloorDiv) rK:=yC R9 fun i j d H Q e q=>by
 split at e
 ·rename_i h;cases e;exact⟨i,j,rfl,rfl,h,q _ okI⟩
 ·cases e
theorem cQ:Cy X (binaryOp .Mod) jg:=yC W3 fun i j d H Q e q=>by
 split at e
 ·rename_i h;cases e;exact⟨i,j,rfl,rfl,h,q _ okI⟩
 ·cases e
theorem XJ:Cy X (binaryOp .Pow) XH:=yC W4 fun i j d H Q e q=>by
 split at e
 ·rename_i h;cases e;exact⟨i,j,rfl,rfl,⟨h.1,by omega,h.2.2⟩,q _ okI⟩
 ·cases e
def Pq:Bx->Option Bx
 |.z (.int i)=>some (.z (.int (-i)))
 |_=>none
theorem XM:UnF X (unaryOp .USub) Pq:=VB.imp W7 fun x H Q q=>by
 obtain⟨a,c,ra,e,q⟩:=q
 unfold Pq at e
 split at e
 ·rename_i i;cases e;exact⟨i,Fy ra,q _ H (Same.refl H) trivial Ae⟩
 ·cases e
def Mq:Nat:=1000000
theorem TX:Mq<=sizeLine:=by decide
theorem XQ {l b:Addr} {vs us:List V} {Q:VK} (I:L2.Inv X pins σ H s) (hl:nF X.K H l vs) (hb:nF X.K H b us) (hz:vs.length+us.length<=sizeLine) (q:∀ p,H p=none->Q (.ref p) (upd H p (.lst (vs++us)))) :
  wpAny (model X.prog X.w) X.A (binaryOp .Add (.ref l) (.ref b)) (EP X pins σ Q) X.xe s:=by
 obtain⟨its,r1,⟨⟨cls,dd,data,sl⟩,n1,e1,c1,d1,dd1⟩,z1⟩:=I.list hl
 obtain⟨its2,r2,⟨⟨cls2,dd2,data2,sl2⟩,n2,e2,c2,d2,Pr⟩,z2⟩:=I.list hb
 simp only at c1 d1 dd1 c2 d2 Pr
 subst c1 d1 dd1 c2 d2 Pr
 have l1:=r1.length
 have l2:=r2.length
 have e:its.toArray++its2.toArray=(its++its2).toArray:=by simp
 refine concat_meets ⟨_,e1,rfl⟩ ⟨_,e2,rfl⟩ noFill_list_add seq_list_add PySem.F.slot_list_add PySem.F.entry_list_add (PySem.F.args_list_add_2 _ _) (list_addW l b its.toArray its2.toArray n1 n2 none none sl sl2 (by rw[zt,zt];omega)) ⟨e1,e2,?_⟩
 rw[e]
 exact⟨.ref s.heap.objs.size,_,I.laid (t':=s.toks) (o:=.lst (vs++us)) (fun b ob q=>ze _ q) (zk _) ⟨by rw[Zs];exact hz,_,0,r1.append r2,zr _ rfl⟩,rfl,q _ (I.hok.fresh (zk _))⟩
theorem XR {l b:Addr} {vs us:List V} {Q:VK} (I:L2.Inv X pins σ H s) (hl:tO X.K H l vs) (hb:tO X.K H b us) (hz:vs.length+us.length<=sizeLine) (q0:vs=[]->Q (.ref b) H) (q1:us=[]->Q (.ref l) H) (q2:∀ p,H p=none->Q (.ref p) (upd H p (.tup (vs++us)))) :
  wpAny (model X.prog X.w) X.A (binaryOp .Add (.ref l) (.ref b)) (EP X pins σ Q) X.xe s:=by
 by_cases hv:vs=[]
 ·obtain⟨its,r1,⟨⟨cls,dd,data,sl⟩,e1,c1,n1,dd1⟩,z1⟩:=I.tuple hl
  obtain⟨its2,r2,⟨⟨cls2,dd2,data2,sl2⟩,e2,c2,n2,Pr⟩,z2⟩:=I.tuple hb
  simp only at c1 dd1 c2 Pr
  subst c1 dd1 c2 Pr
  have:its=[]:=r1.xP.mpr hv
  exact concat_meets ⟨_,e1,rfl⟩ ⟨_,e2,rfl⟩ noFill_tuple_add seq_tuple_add PySem.F.slot_tuple_add KA (Kj _ _)
   (tuple_addW0 l b its.toArray its2.toArray n1 n2 dd dd2 sl sl2 (by simp[this])) ⟨e1,e2,⟨.ref b,H,I,rfl,q0 hv⟩⟩
 ·exact Sx pins s σ H (.ref l) (.ref b) (.ref l) (.ref b) Q I rfl rfl ⟨l,b,vs,us,rfl,rfl,hl,hb,hv,hz,q1,fun _=>q2⟩
def jh:Bx->Bx->Option Bx
 |.z (.int i),.z (.int j)=>some (.z (.int (i+j)))
 |.z (.str i),.z (.str j)=>if i.length+j.length<=Mq then some (.z (.str (i++j))) else none
 |.z (.tup xs),.z (.tup ys)=>if xs.length+ys.length<=Mq then some (.z (.tup (xs++ys))) else none
 |a,b=>(m9 a).bind fun xs=>(m9 b).bind fun ys=>if xs.length+ys.length<=Mq then some (.o (xs++ys)) else none
theorem str_len (i j:Str):(i++j).length=i.length+j.length:=by
 show (i.cps++j.cps).size=_
 rw[ku];rfl
theorem dN:Cy X (binaryOp .Add) jh:=by
 intro pins s σ H x y v u Q I rx ry h
 obtain⟨a,b,c,ra,rb,e,q⟩:=h
 have hbig:=TX
 unfold jh at e
 split at e
 ·rename_i i j
  cases e
  exact W0 pins s σ H x y v u Q I rx ry ⟨i,j,Fy ra,Fy rb,q _ H (Same.refl H) trivial Ae⟩
 ·rename_i i j
  split at e
  ·rename_i hl
   cases e
   exact HJ pins s σ H x y v u Q I rx ry ⟨i,j,(Pn ra).1,(Pn rb).1,by omega,q _ H (Same.refl H) trivial (TV (by rw[str_len];omega))⟩
  ·cases e
 ·rename_i xs ys
  split at e
  ·rename_i hl
   cases e
   obtain⟨l,vs,rfl,sl,rl⟩:=inT ra
   obtain⟨m,us,rfl,sm,rm⟩:=inT rb
   cases rx
   cases ry
   have h1:=rl.length
   have h2:=rm.length
   refine XR I sl sm (by omega) (fun z=>q _ H (Same.refl H) trivial ?_) (fun z=>q _ H (Same.refl H) trivial ?_) fun p hp=>q _ _ (bJ hp) trivial ?_
   ·unfold aR Rep
    refine⟨m,us,rfl,sm,?_⟩
    have:xs=[]:=by subst z;exact List.eq_nil_of_length_eq_zero (by simpa using h1.symm)
    rw[this,ke];exact rm
   ·unfold aR Rep
    refine⟨l,vs,rfl,sl,?_⟩
    have:ys=[]:=by subst z;exact List.eq_nil_of_length_eq_zero (by simpa using h2.symm)
    rw[this,List.append_nil];exact rl
   ·unfold aR Rep
    exact⟨p,_,rfl,.inl (.inl aP),(rl.append rm).kp (.of (bJ hp))⟩
  ·cases e
 ·obtain⟨xs,ea,e⟩:=bind_some e
  obtain⟨ys,eb,e⟩:=bind_some e
  split at e
  ·rename_i hl
   cases e
   obtain⟨l,vs,rfl,sl,rl⟩:=ra.z6 ea
   obtain⟨m,us,rfl,sm,rm⟩:=rb.z6 eb
   cases rx
   cases ry
   have h1:=rl.length
   have h2:=rm.length
   refine XQ I sl sm (by omega) fun p hp=>q _ _ (bJ hp) (fun a ea=>by cases ea;exact hp) ⟨p,_,rfl,aP,(rl.append rm).kp (.of (bJ hp))⟩
  ·cases e
def um:Bx->Bx->Option Bx
 |.z (.int i),.z (.int j)=>if (-(2 ^ 64) < i/\i < 2 ^ 64)\/(-(2 ^ 64) < j/\j < 2 ^ 64) then some (.z (.int (i * j))) else none
 |.z (.str x),.z (.int n)=>if n<=1000 ∧ -1000<=n/\x.length<=1000 then some (.z (.str (Txt.mul x n))) else none
 |_,_=>none
theorem rM (x:Array Nat):∀ (n:Nat) (acc:Array Nat),((List.replicate n x).foldl (·++·) acc).size=acc.size+n * x.size
 |0,acc=>by simp
 |n+1,acc=>by
  rw[List.replicate_succ,kf,rM x n,ku,Nat.succ_mul]
  omega
theorem CQ (x:Str) (n:Int):(Txt.mul x n).length<=n.toNat * x.length+x.length:=by
 unfold Txt.mul
 split
 ·exact qv _
 ·split
  ·exact Nat.le_add_left _ _
  ·show ((List.replicate n.toNat x.cps).foldl (·++·) #[]).size<=_
   rw[rM]
   show (#[]:Array Nat).size+n.toNat * x.cps.size<=n.toNat * x.cps.size+x.cps.size
   simp
theorem qj:Cy X (binaryOp .Mult) um:=by
 intro pins s σ H x y v u Q I rx ry h
 obtain⟨a,b,c,ra,rb,e,q⟩:=h
 unfold um at e
 split at e
 ·rename_i i j
  split at e
  ·rename_i hl
   cases e
   exact W2 pins s σ H x y v u Q I rx ry ⟨i,j,Fy ra,Fy rb,hl,q _ H (Same.refl H) trivial Ae⟩
  ·cases e
 ·rename_i x' n
  split at e
  ·rename_i hl
   cases e
   obtain⟨rfl,hx⟩:=Pn ra
   have hy:=Fy rb
   subst hy
   obtain⟨t,rfl⟩:=rx
   obtain⟨t',rfl⟩:=ry
   have hs:sizeLine=16777216:=sizeLine_eq
   have hm:n.toNat * x'.length<=1000 * 1000:=Nat.mul_le_mul (by omega) hl.2.2
   refine SB.mul ⟨?_,fun h1 h2=>?_,fun h1 h2=>?_⟩ fun t' k=>⟨.str _,H,I.tok _,⟨_,rfl⟩,q _ H (Same.refl H) trivial (TV (zv (CQ x' n) (by omega)))⟩
   ·have e1:decide (n < -(2 ^ 63:Int))=false:=ZN (by omega)
    have e2:decide (n>=2 ^ 63)=false:=ZN (by omega)
    rw[e1,e2];rfl
   ·have hn:0 < n:=by omega
    have:(1000:Int)<=(2 ^ 63 - 1) / n:=(Int.le_ediv_iff_mul_le hn).mpr (by omega)
    omega
   ·show decide (x'.length * n.toNat > sizeLine)=false
    rw[Nat.mul_comm]
    exact ZN (by omega)
  ·cases e
 ·cases e
def V1 (i j:Str):Bool:=!(Builtin.Str.occurrences j i 0 j.length 1).isEmpty
def uo:Dt->Bool
 |.non=>true
 |.bl _=>true
 |.int _=>true
 |.str _=>true
 |_=>false
def memD (x:Dt) (ys:List Dt):Option Bool:=if uo x=true/\ys.all uo=true then some (ys.any fun y=>match uh y x with|some true=>true|_=>false) else none
def yD:Bx->Option (List Dt)
 |.z (.lst ds)=>some ds
 |.z (.tup ds)=>some ds
 |.l ds=>some ds
 |.o ds=>some ds
 |_=>none
def inB:Bx->Bx->Option Bool
 |.z (.str i),.z (.str j)=>some (V1 i j)
 |.z d,b=>(yD b).bind fun ys=>memD d ys
 |_,_=>none
def inF (a b:Bx):Option Bx:=(inB a b).bind fun k=>some (.z (.bl k))
theorem Fz {K:PySem.W.Frag} {H:Hp} {d:Dt} {v:V} (r:Rep K H d v) (f:uo d=true):pF v=true:=by
 cases d<;>first|(cases f;done)|skip
 all_goals simp only[Rep] at r
 ·subst r;rfl
 ·subst r;rfl
 ·subst r;rfl
 ·obtain⟨rfl,_⟩:=r;rfl
theorem Bk {K:PySem.W.Frag} {H:Hp}:∀ {ds:List Dt} {vs:List V},aF K H ds vs->ds.all uo=true->vs.all pF=true
 |[],_,h,_=>by simp only[aF] at h;subst h;rfl
 |d::ds,_,h,f=>by
  simp only[aF] at h
  obtain⟨v,r,rfl,h1,h2⟩:=h
  rw[JE,qq] at f
  rw[JE,Fz h1 f.1,Bk h2 f.2];rfl
theorem CT (b:Bool):(match some b with|some true=>true|_=>false)=b:=by cases b<;>rfl
theorem TY {K:PySem.W.Frag} {H:Hp} {d e:Dt} {x y:V} (rd:Rep K H d x) (re:Rep K H e y) (fd:uo d=true) (fe:uo e=true):LK x y=(match uh d e with|some true=>true|_=>false):=by
 cases d<;>first|(cases fd;done)|skip
 all_goals (cases e<;>first|(cases fe;done)|skip)
 all_goals simp only[Rep] at rd re
 all_goals first
  |(subst rd;subst re;simp only[LK,uh,CT])
  |(obtain⟨rfl,_⟩:=rd;subst re;simp only[LK,uh,CT])
  |(subst rd;obtain⟨rfl,_⟩:=re;simp only[LK,uh,CT])
  |(obtain⟨rfl,_⟩:=rd;obtain⟨rfl,_⟩:=re;simp only[LK,uh,CT])
theorem Ko {K:PySem.W.Frag} {H:Hp} {d:Dt} {x:V} (rd:Rep K H d x) (fd:uo d=true):∀ {ds:List Dt} {vs:List V},aF K H ds vs->ds.all uo=true->inV x vs=ds.any fun y=>match uh y d with|some true=>true|_=>false
 |[],_,h,_=>by simp only[aF] at h;subst h;rfl
 |e::ds,_,h,f=>by
  simp only[aF] at h
  obtain⟨v,r,rfl,h1,h2⟩:=h
  rw[JE,qq] at f
  have:=Ko rd fd h2 f.2
  unfold inV at this ⊢
  rw[Q2,Q2,TY h1 rd f.1 fd,this]
theorem uq {K:PySem.W.Frag} {H:Hp} {b:Bx} {v:V} {ds:List Dt} (h:aR K H b v) (e:yD b=some ds):∃ a vs,v=.ref a/\(nF K H a vs\/tO K H a vs)/\aF K H ds vs:=by
 cases b with
 |z d=>
  cases d<;>first|(cases e;done)|skip
  ·cases e
   obtain⟨a,vs,e,q,r⟩:=inT h
   exact⟨a,vs,e,.inr q,r⟩
  ·cases e
   obtain⟨a,vs,e,q,r⟩:=h.z6 rfl
   exact⟨a,vs,e,.inl q,r⟩
 |l ds'=>
  cases e
  obtain⟨a,vs,e,q,r⟩:=h.z6 rfl
  exact⟨a,vs,e,.inl q,r⟩
 |o ds'=>
  cases e
  obtain⟨a,vs,e,q,r⟩:=h.z6 rfl
  exact⟨a,vs,e,.inl q,r⟩
 |n _=>cases e
 |m _ _=>cases e
theorem Mr {H:Hp} {a b:Bx} {x y:V} {k:Bool} (ra:aR X.K H a x) (rb:aR X.K H b y) (e:inB a b=some k) :
  (∃ i j,x=.str i/\y=.str j/\k=V1 i j)\/(∃ p xs,y=.ref p/\(nF X.K H p xs\/tO X.K H p xs)/\pF x=true/\xs.all pF=true/\k=inV x xs):=by
 unfold inB at e
 split at e
 ·rename_i i j
  cases e
  exact .inl ⟨i,j,(Pn ra).1,(Pn rb).1,rfl⟩
 ·rename_i d _
  obtain⟨ys,ey,e⟩:=bind_some e
  unfold memD at e
  split at e
  ·rename_i hf
   cases e
   obtain⟨p,vs,rfl,sq,rs⟩:=uq rb ey
   have ra':Rep X.K H d x:=ra
   exact .inr ⟨p,vs,rfl,sq,Fz ra' hf.1,Bk rs hf.2,(Ko ra' hf.1 rs hf.2).symm⟩
  ·cases e
 ·cases e
theorem Pu:Cy X (compareOp .In) inF:=by
 intro pins s σ H x y v u Q I rx ry h
 obtain⟨a,b,c,ra,rb,e,q⟩:=h
 obtain⟨k,ek,e⟩:=bind_some e
 cases e
 rcases Mr ra rb ek with⟨i,j,rfl,rfl,rfl⟩|⟨p,xs,rfl,sq,f1,f2,rfl⟩
 ·exact Lw pins s σ H _ _ v u Q I rx ry ⟨i,j,rfl,rfl,q _ H (Same.refl H) trivial Im⟩
 ·exact LQ pins s σ H _ _ v u Q I rx ry ⟨p,xs,rfl,sq,f1,f2,q _ H (Same.refl H) trivial Im⟩
def n8:Bx->Bx->Option Bx
 |.z (.str x),.z (.int i)=>(z8 x.cps.toList i).bind fun c=>some (.z (.str ⟨#[c]⟩))
 |b,.z (.int i)=>(yD b).bind fun ds=>(z8 ds i).bind fun d=>some (.z d)
 |_,_=>none
theorem T3 {K:PySem.W.Frag} {H:Hp} {ds:List Dt} {vs:List V} {i:Int} {d:Dt} (r:aF K H ds vs) (e:z8 ds i=some d):∃ v,z8 vs i=some v/\Rep K H d v:=by
 unfold z8 at e ⊢
 rw[r.length]
 obtain⟨j,ej,e⟩:=bind_some e
 rw[ej]
 exact r.get e
theorem cW {a b:Expr} {fa fb:Ev->Option Bx} {pos:Pos} (ha:QV X a fa) (hb:QV X b fb) (hs:J9 b:=by intro _ _;with_unfolding_all rfl):QV X (.Subscript a b pos) (b2 n8 fa fb):=⟨have ha:=ha.run;have hb:=hb.run;Cw (aal Xj ha hb hs) fun σ H Q h=>by
 obtain⟨H0,ρ,c,E,e,q⟩:=h
 obtain⟨a,ea,e⟩:=bind_some e
 obtain⟨b,eb,e⟩:=bind_some e
 refine⟨H0,ρ,a,E,ea,fun v H1 s1 n1 r1=>⟨H0,ρ,b,E.grow s1,eb,fun u H2 s2 n2 r2=>?_⟩⟩
 have r1':=r1.same s2
 unfold n8 at e
 split at e
 ·rename_i x i
  obtain⟨c',ec,e⟩:=bind_some e
  cases e
  exact .inr (.inr ⟨_,_,c',(Pn r1').1,Fy r2,(Pn r1').2,ec,q _ _ (s1.trans s2) trivial (TV (by show (1:Nat)<=sizeLine;decide))⟩)
 ·obtain⟨ds,ed,e⟩:=bind_some e
  obtain⟨d,ei,e⟩:=bind_some e
  cases e
  obtain⟨p,vs,rfl,sq,rs⟩:=uq r1' ed
  obtain⟨w,ew,Ka⟩:=T3 rs ei
  have hi:=Fy r2
  rcases sq with sq|sq
  ·exact .inl ⟨p,vs,_,w,rfl,hi,sq,ew,q _ _ (s1.trans s2) trivial Ka⟩
  ·exact .inr (.inl ⟨p,vs,_,w,rfl,hi,sq,ew,q _ _ (s1.trans s2) trivial Ka⟩)
 ·cases e⟩
end
theorem T4:bootBuiltins "bool" = some (.type "bool"):=by decide +kernel
theorem XS:bootBuiltins "int" = some (.type "int"):=by decide +kernel
theorem nP:bootBuiltins "tuple" = some (.type "tuple"):=by decide +kernel
theorem T5:bootBuiltins "list" = some (.type "list"):=by decide +kernel
theorem nu:bootBuiltins "isinstance" = some (.builtin "isinstance"):=by decide +kernel
theorem oK:bootBuiltins "len" = some (.builtin "len"):=by decide +kernel
theorem X3:bootBuiltins "abs" = some (.builtin "abs"):=by decide +kernel
theorem Io:bootBuiltins "all" = some (.builtin "all"):=by decide +kernel
theorem Ip:bootBuiltins "any" = some (.builtin "any"):=by decide +kernel
theorem X4:bootBuiltins "max" = some (.builtin "max"):=by decide +kernel
theorem jL:bootBuiltins "sorted" = some (.builtin "sorted"):=by decide +kernel
section
variable {X:Cx} {pins:List (Addr×Obj)} {σ:L2.St} {H:Hp} {s:Shared}
def is_bool:Dt->Bool
 |.bl _=>true
 |_=>false
theorem Px (I:L2.Inv X pins σ H s) {d:Dt} {x:V} {v:Value} {Q:VK} (rd:jK X.K H d x) (rv:RelV x v) (q:Q (.bl (is_bool d)) H):wpAny (model X.prog X.w) X.A (call (.builtin "isinstance") [v,.type "bool"]) (EP X pins σ Q) X.xe s:=by
 cases d with
 |non=>simp only[jK,Rep] at rd;subst rd;cases rv;exact IsiPair.NoneType_bool ⟨.bl _,H,I.tok _,rfl,q⟩
 |bl b=>simp only[jK,Rep] at rd;subst rd;cases rv;exact IsiPair.bool_bool ⟨.bl _,H,I,rfl,q⟩
 |int b=>simp only[jK,Rep] at rd;subst rd;obtain⟨t,rfl⟩:=rv;exact IsiPair.int_bool ⟨.bl _,H,I.tok _,rfl,q⟩
 |str b=>simp only[jK,Rep] at rd;obtain⟨rfl,_⟩:=rd;obtain⟨t,rfl⟩:=rv;exact IsiPair.str_bool ⟨.bl _,H,I.tok _,rfl,q⟩
 |tup ds=>simp only[jK,Rep] at rd;obtain⟨a,vs,rfl,sq,_⟩:=rd;cases rv;obtain⟨_,_,p,_⟩:=I.tuple sq;exact IsiPair.isTuple_bool p (fun _ _ e=>e) ⟨.bl _,H,I.tok _,rfl,q⟩
 |lst ds=>simp only[jK] at rd;obtain⟨a,vs,rfl,sq,_⟩:=rd;cases rv;obtain⟨_,_,p,_⟩:=I.list sq;exact IsiPair.isList_bool p.isList (fun _ _ e=>e) ⟨.bl _,H,I.tok _,rfl,q⟩
 |emp=>simp only[jK,Rep] at rd;obtain⟨a,o,rfl,sq⟩:=rd;cases rv;obtain⟨ob,e,c⟩:=oH I sq;exact IsiPair.dict_bool e c ⟨.bl _,H,I.tok _,rfl,q⟩
theorem FJ {e:Expr} {f:Ev->Option Bx} {p p2 pos:Pos} (he:QV X e f) (hg:Gl X "isinstance") (hm:X.mg "isinstance" = none) (hg2:Gl X "bool") (hm2:X.mg "bool" = none) (hs:starEach [e,.Name "bool" p2] X.env=[(false,eval e X.env),(false,eval (.Name "bool" p2) X.env)]:=by rfl):QV X (.Call (.Name "isinstance" p) [e,.Name "bool" p2] [] pos) (b1 (fun b=>if lH b=true then none else some (.z (.bl (is_bool (toD b))))) f):=⟨by
 have he:=he.run
 have hc:fK X (.builtin "isinstance") (fun xs H Q=>∃ b x,xs=[x,.ty "bool"]/\aR X.K H b x/\lH b=false/\Q (.bl (is_bool (toD b))) H):=by
  intro pins s σ H xs us Q I r h
  obtain⟨b,x,rfl,rb,hmb,q⟩:=h
  obtain⟨u,w',rfl,r1,r2⟩:=vals2 r
  cases r2
  exact Px I (rb.toD hmb) r1 q
 have ha:PA X [e,.Name "bool" p2] (rH (tF X.K f) (rH (tC (.ty "bool")) HN)):=gO he (gO (Ci hg2 hm2 (v:=.ty "bool") (u:=.type "bool") T4 rfl) m7) (by rw[hs]<;>rfl)
 refine Cw (pU hc hg hm nu ha (by decide) (by decide) (by rw[hs]<;>rfl) rfl) fun σ H Q h=>?_
 obtain⟨H0,ρ,c,E,e,q⟩:=h
 obtain⟨b,eb,e⟩:=bind_some e
 split at e
 ·cases e
 rename_i hz
 cases e
 exact⟨H0,ρ,b,E,eb,fun v H1 s1 n1 r1=>⟨b,v,rfl,r1,by simpa using hz,q _ _ s1 trivial Im⟩⟩⟩
def kj:Dt->Bool
 |.tup _=>true
 |_=>false
theorem Ms (I:L2.Inv X pins σ H s) {d:Dt} {x:V} {v:Value} {Q:VK} (rd:jK X.K H d x) (rv:RelV x v) (q:Q (.bl (kj d)) H):wpAny (model X.prog X.w) X.A (call (.builtin "isinstance") [v,.type "tuple"]) (EP X pins σ Q) X.xe s:=by
 cases d with
 |non=>simp only[jK,Rep] at rd;subst rd;cases rv;exact IsiPair.NoneType_tuple ⟨.bl _,H,I.tok _,rfl,q⟩
 |bl b=>simp only[jK,Rep] at rd;subst rd;cases rv;exact IsiPair.bool_tuple ⟨.bl _,H,I.tok _,rfl,q⟩
 |int b=>simp only[jK,Rep] at rd;subst rd;obtain⟨t,rfl⟩:=rv;exact IsiPair.int_tuple ⟨.bl _,H,I.tok _,rfl,q⟩
 |str b=>simp only[jK,Rep] at rd;obtain⟨rfl,_⟩:=rd;obtain⟨t,rfl⟩:=rv;exact IsiPair.str_tuple ⟨.bl _,H,I.tok _,rfl,q⟩
 |tup ds=>simp only[jK,Rep] at rd;obtain⟨a,vs,rfl,sq,_⟩:=rd;cases rv;obtain⟨_,_,p,_⟩:=I.tuple sq;exact IsiPair.isTuple_tuple p (fun _ _ e=>e) ⟨.bl _,H,I,rfl,q⟩
 |lst ds=>simp only[jK] at rd;obtain⟨a,vs,rfl,sq,_⟩:=rd;cases rv;obtain⟨_,_,p,_⟩:=I.list sq;exact IsiPair.isList_tuple p.isList (fun _ _ e=>e) ⟨.bl _,H,I.tok _,rfl,q⟩
 |emp=>simp only[jK,Rep] at rd;obtain⟨a,o,rfl,sq⟩:=rd;cases rv;obtain⟨ob,e,c⟩:=oH I sq;exact IsiPair.dict_tuple e c ⟨.bl _,H,I.tok _,rfl,q⟩
theorem CV {e:Expr} {f:Ev->Option Bx} {p p2 pos:Pos} (he:QV X e f) (hg:Gl X "isinstance") (hm:X.mg "isinstance" = none) (hg2:Gl X "tuple") (hm2:X.mg "tuple" = none) (hs:starEach [e,.Name "tuple" p2] X.env=[(false,eval e X.env),(false,eval (.Name "tuple" p2) X.env)]:=by rfl):QV X (.Call (.Name "isinstance" p) [e,.Name "tuple" p2] [] pos) (b1 (fun b=>if lH b=true then none else some (.z (.bl (kj (toD b))))) f):=⟨by
 have he:=he.run
 have hc:fK X (.builtin "isinstance") (fun xs H Q=>∃ b x,xs=[x,.ty "tuple"]/\aR X.K H b x/\lH b=false/\Q (.bl (kj (toD b))) H):=by
  intro pins s σ H xs us Q I r h
  obtain⟨b,x,rfl,rb,hmb,q⟩:=h
  obtain⟨u,w',rfl,r1,r2⟩:=vals2 r
  cases r2
  exact Ms I (rb.toD hmb) r1 q
 have ha:PA X [e,.Name "tuple" p2] (rH (tF X.K f) (rH (tC (.ty "tuple")) HN)):=gO he (gO (Ci hg2 hm2 (v:=.ty "tuple") (u:=.type "tuple") nP rfl) m7) (by rw[hs]<;>rfl)
 refine Cw (pU hc hg hm nu ha (by decide) (by decide) (by rw[hs]<;>rfl) rfl) fun σ H Q h=>?_
 obtain⟨H0,ρ,c,E,e,q⟩:=h
 obtain⟨b,eb,e⟩:=bind_some e
 split at e
 ·cases e
 rename_i hz
 cases e
 exact⟨H0,ρ,b,E,eb,fun v H1 s1 n1 r1=>⟨b,v,rfl,r1,by simpa using hz,q _ _ s1 trivial Im⟩⟩⟩
def is_list:Dt->Bool
 |.lst _=>true
 |_=>false
theorem Py (I:L2.Inv X pins σ H s) {d:Dt} {x:V} {v:Value} {Q:VK} (rd:jK X.K H d x) (rv:RelV x v) (q:Q (.bl (is_list d)) H):wpAny (model X.prog X.w) X.A (call (.builtin "isinstance") [v,.type "list"]) (EP X pins σ Q) X.xe s:=by
 cases d with
 |non=>simp only[jK,Rep] at rd;subst rd;cases rv;exact IsiPair.NoneType_list ⟨.bl _,H,I.tok _,rfl,q⟩
 |bl b=>simp only[jK,Rep] at rd;subst rd;cases rv;exact IsiPair.bool_list ⟨.bl _,H,I.tok _,rfl,q⟩
 |int b=>simp only[jK,Rep] at rd;subst rd;obtain⟨t,rfl⟩:=rv;exact IsiPair.int_list ⟨.bl _,H,I.tok _,rfl,q⟩
 |str b=>simp only[jK,Rep] at rd;obtain⟨rfl,_⟩:=rd;obtain⟨t,rfl⟩:=rv;exact IsiPair.str_list ⟨.bl _,H,I.tok _,rfl,q⟩
 |tup ds=>simp only[jK,Rep] at rd;obtain⟨a,vs,rfl,sq,_⟩:=rd;cases rv;obtain⟨_,_,p,_⟩:=I.tuple sq;exact IsiPair.isTuple_list p (fun _ _ e=>e) ⟨.bl _,H,I.tok _,rfl,q⟩
 |lst ds=>simp only[jK] at rd;obtain⟨a,vs,rfl,sq,_⟩:=rd;cases rv;obtain⟨_,_,p,_⟩:=I.list sq;exact IsiPair.isList_list p.isList (fun _ _ e=>e) ⟨.bl _,H,I,rfl,q⟩
 |emp=>simp only[jK,Rep] at rd;obtain⟨a,o,rfl,sq⟩:=rd;cases rv;obtain⟨ob,e,c⟩:=oH I sq;exact IsiPair.dict_list e c ⟨.bl _,H,I.tok _,rfl,q⟩
theorem FN {e:Expr} {f:Ev->Option Bx} {p p2 pos:Pos} (he:QV X e f) (hg:Gl X "isinstance") (hm:X.mg "isinstance" = none) (hg2:Gl X "list") (hm2:X.mg "list" = none) (hs:starEach [e,.Name "list" p2] X.env=[(false,eval e X.env),(false,eval (.Name "list" p2) X.env)]:=by rfl):QV X (.Call (.Name "isinstance" p) [e,.Name "list" p2] [] pos) (b1 (fun b=>if lH b=true then none else some (.z (.bl (is_list (toD b))))) f):=⟨by
 have he:=he.run
 have hc:fK X (.builtin "isinstance") (fun xs H Q=>∃ b x,xs=[x,.ty "list"]/\aR X.K H b x/\lH b=false/\Q (.bl (is_list (toD b))) H):=by
  intro pins s σ H xs us Q I r h
  obtain⟨b,x,rfl,rb,hmb,q⟩:=h
  obtain⟨u,w',rfl,r1,r2⟩:=vals2 r
  cases r2
  exact Py I (rb.toD hmb) r1 q
 have ha:PA X [e,.Name "list" p2] (rH (tF X.K f) (rH (tC (.ty "list")) HN)):=gO he (gO (Ci hg2 hm2 (v:=.ty "list") (u:=.type "list") T5 rfl) m7) (by rw[hs]<;>rfl)
 refine Cw (pU hc hg hm nu ha (by decide) (by decide) (by rw[hs]<;>rfl) rfl) fun σ H Q h=>?_
 obtain⟨H0,ρ,c,E,e,q⟩:=h
 obtain⟨b,eb,e⟩:=bind_some e
 split at e
 ·cases e
 rename_i hz
 cases e
 exact⟨H0,ρ,b,E,eb,fun v H1 s1 n1 r1=>⟨b,v,rfl,r1,by simpa using hz,q _ _ s1 trivial Im⟩⟩⟩
def tFO (K:PySem.W.Frag) (f:Ev->Option (Option Int)):TO:=fun σ H Q=>∃ H0 ρ o,aQ K H0 H σ ρ/\f ρ=some o/\∀ H',Same H H'->Q o H'
def PVo (X:Cx) (e:Option Expr) (f:Ev->Option (Option Int)):Prop:=PO X e (tFO X.K f)
structure QVo (X:Cx) (e:Option Expr) (f:Ev->Option (Option Int)):Prop where
 run:PVo X e f
theorem poM {e:Option Expr} {t t':TO} (h:PO X e t) (m:∀ σ H Q,t' σ H Q->t σ H Q):PO X e t':=fun pins s σ H Q I q=>h pins s σ H Q I (m σ H Q q)
def iw:Ev->Option (Option Int):=fun _=>some none
theorem eE  : QVo X none iw:=⟨poM Sv fun σ H Q h=>by
 obtain⟨H0,ρ,o,E,e,q⟩:=h
 cases e
 exact q H (Same.refl H)⟩
def X5:Bx->Option (Option Int)
 |.z (.int i)=>some (some i)
 |_=>none
def lD (f:Ev->Option Bx):Ev->Option (Option Int):=fun ρ=>(f ρ).bind X5
theorem eF {e:Expr} {f:Ev->Option Bx} (h:QV X e f):QVo X (some e) (lD f):=⟨have h:=h.run;poM (Sw h) fun σ H Q q=>by
 obtain⟨H0,ρ,o,E,e,q⟩:=q
 obtain⟨b,eb,e⟩:=bind_some e
 refine⟨H0,ρ,b,E,eb,fun v H1 s1 n1 r1=>?_⟩
 unfold X5 at e
 split at e
 ·rename_i i
  cases e
  exact⟨i,Fy r1,q H1 s1⟩
 ·cases e⟩
def cutD (xs:List Dt) (lo hi:Option Int):List Dt:=(xs.drop (HT.gC xs.length 0 lo)).take (HT.gC xs.length xs.length hi - HT.gC xs.length 0 lo)
theorem FP {K:PySem.W.Frag} {H:Hp} {ds:List Dt} {vs:List V} (r:aF K H ds vs) (lo hi:Option Int):aF K H (cutD ds lo hi) (Eu vs lo hi):=by
 unfold cutD Eu
 rw[r.length]
 exact (r.drop _).take _
theorem Pz (ds:List Dt) {lo hi:Option Int} (h1:HT.gC ds.length 0 lo=0) (h2:HT.gC ds.length ds.length hi=ds.length):cutD ds lo hi=ds:=by
 unfold cutD
 rw[h1,h2]
 simp
theorem ur {t sl:Addr} {items:Array Value} {vl vu:Value} {lo hi:Option Int} {Q:Value->Shared->Prop} {prog:Program} {w:World} {A:Around} {E:Value->Shared->Prop} {s:Shared} (ht:IsTup s.heap t items) (hs:s.heap.IsSliceOf sl vl vu .none) (pl:IsPart vl lo) (pu:IsPart vu hi)
  (h1:HT.gC items.size 0 lo=0) (h2:HT.gC items.size items.size hi=items.size)
  (h:Q (.ref t) s):wpAny (model prog w) A (getItem (.ref t) (.ref sl)) Q E s:=by
 obtain⟨os,hos,hcs,hds⟩:=id hs
 have hTs:s.TypeIs (.ref sl) "slice" := ⟨os,hos,hcs⟩
 unfold getItem
 try with_reducible refine QU ?_
 first|refine zb (zd ?_)|skip
 refine zb (wpAny_sequenceKey ht.typeIs (by decide) ?_)
 refine zb (Kx (name:=Str.ofString "__getitem__") ht.typeIs PyProof.Rows.slot_tuple_getitem
  (Qr PyProof.Rows.slot_tuple_getitem ht.typeIs entry_tuple_getitem ?_ (args_tuple_getitem _ _)))
 show wpAny _ _ (Builtin.Tuple.tupleItemsOf (.ref t) >>= _) _ _ s
 refine zb (tupleItemsOf_ ht ?_)
 refine zb (QO hTs ?_)
 rw[zo (by decide)]
 refine zb (HT.nG hs pl pu ?_)
 have hyes:(((HT.gC items.size 0 lo:Nat):Int)==0&&(1:Int)==1&&(HT.gC items.size items.size hi - HT.gC items.size 0 lo)==items.size)=true:=by
  rw[h1,h2];simp
 show wpAny _ _ (if (((HT.gC items.size 0 lo:Nat):Int)==0&&(1:Int)==1&&(HT.gC items.size items.size hi - HT.gC items.size 0 lo)==items.size)=true then _ else _) _ _ s
 rw[zo hyes]
 first
  |refine zb (zb (QO ht.typeIs (zd ?_)))
  |refine zb (QO ht.typeIs (zb (zd ?_)))
  |refine zb (QO ht.typeIs ?_)
 rw[zo (by decide)]
 first
  |exact zb (JP (zd ⟨_,rfl,zd h⟩))
  |exact zb (JP (zb (zd (zd ⟨_,rfl,zd h⟩))))
def Zx (b:Bx) (lo hi:Option Int):Option Bx:=match b with
 |.z (.str x)=>some (.z (.str (Txt.slice x lo hi)))
 |.z (.tup ds)=>some (.z (.tup (cutD ds lo hi)))
 |b=>(m9 b).bind fun ds=>some (.o (cutD ds lo hi))
def rSl (K:PySem.W.Frag):V->Option Int->Option Int->Hp->VK->Prop:=fun x lo hi H Q=>∃ b c,aR K H b x/\Zx b lo hi=some c/\∀ w H',Same H H'->Nw H c w->aR K H' c w->Q w H'
theorem X6:VF X (rSl X.K):=by
 intro pins s σ H x v vl vu lo hi sl Q I rx hs pl pu h
 obtain⟨b,c,rb,e,q⟩:=h
 unfold Zx at e
 split at e
 ·rename_i y
  cases e
  obtain⟨rfl,hy⟩:=Pn rb
  obtain⟨t,rfl⟩:=rx
  refine⟨"str", _,F.slot_str_getitem.lookup,typeIs_str _ _ _,?_⟩
  obtain⟨o,e1,e2,e3⟩:=hs
  have fin:∀ t' k,EP X pins σ Q (.str (Txt.slice y lo hi) t') { s with toks:=k }:=fun t' k=>⟨.str _,H,I.tok _,⟨_,rfl⟩,q _ H (Same.refl H) trivial (TV (zv (Txt.slice_le y _ _) hy))⟩
  cases pl with
  |none=>
   cases pu with
   |none=>exact kl (l:=none) (u:=none) (st:=none) ⟨o,e1,e2,e3⟩ rfl (post_val_or_str ⟨zv (Txt.slice_le y _ _) hy,fin⟩)
   |int j uj=>exact kl (l:=none) (u:=some (j,uj)) (st:=none) ⟨o,e1,e2,e3⟩ rfl (post_val_or_str ⟨zv (Txt.slice_le y _ _) hy,fin⟩)
  |int i ui=>
   cases pu with
   |none=>exact kl (l:=some (i,ui)) (u:=none) (st:=none) ⟨o,e1,e2,e3⟩ rfl (post_val_or_str ⟨zv (Txt.slice_le y _ _) hy,fin⟩)
   |int j uj=>exact kl (l:=some (i,ui)) (u:=some (j,uj)) (st:=none) ⟨o,e1,e2,e3⟩ rfl (post_val_or_str ⟨zv (Txt.slice_le y _ _) hy,fin⟩)
 ·rename_i ds
  cases e
  obtain⟨a,vs,rfl,sq,rs⟩:=inT rb
  by_cases hw:HT.gC vs.length 0 lo=0/\HT.gC vs.length vs.length hi=vs.length
  ·cases rx
   obtain⟨its,r,ht,hz⟩:=I.tuple sq
   have hlen:its.toArray.size=vs.length:=by rw[zt];exact r.length.symm
   refine⟨"tuple", _,PyProof.Rows.slot_tuple_getitem.lookup,ht.typeIs,ur ht hs pl pu (by rw[hlen];exact hw.1) (by rw[hlen];exact hw.2) ⟨.ref a,H,I,rfl,q _ H (Same.refl H) trivial ?_⟩⟩
   rw[Pz ds (by rw[<-rs.length];exact hw.1) (by rw[<-rs.length];exact hw.2)]
   exact rb
  ·refine Xf pins s σ H _ v vl vu lo hi sl Q I rx hs pl pu ⟨a,vs,rfl,sq,hw,fun p hp=>q _ _ (bJ hp) trivial ?_⟩
   unfold aR Rep
   exact⟨p,_,rfl,.inl (.inl aP),(FP rs lo hi).kp (.of (bJ hp))⟩
 ·obtain⟨ds,ed,e⟩:=bind_some e
  cases e
  obtain⟨a,vs,rfl,sq,rs⟩:=rb.z6 ed
  exact SN pins s σ H _ v vl vu lo hi sl Q I rx hs pl pu ⟨a,vs,rfl,sq,fun p hp=>q _ _ (bJ hp) (fun a ea=>by cases ea;exact hp) ⟨p,_,rfl,aP,(FP rs lo hi).kp (.of (bJ hp))⟩⟩
def Bl (f:Ev->Option Bx) (fl fh:Ev->Option (Option Int)):Ev->Option Bx:=fun ρ=>(f ρ).bind fun b=>(fl ρ).bind fun lo=>(fh ρ).bind fun hi=>Zx b lo hi
theorem nQ {e:Expr} {lo hi:Option Expr} {f:Ev->Option Bx} {fl fh:Ev->Option (Option Int)} {p2 pos:Pos} (he:QV X e f) (hl:QVo X lo fl) (hh:QVo X hi fh):QV X (.Subscript e (.Slice lo hi none p2) pos) (Bl f fl fh):=⟨have he:=he.run;have hl:=hl.run;have hh:=hh.run;Cw (Oh X6 he hl hh) fun σ H Q h=>by
 obtain⟨H0,ρ,c,E,e,q⟩:=h
 obtain⟨b,eb,e⟩:=bind_some e
 obtain⟨lo,el,e⟩:=bind_some e
 obtain⟨hi,eh,e⟩:=bind_some e
 refine⟨H0,ρ,b,E,eb,fun v H1 s1 n1 r1=>⟨H0,ρ,lo,E.grow s1,el,fun H2 s2=>⟨H0,ρ,hi,E.grow (s1.trans s2),eh,fun H3 s3=>?_⟩⟩⟩
 have s13:=(s1.trans s2).trans s3
 exact⟨b,c,(r1.same s2).same s3,e,fun w H4 s4 n4 r4=>q w H4 (s13.trans s4) (n4.old s13) r4⟩⟩
def rz:List Bx->Option Bx
 |[.z (.str x)]=>some (.z (.int x.length))
 |[b]=>(yD b).bind fun ds=>some (.z (.int ds.length))
 |_=>none
theorem rep1 {K:PySem.W.Frag} {H:Hp} {b:Bx} {vs:List V} (r:pG K H [b] vs):∃ v,vs=[v]/\aR K H b v:=by
 cases r with
 |cons p t=>cases t;exact⟨_,rfl,p⟩
theorem oM:pH X (.builtin "len") rz:=fK.imp (Cr.or Cu) fun xs H Q q=>by
 obtain⟨bs,c,rb,e,q⟩:=q
 unfold rz at e
 split at e
 ·rename_i x
  cases e
  obtain⟨v,rfl,r1⟩:=rep1 rb
  obtain⟨rfl,hx⟩:=Pn r1
  exact .inr ⟨x,rfl,hx,q _ H (Same.refl H) trivial Ae⟩
 ·obtain⟨ds,ed,e⟩:=bind_some e
  cases e
  obtain⟨v,rfl,r1⟩:=rep1 rb
  obtain⟨p,vs,rfl,sq,rs⟩:=uq r1 ed
  exact .inl ⟨p,vs,rfl,sq,by rw[rs.length];exact q _ H (Same.refl H) trivial Ae⟩
 ·cases e
def PJ:List Bx->Option Bx
 |[.z (.int i)]=>some (.z (.int (if i < 0 then -i else i)))
 |_=>none
theorem X7:pH X (.builtin "abs") PJ:=fK.imp Od fun xs H Q q=>by
 obtain⟨bs,c,rb,e,q⟩:=q
 unfold PJ at e
 split at e
 ·rename_i i
  cases e
  obtain⟨v,rfl,r1⟩:=rep1 rb
  have:=Fy r1
  subst this
  exact⟨i,rfl,q _ H (Same.refl H) trivial Ae⟩
 ·cases e
def PK:List Bx->Option Bx
 |[.z (.int i)]=>some (.z (.int i))
 |[.z (.bl k)]=>some (.z (.int (if k then 1 else 0)))
 |_=>none
theorem X8:pH X (.type "int") PK:=fK.imp Lx fun xs H Q q=>by
 obtain⟨bs,c,rb,e,q⟩:=q
 unfold PK at e
 split at e
 ·rename_i i
  cases e
  obtain⟨v,rfl,r1⟩:=rep1 rb
  have:=Fy r1
  subst this
  exact .inl ⟨i,rfl,q _ H (Same.refl H) trivial Ae⟩
 ·rename_i k
  cases e
  obtain⟨v,rfl,r1⟩:=rep1 rb
  simp only[aR,Rep] at r1
  subst r1
  exact .inr ⟨k,rfl,q _ H (Same.refl H) trivial Ae⟩
 ·cases e
def oN:List Bx->Option Bx
 |[b]=>(yD b).bind fun ds=>some (.z (.tup ds))
 |_=>none
theorem qm:pH X (.type "tuple") oN:=fK.imp Aa fun xs H Q q=>by
 obtain⟨bs,c,rb,e,q⟩:=q
 unfold oN at e
 split at e
 ·obtain⟨ds,ed,e⟩:=bind_some e
  cases e
  obtain⟨v,rfl,r1⟩:=rep1 rb
  obtain⟨p,vs,rfl,sq,rs⟩:=uq r1 ed
  refine⟨p,vs,rfl,?_⟩
  rcases sq with sq|sq
  ·refine .inl ⟨sq,fun l hl=>q _ _ (bJ hl) trivial ?_⟩
   unfold aR Rep
   exact⟨l,vs,rfl,.inl (.inl aP),rs.kp (.of (bJ hl))⟩
  ·refine .inr ⟨sq,q _ H (Same.refl H) trivial ?_⟩
   unfold aR Rep
   exact⟨p,vs,rfl,sq,rs⟩
 ·cases e
def yE:List Dt->Option (List Bool)
 |[]=>some []
 |.bl b::ds=>(yE ds).bind fun bs=>some (b::bs)
 |_=>none
theorem sV {K:PySem.W.Frag} {H:Hp}:∀ {ds:List Dt} {bs:List Bool} {vs:List V} {us:List Value},yE ds=some bs->aF K H ds vs->Vals vs us->us=bs.map Value.bool
 |[],_,_,_,e,r,w=>by
  cases e
  simp only[aF] at r;subst r;cases w;rfl
 |d::ds,_,_,_,e,r,w=>by
  simp only[aF] at r
  obtain⟨v,r',rfl,h1,h2⟩:=r
  cases d<;>first|(cases e;done)|skip
  simp only[yE] at e
  obtain⟨bs,e1,e⟩:=bind_some e
  cases e
  simp only[Rep] at h1
  subst h1
  cases w with
  |cons p t=>
   cases p
   rw[sV e1 h2 t]
   rfl
theorem all_range (bs:List Bool):((List.range bs.length).all fun i=>bs.getD i false)=bs.all id:=by
 rw[ki,QQ,QQ]
 constructor
 ·intro h b hb
  obtain⟨i,hi,rfl⟩:=List.mem_iff_getElem.mp hb
  have:=h i (by simpa using hi)
  simpa [List.getD,hi] using this
 ·intro h i hi
  have hi:i < bs.length:=by simpa using hi
  have:=h bs[i] (kB hi)
  simpa [List.getD,hi] using this
theorem any_range (bs:List Bool):((List.range bs.length).any fun i=>bs.getD i false)=bs.any id:=by
 rw[ki,QE,QE]
 constructor
 ·rintro⟨i,hi,h⟩
  have hi:i < bs.length:=by simpa using hi
  exact⟨bs[i],kB hi,by simpa [List.getD,hi] using h⟩
 ·rintro⟨b,hb,h⟩
  obtain⟨i,hi,rfl⟩:=List.mem_iff_getElem.mp hb
  exact⟨i,by simpa using hi,by simpa [List.getD,hi] using h⟩
def allB:List Bx->Option Bx
 |[b]=>(m9 b).bind fun ds=>(yE ds).bind fun bs=>some (.z (.bl (bs.all id)))
 |_=>none
def anyB:List Bx->Option Bx
 |[b]=>(m9 b).bind fun ds=>(yE ds).bind fun bs=>some (.z (.bl (bs.any id)))
 |_=>none
theorem wF {prog:Program} {w:World} {A:Around} (bs:List Bool):TruthOf prog w A (fun i v=>(bs.map Value.bool).toArray[i]?=some v) fun i=>bs.getD i false:=fun i v s Q E h q=>by
 have h':(bs.map Value.bool)[i]?=some v:=by simpa using h
 rw[z4] at h'
 cases e:bs[i]? with
 |none=>rw[e] at h';cases h'
 |some b=>
  rw[e] at h'
  cases h'
  have:bs.getD i false=b:=by simp[List.getD,e]
  have q':Q b s:=by rw[<-this];exact q
  exact kq q'
theorem Ir (hc:X.calm=true):pH X (.builtin "all") allB:=by
 intro pins s σ H xs us Q I r h
 obtain⟨bs,c,rb,e,q⟩:=h
 unfold allB at e
 split at e
 ·obtain⟨ds,ed,e⟩:=bind_some e
  obtain⟨ks,ek,e⟩:=bind_some e
  cases e
  obtain⟨v,rfl,r1⟩:=rep1 rb
  obtain⟨a,vs,rfl,sq,rs⟩:=r1.z6 ed
  obtain⟨u,rfl,ru⟩:=vals1 r
  cases ru
  obtain⟨its,w,pl,hz⟩:=I.list sq
  have hv:=sV ek rs w
  have hlt:a < s.heap.objs.size:=by obtain⟨o,n,e,_⟩:=pl;exact zw e
  refine call_all_walk (wpAny_pyIter_list pl.isList ?_)
  refine⟨s.heap.objs.size,_,_,_,_,_,fun i=>ks.getD i false,rfl,Walks.list (by show X.A.handled=none;exact I.ok.hd hc) s.heap.objs.size a (zI hlt) its.toArray,⟨⟨_,zr _ rfl,rfl,rfl⟩,pl.isList.push _⟩,?_,fun h' tk k=>?_⟩
  ·rw[hv];exact wF ks
  ·have hn:its.toArray.size=ks.length:=by rw[hv];simp
   rw[hn,all_range]
   have I1:L2.Inv X pins σ H { s with heap:=s.heap.push { cls:=.type "list_iterator", data:=.fields #[.ref a,.int 0 0] } }:=I.kept (t':=s.toks) fun b o e=>ze _ e
   refine⟨.bl _,H,?_,rfl,q _ H (Same.refl H) trivial Im⟩
   obtain⟨f0,f1,f2,f3,f4,f5⟩:=I.Er (b:=s.heap.objs.size) (H':=H) (zk _) (I.hok.fresh (zk _))
   exact I1.turned (it:=s.heap.objs.size) (fun b o hb e=>k b o (by simpa using hb) e) f0 f1 f3 f4 f5
 ·cases e
theorem Iu (hc:X.calm=true):pH X (.builtin "any") anyB:=by
 intro pins s σ H xs us Q I r h
 obtain⟨bs,c,rb,e,q⟩:=h
 unfold anyB at e
 split at e
 ·obtain⟨ds,ed,e⟩:=bind_some e
  obtain⟨ks,ek,e⟩:=bind_some e
  cases e
  obtain⟨v,rfl,r1⟩:=rep1 rb
  obtain⟨a,vs,rfl,sq,rs⟩:=r1.z6 ed
  obtain⟨u,rfl,ru⟩:=vals1 r
  cases ru
  obtain⟨its,w,pl,hz⟩:=I.list sq
  have hv:=sV ek rs w
  have hlt:a < s.heap.objs.size:=by obtain⟨o,n,e,_⟩:=pl;exact zw e
  refine call_any_walk (wpAny_pyIter_list pl.isList ?_)
  refine⟨s.heap.objs.size,_,_,_,_,_,fun i=>ks.getD i false,rfl,Walks.list (by show X.A.handled=none;exact I.ok.hd hc) s.heap.objs.size a (zI hlt) its.toArray,⟨⟨_,zr _ rfl,rfl,rfl⟩,pl.isList.push _⟩,?_,fun h' tk k=>?_⟩
  ·rw[hv];exact wF ks
  ·have hn:its.toArray.size=ks.length:=by rw[hv];simp
   rw[hn,any_range]
   have I1:L2.Inv X pins σ H { s with heap:=s.heap.push { cls:=.type "list_iterator", data:=.fields #[.ref a,.int 0 0] } }:=I.kept (t':=s.toks) fun b o e=>ze _ e
   refine⟨.bl _,H,?_,rfl,q _ H (Same.refl H) trivial Im⟩
   obtain⟨f0,f1,f2,f3,f4,f5⟩:=I.Er (b:=s.heap.objs.size) (H':=H) (zk _) (I.hok.fresh (zk _))
   exact I1.turned (it:=s.heap.objs.size) (fun b o hb e=>k b o (by simpa using hb) e) f0 f1 f3 f4 f5
 ·cases e
end
end P1
end
section
namespace P1
open PySem PySem.Spec PyProof.Rows L2
def gv (i:Nat):Ev->Option Bx:=fun ρ=>vM ρ i
def z7 (g:Bx->Bx->Option Bx) (fa fb:Ev->Option Bx):Ev->Option Bool:=fun ρ=>(b2 g fa fb ρ).bind OD
def tV (f:Ev->Option Bx):Ev->Option Bool:=fun ρ=>(f ρ).bind Tf
def aK:Ev->Option (List Bx):=fun _=>some []
def yF (p:Dt->Bool) (f:Ev->Option Bx):Ev->Option Bx:=b1 (fun b=>if lH b=true then none else some (.z (.bl (p (toD b))))) f
def jG:Ev->Option Out:=fun ρ=>some (.nx ρ)
def lW (f:Ev->Option Bx):Ev->Option Out:=fun ρ=>(f ρ).bind O7
def setG (i:Nat) (f:Ev->Option Bx):Ev->Option Out:=fun ρ=>(f ρ).bind fun b=>(O8 ρ i b).bind fun ρ'=>some (.nx ρ')
def Af (i:Nat) (f:Ev->Option Bx):Ev->Option Out:=fun ρ=>(f ρ).bind (Tt ρ i)
def qp (fi:Ev->Option (List Dt)) (gt:Dt->Ev->Option Ev) (gb:Ev->Option Out):Ev->Option Out:=fun ρ=>(fi ρ).bind fun ds=>ni gt gb ds ρ
def T6 (f:Ev->Option Bx):Ev->Option (List Dt):=fun ρ=>(f ρ).bind Pa
def FQ (f:Ev->Option Bx):Ev->Option (List Dt):=fun ρ=>(f ρ).bind TJ
def FT (fs:Ev->Option (List Bx)):Ev->Option (List Dt):=fun ρ=>(fs ρ).bind Xx
def pJ (i:Nat):Dt->Ev->Option Ev:=fun d ρ=>some (ρ.set i (some (.z d)))
def lJ:Ev->Option Bool:=fun _=>some true
theorem bA {X:Cx}:sU X [] lJ:=⟨.inl ⟨rfl,rfl⟩⟩
theorem oO {X:Cx} {c:Expr} {p:Ev->Option Bool} (h:QB X c p):sU X [c] p:=⟨have h:=h.run;.inr ⟨c,rfl,h⟩⟩
theorem Yc {X:Cx} {scope:Scope} {cl:List (Str×Addr)}:Ad X scope cl [] []:=trivial
theorem T7 {X:Cx} {scope:Scope} {cl:List (Str×Addr)} {x:Str} {i:Nat} {xs:List Str} {is:List Nat} (n:X.N[i]?=some x) (k:X.env.kindOf x=some .cell\/X.env.kindOf x=some .free)
  (k':(relabel scope X.env).names.lookup x=some .cell\/(relabel scope X.env).names.lookup x=some .free) (c:∃ c,cl.lookup x=some c) (r:Ad X scope cl xs is):Ad X scope cl (x::xs) (i::is):=⟨⟨n,k,k',c⟩,r⟩
theorem mem_of_lookup {names:List (Str×NameKind)} {x:Str} {k:NameKind}:names.lookup x=some k->(x,k)∈names:=jv
theorem Yd {X:Cx} {scope:Scope} {cl:List (Str×Addr)} {xs:List Str} {is:List Nat} (clos:closureFor scope X.env=pure cl) (kind:scope.kind=.function) (cell:scope.names.all (fun y=>decide (y.2≠.cell)||(cl.lookup y.1).isNone)=true)
  (names:scope.names.all (fun y=>decide (y.2=.local->scope.names.lookup y.1=some .local))=true) (sub:SubL X.env.cells cl)
  (has:(relabel scope X.env).names.all (fun y=>!(y.2==.cell||y.2==.free)||(cl.lookup y.1).isSome||scope.names.contains (y.1,.cell))=true) (cap:Ad X scope cl xs is):oF X scope cl xs is where
 clos:=clos
 kind:=kind
 cell:=fun y hy hc=>by
  have:=List.all_eq_true.mp cell y hy
  simp only[hc,ne_eq,not_true_eq_false,ka,Bool.false_or,Option.isNone_iff_eq_none] at this
  exact this
 names:=fun y hy=>kr (List.all_eq_true.mp names y hy)
 sub:=sub
 has:=fun x hx=>by
  have h:∃ k,(relabel scope X.env).names.lookup x=some k/\(k==NameKind.cell||k==NameKind.free)=true:=by
   rcases hx with hx|hx
   ·exact⟨_,hx,rfl⟩
   ·exact⟨_,hx,rfl⟩
  obtain⟨k,e,hk⟩:=h
  have:=List.all_eq_true.mp has _ (mem_of_lookup e)
  simp only[hk,Bool.not_true,Bool.false_or,Bool.or_eq_true] at this
  rcases this with h|h
  ·exact .inr (Option.isSome_iff_exists.mp h)
  ·exact .inl (List.contains_iff_mem.mp h)
 cap:=cap
theorem fZ {k:Nat} {A:Around} (r:kh k A):A.units+100 < cLine:=by have:=r.un;omega
theorem Ye {F:List Bx->Option Bx} (h:∀ ns:List Int,ns.length<=63->F [.z (.lst (ns.map .int))]=some (.z (.bl true))) (hl:∀ ns:List Int,ns.length<=63->F [.l (ns.map .int)]=some (.z (.bl true))) (K:PySem.W.Frag) (H:Hp) (a:Addr) (ns:List Int) (hn:ns.length<=63) (_:Only H) (hS:nF K H a (ns.map V.int)) :
  pP K 1 F [.ref a] H (fun v _=>v=.bl true) fun _ _ _=>False:=by
 have rs:∀ ms:List Int,aF K H (ms.map Dt.int) (ms.map V.int):=fun ms=>by
  induction ms with
  |nil=>exact aF.nil
  |cons m ms ih=>exact aF.cons (by unfold Rep;rfl) ih
 have fin:∀ v (H':Hp),Same H H'->Nw H (.z (.bl true)) v->aR K H' (.z (.bl true)) v->v=.bl true:=fun v H' _ _ r=>by simpa only[aR,Rep] using r
 rcases hS with hS|hS
 ·exact⟨rfl,[.l (ns.map .int)],_,.cons ⟨a,_,rfl,hS,rs ns⟩ .nil,rfl,hl ns hn,fin⟩
 ·refine⟨rfl,[.z (.lst (ns.map .int))],_,.cons ?_ .nil,rfl,h ns hn,fin⟩
  unfold aR Rep
  exact⟨a,_,rfl,.inr hS,rs ns⟩
theorem acF {P:Program} {w:World} {K:PySem.W.Frag} {mg:Str->Option Value} {base:Heap} {x qual:Str} {st:Stmt} {f:Addr} {fd:FuncData} {N ps:List Str} {k n m:Nat} {g:Ev->Option Out} (F:zZ K x qual st f fd) (S:cL N ps (aH st)) (hn:N.length=n) (hm:ps.length=m)
  (hbody:∀ (cdv:Value) (A:Around) (outer:List Env) (s:Shared) (H:Hp) (E:XK),kh k (A.deeper (envOfC qual (aH st) s.heap.objs.size f cdv))->Ln (Ck nH P w K mg base N qual (aH st) f cdv A outer s H E).N7 (bV st) g) :
  dB P w K mg base nH (k+1) f fd ps (pP K m (jq n g)):=by
 subst hn hm
 exact acC F S hbody
section
variable {X:Cx} {e st:Expr} {f fs:Ev->Option Bx} {pos p2:Pos}
section
variable {prog:Program} {w:World} {A:Around} {E:Value->Shared->Prop} {s:Shared}
end
end
section
variable {X:Cx} {e:Expr} {f:Ev->Option Bx}
def Zy:Bx->Bx->Option Bx
 |.z (.int i),.z (.int j)=>some (.z (.bl (decide (i < j))))
 |.z (.str x),.z (.str y)=>some (.z (.bl (decide (x.cps.toList < y.cps.toList))))
 |_,_=>none
theorem PL:Cy X (compareOp .Lt) Zy:=by
 intro pins s σ H x y v u Q I rx ry h
 obtain⟨a,b,c,ra,rb,e,q⟩:=h
 unfold Zy at e
 split at e
 ·rename_i i j
  cases e
  exact Z8 pins s σ H x y v u Q I rx ry ⟨i,j,Fy ra,Fy rb,q _ H (Same.refl H) trivial (by unfold aR;exact okT)⟩
 ·rename_i i j
  cases e
  obtain⟨rfl,_⟩:=Pn ra
  obtain⟨rfl,_⟩:=Pn rb
  obtain⟨t,rfl⟩:=rx
  obtain⟨t',rfl⟩:=ry
  exact PySem.P.lt_str ⟨.bl _,H,I,rfl,q _ H (Same.refl H) trivial (by unfold aR;exact okT)⟩
 ·cases e
def rN:List Dt->Option (List Str)
 |[]=>some []
 |.str x::r=>(rN r).bind fun ys=>some (x::ys)
 |_=>none
theorem vW {K:PySem.W.Frag} {H:Hp}:∀ {ds:List Dt} {vs:List V} {ys:List Str},aF K H ds vs->rN ds=some ys->vs=ys.map V.str/\∀ y∈ys,y.length<=sizeLine
 |[],_,_,h,e=>by cases e;simp only[aF] at h;subst h;exact⟨rfl,fun y hy=>by cases hy⟩
 |.str x::ds,_,_,h,e=>by
  simp only[rN] at e
  obtain⟨ys,e1,e2⟩:=bind_some e
  cases e2
  simp only[aF] at h
  obtain⟨v,r,rfl,hd,hr⟩:=h
  obtain⟨rfl,hx⟩:v=.str x/\x.length<=sizeLine:=by simpa only[Rep] using hd
  obtain⟨rfl,h2⟩:=vW hr e1
  refine⟨rfl,fun y hy=>?_⟩
  rcases List.mem_cons.mp hy with rfl|hy
  ·exact hx
  ·exact h2 y hy
 |.non::_,_,_,_,e=>by cases e
 |.bl _::_,_,_,_,e=>by cases e
 |.int _::_,_,_,_,e=>by cases e
 |.tup _::_,_,_,_,e=>by cases e
 |.lst _::_,_,_,_,e=>by cases e
 |.emp::_,_,_,_,e=>by cases e
theorem uw {K:PySem.W.Frag} {H:Hp}:∀ {ys:List Str},(∀ y∈ys,y.length<=sizeLine)->aF K H (ys.map Dt.str) (ys.map V.str)
 |[],_=>aF.nil
 |y::ys,h=>aF.cons (by unfold Rep;exact⟨rfl,h y (zh ..)⟩) (uw fun z hz=>h z (zg _ hz))
theorem sW:∀ {ys:List Str} {its:List Value},Vals (ys.map V.str) its->StrsAre its ys
 |[],_,h=>by cases h;exact .nil
 |y::ys,_,h=>by
  cases h with
  |cons r t=>
   obtain⟨tk,rfl⟩:=r
   exact .cons y tk (sW t)
theorem qP:∀ {its:List Value} {ys:List Str},StrsAre its ys->Vals (ys.map V.str) its
 |_,_,.nil=>.nil
 |_,_,.cons y t h=>.cons ⟨t,rfl⟩ (qP h)
theorem CW:fK X (.builtin "sorted") (fun xs H Q=>∃ p ys,xs=[.ref p]/\nF X.K H p (ys.map V.str)/\ys.length < 64/\∀ l zs,H l=none->zs.Perm ys->sortedS zs=true->Q (.ref l) (upd H l (.lst (zs.map V.str)))):=by
 intro pins s σ H xs us Q I r h
 obtain⟨p,ys,rfl,hq,h64,q⟩:=h
 obtain⟨u,rfl,rx⟩:=vals1 r
 cases rx
 obtain⟨its,r',pl,hz⟩:=I.list hq
 have hlen:=r'.length
 rw[zi] at hlen hz
 refine sorted_strs pl.isList (sW r') (by omega) fun out zs hs hp aaM=>?_
 obtain⟨n,en⟩:=sortedAll_at s.heap its out
 refine⟨.ref (s.heap.objs.size+1),_,I.laid (t':=s.toks) (a:=s.heap.objs.size+1) (o:=.lst (zs.map V.str)) (fun b o e=>sortedAll_old e) (JS _) ?_,rfl,q _ zs (I.hok.fresh (JS _)) hp aaM⟩
 refine⟨by rw[zi,hp.length_eq];exact hz,out.toList,n,qP hs,?_⟩
 rw[en]
def Iv (a b:Str):Prop:=ltCps b.cps.toList a.cps.toList=false
theorem ux:∀ (p:Str) (l:List Str),risingS p l=true->(p::l).Pairwise Iv
 |p,[],_=>by simp
 |p,x::r,h=>by
  have h':(!ltCps x.cps.toList p.cps.toList&&risingS x r)=true:=h
  rw[qq] at h'
  have ih:=ux x r h'.2
  have hx:Iv p x:=by simpa [Iv] using h'.1
  refine List.pairwise_cons.mpr ⟨fun y hy=>?_,ih⟩
  rcases List.mem_cons.mp hy with rfl|hy
  ·exact hx
  ·have hxy:Iv x y:=Q4 ih hy
   unfold Iv at hx hxy ⊢
   rw[ltCps_eq] at hx hxy ⊢
   simp only[jI] at hx hxy ⊢
   exact List.le_trans (α:=Nat) hx hxy
theorem CZ {l:List Str} (h:sortedS l=true):l.Pairwise Iv:=by
 cases l with
 |nil=>exact .nil
 |cons p l=>exact ux p l h
theorem PN {a b:Str} (h:Iv a b) (h':Iv b a):a=b:=by
 unfold Iv at h h'
 rw[ltCps_eq] at h h'
 simp only[jI] at h h'
 have:=List.le_antisymm (as:=a.cps.toList) (bs:=b.cps.toList) h h'
 cases a;cases b
 simp only[Str.mk.injEq]
 exact Array.toList_inj.mp this
theorem uz:∀ {l l':List Str},l.Perm l'->l.Pairwise Iv->l'.Pairwise Iv->l=l'
 |[],l',h,_,_=>by rw[List.nil_perm.mp h]
 |a::l,[],h,_,_=>by cases List.perm_nil.mp h
 |a::l,b::l',h,p,p'=>by
  have e:a=b:=by
   have ha:a∈b::l':=h.mem_iff.mp (zh ..)
   have hb:b∈a::l:=h.mem_iff.mpr (zh ..)
   rcases List.mem_cons.mp ha with h1|h1
   ·exact h1
   ·rcases List.mem_cons.mp hb with h2|h2
    ·exact h2.symm
    ·exact PN (Q4 p h2) (Q4 p' h1)
  subst e
  rw[uz ((List.perm_cons a).mp h) (List.pairwise_cons.mp p).2 (List.pairwise_cons.mp p').2]
def Mt (a b:Str):Bool:=!ltCps b.cps.toList a.cps.toList
def bC (ys:List Str):List Str:=ys.mergeSort Mt
theorem bx (ys:List Str):(bC ys).Perm ys:=List.mergeSort_perm ys Mt
theorem iy (ys:List Str):(bC ys).Pairwise Iv:=by
 have h:=KB (le:=Mt) (fun a b c h1 h2=>by
  unfold Mt at *
  rw[ltCps_eq] at *
  simp only[JO,jI] at *
  exact List.le_trans (α:=Nat) h1 h2) (fun a b=>by
  unfold Mt
  rw[ltCps_eq,ltCps_eq]
  simp only[Bool.or_eq_true,JO,jI]
  exact List.le_total a.cps.toList b.cps.toList) ys
 exact h.imp fun {a b} hh=>by simpa [Mt,Iv] using hh
theorem yG {ys zs:List Str} (hp:zs.Perm ys) (hs:sortedS zs=true):zs=bC ys:=uz (hp.trans (bx ys).symm) (CZ hs) (iy ys)
def uD:List Bx->Option Bx
 |[b]=>(m9 b).bind fun ds=>(rN ds).bind fun ys=>if ys.length < 64 then some (.o ((bC ys).map Dt.str)) else none
 |_=>none
theorem nR:pH X (.builtin "sorted") uD:=fK.imp CW fun xs H Q q=>by
 obtain⟨bs,c,rb,e,q⟩:=q
 unfold uD at e
 split at e
 ·rename_i b
  obtain⟨ds,ed,e⟩:=bind_some e
  obtain⟨ys,ey,e⟩:=bind_some e
  split at e
  ·rename_i h64
   cases e
   obtain⟨v,rfl,r1⟩:=rep1 rb
   obtain⟨p,vs,rfl,sq,rs⟩:=r1.z6 ed
   obtain⟨rfl,hy⟩:=vW rs ey
   refine⟨p,ys,rfl,sq,h64,fun l zs hl hp hs=>?_⟩
   rw[yG hp hs]
   refine q _ _ (bJ hl) (fun a ea=>by cases ea;exact hl) ⟨l,_,rfl,aP,uw fun y h=>hy y ((bx ys).mem_iff.mp h)⟩
  ·cases e
 ·cases e
def FW (x:Str) (b:Bx):Option Bx:=(m9 b).bind fun ds=>(rN ds).bind fun ys=>if (ys.map (·.length)).sum+ys.length * x.length<=100000 then some (.z (.str (Txt.join x ys))) else none
theorem T8:Xg X "str.join" (fun x xs H Q=>∃ y p ys,x=.str y/\xs=[.ref p]/\nF X.K H p (ys.map V.str)/\(ys.map (·.length)).sum+ys.length * y.length<=100000/\Q (.str (Txt.join y ys)) H):=by
 intro pins s σ H x xs v us Q I rx rs h
 obtain⟨y,p,ys,rfl,rfl,sq,hb,q⟩:=h
 obtain⟨t,rfl⟩:=rx
 obtain⟨u,rfl,ru⟩:=vals1 rs
 cases ru
 obtain⟨its,r',pl,hz⟩:=I.list sq
 exact join_list pl.isList (sW r') (by omega) fun t' k=>⟨.str _,H,I.tok _,⟨_,rfl⟩,q⟩
theorem T9 {x:Str} {j:Nat} {p1 apos cpos:Pos} (h:QV X e f) (hx:x.length<=sizeLine:=by decide) (hbase:attributeBase (.Constant (.str x) j p1) "join" X.env (eval (.Constant (.str x) j p1) X.env)=eval (.Constant (.str x) j p1) X.env:=by rfl) (hfew:((backTo cpos (starEach [e] X.env)).all (fun x=>!x.1)&&(backToKw cpos (keywordEach [] X.env)).all (fun x=>x.1.isSome)&&decide ([e].length+([]:List Keyword).length+(if ([]:List Keyword).isEmpty then 0 else 1) < 30))=true:=by rfl) (hline:(apos.endLine==cpos.line)=true:=by rfl) (hs:starEach [e] X.env=(false,eval e X.env)::starEach [] X.env:=by rfl):QV X (.Call (.Attribute (.Constant (.str x) j p1) "join" apos) [e] [] cpos) (b1 (FW x) f):=⟨have h:=h.run;Cw (Ew (T := "str") F.plainAttrs_str F.slot_str_join F.type_str_join T8 (O1 (hx:=hx)) (Fe h Ke hs) hbase hfew hline hs rfl) fun σ H Q q=>by
  obtain⟨H0,ρ,c,E,e,q⟩:=q
  obtain⟨a,ea,e⟩:=bind_some e
  refine⟨H0,ρ,_,E,rfl,fun v H1 s1 n1 r1=>?_⟩
  obtain⟨rfl,hx'⟩:v=.str x/\x.length<=sizeLine:=by simpa only[aR,Rep] using r1
  refine⟨rfl,H0,ρ,[a],E.grow s1,by simp only[au,ea,Option.bind_some],fun vs H2 s2 r2=>?_⟩
  obtain⟨w,rfl,rw1⟩:=rep1 r2
  unfold FW at e
  obtain⟨ds,ed,e⟩:=bind_some e
  obtain⟨ys,ey,e⟩:=bind_some e
  split at e
  ·rename_i hb
   cases e
   obtain⟨p,ws,rfl,sq,rs⟩:=rw1.z6 ed
   obtain⟨rfl,hy⟩:=vW rs ey
   refine⟨x,p,ys,rfl,rfl,sq,hb,q _ _ (s1.trans s2) trivial ?_⟩
   unfold aR Rep
   exact⟨rfl,joinOk_length (joinOk_of (by omega))⟩
  ·cases e⟩
end
section
variable {X:Cx}
def PX:List Bx->Option Bx
 |[.z (.int a),.z (.int b)]=>some (.z (.int (if b > a then b else a)))
 |_=>none
theorem aaN {K:PySem.W.Frag} {H:Hp} {a b:Bx} {vs:List V} (h:pG K H [a,b] vs):∃ v w,vs=[v,w]/\aR K H a v/\aR K H b w:=by
 cases h with
 |cons p t=>
  cases t with
  |cons p' t'=>cases t';exact⟨_,_,rfl,p,p'⟩
theorem Yg (hc:X.calm=true):pH X (.builtin "max") PX:=by
 intro pins s σ H xs us Q I r h
 obtain⟨bs,c,rb,e,q⟩:=h
 unfold PX at e
 split at e
 ·rename_i a b
  cases e
  obtain⟨v,w,rfl,r1,r2⟩:=aaN rb
  have hv:=Fy r1
  have hw:=Fy r2
  subst hv hw
  obtain⟨u,u',rfl,ru,ru'⟩:=Vals.two r
  obtain⟨t,rfl⟩:=ru
  obtain⟨t',rfl⟩:=ru'
  refine max_two_ints (I.ok.hd hc) fun h' tk kp=>?_
  by_cases hb:b > a
  ·rw[zo hb] at q ⊢
   exact⟨.int b,H,I.kept kp,⟨_,rfl⟩,q _ H (Same.refl H) trivial Ae⟩
  ·rw[zS hb] at q ⊢
   exact⟨.int a,H,I.kept kp,⟨_,rfl⟩,q _ H (Same.refl H) trivial Ae⟩
 ·cases e
end
def yH (kvs:List (Key×Dt)) (x:Key):Option Dt:=(kvs.find? fun kv=>decide (kv.1=x)).map (·.2)
def Iw (kvs:List (Key×Dt)) (x:Key) (d:Dt):List (Key×Dt):=
 if (kvs.any fun kv=>decide (kv.1=x))=true then kvs.map (fun kv=>if kv.1=x then (kv.1,d) else kv) else kvs++[(x,d)]
section
variable {K:PySem.W.Frag} {H:Hp}
theorem fL.nil:fL K H [] []:=⟨rfl,aF.nil,fun p hp=>by cases hp⟩
theorem fL.inv {p:Key×Dt} {kvs:List (Key×Dt)} {ks:List (Key×V)} (h:fL K H (p::kvs) ks):∃ v r,ks=(p.1,v)::r/\Rep K H p.2 v/\VL p.1/\fL K H kvs r:=by
 obtain⟨h1,h2,h3⟩:=h
 cases ks with
 |nil=>simp at h1
 |cons q r=>
  simp only[zl,kg] at h1
  obtain⟨e,h1⟩:=h1
  simp only[zl,aF] at h2
  obtain⟨v,r',e2,hv,hr⟩:=h2
  simp only[kg] at e2
  obtain⟨rfl,rfl⟩:=e2
  exact⟨q.2,r,by rw[<-e],hv,h3 p (zh ..),h1,hr,fun x hx=>h3 x (zg _ hx)⟩
theorem fL.cons {p:Key×Dt} {kvs:List (Key×Dt)} {v:V} {r:List (Key×V)} (hv:Rep K H p.2 v) (hp:VL p.1) (h:fL K H kvs r):fL K H (p::kvs) ((p.1,v)::r):=
 ⟨by simp[h.1],aF.cons hv h.2.1,fun x hx=>by
  rcases List.mem_cons.mp hx with rfl|hx
  ·exact hp
  ·exact h.2.2 x hx⟩
theorem fL.append {kvs:List (Key×Dt)} {ks:List (Key×V)} {x:Key} {d:Dt} {v:V} (h:fL K H kvs ks) (hv:Rep K H d v) (hx:VL x):fL K H (kvs++[(x,d)]) (ks++[(x,v)]):=
 ⟨by simp[h.1],by rw[Zp,Zp];exact aF.append h.2.1 (aF.cons hv aF.nil),fun p hp=>by
  rcases List.mem_append.mp hp with hp|hp
  ·exact h.2.2 p hp
  ·cases List.mem_singleton.mp hp;exact hx⟩
theorem fL.len {kvs:List (Key×Dt)} {ks:List (Key×V)} (h:fL K H kvs ks):ks.length=kvs.length:=by
 have:=congrArg List.length h.1
 simpa using this
theorem fL.look:∀ {kvs:List (Key×Dt)} {ks:List (Key×V)} {x:Key} {d:Dt},fL K H kvs ks->yH kvs x=some d->∃ v,mF ks x=some v/\Rep K H d v
 |[],_,_,_,_,e=>by cases e
 |p::kvs,_,x,d,h,e=>by
  obtain⟨v,r,rfl,hv,hpl,hr⟩:=h.inv
  unfold yH at e
  by_cases hp:p.1=x
  ·rw[List.find?_cons_of_pos (by simpa using hp)] at e
   cases e
   exact⟨v,pW (by rw[hp]),hv⟩
  ·rw[List.find?_cons_of_neg (by simpa using hp)] at e
   obtain⟨w,e1,e2⟩:=fL.look hr e
   exact⟨w,(pX (by simpa using hp)).trans e1,e2⟩
theorem fL.any:∀ {kvs:List (Key×Dt)} {ks:List (Key×V)} {x:Key},fL K H kvs ks->(ks.any fun kv=>decide (kv.1=x))=kvs.any fun kv=>decide (kv.1=x)
 |[],ks,_,h=>by
  have:=h.len
  cases ks with
  |nil=>rfl
  |cons _ _=>simp at this
 |p::kvs,_,x,h=>by
  obtain⟨v,r,rfl,hv,hpl,hr⟩:=h.inv
  rw[Q2,Q2,fL.any hr]
theorem fL.Qa:∀ {kvs:List (Key×Dt)} {ks:List (Key×V)} {x:Key} {d:Dt} {v:V},fL K H kvs ks->Rep K H d v->fL K H (kvs.map fun kv=>if kv.1=x then (kv.1,d) else kv) (ks.map fun kv=>if kv.1=x then (kv.1,v) else kv)
 |[],ks,_,_,_,h,_=>by
  have:=h.len
  cases ks with
  |nil=>exact fL.nil
  |cons _ _=>simp at this
 |p::kvs,_,x,d,v,h,hd=>by
  obtain⟨w,r,rfl,hw,hpl,hr⟩:=h.inv
  rw[zl,zl]
  have ih:=fL.Qa (x:=x) hr hd
  by_cases hp:p.1=x
  ·rw[zo hp,zo (by simp[hp])]
   exact fL.cons (p:=(p.1,d)) hd hpl ih
  ·rw[zS hp,zS (by simpa using hp)]
   exact fL.cons hw hpl ih
theorem fL.put {kvs:List (Key×Dt)} {ks:List (Key×V)} {x:Key} {d:Dt} {v:V} (h:fL K H kvs ks) (hv:Rep K H d v) (hx:VL x):fL K H (Iw kvs x d) (putK ks x v):=by
 unfold Iw putK
 rw[h.any]
 split
 ·exact h.Qa hv
 ·exact h.append hv hx
end
section
variable {X:Cx} {e ek o:Expr} {f fk fo:Ev->Option Bx} {pos pos':Pos}
theorem Kq  : QV X (.Dict [] [] pos) (fun _=>some (.m [] none)):=⟨Cw Ou fun σ H Q h=>by
 obtain⟨H0,ρ,b,E,e,q⟩:=h
 cases e
 intro p hp
 exact q _ _ (bJ hp) (fun a ea=>by cases ea;exact hp) ⟨p,[],rfl,aP,fL.nil,fun b h=>by cases h⟩⟩
def V2:Bx->Option Key
 |.z (.str x)=>some (.inr x)
 |.z (.int i)=>some (.inl i)
 |_=>none
theorem Kr {K:PySem.W.Frag} {H:Hp} {b:Bx} {k:Key} {v:V} (e:V2 b=some k) (r:aR K H b v):v=kV k/\VL k:=by
 unfold V2 at e
 split at e
 ·cases e;simp only[aR,Rep] at r;exact r
 ·cases e;simp only[aR,Rep] at r;exact⟨r,trivial⟩
 ·cases e
def Bm:Bx->Bx->Option Bx
 |.n kvs,b=>(V2 b).bind fun k=>(yH kvs k).bind fun d=>some (.z d)
 |_,_=>none
theorem Iz {a b c:Bx} (h:Bm a b=some c):∃ kvs k d,a=.n kvs/\V2 b=some k/\yH kvs k=some d/\c=.z d:=by
 unfold Bm at h
 split at h
 ·obtain⟨k,ek,h⟩:=bind_some h
  obtain⟨d,ed,h⟩:=bind_some h
  cases h
  exact⟨_,k,d,rfl,ek,ed,rfl⟩
 ·cases h
theorem Ua (hu:X.A.units+100 < cLine) (ho:QV X o fo) (hk:QV X ek fk) (hs:Xn ek:=by intro _ _;rfl):QV X (.Subscript o ek pos) (b2 Bm fo fk):=⟨have ho:=ho.run;have hk:=hk.run;Cw (S8 (by omega) ho hk hs) fun σ H Q h=>by
 obtain⟨H0,ρ,c,E,e,q⟩:=h
 obtain⟨a,ea,e⟩:=bind_some e
 obtain⟨b,eb,e⟩:=bind_some e
 refine⟨H0,ρ,a,E,ea,fun v H1 s1 n1 r1=>⟨H0,ρ,b,E.grow s1,eb,fun w H2 s2 n2 r2=>?_⟩⟩
 obtain⟨kvs,x,d,rfl,ekx,ed,rfl⟩:=Iz e
 obtain⟨p,ks,rfl,rd,rm⟩:=r1.same s2
 obtain⟨v',ev,rv⟩:=rm.look ed
 obtain⟨rfl,_⟩:=Kr ekx r2
 exact⟨p,v',rfl,.inl ⟨ks,x,rd,rfl,ev.symm⟩,q _ _ (s1.trans s2) trivial rv⟩⟩
def FZ (ρ:Ev) (i:Nat):Bx->Bx->Option Out
 |.z d,b=>(V2 b).bind fun x=>match ρ[i]? with
  |some (some (.m kvs w))=>if kvs.length < 1000 then some (.nx (ρ.set i (some (.m (Iw kvs x d) w)))) else none
  |_=>none
 |_,_=>none
def Qc (i:Nat) (f fk:Ev->Option Bx):Ev->Option Out:=fun ρ=>(f ρ).bind fun b=>(fk ρ).bind fun k=>FZ ρ i b k
theorem IK {ρ:Ev} {i:Nat} {b k:Bx} {r:Out} (h:FZ ρ i b k=some r):∃ d y kvs w,b=.z d/\V2 k=some y/\ρ[i]?=some (some (.m kvs w))/\kvs.length < 1000/\r=.nx (ρ.set i (some (.m (Iw kvs y d) w))):=by
 unfold FZ at h
 split at h
 ·obtain⟨y,ey,h⟩:=bind_some h
  split at h
  ·rename_i hρ
   split at h
   ·rename_i hl
    cases h
    exact⟨_,y,_,_,rfl,ey,hρ,hl,rfl⟩
   ·cases h
  ·cases h
 ·cases h
theorem Ub (i:Nat) {x:Str} {p:Pos} (hu:X.A.units+100 < cLine) (he:QV X e f) (hk:QV X ek fk) (hN:X.N[i]?=some x:=by rfl) (hv:Hv X.env.scope x:=by first|exact QP rfl|exact qi (QP rfl)|exact qi (qi rfl)) (hd:(x==("__debug__" : Str))=false:=by decide) (hcd:(x==("__classdict__" : Str))=false:=by decide) (hs:swapsWith e (some (.Subscript (.Name x p) ek pos')) pos.line X.env=pure false:=by rfl):Ml X (.Assign [.Subscript (.Name x p) ek pos'] e pos) (fun ρ=>(f ρ).bind fun b=>(fk ρ).bind fun k=>FZ ρ i b k):=⟨have he:=he.run;have hk:=hk.run;Ox (S9 (by omega) (mZ (i:=i) hN hv hd hcd) hk he hs) fun D σ H h=>by
  obtain⟨H0,ρ,r,E,e,q⟩:=h
  obtain⟨b,eb,e⟩:=bind_some e
  obtain⟨k,ek,e⟩:=bind_some e
  refine⟨H0,ρ,b,E,eb,fun v H1 s1 n1 r1=>?_⟩
  obtain⟨d,y,kvs,w0,rfl,eky,hρ,hl,rfl⟩:=IK e
  have E1:=E.grow s1
  obtain⟨w,e1,a,ks,rfl,ha,rm,tie⟩:=E1.val i _ hρ
  refine⟨_,e1,H0,ρ,_,E1,ek,fun u H2 s2 n2 r2=>?_⟩
  obtain⟨rfl,hyl⟩:=Kr eky r2
  have E2:=E1.grow s2
  have ha2:=s2 _ _ ha
  have kp:Kp H2 (upd H2 a (.dK (putK ks y v))):=.dk ha2
  refine⟨a,_,rfl,Ig.k (k:=y) ha2 (by rw[rm.len];exact Nat.lt_trans hl (by decide)),q _ _ ?_⟩
  exact E2.Xw hρ rfl e1 kp ⟨a,_,rfl,aP,((rm.kp (.of s2)).put (x:=y) (aR.same s2 r1) hyl).kp kp,tie⟩⟩
end
section
variable {X:Cx} {a b c e:Expr} {es:List Expr} {fa fb fc f:Ev->Option Bx} {fs:Ev->Option (List Bx)} {pos:Pos}
theorem nA {x:Str} {j} (hx:x.length<=sizeLine:=by decide):QV X (.Constant (.str x) j pos) (cB (.str x)):=⟨P1.O1 (hx:=hx)⟩
end
section
variable {X:Cx} {a b c e:Expr} {es:List Expr} {fa fb fc f:Ev->Option Bx} {fs:Ev->Option (List Bx)} {pos:Pos}
variable {p q:Ev->Option Bool} {rest:List Expr}
theorem ak (h1:QV X e f) (h2:RV X es fs) (hs:starEach (e::es) X.env=(false,eval e X.env)::starEach es X.env:=by rfl):RV X (e::es) (au f fs):=⟨P1.Fe (h1:=h1.run) (h2:=h2.run) (hs:=hs)⟩
end
section
variable {X:Cx} {a b c e:Expr} {es:List Expr} {fa fb fc f:Ev->Option Bx} {fs:Ev->Option (List Bx)} {pos:Pos}
variable {p q:Ev->Option Bool} {rest:List Expr}
theorem aB  : RV X [] (fun _=>some []):=⟨P1.Ke ⟩
end
theorem uE {P:Program} {w:World} {K:PySem.W.Frag} {mg:Str->Option Value} {base:Heap} {x qual:Str} {st:Stmt} {f:Addr} {fd:FuncData} {N ps:List Str} {k n m:Nat} {g:Ev->Option Out} (F:zZ K x qual st f fd) (S:cL N ps (aH st)) (hn:N.length=n) (hm:ps.length=m)
  (hbody:∀ (cdv:Value) (A:Around) (outer:List Env) (s:Shared) (H:Hp) (E:XK),kh k (A.deeper (envOfC qual (aH st) s.heap.objs.size f cdv))->NQ (Ck nH P w K mg base N qual (aH st) f cdv A outer s H E).N7 (bV st) g) :
  dB P w K mg base nH (k+1) f fd ps (pP K m (jq n g)):=acF F S hn hm fun cdv A outer s H E hr=>(hbody cdv A outer s H E hr).run
section
variable {prog:Program} {w:World} {A:Around} {E:Value->Shared->Prop} {s:Shared}
theorem Dc {d:Addr} {kvs:List (Key×Value)} {ep:Nat} {Q:List Value->Shared->Prop} (hh:A.handled=none) (hd:(d==sysModules)=false) (hm:s.heap.DictAt (bM prog w) d kvs ep) (hn:kvs.length<=sizeLine)
  (hQ:∀ s' acc,s.heap.objs.size<=s'.heap.objs.size->(∀ b o,s.heap.get? b=some o->s'.heap.get? b=some o)->s'.gens=s.gens->s'.drawn=s.drawn->s'.os=s.os->ItemsOf (fun i v=>∃ k x,kvs[i]?=some (k,x)/\(bM prog w).is k v=true) acc kvs.length->Q acc.toList s') :
  wpAny (model prog w) A (collect (.ref d)) Q E s:=by
 have hT:s.TypeIs (.ref d) "dict" := hm.dictOf.typeIs
 have hlt:d < s.heap.objs.size:=by obtain⟨o,_,ho,_⟩:=hm;exact zw ho
 unfold collect
 refine zb (wpAny_runValue (kc F.entry_proto_collect ?_));rw[Around.under_plainId F.plain_proto_collect _]
 show wpAny _ A.in1 (newList [] >>= fun l=>again (.builtin "list.__iadd__" ⟨[l,.ref d],[]⟩)) _ _ s
 refine zb (qa (zd ⟨plainId_quiet Kb _,kc F.entry_list_iadd ?_⟩));rw[Around.under_plainId Kb _]
 show wpAny _ A.in1 (Builtin.List.listExtendWith (.ref s.heap.objs.size) (.ref d) (.ref s.heap.objs.size)) _ _ _
 unfold Builtin.List.listExtendWith
 have hm1:=hm.at' (h':=s.heap.push { cls:=.type "list", data:=.seq ([]:List Value).toArray }) fun o e=>ze _ e
 refine zb (QO (T := "dict") hm1.dictOf.typeIs ?_)
 have h1:Builtin.List.listSameRef (.ref s.heap.objs.size) (.ref d)=false:=by simp[Builtin.List.listSameRef];exact ko hlt
 simp only[h1,show (Value.type "dict" == Value.type "list")=false by decide,show (Value.type "dict" == Value.type "tuple")=false by decide,Bool.or_false,zz,qk]
 refine zb (wpAny_pyIter_dict hd hm1 ?_)
 refine zb (QU ?_)
 have hm2:=hm1.at' (h':=(s.heap.push { cls:=.type "list", data:=.seq ([]:List Value).toArray }).push { cls:=.type "dict_keyiterator", data:=.fields #[.ref d,.int 0 0,.int kvs.length 0,.int ep 0] }) fun o e=>ze _ e
 unfold Builtin.List.listLengthHint
 refine zb (wpAny_specialOf (T := "dict") hm2.dictOf.typeIs F.slot_dict_len.lookup ?_)
 wp_delta
 refine zb (wpAny_isInstance (T := "dict") (b:=true) hm2.dictOf.typeIs (by rw[isSubtype_type];kernel_rfl) ?_)
 show wpAny _ A.in1 (typeOf (Value.ref d) >>= _) _ _ _
 refine zb (QO (T := "dict") hm2.dictOf.typeIs (zd ?_))
 rw[zo (by decide)]
 show wpAny _ A.in1 (Builtin.List.listTouch (Value.ref s.heap.objs.size) >>= fun _=>again (Code.builtin "list.extend.loop" ⟨[Value.ref s.heap.objs.size,Value.ref (s.heap.push { cls:=.type "list", data:=.seq ([]:List Value).toArray }).objs.size,Value.ref s.heap.objs.size],[]⟩)) _ _ _
 generalize hH:(s.heap.push { cls:=.type "list", data:=.seq ([]:List Value).toArray })=H at hm1 hm2 ⊢
 have hHs:H.objs.size=s.heap.objs.size+1:=by rw[<-hH,Z3]
 generalize hG:H.push { cls:=.type "dict_keyiterator", data:=.fields #[.ref d,.int 0 0,.int kvs.length 0,.int ep 0] }=G at hm2 ⊢
 have hS:G.get? s.heap.objs.size=some (seqObj "list" #[] 0):=by
  rw[<-hG]
  refine ze _ ?_
  rw[<-hH]
  exact zr _ rfl
 have hI:G.get? H.objs.size=some { cls:=.type "dict_keyiterator", data:=.fields #[.ref d,.int 0 0,.int kvs.length 0,.int ep 0] }:=by
  rw[<-hG]
  exact zr _ rfl
 unfold Builtin.List.listTouch
 refine zb (zb (listUpdate_at hS rfl (listUpdate_at (get?_update_seq hS _) rfl ?_ (by show _<=_;decide) (by show _<=_;decide)) (by show _<=_;decide) (by show _<=_;decide)))
 have hIS:H.objs.size≠s.heap.objs.size:=by omega
 have hdS:d≠s.heap.objs.size:=zI hlt
 have hS3:=get?_update_seq (get?_update_seq hS (fun x=>x.push Value.none)) (fun x=>x.pop)
 generalize hU:(G.update s.heap.objs.size (Obj.mapSeq fun x=>x.push Value.none)).update s.heap.objs.size (Obj.mapSeq fun x=>x.pop)=U at hS3
 have keep:∀ b,b≠s.heap.objs.size->U.get? b=G.get? b:=fun b hb=>by rw[<-hU,Q1 _ _ _ _ hb,Q1 _ _ _ _ hb]
 have st0:U.IsKeyIter H.objs.size d 0 kvs.length ep/\U.DictAt (bM prog w) d kvs ep:=⟨⟨_,(keep _ hIS).trans hI,rfl,rfl⟩,hm2.at' fun o e=>(keep d hdS).trans e⟩
 show wpAny _ A.in1 (again _) _ _ { s with heap:=U }
 have hSf:s.heap.objs.size∉[H.objs.size,d]:=fun h=>by
  simp only[qh,qc,or_false] at h
  rcases h with h|h
  ·exact hIS h.symm
  ·exact hdS h.symm
 refine zd ⟨plainId_quiet F.plain_extend_loop _,codeAny_extend_loopS (Walks.dictKeys (A:=A.in1) hh H.objs.size d (zI (hHs▸qr hlt)) kvs ep).toS hn s.heap.objs.size hSf _ kvs.length 0 { s with heap:=U } #[] _ rfl (qv _) st0 hS3 (ItemsOf.nil _) fun s' acc' c' mv hS' hacc=>?_⟩
 show wpAny _ A (load s.heap.objs.size >>= _) _ _ s'
 refine zb (wpAny_load hS' (zd (hQ s' acc' (qB (zw hS')) (fun b ob e=>?_) mv.gens mv.drawn mv.os hacc)))
 have hb:=zw e
 refine mv.heap b ob (fun h=>?_) ((keep b (zI hb)).trans ?_)
 ·simp only[qh,qc,or_false] at h
  rcases h with h|h
  ·exact zI hb h
  ·rw[h,hHs] at hb
   exact absurd hb (Nat.not_lt.mpr (JS _))
 ·rw[<-hG]
  refine ze _ ?_
  rw[<-hH]
  exact ze _ e
theorem wG:∀ (vs:List Value) (ys:List Str),vs.length=ys.length->(∀ (j:Nat) v,vs[j]?=some v->∃ y t,ys[j]?=some y/\v=.str y t)->StrsAre vs ys
 |[],[],_,_=>.nil
 |v::vs,y::ys,hl,h=>by
  obtain⟨y',t,e,rfl⟩:=h 0 v rfl
  cases e
  exact .cons y t (wG vs ys (by simpa using hl) fun j v hv=>h (j+1) v (by simpa using hv))
theorem IV {kvs:List (Key×Value)} {ys:List Str} (hk:kvs.map (·.1)=ys.map Sum.inr) {acc:Array Value} (h:ItemsOf (fun i v=>∃ k x,kvs[i]?=some (k,x)/\(bM prog w).is k v=true) acc kvs.length):StrsAre acc.toList ys:=by
 have hl:kvs.length=ys.length:=by have:=congrArg List.length hk;simpa using this
 refine wG _ _ (by rw[qE,h.1,hl]) fun j v hv=>?_
 obtain⟨k,x,e,hi⟩:=h.2 j v (by simpa using hv)
 have e1:(kvs.map (·.1))[j]?=some k:=by rw[z4,e];rfl
 rw[hk,z4] at e1
 cases hy:ys[j]? with
 |none=>rw[hy] at e1;cases e1
 |some y=>
  rw[hy] at e1
  cases e1
  have hi':jk (Sum.inr y) v=true:=hi
  rcases bw hi' with⟨i,t,e2,e3⟩|⟨z,t,e2,e3⟩
  ·cases e2
  ·cases e2
   exact⟨_,t,rfl,e3⟩
theorem Ga {d:Addr} {kvs:List (Key×Value)} {ep:Nat} {ys:List Str} {Q:Value->Shared->Prop} (hh:A.handled=none) (hd:(d==sysModules)=false) (hm:s.heap.DictAt (bM prog w) d kvs ep) (hk:kvs.map (·.1)=ys.map Sum.inr) (h64:ys.length < 64)
  (h:∀ (l:Addr) (h':Heap) (tk:Nat) (out:Array Value) (zs:List Str) (n:Nat),s.heap.objs.size<=l->(∀ b o,s.heap.get? b=some o->h'.get? b=some o)->h'.get? l=some (seqObj "list" out n)->StrsAre out.toList zs->zs.Perm ys->sortedS zs=true->Q (.ref l) { s with heap:=h',toks:=tk }) :
  wpAny (model prog w) A (call (.builtin "sorted") [.ref d]) Q E s:=by
 have hl:kvs.length=ys.length:=by have:=congrArg List.length hk;simpa using this
 refine kP kind_sorted plain_sorted entry_sorted (args_sorted1 _) ?_;unfold Builtin.«sorted»
 refine zb (m:=checkCount "sorted" 1 1 _) (zd (zb (Dc (by exact hh) hd hm (zv (qB (hl▸h64)) (by decide)) fun s' acc hle ext hg hdr hos hit=>?_)))
 have hS:=IV hk hit
 have hlen:acc.toList.length < 64:=by rw[qE,hit.1,hl];exact h64
 refine zb (Ki ?_)
 have hoL:(s'.heap.push (seqObj "list" acc.toList.toArray 0)).get? s'.heap.objs.size=some (seqObj "list" acc.toList.toArray 0):=zr _ rfl
 refine zb (QU (Qr slot_list_sort ⟨_,hoL,rfl⟩ entry_list_sort (list_sort_treeK strKind_oneLt hoL hS.keysOf (fun v₁ v₂ rest e=>keyKind_strs (by rw[<-e];exact hS)) hlen fun st' a1 a2=>⟨_,rfl,zd ⟨_,rfl,?_⟩⟩) (args_list_sort _)))
 obtain⟨zs,z1,z2,z3⟩:=sorted_out_str hS a1 a2
 obtain⟨n,en⟩:=sortedHeap_at (out:=(arrOf st').map (·.2)) hoL
 have key:=h s'.heap.objs.size _ s'.toks _ zs n hle (fun b o e=>by
  have e1:=ext b o e
  have hb:=zw e1
  rw[sortedHeap_old (zI hb) (by rw[Z3];exact qr hb)]
  exact ze _ e1) en z1 z2 z3
 rw[<-hg,<-hdr,<-hos] at key
 exact key
end
section
variable {X:Cx}
def Mu:List (Key×Dt)->Option (List Str)
 |[]=>some []
 |(.inr x,_)::r=>(Mu r).bind fun ys=>some (x::ys)
 |(.inl _,_)::_=>none
theorem qQ:∀ {kvs:List (Key×Dt)} {ys:List Str},Mu kvs=some ys->kvs.map (·.1)=ys.map Sum.inr
 |[],_,e=>by cases e;rfl
 |(.inr x,_)::r,_,e=>by
  obtain⟨ys,e1,e⟩:=bind_some e
  cases e
  rw[zl,zl,qQ e1]
 |(.inl _,_)::_,_,e=>by cases e
theorem Uc {kvs:List (Key×Dt)} {ys:List Str} (e:Mu kvs=some ys) (h:∀ p∈kvs,VL p.1) (y:Str) (hy:y∈ys):y.length<=sizeLine:=by
 have:(Sum.inr y:Key)∈kvs.map (·.1):=by rw[qQ e];exact List.mem_map.mpr ⟨y,hy,rfl⟩
 obtain⟨p,hp,ep⟩:=List.mem_map.mp this
 have:=h p hp
 rw[ep] at this;exact this
def yI:List Bx->Option Bx
 |[.n kvs]=>(Mu kvs).bind fun ys=>if kvs.length < 64 then some (.o ((bC ys).map Dt.str)) else none
 |_=>none
theorem Ku:∀ {ks:List (Key×V)} {vs:List (Key×Value)},KV ks vs->vs.map (·.1)=ks.map (·.1)
 |_,_,.nil=>rfl
 |_,_,.cons h t=>by rw[zl,zl,Ku t,h.1]
theorem IW (hc:X.calm=true):pH X (.builtin "sorted") yI:=by
 intro pins s σ H xs us Q I r h
 obtain⟨bs,c,rb,e,q⟩:=h
 unfold yI at e
 split at e
 ·rename_i kvs
  obtain⟨ys,ey,e⟩:=bind_some e
  have hlen:kvs.length=ys.length:=by have:=congrArg List.length (qQ ey);simpa using this
  split at e
  ·rename_i h64
   cases e
   obtain⟨v,rfl,r1⟩:=rep1 rb
   obtain⟨a,ks,rfl,rd,rm⟩:=r1
   obtain⟨u,rfl,ru⟩:=vals1 r
   cases ru
   obtain⟨_,hsys,vs,kv,o,es,ep,dd⟩:=Ez I.hok rd
   have hk:vs.map (·.1)=ys.map Sum.inr:=by rw[Ku kv,rm.1];exact qQ ey
   refine Ga (I.ok.hd hc) hsys ⟨o,es,dd⟩ hk (by omega) fun l h' tk out zs n hle ext en z1 z2 z3=>?_
   have ez:=yG z2 z3
   subst ez
   have hy:∀ y∈bC ys,y.length<=sizeLine:=fun y hy=>Uc ey rm.2.2 y ((bx _).mem_iff.mp hy)
   have hl:=I.hok.fresh hle
   refine⟨.ref l,_,I.laid (t':=tk) (a:=l) (o:=.lst ((bC ys).map V.str)) ext hle ?_,rfl,q _ _ (bJ hl) (fun a ea=>by cases ea;exact hl) ⟨l,_,rfl,aP,uw hy⟩⟩
   refine⟨by rw[zi,(bx _).length_eq,<-hlen];exact zv (qB h64) (by decide),out.toList,n,qP z1,?_⟩
   rw[en]
  ·cases e
 ·cases e
end
theorem aQ.aaP {K:PySem.W.Frag} {H0 H:Hp} {σ:L2.St} {ρ:Ev} (E:aQ K H0 H σ ρ) (i:Nat):aQ K H0 H σ (ρ.set i none):=by
 have back:∀ (j:Nat) (b:Bx),(ρ.set i none)[j]?=some (some b)->ρ[j]?=some (some b):=fun j b e=>by
  rw[kU] at e
  split at e
  ·split at e<;>cases e
  ·exact e
 refine⟨by rw[jb];exact E.len,fun j b e=>E.val j b (back j b e),fun j k c a b e1 ec e2 e3 e4 e5=>E.own j k c a b (back _ _ e1) ec e2 (back _ _ e3) e4 e5,E.base,fun j c a e1 ec e2=>E.new j c a (back _ _ e1) ec e2⟩
def kill (is:List Nat) (ρ:Ev):Ev:=is.foldl (fun ρ i=>ρ.set i none) ρ
theorem aQ.kill {K:PySem.W.Frag} {H0 H:Hp} {σ:L2.St}:∀ (is:List Nat) {ρ:Ev},aQ K H0 H σ ρ->aQ K H0 H σ (P1.kill is ρ)
 |[],_,E=>E
 |i::is,_,E=>aQ.kill is (E.aaP i)
def eY (is:List Nat):Ev->Option Out:=fun ρ=>some (.nx (kill is ρ))
theorem Qd {X:Cx} {ss:List Stmt} {g:Ev->Option Out} (is:List Nat) (h:Ln X ss g):Ln X ss (aG g (eY is)):=Xp h fun D σ H q=>by
 obtain⟨H0,ρ,r,E,e,q⟩:=q
 obtain⟨r1,e1,e⟩:=bind_some e
 refine⟨H0,ρ,r1,E,e1,?_⟩
 cases r1 with
 |nx ρ1=>cases e;exact fun σ' H' E'=>q σ' H' (E'.kill is)
 |rt b=>cases e;exact q
 |bk b=>cases e;exact q
 |ct b=>cases e;exact q
theorem bF {X:Cx} {ss:List Stmt} {g:Ev->Option Out} (is:List Nat) (h:NQ X ss g):NQ X ss (aG g (eY is)):=⟨Qd is h.run⟩
end P1
end
section
namespace S1
open PySem PySem.Spec PyProof.Rows
section
variable (rk:Value->Nat)
def at_ (xs:Array Keyed) (i:Nat):Nat:=match xs[i]? with
 |some p=>rk p.1
 |none=>0
def Up (xs:Array Keyed) (k:Nat):Prop:=∀ i j,i<=j->j < k->at_ rk xs i<=at_ rk xs j
def Down (xs:Array Keyed) (k:Nat):Prop:=∀ i j,i<=j->j < k->at_ rk xs j<=at_ rk xs i
structure Bs (kd:SortKind) (b:Array Keyed) (st:SortSt):Prop where
 pm:(arrOf st).Perm b
 kd:kindOf st=kd
 fl:failedOf st=none
 pd:pendingOf st=#[]
variable {rk} {kd:SortKind} {b:Array Keyed}
theorem Bs.sz {st:SortSt} (h:Bs kd b st):(arrOf st).size=b.size:=h.pm.size_eq
theorem Bs.arr {st:SortSt} {xs:Array Keyed} (h:Bs kd b st) (hp:xs.Perm (arrOf st)):Bs kd b (PyProof.Rows.setArr st xs):=⟨hp.trans h.pm,h.kd,h.fl,h.pd⟩
theorem qt {xs ys:Array Keyed} {i j:Nat} (h:xs[i]?=ys[j]?):at_ rk xs i=at_ rk ys j:=by unfold at_;rw[h]
theorem Qe {xs:Array Keyed} {p d:Nat} (hs:p < xs.size) (hd:d<=p) (k:Nat):at_ rk (bubble xs p d) k=if k=p - d then at_ rk xs p else if p - d < k/\k<=p then at_ rk xs (k - 1) else at_ rk xs k:=by
 have e:=getElem?_bubble hs d hd k
 by_cases q:k=p - d
 ·simp only[zo q] at e ⊢;exact qt e
 ·simp only[zS q] at e ⊢
  by_cases q2:p - d < k/\k<=p
  ·simp only[zo q2] at e ⊢;exact qt e
  ·simp only[zS q2] at e ⊢;exact qt e
theorem Ja {xs:Array Keyed} {i j:Nat} (hj:j<=xs.size) (k:Nat):at_ rk (mirror xs i j ((j - i) / 2)) k=if i<=k/\k < j then at_ rk xs (i+j - 1 - k) else at_ rk xs k:=by
 have e:=getElem?_mirror_all (i:=i) hj k
 by_cases q:i<=k/\k < j
 ·simp only[zo q] at e ⊢;exact qt e
 ·simp only[zS q] at e ⊢;exact qt e
theorem uF {xs:Array Keyed} {i j:Nat} (hj:j<=xs.size) (he:∀ k,i<=k->k < j->at_ rk xs k=at_ rk xs (j - 1)) (k:Nat):at_ rk (mirror xs i j ((j - i) / 2)) k=at_ rk xs k:=by
 rw[Ja hj]
 by_cases q:i<=k/\k < j
 ·rw[zo q,he (i+j - 1 - k) (by omega) (by omega),he k q.1 q.2]
 ·rw[zS q]
end
section
variable {prog:Program} {w:World} {A:Around} {E:Value->Shared->Prop} {s:Shared} {b:Array Keyed} {kd:SortKind} {rk:Value->Nat}
def Qf (prog:Program) (w:World) (A:Around) (s:Shared) (kd:SortKind) (rk:Value->Nat) (b:Array Keyed):Prop:=
 ∀ (E:Value->Shared->Prop) (p q:Keyed) (Q:Bool->Shared->Prop),p∈b.toList->q∈b.toList->Q (decide (rk p.1 < rk q.1)) s->wpAny (model prog w) A (keyLt' kd p.1 q.1) Q E s
theorem Gb {st:SortSt} {i j:Nat} {Q:Option Bool->SortSt->Prop} (hC:Qf prog w A s kd rk b) (B:Bs kd b st) (hi:i < b.size) (hj:j < b.size)
  (h:Q (some (decide (at_ rk (arrOf st) i < at_ rk (arrOf st) j))) st):wpS (model prog w) A E s (ltAt' i j) Q st:=by
 have get:∀ k,k < b.size->∃ p,(arrOf st)[k]?=some p/\p∈b.toList:=fun k hk=>by
  have hk':k < (arrOf st).size:=by rw[B.sz];exact hk
  exact⟨(arrOf st)[k],getElem?_pos _ k hk',(Array.perm_iff_toList_perm.mp B.pm).mem_iff.mp (by simp)⟩
 obtain⟨p,e1,m1⟩:=get i hi
 obtain⟨q,e2,m2⟩:=get j hj
 have h:Q (some (decide (rk p.1 < rk q.1))) st:=by unfold at_ at h;rw[e1,e2] at h;exact h
 rw[ltAt'_eq]
 refine wpS_bind (wpS_get ?_)
 show wpS _ _ _ _ (elem' (arrOf st) i >>= fun x=>elem' (arrOf st) j >>= fun y=>lt' x y) Q st
 rw[elem'_eq,elem'_eq,e1,e2]
 refine wpS_bind (wpS_pure ?_)
 refine wpS_bind (wpS_pure ?_)
 rw[lt'_eq]
 refine wpS_bind (wpS_get ?_)
 rw[B.kd]
 exact wpS_bind (wpS_lift (wpAny_attempt (hC _ p q _ m1 m2 ⟨rfl,wpS_pure h⟩)))
theorem asc {st:SortSt} {a n:Nat} {Q:AscSt->SortSt->Prop} (hC:Qf prog w A s kd rk b) (hn:n<=b.size) (ha:1<=a) (han:a<=n) (B:Bs kd b st) (hs:Up rk (arrOf st) a)
  (h:∀ m,a<=m->m<=n->Up rk (arrOf st) m->(m=n\/at_ rk (arrOf st) m < at_ rk (arrOf st) (m - 1))->Q (none,m) st):wpS (model prog w) A E s (ascLoop a n) Q st:=by
 unfold ascLoop
 refine wpS_forRange (I:=fun x c t=>t=st/\c=(none,x)/\Up rk (arrOf st) x) ?_ ?_ ⟨rfl,rfl,hs⟩
 ·rintro x c t hax hxn ⟨rfl,rfl,up⟩
  refine wpS_bind (Gb hC B (by omega) (by omega) ?_)
  by_cases q:at_ rk (arrOf t) x < at_ rk (arrOf t) (x - 1)
  ·simp only[q,kD,Q3]
   exact wpS_pure (h x hax (by omega) up (.inr q))
  ·simp only[q,ka,zz,qk]
   refine wpS_pure ⟨rfl,rfl,fun i j hij hj=>?_⟩
   by_cases hx:j < x
   ·exact up i j hij hx
   ·have e:j=x:=by omega
    subst e
    by_cases hi:i=j
    ·rw[hi];exact zk _
    ·have:=up i (j - 1) (by omega) (by omega);omega
 ·rintro c t ⟨rfl,rfl,up⟩
  rw[show max a n=n by omega] at up ⊢
  exact h n han (zk _) up (.inl rfl)
theorem t3 {st:SortSt} {m n:Nat} {Q:Option Nat->SortSt->Prop} (hC:Qf prog w A s kd rk b) (hn:n<=b.size) (h1:1<=m) (hmn:m<=n) (B:Bs kd b st) (hs:Down rk (arrOf st) m)
  (h:∀ k t,Bs kd b t->1<=k->k<=n->Up rk (arrOf t) k->Q (some k) t):wpS (model prog w) A E s (tail3 m n) Q st:=by
 unfold tail3
 have hz:m<=(arrOf st).size:=by rw[B.sz];omega
 refine wpS_bind (wpS_reverse ?_)
 have B':Bs kd b (PyProof.Rows.setArr st (mirror (arrOf st) 0 m ((m - 0) / 2))):=B.arr (mirror_perm _ _ _ _)
 refine wpS_bind (asc hC hn h1 hmn B' (fun i j hij hj=>?_) fun k k1 k2 up _=>wpS_pure (h k _ B' (by omega) k2 up))
 show at_ rk (mirror (arrOf st) 0 m ((m - 0) / 2)) i<=at_ rk (mirror (arrOf st) 0 m ((m - 0) / 2)) j
 rw[Ja hz,Ja hz,zo ⟨by omega,by omega⟩,zo ⟨by omega,by omega⟩]
 exact hs _ _ (by omega) (by omega)
theorem dsc {st:SortSt} {m n:Nat} {Q:DescSt->SortSt->Prop} (hC:Qf prog w A s kd rk b) (hn:n<=b.size) (h1:1<=m) (hmn:m<=n) (B:Bs kd b st) (hs:Down rk (arrOf st) m)
  (h:∀ k e t,Bs kd b t->m<=k->k<=n->Down rk (arrOf t) k->e+1<=k->(∀ i,k - (e+1)<=i->i < k->at_ rk (arrOf t) i=at_ rk (arrOf t) (k - 1))->Q (none,k,e) t):wpS (model prog w) A E s (descLoop m n) Q st:=by
 unfold descLoop
 refine wpS_forRange (I:=fun x c t=>∃ e,c=(none,x,e)/\Bs kd b t/\Down rk (arrOf t) x/\e+1<=x/\∀ i,x - (e+1)<=i->i < x->at_ rk (arrOf t) i=at_ rk (arrOf t) (x - 1)) ?_ ?_ ⟨0,rfl,B,hs,by omega,fun i q1 q2=>by rw[show i=m - 1 by omega]⟩
 ·rintro x c t hax hxn ⟨e,rfl,B',dn,he,eq⟩
  have hz:x<=(arrOf t).size:=by rw[B'.sz];omega
  have grow:∀ xs:Array Keyed,(∀ k,at_ rk xs k=at_ rk (arrOf t) k)->at_ rk (arrOf t) x<=at_ rk (arrOf t) (x - 1)->Down rk xs (x+1):=fun xs hk hl i j hij hj=>by
   rw[hk,hk]
   by_cases hx:j < x
   ·exact dn i j hij hx
   ·have ej:j=x:=by omega
    subst ej
    by_cases hi:i=j
    ·rw[hi];exact zk _
    ·have:=dn i (j - 1) (by omega) (by omega);omega
  dsimp only
  refine wpS_bind (Gb hC B' (by omega) (by omega) ?_)
  by_cases q:at_ rk (arrOf t) x < at_ rk (arrOf t) (x - 1)
  ·simp only[q,kD,Q3]
   by_cases h0:e > 0
   ·rw[zo h0]
    exact wpS_bind (wpS_reverse (wpS_pure ⟨0,rfl,B'.arr (mirror_perm _ _ _ _),grow _ (uF hz eq) (by omega),by omega,fun i q1 q2=>by rw[show i=x by omega];rfl⟩))
   ·rw[zS h0]
    exact wpS_pure ⟨0,rfl,B',grow _ (fun _=>rfl) (by omega),by omega,fun i q1 q2=>by rw[show i=x by omega];rfl⟩
  ·simp only[q,ka,zz,qk]
   refine wpS_bind (Gb hC B' (by omega) (by omega) ?_)
   by_cases q2:at_ rk (arrOf t) (x - 1) < at_ rk (arrOf t) x
   ·simp only[q2,kD,Q3]
    exact wpS_pure (h x e t B' hax (by omega) dn he eq)
   ·simp only[q2,ka,zz,qk]
    refine wpS_pure ⟨e+1,rfl,B',grow _ (fun _=>rfl) (by omega),by omega,fun i q3 q4=>?_⟩
    rw[show x+1 - 1=x by omega]
    by_cases hi:i=x
    ·rw[hi]
    ·rw[eq i (by omega) (by omega)];omega
 ·rintro c t ⟨e,rfl,B',dn,he,eq⟩
  rw[show max m n=n by omega] at dn he eq ⊢
  exact h n e t B' hmn (zk _) dn he eq
theorem V3 {st:SortSt} {m n:Nat} {Q:Option Nat->SortSt->Prop} (hC:Qf prog w A s kd rk b) (hn:n<=b.size) (hmn:m+1<=n) (B:Bs kd b st) (hs:Down rk (arrOf st) (m+1))
  (h:∀ k t,Bs kd b t->1<=k->k<=n->Up rk (arrOf t) k->Q (some k) t):wpS (model prog w) A E s (descPart m n) Q st:=by
 unfold descPart
 refine wpS_bind (wpS_lift (JP ⟨rfl,?_⟩))
 refine wpS_bind (dsc hC hn (by omega) hmn B hs fun k e t B' k1 k2 dn he eq=>?_)
 have hz:k<=(arrOf t).size:=by rw[B'.sz];omega
 by_cases h0:e > 0
 ·simp only[zo h0]
  refine wpS_bind (wpS_reverse (t3 hC hn (by omega) k2 (B'.arr (mirror_perm _ _ _ _)) (fun i j hij hj=>?_) h))
  show at_ rk (mirror (arrOf t) _ _ _) j<=at_ rk (mirror (arrOf t) _ _ _) i
  rw[uF hz eq,uF hz eq]
  exact dn i j hij hj
 ·simp only[zS h0]
  exact t3 hC hn (by omega) k2 B' dn h
theorem acG {st:SortSt} {n:Nat} {Q:Option Nat->SortSt->Prop} (hC:Qf prog w A s kd rk b) (hn:n<=b.size) (h1:1<=n) (B:Bs kd b st)
  (h:∀ k t,Bs kd b t->1<=k->k<=n->Up rk (arrOf t) k->Q (some k) t):wpS (model prog w) A E s (countRun' 0 n) Q st:=by
 rw[countRun0_eq]
 refine wpS_bind (asc hC hn (zk 1) h1 B (fun i j hij hj=>by rw[show i=j by omega];exact zk _) fun m m1 m2 up or=>?_)
 by_cases hm:m=n
 ·simp only[zo (show (m==n)=true by simpa using hm)]
  exact wpS_pure (h m st B m1 m2 up)
 ·simp only[zS (show ¬ (m==n)=true by simpa using hm)]
  have lt:=or.resolve_left hm
  have hz:m<=(arrOf st).size:=by rw[B.sz];omega
  by_cases g1:m > 1
  ·rw[zo g1]
   refine wpS_bind (Gb hC B (by omega) (by omega) ?_)
   by_cases q:at_ rk (arrOf st) 0 < at_ rk (arrOf st) (m - 1)
   ·simp only[q,kD,Q3]
    exact wpS_pure (h m st B m1 m2 up)
   ·simp only[q,ka,zz,qk]
    have all:∀ k,0<=k->k < m->at_ rk (arrOf st) k=at_ rk (arrOf st) (m - 1):=fun k _ hk=>by
     have a1:=up 0 k (by omega) hk
     have a2:=up k (m - 1) (by omega) (by omega)
     omega
    refine wpS_bind (wpS_reverse (V3 hC hn (by omega) (B.arr (mirror_perm _ _ _ _)) (fun i j hij hj=>?_) h))
    show at_ rk (mirror (arrOf st) _ _ _) j<=at_ rk (mirror (arrOf st) _ _ _) i
    rw[uF hz all,uF hz all]
    by_cases hj':j < m
    ·rw[all i (by omega) (by omega),all j (by omega) hj'];exact zk _
    ·have ej:j=m:=by omega
     subst ej
     by_cases hi:i=j
     ·rw[hi];exact zk _
     ·rw[all i (by omega) (by omega)];omega
  ·rw[zS g1]
   have e1:m=1:=by omega
   subst e1
   refine V3 hC hn (by omega) B (fun i j hij hj=>?_) h
   by_cases hi:i=j
   ·rw[hi];exact zk _
   ·rw[show i=0 by omega,show j=1 by omega];exact qB lt
theorem bins {st:SortSt} {n k0:Nat} {Q:Bool->SortSt->Prop} (hC:Qf prog w A s kd rk b) (hn:n<=b.size) (hk0:k0<=n) (B:Bs kd b st) (hs:Up rk (arrOf st) k0)
  (h:∀ t,Bs kd b t->Up rk (arrOf t) n->Q true t):wpS (model prog w) A E s (binarySort' 0 n k0) Q st:=by
 rw[binarySort'_eq]
 simp only[Nat.zero_add]
 refine wpS_bind (wpS_mono (wpS_forRange (I:=fun k c t=>c=(none,())/\Bs kd b t/\Up rk (arrOf t) (min k n)) (Q:=fun c t=>c=(none,())/\Bs kd b t/\Up rk (arrOf t) n) ?_ ?_ ?_) ?_)
 ·rintro k c t hak hkn ⟨rfl,B',up⟩
  rw[show min k n=k by omega] at up
  have hk:k < b.size:=by omega
  refine wpS_bind (wpS_mono (wpS_forRange (I:=fun x c t'=>t'=t/\∃ l r,c=(none,l,r)/\l<=r/\r<=k/\r - l<=k - x/\(∀ i,i < l->at_ rk (arrOf t) i<=at_ rk (arrOf t) k)/\(∀ i,r<=i->i < k->at_ rk (arrOf t) k < at_ rk (arrOf t) i))
   (Q:=fun c t'=>t'=t/\∃ l r,c=(none,l,r)/\l<=k/\(∀ i,i < l->at_ rk (arrOf t) i<=at_ rk (arrOf t) k)/\(∀ i,l<=i->i < k->at_ rk (arrOf t) k < at_ rk (arrOf t) i)) ?_ ?_ ?_) ?_)
  ·rintro x c t' _ hx ⟨rfl,l,r,rfl,lr,rk',mm,lo,hi⟩
   dsimp only
   by_cases ge:l>=r
   ·rw[zo ge]
    have e:l=r:=by omega
    subst e
    exact wpS_pure ⟨rfl,l,l,rfl,rk',lo,hi⟩
   ·rw[zS ge]
    refine wpS_bind (Gb hC B' hk (by omega) ?_)
    by_cases q:at_ rk (arrOf t') k < at_ rk (arrOf t') ((l+r) / 2)
    ·simp only[q,kD,Q3]
     refine wpS_pure ⟨rfl,l,(l+r) / 2,rfl,by omega,by omega,by omega,lo,fun i q1 q2=>?_⟩
     have:=up ((l+r) / 2) i q1 q2
     omega
    ·simp only[q,ka,zz,qk]
     refine wpS_pure ⟨rfl,(l+r) / 2+1,r,rfl,by omega,by omega,by omega,fun i q1=>?_,hi⟩
     have:=up i ((l+r) / 2) (by omega) (by omega)
     omega
  ·rintro c t' ⟨rfl,l,r,rfl,lr,rk',mm,lo,hi⟩
   have e:l=r:=by omega
   subst e
   exact⟨rfl,l,l,rfl,rk',lo,hi⟩
  ·exact⟨rfl,0,k,rfl,by omega,by omega,by omega,fun i hi=>by omega,fun i q1 q2=>by omega⟩
  ·rintro c t' ⟨rfl,l,r,rfl,lk,lo,hi⟩
   show wpS _ _ _ _ (moveDown' k l >>= fun _=>pure (ForInStep.yield (none,()))) _ _
   rw[moveDown'_eq]
   refine wpS_bind (wpS_modify (wpS_pure ⟨rfl,B'.arr (bubble_perm _ _ _),?_⟩))
   rw[show min (k+1) n=k+1 by omega]
   have hz:k < (arrOf t').size:=by rw[B'.sz];exact hk
   intro i j hij hj
   show at_ rk (bubble (arrOf t') k (k - l)) i<=at_ rk (bubble (arrOf t') k (k - l)) j
   rw[Qe hz (by omega),Qe hz (by omega),show k - (k - l)=l by omega]
   repeat' split
   all_goals first
    |(exfalso;omega)
    |exact zk _
    |exact lo _ (by omega)
    |exact qB (hi _ (by omega) (by omega))
    |exact up _ _ (by omega) (by omega)
 ·rintro c t ⟨hc,B',up⟩
  refine⟨hc,B',?_⟩
  rwa [show min (max (max k0 1) n) n=n by omega] at up
 ·refine⟨rfl,B,fun i j hij hj=>?_⟩
  by_cases z:k0=0
  ·rw[show i=j by omega];exact zk _
  ·exact hs i j hij (by omega)
 ·rintro c t ⟨rfl,B',up⟩
  exact wpS_pure (h t B' up)
end
section
variable {prog:Program} {w:World} {A:Around} {E:Value->Shared->Prop} {s:Shared} {b:Array Keyed} {kd:SortKind} {rk:Value->Nat}
def Dn (kd:SortKind) (rk:Value->Nat) (b:Array Keyed) (st:SortSt):Prop:=(arrOf st).Perm b/\failedOf st=none/\pendingOf st=#[(0,b.size,0)]/\Up rk (arrOf st) b.size
theorem Bs.dn {st:SortSt} (B:Bs kd b st) (up:Up rk (arrOf st) b.size):Dn kd rk b (setPending st ((pendingOf st).push (0,b.size,0))):=⟨B.pm,B.fl,(by show (pendingOf st).push _=_;rw[B.pd];rfl),up⟩
theorem runs {st:SortSt} {Q:Unit->SortSt->Prop} (hC:Qf prog w A s kd rk b) (B:Bs kd b st) (h2:2<=b.size) (h64:b.size < 64)
  (h:∀ t,(arrOf t).Perm b->failedOf t=none->Up rk (arrOf t) b.size->Q () t):wpS (model prog w) A E s sortRuns' Q st:=by
 rw[sortRuns'_eq]
 refine wpS_bind (wpS_get ?_)
 have mr:minRun' b.size b.size 0=b.size:=by
  obtain⟨f,hf⟩:∃ f,b.size=f+1:=⟨b.size - 1,by omega⟩
  have q:minRun' (f+1) b.size 0=b.size:=(minRun'_succ f b.size 0).trans (zo h64)
  rwa [<-hf] at q
 simp only[B.sz,mr]
 have back:∀ {t:SortSt},Bs kd b t->(pendingOf t).back?=none:=fun B=>by rw[B.pd];rfl
 refine wpS_bind (wpS_mono (wpS_forRange (I:=fun x c t=>(x=0/\c=(none,0)/\Bs kd b t)\/(1<=x/\c=(none,b.size)/\Dn kd rk b t)) (Q:=fun c t=>c=(none,b.size)/\Dn kd rk b t) ?_ ?_ (.inl ⟨rfl,rfl,B⟩)) ?_)
 ·rintro x c t _ hx (⟨rfl,rfl,B'⟩|⟨hx1,rfl,D⟩)
  ·dsimp only
   rw[zS (by omega)]
   simp only[Nat.sub_zero,Nat.min_self,Nat.zero_add]
   refine wpS_bind (acG hC (zk _) (by omega) B' fun m t2 B2 m1 m2 up2=>?_)
   dsimp only
   by_cases lt:m < b.size
   ·rw[zo lt]
    refine wpS_bind (wpS_lift (JP ⟨rfl,wpS_bind (bins hC (zk _) m2 B2 up2 fun t3 B3 up3=>?_)⟩))
    simp only[Bool.not_true,zz,qk]
    refine wpS_bind (wpS_get ?_)
    rw[back B3]
    exact wpS_bind (wpS_modify (wpS_pure (.inr ⟨by omega,rfl,B3.dn up3⟩)))
   ·rw[zS lt]
    have e:m=b.size:=by omega
    subst e
    refine wpS_bind (wpS_get ?_)
    rw[back B2]
    exact wpS_bind (wpS_modify (wpS_pure (.inr ⟨by omega,rfl,B2.dn up2⟩)))
  ·dsimp only
   rw[zo (zk _)]
   exact wpS_pure ⟨rfl,D⟩
 ·rintro c t (⟨hx,_,_⟩|⟨_,hc,D⟩)
  ·omega
  ·exact⟨hc,D⟩
 ·rintro c t ⟨rfl,D⟩
  dsimp only
  refine wpS_bind (wpS_mono (wpS_forRange (I:=fun _ c u=>u=t/\c=(none,())) (Q:=fun c u=>u=t/\c=(none,())) ?_ (fun _ _ q=>q) ⟨rfl,rfl⟩) ?_)
  ·rintro x c u _ _ ⟨rfl,rfl⟩
   refine wpS_bind (wpS_get ?_)
   rw[zo (by rw[D.2.2.1];exact zk 1)]
   exact wpS_pure ⟨rfl,rfl⟩
  ·rintro c u ⟨rfl,rfl⟩
   exact wpS_pure (h _ D.1 D.2.1 D.2.2.2)
def Old (a:Addr) (s s':Shared):Prop:=∀ c o,c≠a->s.heap.get? c=some o->s'.heap.get? c=some o
theorem aaQ {a:Addr} {vs:List Value} {n:Nat} {P:Fin->Shared->Prop} (ho:s.heap.get? a=some (seqObj "list" vs.toArray n))
  (hK:2<=vs.length->∀ s',Old a s s'->∀ Q:SortKind->Shared->Prop,Q kd s'->wpAny (model prog w) A (keyKind' vs.toArray) Q E s') (hC:∀ s',Old a s s'->Qf prog w A s' kd rk (pairsOf vs)) (h64:vs.length < 64)
  (h:∀ st:SortSt,(arrOf st).Perm (pairsOf vs)->Up rk (arrOf st) (pairsOf vs).size->P (.done (.ret .none)) { s with heap:=sortedHeap s.heap a vs ((arrOf st).map (·.2)) }) :
  wpAny (model prog w) A (Builtin.«list.sort» ⟨[.ref a],[]⟩) P E s:=by
 rw[list_sort_plain]
 have ha:=zw ho
 refine zb (listItems_at ho rfl (zb (listUpdate_at ho rfl ?_)))
 obtain⟨e1,g1⟩:∃ e1,(s.heap.update a (Obj.mapSeq fun _=>#[])).get? a=some (seqObj "list" #[] e1):=⟨_,get?_update_seq ho fun _=>#[]⟩
 refine zb (seqEpoch_at g1 rfl (zb (wpAny_newTuple (zb (Ki (QU ?_))))))
 have z1:(s.heap.update a (Obj.mapSeq fun _=>#[])).objs.size=s.heap.objs.size:=Heap.size_update ..
 have keep:∀ c,c < s.heap.objs.size->(((s.heap.update a (Obj.mapSeq fun _=>#[])).push (seqObj "tuple" vs.toArray 0)).push (seqObj "list" #[] 0)).get? c=(s.heap.update a (Obj.mapSeq fun _=>#[])).get? c:=fun c hc=>by
  rw[Heap.get?_push_ne _ _ _ (by rw[size_push',z1];exact zI (qr hc)),Heap.get?_push_ne _ _ _ (by rw[z1];exact zI hc)]
 have g6:=(keep a ha).trans g1
 have old:Old a s { s with heap:=((s.heap.update a (Obj.mapSeq fun _=>#[])).push (seqObj "tuple" vs.toArray 0)).push (seqObj "list" #[] 0) }:=fun c o hc e=>by
  show (((s.heap.update a (Obj.mapSeq fun _=>#[])).push (seqObj "tuple" vs.toArray 0)).push (seqObj "list" #[] 0)).get? c=some o
  rw[keep c (zw e),Q1 _ _ _ _ hc]
  exact e
 show wpAny _ _ _ _ _ { s with heap:=((s.heap.update a (Obj.mapSeq fun _=>#[])).push (seqObj "tuple" vs.toArray 0)).push (seqObj "list" #[] 0) }
 have hz:vs.toArray.size=vs.length:=by simp
 have lz:∀ st:SortSt,(arrOf st).Perm (pairsOf vs)->((arrOf st).map (·.2)).size<=sizeLine+1:=fun st hp=>by
  have q:((arrOf st).map (·.2)).size=vs.length:=(Array.size_map ..).trans (hp.size_eq.trans (pairsOf_size _))
  rw[q,sizeLine_eq];omega
 by_cases h2:vs.toArray.size < 2
 ·simp only[zo h2]
  refine zb (zd ?_)
  rw[StateT.run_pure]
  refine zb (zd (zb (seqEpoch_at g6 rfl (zb (listUpdate_at g6 rfl ?_ (hsz2:=lz (SortSt.mk' general' (pairsOf vs) #[] 7 none) (Array.Perm.refl _)))))))
  simp only[bne_self_eq_false,zz,qk]
  refine zd (h (SortSt.mk' general' (pairsOf vs) #[] 7 none) (Array.Perm.refl _) fun i j hij hj=>?_)
  rw[pairsOf_size] at hj
  rw[show i=j by omega]
  exact zk _
 ·simp only[zS h2]
  refine zb (hK (by omega) _ old _ ?_)
  refine zb (ZH (runs (hC _ old) (st:=SortSt.mk' kd (pairsOf vs) #[] 7 none) (Q:=fun _ t=>(arrOf t).Perm (pairsOf vs)/\failedOf t=none/\Up rk (arrOf t) (pairsOf vs).size) ⟨Array.Perm.refl _,rfl,rfl,rfl⟩ (by rw[pairsOf_size];omega) (by rw[pairsOf_size];exact h64) fun t q1 q2 q3=>⟨q1,q2,q3⟩) ?_ fun _ _ q=>q)
  rintro⟨⟨⟩,t⟩ s' ⟨rfl,hp,hf,up⟩
  dsimp only
  refine zb (seqEpoch_at g6 rfl (zb (listUpdate_at g6 rfl ?_ (hsz2:=lz t hp))))
  rw[hf]
  simp only[bne_self_eq_false,zz,qk]
  exact zd (h t hp up)
theorem Mv {x:Value} {vs:List Value} {Q:Value->Shared->Prop} (acH:∀ (E':Value->Shared->Prop) (Q':List Value->Shared->Prop),(∀ h' tk,s.heap.objs.size<=h'.objs.size->(∀ c o,s.heap.get? c=some o->h'.get? c=some o)->Q' vs { s with heap:=h',toks:=tk })->wpAny (model prog w) A.in1 (collect x) Q' E' s)
  (hK:2<=vs.length->∀ (E':Value->Shared->Prop) (A':Around) (s':Shared),(∀ c o,s.heap.get? c=some o->s'.heap.get? c=some o)->∀ Q:SortKind->Shared->Prop,Q kd s'->wpAny (model prog w) A' (keyKind' vs.toArray) Q E' s') (hC:∀ (A':Around) (s':Shared),(∀ c o,s.heap.get? c=some o->s'.heap.get? c=some o)->Qf prog w A' s' kd rk (pairsOf vs)) (h64:vs.length < 64)
  (h:∀ (l:Addr) (h':Heap) (tk n:Nat) (st:SortSt),(arrOf st).Perm (pairsOf vs)->Up rk (arrOf st) (pairsOf vs).size->s.heap.objs.size<=l->(∀ c o,s.heap.get? c=some o->h'.get? c=some o)->h'.get? l=some (seqObj "list" ((arrOf st).map (·.2)) n)->Q (.ref l) { s with heap:=h',toks:=tk }) :
  wpAny (model prog w) A (call (.builtin "sorted") [x]) Q E s:=by
 refine kP kind_sorted plain_sorted entry_sorted (args_sorted1 _) ?_;unfold Builtin.«sorted»
 refine zb (m:=checkCount "sorted" 1 1 _) (zd (zb (acH _ _ fun h1 tk hle ext=>zb (Ki ?_))))
 have hoL:(h1.push (seqObj "list" vs.toArray 0)).get? h1.objs.size=some (seqObj "list" vs.toArray 0):=zr _ rfl
 have old:∀ s':Shared,Old h1.objs.size { s with heap:=h1.push (seqObj "list" vs.toArray 0),toks:=tk } s'->∀ c o,s.heap.get? c=some o->s'.heap.get? c=some o:=fun s' q c o e=>
  q c o (zI (zw (ext c o e))) (ze _ (ext c o e))
 refine zb (QU (Qr slot_list_sort ⟨_,hoL,rfl⟩ entry_list_sort (aaQ hoL (fun q s' o=>hK q _ _ s' (old s' o)) (fun s' o=>hC _ s' (old s' o)) h64 fun st q1 q2=>⟨_,rfl,zd ⟨_,rfl,?_⟩⟩) (args_list_sort _)))
 obtain⟨n,en⟩:=sortedHeap_at (out:=(arrOf st).map (·.2)) hoL
 refine h h1.objs.size _ tk n st q1 q2 hle (fun c o e=>?_) en
 have hb:=zw (ext c o e)
 rw[sortedHeap_old (zI hb) (by rw[Z3];exact qr hb)]
 exact ze _ (ext c o e)
end
end S1
end
section
namespace S1
open PySem PySem.Spec PyProof.Rows L2
theorem Mw (fb:Bool) (x y:Value):keyLt' (tuples' fb) x y=(do
  let xs <-Builtin.List.listItems x
  let ys <-Builtin.List.listItems y
  for ((p,q),i) in (xs.toList.zip ys.toList).zipIdx do
   if !(<-eqBool p q) then return <-oneLt' (fb&&i==0) p q
  return decide (xs.size < ys.size)):=rfl
def Mx:Key->Key->Bool
 |.inl a,.inl b=>decide (a < b)
 |.inr x,.inr y=>decide (x.cps.toList < y.cps.toList)
 |.inl _,.inr _=>true
 |.inr _,.inl _=>false
def Kv:Key->Key->Bool
 |.inl _,.inl _=>true
 |.inr _,.inr _=>true
 |_,_=>false
def lA:List Key->List Key->Bool
 |[],[]=>false
 |[],_::_=>true
 |_::_,[]=>false
 |x::xs,y::ys=>if x=y then lA xs ys else Mx x y
def Ud:List Key->List Key->Prop
 |x::xs,y::ys=>Kv x y=true/\Ud xs ys
 |_,_=>True
section
variable {prog:Program} {w:World} {A:Around} {E:Value->Shared->Prop} {s:Shared}
theorem key_eq {x y:Key} {p q:Value} {Q:Bool->Shared->Prop} (hp:jk x p=true) (hq:jk y q=true) (h:Q (decide (x=y)) s):wpAny (model prog w) A (eqBool p q) Q E s:=
 (bM prog w).eqBool (a:=x) (b:=y) hp hq h
theorem Yh {fb:Bool} {x y:Key} {p q:Value} {Q:Bool->Shared->Prop} (hs:Kv x y=true) (hp:jk x p=true) (hq:jk y q=true) (h:Q (Mx x y) s):wpAny (model prog w) A (oneLt' fb p q) Q E s:=by
 rcases bw hp with⟨i,t,rfl,rfl⟩|⟨z,t,rfl,rfl⟩
 ·rcases bw hq with⟨j,u,rfl,rfl⟩|⟨z,u,rfl,rfl⟩
  ·cases fb with
   |true=>exact oneLt_int h
   |false=>
    rw[oneLt'_eq]
    simp only[zz,qk]
    refine zb (show wpAny _ _ (compareOp .Lt (.int i t) (.int j u)) _ _ _ from lt_int ?_)
    exact kq h
  ·cases hs
 ·rcases bw hq with⟨j,u,rfl,rfl⟩|⟨z',u,rfl,rfl⟩
  ·cases hs
  ·cases fb with
   |true=>exact oneLt_str h
   |false=>
    rw[oneLt'_eq]
    simp only[zz,qk]
    refine zb (show wpAny _ _ (compareOp .Lt (.str z t) (.str z' u)) _ _ _ from PySem.P.lt_str ?_)
    exact kq h
def Ks (ks:List Key) (its:List Value):Prop:=Paired (fun k v=>jk k v=true) ks its
def dif:List Key->List Key->Option Bool
 |x::xs,y::ys=>if x=y then dif xs ys else some (Mx x y)
 |_,_=>none
theorem Qg:∀ ks ls:List Key,lA ks ls=match dif ks ls with|some r=>r|none=>decide (ks.length < ls.length)
 |[],[]=>rfl
 |[],_::_=>by simp[lA,dif]
 |_::_,[]=>rfl
 |x::xs,y::ys=>by
  simp only[lA,dif]
  by_cases e:x=y
  ·rw[zo e,zo e,Qg xs ys]
   simp only[qf,Nat.add_lt_add_iff_right]
  ·rw[zS e,zS e]
def turn (fb:Bool):(Value×Value)×Nat->Option Bool×Unit->Sem (ForInStep (Option Bool×Unit)):=fun x _=>match x with
 |((p,q),i)=>do
  let e <-eqBool p q
  if (!e)=true then do
    let r <-oneLt' (fb&&i==0) p q
    pure (ForInStep.done (some r,()))
   else pure (ForInStep.yield (none,()))
theorem walk (fb:Bool):∀ (ks ls:List Key) (its jts:List Value) (i:Nat) (R:Option Bool×Unit->Shared->Prop),Ks ks its->Ks ls jts->Ud ks ls->R (dif ks ls,()) s->wpAny (model prog w) A (forIn ((its.zip jts).zipIdx i) ((none,()):Option Bool×Unit) (turn fb)) R E s
 |[],_,_,_,_,R,.nil,_,_,h=>zd h
 |_::_,[],_::_,_,_,R,_,.nil,_,h=>zd h
 |x::xs,y::ys,p::its,q::jts,i,R,.cons hp hk,.cons hq hl,hs,h=>by
  rw[List.zip_cons_cons,List.zipIdx_cons,List.forIn_cons]
  refine zb ?_
  show wpAny _ _ (eqBool p q >>= _) _ _ _
  refine zb (key_eq hp hq ?_)
  by_cases e:x=y
  ·simp only[e,kD,Bool.not_true,zz,qk]
   refine zd (walk fb xs ys its jts (i+1) R hk hl hs.2 ?_)
   simp only[dif,zo e] at h
   exact h
  ·simp only[e,ka,Bool.not_false,Q3]
   refine zb (Yh hs.1 hp hq (zd (zd ?_)))
   simp only[dif,zS e] at h
   exact h
theorem Yi {fb:Bool} {a c:Addr} {oa oc:Obj} {its jts:List Value} {n m:Nat} {ks ls:List Key} {Q:Bool->Shared->Prop} (ha:s.heap.get? a=some oa) (da:oa.data=.seq its.toArray n) (hc:s.heap.get? c=some oc) (dc:oc.data=.seq jts.toArray m)
  (hk:Ks ks its) (hl:Ks ls jts) (hs:Ud ks ls) (h:Q (lA ks ls) s):wpAny (model prog w) A (keyLt' (tuples' fb) (.ref a) (.ref c)) Q E s:=by
 rw[Mw]
 refine zb (listItems_at ha da (zb (listItems_at hc dc ?_)))
 have hl1:its.length=ks.length:=(Paired.length hk).symm
 have hl2:jts.length=ls.length:=(Paired.length hl).symm
 refine zb (walk fb ks ls its jts 0 _ hk hl hs ?_)
 rw[Qg] at h
 cases e:dif ks ls with
 |some r=>rw[e] at h;exact zd h
 |none=>
  rw[e] at h
  refine zd ?_
  simpa [hl1,hl2] using h
end
theorem Ue (x:Key):Mx x x=false:=by
 cases x with
 |inl a=>simp[Mx]
 |inr a=>simp[Mx]
theorem Mz {x y z:Key} (h:Mx x y=true) (h':Mx y z=true):Mx x z=true:=by
 cases x<;>cases y<;>cases z<;>simp only[Mx,QY,zz,reduceCtorEq] at h h' ⊢
 ·omega
 ·exact List.lt_trans h h'
theorem Ug {x y:Key} (h:Mx x y=false) (h':Mx y x=false):x=y:=by
 cases x<;>cases y<;>simp only[Mx,jI,Bool.true_eq_false,reduceCtorEq] at h h'
 ·congr 1;omega
 ·rename_i a b
  have:=List.le_antisymm (as:=a.cps.toList) (bs:=b.cps.toList) h' h
  cases a;cases b
  simp only at this
  rw[Array.toList_inj.mp this]
theorem yJ:∀ xs:List Key,lA xs xs=false
 |[]=>rfl
 |x::xs=>by simp only[lA,Q3];exact yJ xs
theorem lX:∀ {xs ys zs:List Key},lA xs ys=true->lA ys zs=true->lA xs zs=true
 |[],[],_,h,_=>by cases h
 |[],_::_,[],_,h'=>by cases h'
 |[],_::_,_::_,_,_=>rfl
 |_::_,[],_,h,_=>by cases h
 |_::_,_::_,[],_,h'=>by cases h'
 |x::xs,y::ys,z::zs,h,h'=>by
  simp only[lA] at h h' ⊢
  by_cases e1:x=y
  ·subst e1
   rw[zo rfl] at h
   by_cases e2:x=z
   ·subst e2
    rw[zo rfl] at h' ⊢
    exact lX h h'
   ·rw[zS e2] at h' ⊢;exact h'
  ·rw[zS e1] at h
   by_cases e2:y=z
   ·subst e2
    rw[zS e1];exact h
   ·rw[zS e2] at h'
    have:=Mz h h'
    rw[zS (fun e=>by subst e;rw[Ue] at this;cases this)]
    exact this
theorem uG:∀ {xs ys:List Key},lA xs ys=false->lA ys xs=false->xs=ys
 |[],[],_,_=>rfl
 |[],_::_,h,_=>by cases h
 |_::_,[],_,h'=>by cases h'
 |x::xs,y::ys,h,h'=>by
  simp only[lA] at h h'
  by_cases e:x=y
  ·subst e
   rw[zo rfl] at h h'
   rw[uG h h']
  ·rw[zS e] at h
   rw[zS (QR e)] at h'
   exact absurd (Ug h h') e
def sX (xs ys:List Key):Bool:=!lA ys xs
theorem yK (a b c:List Key) (h:sX a b=true) (h':sX b c=true):sX a c=true:=by
 unfold sX at *
 simp only[JO] at *
 cases hc:lA c a with
 |false=>rfl
 |true=>
  cases hab:lA a b with
  |true=>rw[lX hc hab] at h';cases h'
  |false=>
   have e:=uG hab h
   subst e
   rw[hc] at h';cases h'
theorem yL (a b:List Key):(sX a b||sX b a)=true:=by
 unfold sX
 cases h:lA b a with
 |false=>rfl
 |true=>
  cases h':lA a b with
  |false=>rfl
  |true=>have:=lX h h';rw[yJ] at this;cases this
theorem Bo {a b:List Key} (h:sX a b=true) (h':sX b a=true):a=b:=by
 unfold sX at *
 simp only[JO] at *
 exact uG h' h
theorem qu {α:Type} {le:α->α->Prop} (anti:∀ a b,le a b->le b a->a=b):∀ {l l':List α},l.Perm l'->l.Pairwise le->l'.Pairwise le->l=l'
 |[],l',h,_,_=>by rw[List.nil_perm.mp h]
 |a::l,[],h,_,_=>by cases List.perm_nil.mp h
 |a::l,b::l',h,p,p'=>by
  have e:a=b:=by
   have ha:a∈b::l':=h.mem_iff.mp (zh ..)
   have hb:b∈a::l:=h.mem_iff.mpr (zh ..)
   rcases List.mem_cons.mp ha with h1|h1
   ·exact h1
   ·rcases List.mem_cons.mp hb with h2|h2
    ·exact h2.symm
    ·exact anti a b (Q4 p h2) (Q4 p' h1)
  subst e
  rw[qu anti ((List.perm_cons a).mp h) (List.pairwise_cons.mp p).2 (List.pairwise_cons.mp p').2]
def sY (dw:List (List Key)):List (List Key):=dw.mergeSort sX
theorem wH (dw:List (List Key)):(sY dw).Perm dw:=List.mergeSort_perm ..
theorem Gd (dw:List (List Key)):(sY dw).Pairwise (fun a b=>sX a b=true):=KB yK yL dw
theorem Bp {dw out:List (List Key)} (hp:out.Perm dw) (hs:out.Pairwise (fun a b=>sX a b=true)):out=sY dw:=qu (fun _ _=>Bo) (hp.trans (wH dw).symm) hs (Gd dw)
def rank (dw:List (List Key)) (k:List Key):Nat:=dw.countP fun u=>lA u k
theorem Bq {α:Type} {p q:α->Bool}:∀ {l:List α},(∀ x∈l,p x=true->q x=true)->(∃ x∈l,p x=false/\q x=true)->l.countP p < l.countP q
 |[],_,⟨x,hx,_⟩=>by cases hx
 |a::l,h,⟨x,hx,h1,h2⟩=>by
  have le:l.countP p<=l.countP q:=List.countP_mono_left fun y hy=>h y (zg _ hy)
  rw[List.countP_cons,List.countP_cons]
  rcases List.mem_cons.mp hx with rfl|hx
  ·rw[h1,h2];simp;omega
  ·have:=Bq (fun y hy=>h y (zg _ hy)) ⟨x,hx,h1,h2⟩
   have ha:=h a (zh ..)
   cases hp:p a with
   |true=>rw[ha hp];simp;omega
   |false=>simp;omega
theorem Kw {dw:List (List Key)} {a b:List Key} (ha:a∈dw):decide (rank dw a < rank dw b)=lA a b:=by
 cases h:lA a b with
 |true=>
  refine JU (Bq (fun u _ hu=>lX hu h) ⟨a,ha,yJ a,h⟩)
 |false=>
  refine ZN (Nat.not_lt.mpr (List.countP_mono_left fun u _ hu=>?_))
  cases hb:lA b a with
  |true=>exact lX hu hb
  |false=>rw[uG h hb];exact hu
def mG (h:Heap) (ks:List Key) (v:Value):Prop:=∃ (a:Addr) (o:Obj) (its:List Value) (n:Nat),v=.ref a/\h.get? a=some o/\o.cls=.type "tuple" ∧ o.data=.seq its.toArray n/\Ks ks its
theorem mG.keep {h h':Heap} {ks:List Key} {v:Value} (q:mG h ks v) (k:∀ c o,h.get? c=some o->h'.get? c=some o):mG h' ks v:=by
 obtain⟨a,o,its,n,e,g,c,d,p⟩:=q
 exact⟨a,o,its,n,e,k _ _ g,c,d,p⟩
theorem Uh {k l:Key} {v:Value} (h:jk k v=true) (h':jk l v=true):k=l:=by
 rcases bw h with⟨i,t,rfl,rfl⟩|⟨x,t,rfl,rfl⟩
 ·rcases bw h' with⟨j,u,rfl,e⟩|⟨y,u,rfl,e⟩
  ·cases e;rfl
  ·cases e
 ·rcases bw h' with⟨j,u,rfl,e⟩|⟨y,u,rfl,e⟩
  ·cases e
  ·cases e;rfl
theorem Ks.inj:∀ {ks ls:List Key} {its:List Value},Ks ks its->Ks ls its->ks=ls
 |_,_,[],h,h'=>by cases h;cases h';rfl
 |_,_,v::its,h,h'=>by
  cases h with
  |cons p t=>cases h' with
   |cons p' t'=>rw[Uh p p',Ks.inj t t']
theorem mG.inj {h:Heap} {ks ls:List Key} {v:Value} (q:mG h ks v) (q':mG h ls v):ks=ls:=by
 obtain⟨a,o,its,n,rfl,g,c,d,p⟩:=q
 obtain⟨a',o',its',n',e,g',c',d',p'⟩:=q'
 cases e
 rw[g] at g'
 cases g'
 rw[d] at d'
 injection d' with e1 e2
 have e3:its=its':=by simpa using congrArg Array.toList e1
 subst e3
 exact p.inj p'
section
variable {prog:Program} {w:World} {A:Around} {E:Value->Shared->Prop} {s:Shared}
theorem Dd {α β:Type} {f:α->Sem β}:∀ (xs:List α) (ys:List β) (Q:List β->Shared->Prop),Paired (fun x y=>∀ (E':Value->Shared->Prop) (Q':β->Shared->Prop),Q' y s->wpAny (model prog w) A (f x) Q' E' s) xs ys->Q ys s->wpAny (model prog w) A (xs.mapM f) Q E s
 |[],_,Q,.nil,h=>by rw[List.mapM_nil];exact zd h
 |x::xs,y::ys,Q,.cons h t,q=>by
  rw[List.mapM_cons]
  exact zb (h _ _ (zb (Dd xs ys _ t (zd q))))
theorem Qh (v:Value):firstOfTuple' v=(do
  if (<-typeOf v) != .type "tuple" then return none
  return (<-Builtin.List.listItems v)[0]?):=rfl
theorem MF {k:Key} {ks:List Key} {v:Value} (q:mG s.heap (k::ks) v):∃ u,jk k u=true/\∀ (E':Value->Shared->Prop) (Q':Option Value->Shared->Prop),Q' (some u) s->wpAny (model prog w) A (firstOfTuple' v) Q' E' s:=by
 obtain⟨a,o,its,n,rfl,g,c,d,p⟩:=q
 cases p with
 |@cons _ u _ its hp t=>
  refine⟨u,hp,fun E' Q' h=>?_⟩
  rw[Qh]
  refine zb (QO (T := "tuple") ⟨o,g,c⟩ ?_)
  rw[zS (by decide)]
  exact zb (listItems_at g d (zd h))
theorem Qi {k:Key} {u:Value} (h:jk k u=true) (E':Value->Shared->Prop) (Q':Value->Shared->Prop) (q:Q' (.type (if k.isLeft then "int" else "str")) s):wpAny (model prog w) A (typeOf u) Q' E' s:=by
 rcases bw h with⟨i,t,rfl,rfl⟩|⟨x,t,rfl,rfl⟩
 ·exact QO (typeIs_int s i t) q
 ·exact QO (typeIs_str s x t) q
theorem MJ {vs:List Value} {dw:List (List Key)} {Q:SortKind->Shared->Prop} (hv:Paired (mG s.heap) dw vs) (hne:∀ k∈dw,k≠[]) (hsh:∀ k∈dw,∀ l∈dw,Ud k l) (h2:1<=vs.length) (h:Q (tuples' true) s):wpAny (model prog w) A (keyKind' vs.toArray) Q E s:=by
 have step:∀ (dw:List (List Key)) (vs:List Value),Paired (mG s.heap) dw vs->(∀ k∈dw,k≠[])->∃ us:List Value,Paired (fun v u=>∀ (E':Value->Shared->Prop) (Q':Option Value->Shared->Prop),Q' (some u) s->wpAny (model prog w) A (firstOfTuple' v) Q' E' s) vs us/\Paired (fun (k:List Key) u=>∃ x r,k=x::r/\jk x u=true) dw us:=by
  intro dw vs hv
  induction hv with
  |nil=>intro _;exact⟨[],.nil,.nil⟩
  |@cons k v dw vs q t ih=>
   intro hne
   obtain⟨us,p1,p2⟩:=ih fun k hk=>hne k (zg _ hk)
   cases k with
   |nil=>exact absurd rfl (hne _ (zh ..))
   |cons x r=>
    obtain⟨u,hu,hw⟩:=MF (prog:=prog) (w:=w) (A:=A) q
    exact⟨u::us,.cons hw p1,.cons ⟨x,r,rfl,hu⟩ p2⟩
 obtain⟨us,p1,p2⟩:=step dw vs hv hne
 have hlen:us.length=vs.length:=(Paired.length p1).symm
 have lift:∀ {l:List Value} {ws:List Value},Paired (fun v u=>∀ (E':Value->Shared->Prop) (Q':Option Value->Shared->Prop),Q' (some u) s->wpAny (model prog w) A (firstOfTuple' v) Q' E' s) l ws->Paired (fun v u=>∀ (E':Value->Shared->Prop) (Q':Option Value->Shared->Prop),Q' u s->wpAny (model prog w) A (firstOfTuple' v) Q' E' s) l (ws.map some):=fun h=>by
  induction h with
  |nil=>exact .nil
  |cons q t ih=>exact .cons q ih
 rw[keyKind'_eq,List.mapM_toArray,map_eq_pure_bind]
 refine zb (zb (Dd vs (us.map some) _ (lift p1) (zd ?_)))
 have hall:(us.map some).toArray.all (·.isSome)=true:=by simp
 rw[zo hall]
 refine zb (JP ?_)
 have hf:(us.map some).toArray.filterMap id=us.toArray:=by simp
 rw[hf,oneTypeOnly'_eq,List.mapM_toArray,map_eq_pure_bind]
 have ty:∀ (dw:List (List Key)) (us:List Value),Paired (fun (k:List Key) u=>∃ x r,k=x::r/\jk x u=true) dw us->∃ ts:List Value,Paired (fun u t=>∀ (E':Value->Shared->Prop) (Q':Value->Shared->Prop),Q' t s->wpAny (model prog w) A (typeOf u) Q' E' s) us ts/\Paired (fun (k:List Key) t=>∃ x r,k=x::r/\t=.type (if x.isLeft then "int" else "str")) dw ts:=by
  intro dw us hp
  induction hp with
  |nil=>exact⟨[],.nil,.nil⟩
  |@cons k u dw us q t ih=>
   obtain⟨ts,q1,q2⟩:=ih
   obtain⟨x,r,rfl,hx⟩:=q
   exact⟨_::ts,.cons (fun E' Q' h=>Qi hx E' Q' h) q1,.cons ⟨x,r,rfl,rfl⟩ q2⟩
 obtain⟨ts,q1,q2⟩:=ty dw us p2
 refine zb (zb (zb (Dd us ts _ q1 (zd ?_))))
 have lt:ts.length=vs.length:=by rw[<-Paired.length q1,hlen]
 cases q2 with
 |nil=>simp at lt;omega
 |@cons k0 t0 afa ts' h0 r0=>
  obtain⟨x0,r,rfl,rfl⟩:=h0
  have same:∀ t∈ts',t=Value.type (if x0.isLeft then "int" else "str"):=by
   have aux:∀ (dw:List (List Key)) (ts:List Value),Paired (fun (k:List Key) t=>∃ x r,k=x::r/\t=Value.type (if x.isLeft then "int" else "str")) dw ts->(∀ k∈dw,Ud (x0::r) k)->∀ t∈ts,t=Value.type (if x0.isLeft then "int" else "str"):=by
    intro dw ts hp
    induction hp with
    |nil=>intro _ t ht;cases ht
    |@cons k t dw ts q _ ih=>
     intro hs u hu
     rcases List.mem_cons.mp hu with rfl|hu
     ·obtain⟨x,r',rfl,rfl⟩:=q
      have:=(hs _ (zh ..)).1
      cases x0<;>cases x<;>first|rfl|cases this
     ·exact ih (fun k hk=>hs k (zg _ hk)) u hu
   exact aux _ _ r0 fun k hk=>hsh _ (zh ..) k (zg _ hk)
  have e0:(Value.type (if x0.isLeft then "int" else "str")::ts').toArray[0]?=some (Value.type (if x0.isLeft then "int" else "str")):=by simp
  have e1:((Value.type (if x0.isLeft then "int" else "str")::ts').toArray.all fun x=>x==Value.type (if x0.isLeft then "int" else "str"))=true:=by
   simp only[List.all_toArray,QQ]
   intro t ht
   rcases List.mem_cons.mp ht with rfl|ht
   ·simp
   ·rw[same t ht];simp
  rw[e0]
  simp only[e1,Q3]
  refine zd (zd ?_)
  have e2:((some (Value.type (if x0.isLeft then "int" else "str"))).any fun x=>x != Value.type "tuple")=true:=by
   cases x0 with
   |inl _=>exact (by decide:((some (Value.type "int")).any fun x=>x != Value.type "tuple")=true)
   |inr _=>exact (by decide:((some (Value.type "str")).any fun x=>x != Value.type "tuple")=true)
  rw[e2]
  exact h
def keyOf (dw:List (List Key)) (vs:List Value) (v:Value):List Key:=match (vs.zip dw).find? (fun p=>p.1==v) with
 |some p=>p.2
 |none=>[]
theorem lQ {h:Heap}:∀ {dw:List (List Key)} {vs:List Value},Paired (mG h) dw vs->∀ v∈vs,keyOf dw vs v∈dw/\mG h (keyOf dw vs v) v
 |_,_,.nil,v,hv=>by cases hv
 |k::dw,u::vs,.cons q t,v,hv=>by
  unfold keyOf
  rw[List.zip_cons_cons,j3]
  by_cases e:u=v
  ·subst e
   simp only[beq_self_eq_true]
   exact⟨zh ..,q⟩
  ·have e':(u==v)=false:=by simpa using e
   simp only[e']
   have hv':v∈vs:=by
    rcases List.mem_cons.mp hv with h|h
    ·exact absurd h.symm e
    ·exact h
   have ih:=lQ t v hv'
   exact⟨zg _ ih.1,ih.2⟩
theorem wI {h:Heap}:∀ {dw:List (List Key)} {vs:List Value},Paired (mG h) dw vs->∀ (K:Value->List Key),(∀ v∈vs,mG h (K v) v)->vs.map K=dw
 |_,_,.nil,_,_=>rfl
 |k::dw,v::vs,.cons q t,K,hK=>by
  rw[zl,(hK v (zh ..)).inj q,wI t K fun u hu=>hK u (zg _ hu)]
theorem yM {h:Heap}:∀ {vs:List Value} {K:Value->List Key},(∀ v∈vs,mG h (K v) v)->Paired (mG h) (vs.map K) vs
 |[],_,_=>.nil
 |v::vs,K,hK=>.cons (hK v (zh ..)) (yM fun u hu=>hK u (zg _ hu))
theorem Qj {vs:List Value} {dw:List (List Key)} (hv:Paired (mG s.heap) dw vs) (hsh:∀ k∈dw,∀ l∈dw,Ud k l):Qf prog w A s (tuples' true) (fun v=>rank dw (keyOf dw vs v)) (pairsOf vs):=by
 intro E p q Q hp hq h
 rw[pairsOf_toList] at hp hq
 obtain⟨m1,t1⟩:=lQ hv p.1 (mem_zip_self hp).2
 obtain⟨m2,t2⟩:=lQ hv q.1 (mem_zip_self hq).2
 rw[Kw m1] at h
 have sh:=hsh _ m1 _ m2
 obtain⟨a,o,its,n,e,g,c,d,k⟩:=t1
 obtain⟨a',o',its',n',e',g',c',d',k'⟩:=t2
 rw[e,e']
 exact Yi g d g' d' k k' sh h
theorem Qk {h:Heap} {vs:List Value} {dw:List (List Key)} (hv:Paired (mG h) dw vs) {xs:Array Keyed} (hp:xs.Perm (pairsOf vs)) (up:Up (fun v=>rank dw (keyOf dw vs v)) xs (pairsOf vs).size):Paired (mG h) (sY dw) (xs.map (·.2)).toList:=by
 have hl:xs.toList.Perm (vs.zip vs):=by rw[<-pairsOf_toList];exact Array.perm_iff_toList_perm.mp hp
 have hm:∀ p∈xs.toList,p.1=p.2/\p.1∈vs:=fun p q=>mem_zip_self (hl.mem_iff.mp q)
 have e:(xs.map (·.2)).toList=xs.toList.map (·.1):=by
  rw[Array.toList_map];exact ZY fun p q=>(hm p q).1.symm
 have pv:(xs.toList.map (·.1)).Perm vs:=by
  have:=hl.map Prod.fst
  rwa [List.map_fst_zip (zk _)] at this
 have key:sY dw=(xs.toList.map (·.1)).map (keyOf dw vs):=by
  refine (Bp ?_ ?_).symm
  ·have:=pv.map (keyOf dw vs)
   rwa [wI hv _ fun v q=>(lQ hv v q).2] at this
  ·rw[List.pairwise_iff_getElem]
   intro i j hi hj hij
   have hi':i < xs.size:=by simpa using hi
   have hj':j < xs.size:=by simpa using hj
   have u:=up i j (qB hij) (by rw[<-hp.size_eq];exact hj')
   unfold at_ at u
   rw[getElem?_pos xs i hi',getElem?_pos xs j hj'] at u
   have m2:=(lQ hv xs[j].1 (hm xs[j] (by simp)).2).1
   simp only[List.getElem_map,Array.getElem_toList]
   unfold sX
   rw[<-Kw m2,ZN (Nat.not_lt.mpr u)]
   rfl
 rw[key,e]
 refine yM fun v q=>(lQ hv v ?_).2
 exact pv.mem_iff.mp q
end
end S1
end
section
namespace P1
open PySem PySem.Spec PyProof.Rows L2 S1
section
variable {prog:Program} {w:World} {A:Around} {E:Value->Shared->Prop} {s:Shared}
theorem Jb {l:Addr} {o:Obj} {T:String} {vs:List Value} {n:Nat} {Q:List Value->Shared->Prop} (ho:s.heap.get? l=some o) (hc:o.cls=.type T) (hT:T = "list" ∨ T = "tuple") (hd:o.data=.seq vs.toArray n) (hz:vs.length<=sizeLine)
  (h:∀ h' tk,s.heap.objs.size<=h'.objs.size->(∀ c o,s.heap.get? c=some o->h'.get? c=some o)->Q vs { s with heap:=h',toks:=tk }):wpAny (model prog w) A (collect (.ref l)) Q E s:=by
 unfold collect
 refine zb (wpAny_runValue (kc entry_proto_collect' ?_))
 show wpAny _ _ (newList [] >>= fun q=>again (.builtin "list.__iadd__" ⟨[q,.ref l],[]⟩)) _ _ s
 refine zb (Ki (zd ⟨Code.quiet_builtin _ (by decide +kernel),kc entry_list_iadd' ?_⟩))
 show wpAny _ _ (Builtin.List.listExtendWith (.ref s.heap.objs.size) (.ref l) (.ref s.heap.objs.size)) _ _ _
 unfold Builtin.List.listExtendWith
 have g1:(s.heap.push (seqObj "list" #[] 0)).get? l=some o:=ze _ ho
 refine zb (QO (T:=T) ⟨o,g1,hc⟩ ?_)
 have ht:(Value.type T==Value.type "list" || Value.type T==Value.type "tuple")=true:=by rcases hT with rfl|rfl<;>decide
 rw[zo (by rw[Bool.or_assoc,ht];simp)]
 refine zb (listItems_at g1 hd (zb (listItems_at (xs:=#[]) (n:=0) (zr _ rfl) rfl ?_)))
 rw[zS (by simp)]
 have g2:(s.heap.push (seqObj "list" #[] 0)).get? s.heap.objs.size=some (seqObj "list" #[] 0):=zr _ rfl
 refine zb (listUpdate_at (xs:=#[]) (n:=0) g2 rfl (zd ?_) (qv _) (by show (#[]++vs.toArray).size<=sizeLine+1;simp only[ku,zt,List.length_nil];omega))
 show wpAny (model prog w) A (load s.heap.objs.size >>= _) Q E _
 refine zb (wpAny_load (get?_update_seq g2 _) ?_)
 show wpAny _ _ (pure ((#[]:Array Value)++vs.toArray).toList) Q E _
 rw[show ((#[]:Array Value)++vs.toArray).toList=vs by simp]
 refine zd (h _ s.toks ?_ fun c oc e=>?_)
 ·rw[Heap.size_update,size_push'];exact JS _
 ·rw[Q1 _ _ _ _ (zI (zw e))]
  exact ze _ e
end
def Ui:Dt->Option Key
 |.int i=>some (.inl i)
 |.str x=>some (.inr x)
 |_=>none
def wJ:List Dt->Option (List Key)
 |[]=>some []
 |d::ds=>(Ui d).bind fun k=>(wJ ds).bind fun ks=>some (k::ks)
def yN:Dt->Option (List Key)
 |.tup ds=>wJ ds
 |_=>none
def yO:List Dt->Option (List (List Key))
 |[]=>some []
 |d::ds=>(yN d).bind fun k=>(yO ds).bind fun ks=>some (k::ks)
def dK:Key->Dt
 |.inl i=>.int i
 |.inr x=>.str x
def tupK (ks:List Key):Dt:=.tup (ks.map dK)
theorem Uj {d:Dt} {k:Key} (h:Ui d=some k):d=dK k:=by
 cases d<;>cases h<;>rfl
theorem Ge:∀ {ds:List Dt} {ks:List Key},wJ ds=some ks->ds=ks.map dK
 |[],_,h=>by cases h;rfl
 |d::ds,_,h=>by
  obtain⟨k,e1,h⟩:=bind_some h
  obtain⟨ks,e2,h⟩:=bind_some h
  cases h
  rw[zl,Uj e1,Ge e2]
theorem Ql {d:Dt} {ks:List Key} (h:yN d=some ks):d=tupK ks:=by
 cases d with
 |tup ds=>exact congrArg Dt.tup (Ge h)
 |_=>cases h
theorem Br:∀ {ds:List Dt} {dw:List (List Key)},yO ds=some dw->ds=dw.map tupK
 |[],_,h=>by cases h;rfl
 |d::ds,_,h=>by
  obtain⟨k,e1,h⟩:=bind_some h
  obtain⟨ks,e2,h⟩:=bind_some h
  cases h
  rw[zl,Ql e1,Br e2]
section
variable {X:Cx}
theorem Uk {K:PySem.W.Frag} {H:Hp} {k:Key} {v:V} (h:Rep K H (dK k) v):v=kV k:=by
 cases k with
 |inl i=>exact (show v=.int i by simpa only[dK,Rep] using h)
 |inr x=>exact (show v=.str x/\x.length<=sizeLine by simpa only[dK,Rep] using h).1
theorem Bu {K:PySem.W.Frag} {H:Hp}:∀ {ks:List Key} {vs:List V},aF K H (ks.map dK) vs->vs=ks.map kV
 |[],_,h=>by simp only[jS,aF] at h;exact h
 |k::ks,_,h=>by
  simp only[zl,aF] at h
  obtain⟨v,r,rfl,h1,h2⟩:=h
  rw[Uk h1,Bu h2,zl]
theorem aaR (X:Cx) {ks:List Key}:∀ {us:List Value},Vals (ks.map kV) us->Ks ks us:=by
 induction ks with
 |nil=>intro us h;cases h;exact .nil
 |cons k ks ih=>
  intro us h
  cases h with
  |cons r t=>exact .cons (Ey (P:=X.prog) (w:=X.w) r) (ih t)
theorem Dg {pins:List (Addr×Obj)} {σ:L2.St} {H:Hp} {s:Shared} (I:Inv X pins σ H s):∀ {dw:List (List Key)} {vs:List V} {its:List Value},aF X.K H (dw.map tupK) vs->Vals vs its->Paired (mG s.heap) dw its
 |[],_,_,h,r=>by
  simp only[jS,aF] at h
  subst h;cases r;exact .nil
 |k::dw,_,_,h,r=>by
  simp only[zl,aF] at h
  obtain⟨v,vs,rfl,h1,h2⟩:=h
  cases r with
  |cons r1 r2=>
   refine .cons ?_ (Dg I h2 r2)
   simp only[tupK,Rep] at h1
   obtain⟨a,ws,rfl,sq,rs⟩:=h1
   obtain⟨its,rv,⟨o,g,c,n,d⟩,_⟩:=I.tuple sq
   cases r1
   rw[Bu rs] at rv
   exact⟨a,o,its,n,rfl,g,c,d,aaR X rv⟩
theorem Bv {pins:List (Addr×Obj)} {σ:L2.St} {H:Hp} {s:Shared} (I:Inv X pins σ H s) {dw:List (List Key)} {vs:List V} {its:List Value} (h:aF X.K H (dw.map tupK) vs) (r:Vals vs its):∀ {lss:List (List Key)} {out:List Value},Paired (mG s.heap) lss out->(∀ u∈out,u∈its)->∃ zs,Vals zs out/\aF X.K H (lss.map tupK) zs
 |_,_,.nil,_=>⟨[],.nil,aF.nil⟩
 |l::lss,u::out,.cons q t,hm=>by
  obtain⟨zs,z1,z2⟩:=Bv I h r t fun x hx=>hm x (zg _ hx)
  have aux:∀ (dw:List (List Key)) (vs:List V) (its:List Value),aF X.K H (dw.map tupK) vs->Vals vs its->u∈its->∃ v,RelV v u/\Rep X.K H (tupK l) v:=by
   intro dw
   induction dw with
   |nil=>
    intro vs its h r hu
    simp only[jS,aF] at h
    subst h;cases r;cases hu
   |cons k dw ih=>
    intro vs its h r hu
    simp only[zl,aF] at h
    obtain⟨v,vs,rfl,h1,h2⟩:=h
    cases r with
    |@cons _ u' _ _ r1 r2=>
     rcases List.mem_cons.mp hu with rfl|hu
     ·have e:k=l:=by
       have:=Dg I (dw:=[k]) (vs:=[v]) (its:=[u]) (by simp only[zl,jS];exact aF.cons h1 aF.nil) (.cons r1 .nil)
       cases this with
       |cons q' _=>exact q'.inj q
      subst e
      exact⟨v,r1,h1⟩
     ·exact ih vs _ h2 r2 hu
  obtain⟨v,r1,h1⟩:=aux dw vs its h r (hm u (zh ..))
  exact⟨v::zs,.cons r1 z1,by rw[zl];exact aF.cons h1 z2⟩
def Dh (k l:List Key):Bool:=((k.zip l).all fun p=>Kv p.1 p.2)
theorem Jc:∀ {k l:List Key},Dh k l=true->Ud k l
 |[],_,_=>by simp[Ud]
 |_::_,[],_=>by simp[Ud]
 |x::k,y::l,h=>by
  unfold Dh at h
  rw[List.zip_cons_cons,JE,qq] at h
  exact⟨h.1,Jc h.2⟩
def Ul (dw:List (List Key)):Bool:=decide (dw.length < 64)&&(dw.all (fun k=>!k.isEmpty)&&dw.all fun k=>dw.all fun l=>Dh k l)
def yP:List Bx->Option Bx
 |[b]=>(yD b).bind fun ds=>(yO ds).bind fun dw=>if Ul dw=true then some (.o ((sY dw).map tupK)) else none
 |_=>none
theorem Di {K:PySem.W.Frag} {H:Hp} {b:Bx} {v:V} {ds:List Dt} (h:aR K H b v) (e:yD b=some ds):∃ a vs,v=.ref a/\(nF K H a vs\/tO K H a vs)/\aF K H ds vs:=by
 cases b with
 |z d=>
  cases d<;>first|(cases e;done)|skip
  ·cases e
   simp only[aR,Rep] at h
   obtain⟨a,vs,e,q,r⟩:=h
   exact⟨a,vs,e,.inr q,r⟩
  ·cases e
   simp only[aR,Rep] at h
   obtain⟨a,vs,e,q,r⟩:=h
   exact⟨a,vs,e,.inl q.sq,r⟩
 |l ds'=>cases e;obtain⟨a,vs,e,q,r⟩:=h;exact⟨a,vs,e,.inl (.inl q),r⟩
 |o ds'=>cases e;obtain⟨a,vs,e,q,r⟩:=h;exact⟨a,vs,e,.inl (.inl (.inl q)),r⟩
 |n _=>cases e
 |m _ _=>cases e
theorem Qm:pH X (.builtin "sorted") yP:=by
 intro pins s σ H xs us Q I rx h
 obtain⟨bs,c,rb,e,q⟩:=h
 unfold yP at e
 split at e
 ·rename_i b
  obtain⟨ds,ed,e⟩:=bind_some e
  obtain⟨dw,ek,e⟩:=bind_some e
  split at e
  ·rename_i hs
   cases e
   simp only[Ul,qq,QY,QQ,JO] at hs
   obtain⟨h64,hne,hsh⟩:=hs
   obtain⟨v,rfl,r1⟩:=rep1 rb
   obtain⟨p,vs,rfl,sq,rs⟩:=Di r1 ed
   obtain⟨u,rfl,ru⟩:=vals1 rx
   cases ru
   have eds:=Br ek
   subst eds
   have got:∃ (its:List Value) (o:Obj) (T:String) (n:Nat),Vals vs its/\s.heap.get? p=some o/\o.cls=.type T/\(T = "list" ∨ T = "tuple")/\o.data=.seq its.toArray n/\vs.length<=sizeLine:=by
    rcases sq with sq|sq
    ·obtain⟨its,r',pl,hz⟩:=I.list sq
     obtain⟨o,g,c,n,d⟩:=pl.isList
     exact⟨its,o,_,n,r',g,c,.inl rfl,d,hz⟩
    ·obtain⟨its,r',⟨o,g,c,n,d⟩,hz⟩:=I.tuple sq
     exact⟨its,o,_,n,r',g,c,.inr rfl,d,hz⟩
   obtain⟨its,o,T,n,r',g,hc,hT,hd,hz⟩:=got
   have hlen:its.length=dw.length:=by rw[<-r'.length,rs.length,zi]
   have tv:=Dg I rs r'
   refine Mv (kd:=tuples' true) (rk:=fun v=>rank dw (keyOf dw its v)) (vs:=its) (fun E' Q' hq=>Jb g hc hT hd (by rw[<-r'.length];exact hz) hq)
    (fun h2 E' A' s' k Q' hq=>MJ (Paired.imp' (fun _ _ z=>mG.keep z k) tv) (fun k hk=>by have:=hne k hk;cases k with|nil=>cases this|cons _ _=>exact List.cons_ne_nil _ _) (fun k hk l hl=>Jc (hsh k hk l hl)) (by omega) hq)
    (fun A' s' k=>Qj (Paired.imp' (fun _ _ z=>mG.keep z k) tv) fun k hk l hl=>Jc (hsh k hk l hl)) (by omega) fun l h' tk m st hp up hl ext hL=>?_
   have out:=Qk tv hp up
   have mem:∀ u∈((arrOf st).map (·.2)).toList,u∈its:=fun u hu=>by
    rw[Array.toList_map] at hu
    obtain⟨pr,hpr,rfl⟩:=List.mem_map.mp hu
    have acJ:pr∈its.zip its:=by rw[<-pairsOf_toList];exact (Array.perm_iff_toList_perm.mp hp).mem_iff.mp hpr
    have:=mem_zip_self acJ
    rw[<-this.1];exact this.2
   obtain⟨zs,z1,z2⟩:=Bv I rs r' out mem
   have hzl:zs.length=dw.length:=by rw[z2.length,zi,(wH dw).length_eq]
   have hH:H l=none:=I.hok.fresh hl
   refine⟨.ref l,_,I.laid (t':=tk) (a:=l) (o:=.lst zs) ext hl ⟨by rw[hzl];exact qB (z5 h64 (by decide)),_,m,z1,?_⟩,rfl,q _ _ (bJ hH) (fun a ea=>by cases ea;exact hH) ⟨l,zs,rfl,aP,z2.kp (.of (bJ hH))⟩⟩
   rw[hL]
  ·cases e
 ·cases e
end
end P1
end
section
namespace S6
open PySem PySem.Spec PyProof.Rows
theorem MK {M:Model} {A:Around} {E:Value->Shared->Prop} {s:Shared} {src:Source} {n:Nat} {Q:Nat->Shared->Prop} (hn:n≠0) (h:∀ i d,i < n->Q i { s with drawn:=d }):wpAny M A (choose src n) Q E s:=
 fun Γ p hΓ=>⟨hn,h _ _ (Nat.mod_lt _ (Nat.pos_of_ne_zero hn))⟩
theorem Dj {α:Type}:∀ {xs:List α} {i:Nat} (hi:i < xs.length),(xs[i]::xs.eraseIdx i).Perm xs
 |x::xs,0,_=>List.Perm.refl _
 |x::xs,i+1,h=>by
  rw[List.eraseIdx_cons_succ,List.getElem_cons_succ]
  exact (List.Perm.swap _ _ _).trans ((Dj (xs:=xs) (i:=i) (by simpa using h)).cons x)
theorem Um {M:Model} {A:Around} {E:Value->Shared->Prop} {α:Type}:∀ (n:Nat) (xs:List α) (s:Shared) (Q:List α->Shared->Prop),xs.length=n->(∀ ys d,ys.Perm xs->Q ys { s with drawn:=d })->wpAny M A (drawOrder n xs) Q E s:=by
 intro n
 induction n with
 |zero=>
  intro xs s Q hl h
  cases xs with
  |nil=>
   unfold drawOrder
   exact zd (h [] s.drawn (List.Perm.refl _))
  |cons x xs=>simp at hl
 |succ n ih=>
  intro xs s Q hl h
  cases xs with
  |nil=>simp at hl
  |cons x xs=>
   unfold drawOrder
   refine zb (MK (by simp) fun i d hi=>?_)
   have e:(x::xs)[i]?=some (x::xs)[i]:=by simp[hi]
   rw[e]
   dsimp only
   refine zb (ih ((x::xs).eraseIdx i) _ _ (by rw[List.length_eraseIdx,zo hi];simp at hl ⊢;omega) fun ys d' hp=>zd ?_)
   exact h _ d' ((List.Perm.cons _ hp).trans (Dj hi))
theorem Kz {α:Type} (next:Nat->Nat):∀ (n k:Nat) (xs:List α) (out:Array α),xs.length=n->(pickOrder.go next n k xs out).toList.Perm (out.toList++xs)
 |0,k,[],out,_=>by unfold pickOrder.go;simp
 |n+1,k,x::xs,out,hl=>by
  unfold pickOrder.go
  have hi:next k % (x::xs).length < (x::xs).length:=Nat.mod_lt _ (by simp)
  have e:(x::xs)[next k % (x::xs).length]?=some (x::xs)[next k % (x::xs).length]:=by rw[ZA hi]
  rw[e]
  dsimp only
  refine (Kz next n (k+1) _ _ (by rw[List.length_eraseIdx,zo hi];simp at hl ⊢;omega)).trans ?_
  rw[Array.toList_push,qV]
  exact (List.Perm.refl _).append (Dj hi)
theorem MN {α:Type} (next:Nat->Nat) (xs:Array α):(pickOrder next xs).toList.Perm xs.toList:=by
 have:=Kz next xs.size 0 xs.toList #[] (by simp)
 simpa [pickOrder] using this
structure Wk (w:World) (h:Heap) (a:Addr) (es:Array (Int×Value)) (ep:Nat) (t:SetTable):Prop where
 at_:∃ o,h.get? a=some o/\o.cls=.type "set" ∧ o.data=.set es ep t
 fit:t.fits es.size=true
 led:w.params.followText "set-order" = false->t.led=true
 non:1 < es.size->t.plain=false
theorem Wk.keep {w:World} {h h':Heap} {a:Addr} {es:Array (Int×Value)} {ep:Nat} {t:SetTable} (x:Wk w h a es ep t) (k:∀ o,h.get? a=some o->h'.get? a=some o):Wk w h' a es ep t:=
 ⟨let ⟨o,e,r⟩:=x.at_;⟨o,k o e,r⟩,x.fit,x.led,x.non⟩
def It (h:Heap) (it a:Addr) (first:Value) (i n ep:Nat):Prop:=∃ o,h.get? it=some o/\o.cls=.type "set_iterator" ∧ o.data=.fields #[first,.int (i:Int) 0,.ref a,.int (n:Int) 0,.int (ep:Int) 0]
theorem It.keep {h h':Heap} {it a:Addr} {f:Value} {i n ep:Nat} (x:It h it a f i n ep) (k:∀ o,h.get? it=some o->h'.get? it=some o):It h' it a f i n ep:=
 let ⟨o,e,r⟩:=x;⟨o,k o e,r⟩
theorem It.ty {s:Shared} {it a:Addr} {f:Value} {i n ep:Nat} (x:It s.heap it a f i n ep):s.TypeIs (.ref it) "set_iterator" := let ⟨o,e,c,_⟩:=x;⟨o,e,c⟩
theorem gQ:Slot "set_iterator" "__next__" "set_iterator.__next__" :=
 .of (owner := "set_iterator") (n := "__next__") (by rw[typeLookup_type,builtinLookup_eq_fast];kernel_rfl) (by decide +kernel) (by decide +kernel) (by decide +kernel)
  (by first|exact .inl (by decide +kernel)|exact .inr (by decide +kernel)) (by rw[isSubtype_type];kernel_rfl)
theorem uH:Slot "set_iterator" "__iter__" "set_iterator.__iter__" :=
 .of (owner := "set_iterator") (n := "__iter__") (by rw[typeLookup_type,builtinLookup_eq_fast];kernel_rfl) (by decide +kernel) (by decide +kernel) (by decide +kernel)
  (by first|exact .inl (by decide +kernel)|exact .inr (by decide +kernel)) (by rw[isSubtype_type];kernel_rfl)
theorem Ag:entryFor table "set_iterator.__next__" = some Builtin.«set_iterator.__next__»:=entryFor_of_tree (by kernel_rfl)
theorem xJ:entryFor table "set.__iter__" = some Builtin.«frozenset.__iter__»:=entryFor_alias (id' := "frozenset.__iter__") (by kernel_rfl) rfl (by decide +kernel) (by kernel_rfl)
theorem Ah:entryFor table "set_iterator.__iter__" = some Builtin.«dict_keyiterator.__iter__»:=entryFor_alias (id' := "dict_keyiterator.__iter__") (by kernel_rfl) rfl (by decide +kernel) (by kernel_rfl)
theorem Qn:Manifest.owners.lookup (String.ofList "rotareti_tes".toList.reverse)=some Manifest.sig_set_iterator:=by kernel_rfl
theorem Dk (a:Value):argsOk "set_iterator.__next__" ⟨[a],[]⟩:=by
 unfold argsOk;rw[signature?_of (id := "set_iterator.__next__") (n := "__txen__".toList) (o := "rotareti_tes".toList) (by kernel_rfl) Qn];kernel_rfl
theorem Dl (a:Value):argsOk "set_iterator.__iter__" ⟨[a],[]⟩:=by
 unfold argsOk;rw[signature?_of (id := "set_iterator.__iter__") (n := "__reti__".toList) (o := "rotareti_tes".toList) (by kernel_rfl) Qn];kernel_rfl
section
variable {prog:Program} {w:World} {A:Around} {E:Value->Shared->Prop} {s:Shared} {it a:Addr} {i ep:Nat} {es:Array (Int×Value)} {t:SetTable}
theorem xU {first:Value} {Q:Option Value->Shared->Prop} (hit:It s.heap it a first i es.size ep) (hw:Wk w s.heap a es ep t)
  (h:wpAny (model prog w) A.in1 (if let .int slot _:=first then (do
    match <-setNext a slot.toNat (i:Int).toNat (ep:Int).toNat with
    |some (x,next)=>
     setField (.ref it) 0 (rawInt next)
     setField (.ref it) 1 (rawInt ((i:Int)+1))
     ret x
    |none=>setField (.ref it) 2 .none;raiseNew (<-newExc (.type "StopIteration") []))
   else (do
    let some places <-seqItems? first|unsupported "internal:set_iterator"
    match places[(i:Int).toNat]? with
    |some (.int place _)=>
     let x <-setNextDrawn a place.toNat (ep:Int).toNat
     setField (.ref it) 1 (rawInt ((i:Int)+1))
     ret x
    |some _=>unsupported "internal:set_iterator"
    |none=>setField (.ref it) 0 (rawInt 0);setField (.ref it) 2 .none;raiseNew (<-newExc (.type "StopIteration") []))) (fun fin s'=>∃ v,fin=.done (.ret v)/\Q (some v) s') (fun e s'=>s'.TypeIs e "StopIteration" ∧ Q none s') s):wpAny (model prog w) A (pyNext (.ref it)) Q E s:=by
 obtain⟨o,ho,hc,hd⟩:=id hit
 obtain⟨oa,hoa,hca,hda⟩:=hw.at_
 unfold pyNext
 refine zb (wpAny_attempt (Kx (name:=Str.ofString "__next__") hit.ty gQ (Qr gQ hit.ty Ag ?_ (Dk _))))
 unfold Builtin.«set_iterator.__next__»
 refine zb (zd ?_)
 refine zb (wpAny_fieldsOf ho hd ?_)
 show wpAny _ _ (setEntries a >>= _) _ _ s
 refine zb (wpAny_setEntries_of hoa hda hw.fit ?_)
 rw[zS (by simp)]
 refine ZH h (fun fin s' hq=>?_) fun e s' hq=>?_
 ·obtain⟨v,rfl,hv⟩:=hq
  exact⟨v,rfl,zd hv⟩
 ·refine zb (wpAny_isInstance (T := "StopIteration") (b:=true) hq.1 isSubtype_stop ?_)
  exact zd hq.2
theorem KC {hp:Heap} {Q:Option Value->Shared->Prop} (hh:A.handled=none) (h:∀ h',(∀ b o,hp.get? b=some o->h'.get? b=some o)->Q none { s with heap:=h' }) :
  wpAny (model prog w) A.in1 (do raiseNew (<-newExc (.type "StopIteration") [])) (fun (fin:Fin) s'=>∃ v,fin=.done (.ret v)/\Q (some v) s') (fun e s'=>s'.TypeIs e "StopIteration" ∧ Q none s') { s with heap:=hp }:=by
 refine zb ?_
 simp only[newExc,newTuple]
 refine zb (qa ?_ (by size_fits))
 refine zb (m:=firstArgMember _ _) (wpAny_of_eq (a:=Value.none) (by first|rfl|(simp only[firstArgMember];rfl)) ?_)
 refine qa ?_ (by size_fits)
 simp only[raiseNew]
 refine zb (wpAny_handled ?_)
 rw[show A.in1.handled=none from hh]
 refine zb (zd (wpAny_throw ⟨⟨_,zr _ rfl,rfl⟩,?_⟩))
 exact h _ fun b o e=>ze _ (ze _ e)
theorem It.put {h:Heap} {f:Value} {n:Nat} (hit:It h it a f i n ep) (x:Value):It (h.update it (Obj.mapFields (·.setIfInBounds 0 x))) it a x i n ep:=by
 obtain⟨o,ho,hc,hd⟩:=hit
 exact⟨_,Heap.get?_update_self _ ho (Obj.isFreed_of_fields (kL hd _)),(Obj.cls_mapFields ..).trans hc,by rw[kL hd];simp⟩
theorem It.step {h:Heap} {f:Value} {n:Nat} (hit:It h it a f i n ep):It (h.update it (Obj.mapFields (·.setIfInBounds 1 (rawInt ((i:Int)+1))))) it a f (i+1) n ep:=by
 obtain⟨o,ho,hc,hd⟩:=hit
 exact⟨_,Heap.get?_update_self _ ho (Obj.isFreed_of_fields (kL hd _)),(Obj.cls_mapFields ..).trans hc,by rw[kL hd];simp[rawInt]⟩
theorem It.field {f:Value} {n k:Nat} {x:Value} {A:Around} {Q:Unit->Shared->Prop} {E:Value->Shared->Prop} (hit:It s.heap it a f i n ep) (hk:k < 5) (h:Q () { s with heap:=s.heap.update it (Obj.mapFields (·.setIfInBounds k x)) }):wpAny (model prog w) A (setField (.ref it) k x) Q E s:=by
 obtain⟨o,ho,hc,hd⟩:=hit
 exact wpAny_setField ho hd (by simpa using hk) h
theorem nT {h:Heap} {f:Obj->Obj} {b:Addr} {o:Obj} (hb:b≠it) (e:h.get? b=some o):(h.update it f).get? b=some o:=by rw[Q1 _ _ _ _ hb];exact e
theorem Qo {slot next:Nat} {x:Value} {Q:Option Value->Shared->Prop} (hit:It s.heap it a (.int (slot:Int) 0) i es.size ep) (hw:Wk w s.heap a es ep t)
  (hS:∀ {A':Around} {E':Value->Shared->Prop} {Q':Option (Value×Nat)->Shared->Prop},Q' (some (x,next)) s->wpAny (model prog w) A' (setNext a slot i ep) Q' E' s)
  (h:∀ h',It h' it a (.int (next:Int) 0) (i+1) es.size ep->(∀ b o,b≠it->s.heap.get? b=some o->h'.get? b=some o)->Q (some x) { s with heap:=h' }):wpAny (model prog w) A (pyNext (.ref it)) Q E s:=by
 refine xU hit hw ?_
 show wpAny _ _ (setNext a slot i ep >>= _) _ _ s
 refine zb (hS ?_)
 refine zb (hit.field (by decide) ?_)
 refine zb ((hit.put _).field (s:={ s with heap:=_ }) (by decide) ?_)
 exact zd ⟨x,rfl,h _ ((hit.put _).step) fun b o hb e=>nT hb (nT hb e)⟩
theorem yQ {slot:Nat} {Q:Option Value->Shared->Prop} (hh:A.handled=none) (hit:It s.heap it a (.int (slot:Int) 0) i es.size ep) (hw:Wk w s.heap a es ep t)
  (hS:∀ {A':Around} {E':Value->Shared->Prop} {Q':Option (Value×Nat)->Shared->Prop},Q' none s->wpAny (model prog w) A' (setNext a slot i ep) Q' E' s)
  (h:∀ h',(∀ b o,b≠it->s.heap.get? b=some o->h'.get? b=some o)->Q none { s with heap:=h' }):wpAny (model prog w) A (pyNext (.ref it)) Q E s:=by
 refine xU hit hw ?_
 show wpAny _ _ (setNext a slot i ep >>= _) _ _ s
 refine zb (hS ?_)
 refine zb (hit.field (by decide) (KC hh fun h' k=>h h' fun b o hb e=>k b o (nT hb e)))
theorem Uo {tp:Addr} {pl:List Nat} {ot:Obj} {c:Nat} {j:Nat} {x:Int×Value} {Q:Option Value->Shared->Prop} (hit:It s.heap it a (.ref tp) i es.size ep) (hw:Wk w s.heap a es ep t)
  (ht:s.heap.get? tp=some ot) (hd:ot.data=.seq (pl.map fun (k:Nat)=>rawInt (k:Int)).toArray c) (hj:pl[i]?=some j) (hx:es[j]?=some x)
  (h:∀ h',It h' it a (.ref tp) (i+1) es.size ep->(∀ b o,b≠it->s.heap.get? b=some o->h'.get? b=some o)->Q (some x.2) { s with heap:=h' }):wpAny (model prog w) A (pyNext (.ref it)) Q E s:=by
 refine xU hit hw ?_
 show wpAny _ _ (seqItems? (.ref tp) >>= _) _ _ s
 refine zb (m:=seqItems? (.ref tp)) ?_
 unfold seqItems?
 refine zb (wpAny_load ht ?_)
 rw[hd]
 refine zd ?_
 dsimp only
 rw[kX,show ((pl.map fun (k:Nat)=>rawInt (k:Int)).toArray)[i]?=some (rawInt (j:Int)) by simp[hj]]
 show wpAny _ _ (setNextDrawn a j ep >>= _) _ _ s
 obtain⟨oa,hoa,hca,hda⟩:=hw.at_
 refine zb (m:=setNextDrawn a j ep) ?_
 unfold setNextDrawn
 refine zb (JJ hoa hda hw.fit ?_)
 dsimp only
 rw[zS (by simp),hx]
 refine zd ?_
 refine zb (hit.field (by decide) ?_)
 exact zd ⟨x.2,rfl,h _ hit.step fun b o hb e=>nT hb e⟩
theorem Gf {tp:Addr} {pl:List Nat} {ot:Obj} {c:Nat} {Q:Option Value->Shared->Prop} (hh:A.handled=none) (hit:It s.heap it a (.ref tp) i es.size ep) (hw:Wk w s.heap a es ep t)
  (ht:s.heap.get? tp=some ot) (hd:ot.data=.seq (pl.map fun (k:Nat)=>rawInt (k:Int)).toArray c) (hj:pl[i]?=none)
  (h:∀ h',(∀ b o,b≠it->s.heap.get? b=some o->h'.get? b=some o)->Q none { s with heap:=h' }):wpAny (model prog w) A (pyNext (.ref it)) Q E s:=by
 refine xU hit hw ?_
 show wpAny _ _ (seqItems? (.ref tp) >>= _) _ _ s
 refine zb (m:=seqItems? (.ref tp)) ?_
 unfold seqItems?
 refine zb (wpAny_load ht ?_)
 rw[hd]
 refine zd ?_
 dsimp only
 rw[kX,show ((pl.map fun (k:Nat)=>rawInt (k:Int)).toArray)[i]?=none by simpa using hj]
 refine zb (hit.field (by decide) ?_)
 refine zb ((hit.put _).field (s:={ s with heap:=_ }) (by decide) (KC hh fun h' k=>h h' fun b o hb e=>k b o (nT hb (nT hb e))))
end
section
variable {prog:Program} {w:World} {A:Around} {E:Value->Shared->Prop} {s:Shared} {it a:Addr} {i ep:Nat} {es:Array (Int×Value)} {t:SetTable}
theorem nU {Q:Bool->Shared->Prop} (h:Q (w.params.followText "set-order") s):wpAny (model prog w) A setsByText Q E s:=by
 unfold setsByText
 exact zb (Kn (zd h))
theorem Dm {f:Value} {n:Nat} {Q:Value->Shared->Prop} (hit:It s.heap it a f i n ep) (h:Q (.ref it) s):wpAny (model prog w) A (pyIter (.ref it)) Q E s:=by
 refine wpAny_pyIter_slot hit.ty uH (Qr uH hit.ty Ah ?_ (Dl _))
 show wpAny _ _ (ret (.ref it)) _ _ s
 exact zd ⟨_,rfl, "set_iterator", _,hit.ty,gQ.lookup,h⟩
def Dp (w:World) (a:Addr) (ep:Nat) (es:Array (Int×Value)):List Value:=(pickOrder (w.params.setOrder a ep) es).toList.map (·.2)
theorem vX:(Dp w a ep es).Perm (es.toList.map (·.2)):=(MN _ _).map _
theorem Bw {slot:Nat} {Q:Option (Value×Nat)->Shared->Prop} (hf:w.params.followText "set-order" = true) (hw:Wk w s.heap a es ep t) (h:Q (((Dp w a ep es)[i]?).map fun v=>(v,slot)) s):wpAny (model prog w) A (setNext a slot i ep) Q E s:=by
 obtain⟨oa,hoa,hca,hda⟩:=hw.at_
 unfold setNext
 refine zb (JJ hoa hda hw.fit (zb (nU ?_)))
 rw[hf]
 simp only[↓reduceIte,bne_self_eq_false,zz]
 refine zb (m:=setWalk a) ?_
 unfold setWalk
 refine zb (JJ hoa hda hw.fit (zb (nU ?_)))
 rw[hf]
 simp only[↓reduceIte]
 refine zb (Kn (zd (zd ?_)))
 have e:(pickOrder (w.params.setOrder a ep) es)[i]?.map (fun e=>(e.2,slot))=((Dp w a ep es)[i]?).map fun v=>(v,slot):=by
  unfold Dp
  rw[z4,Option.map_map,Array.getElem?_toList]
  rfl
 rw[<-e] at h
 exact h
theorem Jd (hh:A.handled=none) (hf:w.params.followText "set-order" = true) (hne:a≠it) (c:es.size<=sizeLine):Walks prog w A it [it,a] [it] es.size (fun i v=>(Dp w a ep es)[i]?=some v) (fun i h=>It h it a (.int 0 0) i es.size ep/\Wk w h a es ep t) where
 sub:=fun b hb=>by simp at hb;simp[hb]
 frame:=fun _ _ _ st hk=>⟨st.1.keep fun o e=>hk it (by simp) o e,st.2.keep fun o e=>hk a (by simp) o e⟩
 item:=fun i s Q E hi st hQ=>by
  have hl:(Dp w a ep es).length=es.size:=by rw[vX.length_eq];simp
  obtain⟨v,hv⟩:∃ v,(Dp w a ep es)[i]?=some v:=⟨(Dp w a ep es)[i]'(by omega),by rw[ZA]⟩
  refine Qo (slot:=0) (next:=0) (x:=v) st.1 st.2 (fun {A' E' Q'} hq=>Bw hf st.2 (by rw[hv];exact hq)) fun h' hi' k=>?_
  exact hQ v h' s.toks hv ⟨hi',st.2.keep fun o e=>k a o hne e⟩ fun b o hb e=>k b o (fun x=>hb (by simp[x])) e
 done:=fun s Q E st hQ=>by
  have hl:(Dp w a ep es).length=es.size:=by rw[vX.length_eq];simp
  refine yQ (slot:=0) hh st.1 st.2 (fun {A' E' Q'} hq=>Bw hf st.2 (by rw[ZU (by omega)];exact hq)) fun h' k=>?_
  exact hQ h' s.toks fun b o hb e=>k b o (fun x=>hb (by simp[x])) e
 self:=fun _ _ _ _ st hQ=>Dm st.1 hQ
def MP (pl:List Nat) (es:Array (Int×Value)):List Value:=pl.filterMap fun j=>es[j]?.map (·.2)
theorem M4 {pl:List Nat} (h:pl.Perm (List.range es.size)):(MP pl es).Perm (es.toList.map (·.2)):=by
 refine (h.filterMap _).trans ?_
 rw[show (List.range es.size).filterMap (fun j=>es[j]?.map (·.2))=((List.range es.size).filterMap fun j=>es[j]?).map (·.2) by rw[List.map_filterMap],filterMap_getElem?_range]
theorem Gg:∀ {pl:List Nat},(∀ j∈pl,j < es.size)->∀ (i:Nat) (j:Nat),pl[i]?=some j->(MP pl es)[i]?=es[j]?.map (·.2)
 |[],_,_,_,h=>by simp at h
 |k::pl,hb,i,j,h=>by
  have hk:=hb k (zh ..)
  have e:MP (k::pl) es=es[k].2::MP pl es:=by simp[MP,hk]
  rw[e]
  cases i with
  |zero=>cases (show k=j by simpa using h);simp[hk]
  |succ i=>rw[KF];exact Gg (fun j hj=>hb j (zg _ hj)) i j (by simpa using h)
theorem Je {tp:Addr} {pl:List Nat} (hh:A.handled=none) (hne:a≠it) (htp:tp≠it) (hp:pl.Perm (List.range es.size)):Walks prog w A it [it,a,tp] [it] es.size (fun i v=>(MP pl es)[i]?=some v)
  (fun i h=>It h it a (.ref tp) i es.size ep/\Wk w h a es ep t/\∃ ot c,h.get? tp=some ot/\ot.data=.seq (pl.map fun (k:Nat)=>rawInt (k:Int)).toArray c) where
 sub:=fun b hb=>by simp at hb;simp[hb]
 frame:=fun _ _ _ st hk=>⟨st.1.keep fun o e=>hk it (by simp) o e,st.2.1.keep fun o e=>hk a (by simp) o e,let ⟨ot,c,e,r⟩:=st.2.2;⟨ot,c,hk tp (by simp) ot e,r⟩⟩
 item:=fun i s Q E hi st hQ=>by
  obtain⟨ot,c,e1,e2⟩:=st.2.2
  have hl:pl.length=es.size:=by rw[hp.length_eq];simp
  have hb:∀ j∈pl,j < es.size:=fun j hj=>List.mem_range.mp (hp.mem_iff.mp hj)
  have hj:pl[i]?=some (pl[i]'(by omega)):=by rw[ZA]
  have hx:es[pl[i]'(by omega)]?=some (es[pl[i]'(by omega)]'(hb _ (kB _))):=by rw[Array.getElem?_eq_getElem]
  refine Uo st.1 st.2.1 e1 e2 hj hx fun h' hi' k=>?_
  exact hQ _ h' s.toks (by rw[Gg hb i _ hj,hx];rfl) ⟨hi',st.2.1.keep fun o e=>k a o hne e,ot,c,k tp ot htp e1,e2⟩ fun b o hb e=>k b o (fun x=>hb (by simp[x])) e
 done:=fun s Q E st hQ=>by
  obtain⟨ot,c,e1,e2⟩:=st.2.2
  have hl:pl.length=es.size:=by rw[hp.length_eq];simp
  refine Gf hh st.1 st.2.1 e1 e2 (by rw[ZU (by omega)]) fun h' k=>?_
  exact hQ h' s.toks fun b o hb e=>k b o (fun x=>hb (by simp[x])) e
 self:=fun _ _ _ _ st hQ=>Dm st.1 hQ
end
section
variable {prog:Program} {w:World} {A:Around} {E:Value->Shared->Prop} {s:Shared} {it a:Addr} {i ep:Nat} {es:Array (Int×Value)} {t:SetTable}
def qw (t:SetTable) (i:Nat):Nat:=if i=0 then 0 else t.place.getD 0 0+1
theorem Uq (j:Nat):SetTable.below #[j] 0=0:=by
 show SetTable.below.go #[j] 0 1 0 1=0
 unfold SetTable.below.go
 rw[zo (by decide)]
 show (if #[j].getD 0 0 < 0 then _ else SetTable.below.go #[j] 0 0 0 0)=0
 rw[zS (Nat.not_lt_zero _)]
 rfl
theorem Ur (j:Nat):SetTable.below #[j] (j+1)=1:=by
 show SetTable.below.go #[j] (j+1) 1 0 1=1
 unfold SetTable.below.go
 rw[zo (by decide)]
 show (if j < j+1 then SetTable.below.go #[j] (j+1) 0 1 1 else _)=1
 rw[zo (QA _)]
 rfl
theorem M5 {P:Option (Value×Nat)->Prop} {r:Option (Value×Nat)} (hp:t.place.size=es.size) (hn:es.size<=1) (hi:i<=es.size)
  (hr:r=match es[SetTable.below t.place (qw t i)]?,t.place[SetTable.below t.place (qw t i)]? with
   |some (_,x),some j=>some (x,j+1)
   |_,_=>none) (h:P (((es.toList.map (·.2))[i]?).map fun v=>(v,qw t (i+1)))):P r:=by
 subst hr
 by_cases h0:es.size=0
 ·have e:es=#[]:=Array.eq_empty_of_size_eq_zero h0
  subst e
  simpa using h
 ·have h1:es.size=1:=by omega
  obtain⟨x,rfl⟩:=Array.size_eq_one_iff.mp h1
  obtain⟨j,hj⟩:=Array.size_eq_one_iff.mp (hp.trans h1)
  have hi:i=0\/i=1:=by omega
  rcases hi with rfl|rfl
  ·have e1:qw t 0=0:=rfl
   have e2:qw t (0+1)=j+1:=by unfold qw;rw[hj];rfl
   rw[e2] at h
   rw[e1,hj,Uq]
   exact h
  ·have e2:qw t 1=j+1:=by unfold qw;rw[hj];rfl
   rw[e2,hj,Ur]
   exact h
theorem yR {Q:Option (Value×Nat)->Shared->Prop} (hf:w.params.followText "set-order" = false) (hw:Wk w s.heap a es ep t) (hn:es.size<=1) (hi:i<=es.size) (h:Q (((es.toList.map (·.2))[i]?).map fun v=>(v,qw t (i+1))) s):wpAny (model prog w) A (setNext a (qw t i) i ep) Q E s:=by
 obtain⟨oa,hoa,hca,hda⟩:=hw.at_
 have hp:t.place.size=es.size:=by
  have:=hw.fit
  simp only[SetTable.fits,qq,beq_iff_eq] at this
  exact this.1
 unfold setNext
 refine zb (JJ hoa hda hw.fit (zb (nU ?_)))
 rw[hf]
 simp only[zz,↓reduceIte]
 split
 ·rename_i hc
  have hc:(!t.plain&&decide (es.size > 1))=true:=hc
  simp at hc
  omega
 ·have hl:wpAny (model prog w) A (if (!t.led&&!es.isEmpty)=true then unsupported "set:maker-not-led" else pure PUnit.unit) (fun _ s'=>s'=s) E s:=by
   rw[hw.led hf]
   exact zd rfl
  refine zb (ZH hl (fun _ s' e=>?_) fun _ _ x=>x)
  subst e
  refine zd ?_
  exact M5 (P:=fun r=>Q r s') hp hn hi rfl h
theorem Gh (hh:A.handled=none) (hf:w.params.followText "set-order" = false) (hn:es.size<=1) (hne:a≠it):Walks prog w A it [it,a] [it] es.size (fun i v=>(es.toList.map (·.2))[i]?=some v) (fun i h=>It h it a (.int (qw t i:Nat) 0) i es.size ep/\Wk w h a es ep t) where
 sub:=fun b hb=>by simp at hb;simp[hb]
 frame:=fun _ _ _ st hk=>⟨st.1.keep fun o e=>hk it (by simp) o e,st.2.keep fun o e=>hk a (by simp) o e⟩
 item:=fun i s Q E hi st hQ=>by
  obtain⟨v,hv⟩:∃ v,(es.toList.map (·.2))[i]?=some v:=⟨(es.toList.map (·.2))[i]'(by simpa using hi),by rw[ZA]⟩
  refine Qo (x:=v) st.1 st.2 (fun {A' E' Q'} hq=>yR hf st.2 hn (qB hi) (by rw[hv];exact hq)) fun h' hi' k=>?_
  exact hQ v h' s.toks hv ⟨hi',st.2.keep fun o e=>k a o hne e⟩ fun b o hb e=>k b o (fun x=>hb (by simp[x])) e
 done:=fun s Q E st hQ=>by
  refine yQ hh st.1 st.2 (fun {A' E' Q'} hq=>yR hf st.2 hn (zk _) (by rw[ZU (by simp)];exact hq)) fun h' k=>?_
  exact hQ h' s.toks fun b o hb e=>k b o (fun x=>hb (by simp[x])) e
 self:=fun _ _ _ _ st hQ=>Dm st.1 hQ
end
section
variable {prog:Program} {w:World} {A:Around} {E:Value->Shared->Prop} {s:Shared} {it a:Addr} {i ep:Nat} {es:Array (Int×Value)} {t:SetTable}
theorem Qp (hw:Wk w s.heap a es ep t) (hc:es.size<=sizeLine) {Q:Value->Shared->Prop}
  (h:∀ (it:Addr) (h':Heap) (d:Drawn) (fp:List Addr) (St:Nat->Heap->Prop) (ord:List Value),ord.Perm (es.toList.map (·.2))->(∀ A':Around,A'.handled=none->Walks prog w A' it fp [it] es.size (fun i v=>ord[i]?=some v) St)->St 0 h'->s.heap.objs.size<=it->it < h'.objs.size →
   (∀ b∈fp,b=a\/s.heap.objs.size<=b)->(∀ b∈fp,b < h'.objs.size)->(∀ b o,s.heap.get? b=some o->h'.get? b=some o)->Q (.ref it) { s with heap:=h',drawn:=d }):wpAny (model prog w) A (pyIter (.ref a)) Q E s:=by
 obtain⟨oa,hoa,hca,hda⟩:=id hw.at_
 have hT:s.TypeIs (.ref a) "set" := ⟨oa,hoa,hca⟩
 have hlt:a < s.heap.objs.size:=zw hoa
 refine wpAny_pyIter_slot hT F.slot_set_iter (Qr F.slot_set_iter hT xJ ?_ (F.args_set_iter_1 _))
 show wpAny _ _ (Builtin.Frozenset.sizeOf a >>= _) _ _ s
 refine zb (m:=Builtin.Frozenset.sizeOf a) (zb (wpAny_setEntries_of hoa hda hw.fit (zd ?_)))
 have hd:wpAny (model prog w) A.in1 (setDrawn a) (fun b s'=>s'=s/\b=(!(w.params.followText "set-order")&&(!t.plain&&decide (es.size > 1)))) E s:=by
  unfold setDrawn
  exact zb (JJ hoa hda hw.fit (zb (nU (zd ⟨rfl,rfl⟩))))
 refine zb (ZH hd (fun b s' e=>?_) fun _ _ x=>x)
 obtain⟨rfl,rfl⟩:=e
 dsimp only
 by_cases hf:w.params.followText "set-order" = true
 ·rw[hf]
  simp only[Bool.not_true,Bool.false_and,zz,qk]
  refine zb (zd ?_)
  refine zb (m:=setEpoch a) (wpAny_setEpoch_of hoa hda hw.fit ?_)
  refine zb (qa (zd ⟨_,rfl, "set_iterator", _,⟨_,zr _ rfl,rfl⟩,gQ.lookup,?_⟩))
  have:=h s'.heap.objs.size (s'.heap.push { cls:=.type "set_iterator", data:=.fields #[.int 0 0,.int 0 0,.ref a,.int es.size 0,.int ep 0] }) s'.drawn [s'.heap.objs.size,a] _ _ vX (fun A' hh=>Jd hh hf (t:=t) (ep:=ep) (zI hlt) hc)
   ⟨⟨_,zr _ rfl,rfl,rfl⟩,hw.keep fun o e=>ze _ e⟩ (zk _) (by rw[Z3];exact QA _) (fun b hb=>by simp at hb;rcases hb with rfl|rfl;exact .inr (zk _);exact .inl rfl)
   (fun b hb=>by simp at hb;rw[Z3];rcases hb with rfl|rfl;exact QA _;exact qr hlt) fun b o e=>ze _ e
  exact this
 ·have hf:w.params.followText "set-order" = false:=by simpa using hf
  rw[hf]
  simp only[Bool.not_false,Bool.true_and]
  by_cases hn:es.size<=1
  ·rw[zS (by simp;omega)]
   refine zb (zd ?_)
   refine zb (m:=setEpoch a) (wpAny_setEpoch_of hoa hda hw.fit ?_)
   refine zb (qa (zd ⟨_,rfl, "set_iterator", _,⟨_,zr _ rfl,rfl⟩,gQ.lookup,?_⟩))
   have:=h s'.heap.objs.size (s'.heap.push { cls:=.type "set_iterator", data:=.fields #[.int 0 0,.int 0 0,.ref a,.int es.size 0,.int ep 0] }) s'.drawn [s'.heap.objs.size,a] _ _ (List.Perm.refl _) (fun A' hh=>Gh hh hf hn (t:=t) (ep:=ep) (zI hlt))
    ⟨⟨_,zr _ rfl,rfl,rfl⟩,hw.keep fun o e=>ze _ e⟩ (zk _) (by rw[Z3];exact QA _) (fun b hb=>by simp at hb;rcases hb with rfl|rfl;exact .inr (zk _);exact .inl rfl)
    (fun b hb=>by simp at hb;rw[Z3];rcases hb with rfl|rfl;exact QA _;exact qr hlt) fun b o e=>ze _ e
   exact this
  ·rw[zo (by rw[hw.non (by omega)];simp;omega)]
   refine zb (Um _ _ _ _ (by simp) fun pl d hp=>?_)
   refine zb (wpAny_newTuple ?_ (by rw[zi,hp.length_eq,List.length_range];exact hc))
   refine zb (m:=setEpoch a) (wpAny_setEpoch_of (ze _ hoa) hda hw.fit ?_)
   refine zb (qa (zd ⟨_,rfl, "set_iterator", _,⟨_,zr _ rfl,rfl⟩,gQ.lookup,?_⟩))
   generalize hG:s'.heap.push { cls:=.type "tuple", data:=.seq (pl.map fun (k:Nat)=>rawInt (k:Int)).toArray }=G
   have sG:G.objs.size=s'.heap.objs.size+1:=by rw[<-hG,Z3]
   have gG:G.get? s'.heap.objs.size=some { cls:=.type "tuple", data:=.seq (pl.map fun (k:Nat)=>rawInt (k:Int)).toArray }:=by rw[<-hG];exact zr _ rfl
   have kG:∀ b o,s'.heap.get? b=some o->G.get? b=some o:=fun b o e=>by rw[<-hG];exact ze _ e
   have ltG:a < G.objs.size:=by rw[sG];exact qr hlt
   have:=h G.objs.size (G.push { cls:=.type "set_iterator", data:=.fields #[.ref s'.heap.objs.size,.int 0 0,.ref a,.int es.size 0,.int ep 0] }) d [G.objs.size,a,s'.heap.objs.size] _ _ (M4 hp) (fun A' hh=>Je hh (t:=t) (ep:=ep) (tp:=s'.heap.objs.size) (zI ltG) (by rw[sG];exact zI (QA _)) hp)
    ⟨⟨_,zr _ rfl,rfl,rfl⟩,hw.keep fun o e=>ze _ (kG _ _ e),_,0,ze _ gG,rfl⟩ (by rw[sG];exact JS _) (by rw[Z3];exact QA _)
    (fun b hb=>by simp at hb;rcases hb with rfl|rfl|rfl;exact .inr (by rw[sG];exact JS _);exact .inl rfl;exact .inr (zk _))
    (fun b hb=>by
     simp at hb
     rw[Z3]
     rcases hb with rfl|rfl|rfl
     ·exact QA _
     ·exact qr ltG
     ·exact qr (by rw[sG];exact QA _)) fun b o e=>ze _ (kG _ _ e)
   exact this
end
end S6
end
section
namespace S6
open PySem PySem.Spec PyProof.Rows P1
section
variable {prog:Program} {w:World} {A:Around} {E:Value->Shared->Prop} {s:Shared} {it a:Addr} {i ep:Nat} {es:Array (Int×Value)} {t:SetTable}
theorem M6 {ord:List Value} {acc:Array Value} {n:Nat} (hn:ord.length=n) (h:ItemsOf (fun i v=>ord[i]?=some v) acc n):acc.toList=ord:=by
 apply List.ext_getElem?
 intro j
 by_cases hj:j < n
 ·have hl:j < acc.size:=by rw[h.1];exact hj
  have e:acc.toList[j]?=some acc[j]:=by simp[hl]
  rw[e,h.2 j acc[j] (by simp[hl])]
 ·rw[ZU (by rw[qE,h.1];omega),ZU (by omega)]
theorem Gi {Q:List Value->Shared->Prop} (hh:A.handled=none) (hw:Wk w s.heap a es ep t) (hc:es.size<=sizeLine)
  (hQ:∀ ord h' d tk,ord.Perm (es.toList.map (·.2))->s.heap.objs.size<=h'.objs.size->(∀ b o,s.heap.get? b=some o->h'.get? b=some o)->Q ord { s with heap:=h',drawn:=d,toks:=tk }) :
  wpAny (model prog w) A (collect (.ref a)) Q E s:=by
 obtain⟨oa,hoa,hca,hda⟩:=id hw.at_
 have hT:s.TypeIs (.ref a) "set" := ⟨oa,hoa,hca⟩
 have hlt:a < s.heap.objs.size:=zw hoa
 unfold collect
 refine zb (wpAny_runValue (kc F.entry_proto_collect ?_))
 rw[Around.under_plainId F.plain_proto_collect _]
 show wpAny _ A.in1 (newList [] >>= fun q=>again (.builtin "list.__iadd__" ⟨[q,.ref a],[]⟩)) _ _ s
 refine zb (qa (zd ⟨plainId_quiet Kb _,kc F.entry_list_iadd ?_⟩))
 rw[Around.under_plainId Kb _]
 show wpAny _ A.in1 (Builtin.List.listExtendWith (.ref s.heap.objs.size) (.ref a) (.ref s.heap.objs.size)) _ _ _
 unfold Builtin.List.listExtendWith
 generalize hH:(s.heap.push { cls:=.type "list", data:=.seq ([]:List Value).toArray })=H
 have kH:∀ b o,s.heap.get? b=some o->H.get? b=some o:=fun b o e=>by rw[<-hH];exact ze _ e
 have sH:H.objs.size=s.heap.objs.size+1:=by rw[<-hH,Z3]
 have gH:H.get? s.heap.objs.size=some (seqObj "list" #[] 0):=by rw[<-hH];exact zr _ rfl
 have hw1:Wk w H a es ep t:=hw.keep fun o e=>kH a o e
 refine zb (QO (T := "set") ⟨oa,kH _ _ hoa,hca⟩ ?_)
 have h1:Builtin.List.listSameRef (.ref s.heap.objs.size) (.ref a)=false:=by simp[Builtin.List.listSameRef];exact ko hlt
 simp only[h1,show (Value.type "set" == Value.type "list")=false by decide,show (Value.type "set" == Value.type "tuple")=false by decide,Bool.or_false,zz,qk]
 refine zb (Qp (s:={ s with heap:=H }) hw1 hc fun it G d fp St ord hp W st0 hit hit2 hfp afd kG=>?_)
 refine zb (QU ?_)
 unfold Builtin.List.listLengthHint
 have hT2:Shared.TypeIs { s with heap:=G,drawn:=d } (.ref a) "set" := ⟨oa,kG _ _ (kH _ _ hoa),hca⟩
 refine zb (wpAny_specialOf (T := "set") hT2 F.slot_set_len.lookup ?_)
 wp_delta
 refine zb (wpAny_isInstance (T := "set") (b:=true) hT2 (by rw[isSubtype_type];kernel_rfl) ?_)
 show wpAny _ A.in1 (typeOf (Value.ref a) >>= _) _ _ _
 refine zb (QO (T := "set") hT2 (zd ?_))
 rw[zo (by decide)]
 show wpAny _ A.in1 (Builtin.List.listTouch (Value.ref s.heap.objs.size) >>= fun _=>again (Code.builtin "list.extend.loop" ⟨[Value.ref s.heap.objs.size,Value.ref it,Value.ref s.heap.objs.size],[]⟩)) _ _ _
 have hS:G.get? s.heap.objs.size=some (seqObj "list" #[] 0):=kG _ _ gH
 unfold Builtin.List.listTouch
 refine zb (zb (listUpdate_at hS rfl (listUpdate_at (get?_update_seq hS _) rfl ?_ (by show _<=_;decide) (by show _<=_;decide)) (by show _<=_;decide) (by show _<=_;decide)))
 have hSf:s.heap.objs.size∉fp:=fun hm=>by
  rcases hfp _ hm with e|e
  ·exact ko hlt e
  ·have e:H.objs.size<=s.heap.objs.size:=e
   rw[sH] at e
   exact absurd e (Nat.not_succ_le_self _)
 have hS3:=get?_update_seq (get?_update_seq hS (fun x=>x.push Value.none)) (fun x=>x.pop)
 generalize hU:(G.update s.heap.objs.size (Obj.mapSeq fun x=>x.push Value.none)).update s.heap.objs.size (Obj.mapSeq fun x=>x.pop)=U at hS3
 have keep:∀ b,b≠s.heap.objs.size->U.get? b=G.get? b:=fun b hb=>by rw[<-hU,Q1 _ _ _ _ hb,Q1 _ _ _ _ hb]
 have st1:St 0 U:=(W A hh).frame 0 G U st0 fun b hb o e=>by rw[keep b fun x=>hSf (x▸hb)];exact e
 show wpAny _ A.in1 (again _) _ _ { s with heap:=U,drawn:=d }
 have ho:ord.length=es.size:=by rw[hp.length_eq];simp
 refine zd ⟨plainId_quiet F.plain_extend_loop _,codeAny_extend_loopS (W A.in1 hh).toS hc s.heap.objs.size hSf _ es.size 0 { s with heap:=U,drawn:=d } #[] _ rfl (qv _) st1 hS3 (ItemsOf.nil _) fun s' acc' c' mv hS' hacc=>?_⟩
 show wpAny _ A (load s.heap.objs.size >>= _) _ _ s'
 refine zb (wpAny_load hS' (zd ?_))
 show Q acc'.toList s'
 rw[M6 ho hacc]
 have key:=hQ ord s'.heap s'.drawn s'.toks hp (qB (zw hS')) fun b ob e=>by
  have hb:=zw e
  refine mv.heap b ob (fun hm=>?_) ((keep b (zI hb)).trans (kG _ _ (kH _ _ e)))
  simp only[qh,qc,or_false] at hm
  rcases hm with hm|hm
  ·exact zI hb hm
  ·have:H.objs.size<=it:=hit
   rw[sH,<-hm] at this
   exact absurd hb (Nat.not_lt.mpr (Nat.le_of_succ_le this))
 have e1:s'.gens=s.gens:=mv.gens
 have e2:s'.os=s.os:=mv.os
 rw[<-e1,<-e2] at key
 exact key
end
theorem Dq {α:Type} [DecidableEq α]:∀ {xs ys:List α},xs.Nodup->ys.Nodup->(∀ z,z∈xs↔z∈ys)->xs.Perm ys
 |[],ys,_,_,h=>by
  have:ys=[]:=List.eq_nil_iff_forall_not_mem.mpr fun z hz=>by simpa using (h z).mpr hz
  subst this;exact .refl _
 |x::xs,ys,hx,hy,h=>by
  have hm:x∈ys:=(h x).mp (zh ..)
  have hc:=List.nodup_cons.mp hx
  refine ((Dq hc.2 (hy.erase x) fun z=>?_).cons x).trans (List.perm_cons_erase hm).symm
  rw[hy.mem_erase_iff]
  constructor
  ·intro hz
   exact⟨fun e=>hc.1 (e▸hz),(h z).mp (zg _ hz)⟩
  ·intro ⟨hn,hz⟩
   rcases List.mem_cons.mp ((h z).mpr hz) with e|e
   ·exact absurd e hn
   ·exact e
theorem wK {α β:Type} {R:α->β->Prop}:∀ {l l':List β},l'.Perm l->∀ {ys:List α},Paired R ys l->∃ ys',ys'.Perm ys/\Paired R ys' l':=by
 intro l l' hp
 replace hp:=hp.symm
 induction hp with
 |nil=>intro ys h;exact⟨ys,.refl _,h⟩
 |cons x _ ih=>intro ys h;cases h with|cons r t=>obtain⟨zs,z1,z2⟩:=ih t;exact⟨_::zs,z1.cons _,.cons r z2⟩
 |swap x y l=>intro ys h;cases h with|cons r t=>cases t with|cons r' t'=>exact⟨_,List.Perm.swap _ _ _,.cons r' (.cons r t')⟩
 |trans _ _ ih1 ih2=>intro ys h;obtain⟨zs,z1,z2⟩:=ih1 h;obtain⟨us,u1,u2⟩:=ih2 z2;exact⟨us,u1.trans z1,u2⟩
theorem Jf {α β:Type} {R:α->β->Prop} {xs:List α} {us:List β} {ys:List α} {vs:List β} (h:Paired R xs us) (k:Paired R ys vs):Paired R (xs++ys) (us++vs):=by
 induction h with
 |nil=>exact k
 |cons r _ ih=>exact .cons r ih
theorem Us (t:SetTable) (es:Array (Int×Value)) (h:Int) (x:Value):(layNew t es h x).2.1.led=t.led:=by
 unfold layNew
 split
 ·dsimp only[SetTable.put,SetTable.orStandIn]
  generalize SetTable.fits _ _=b
  cases b<;>rfl
 ·rfl
theorem M7 (t:SetTable) (es:Array (Int×Value)) (n:Nat):(relayAll t es n).2.1.led=t.led/\(t.plain=false->(relayAll t es n).2.1.plain=false):=by
 unfold relayAll
 split
 ·rename_i t' order e
  have ht:t'.led=t.led/\t'.plain=t.plain:=by
   unfold SetTable.relaid SetTable.laid at e
   cases hl:SetTable.layClean (SetTable.sizeAbove n - 1) (es.map (·.1)) with
   |none=>rw[hl] at e;cases e
   |some ow=>rw[hl] at e;cases e;exact⟨rfl,rfl⟩
  dsimp only
  generalize (coversAll order es.size&&_)=b
  cases b
  ·exact⟨rfl,fun _=>rfl⟩
  ·exact⟨ht.1,fun hp=>ht.2.trans hp⟩
 ·exact⟨rfl,fun _=>rfl⟩
section
variable {prog:Program} {w:World} {A:Around} {E:Value->Shared->Prop} {s:Shared} {a:Addr}
def M8 (prog:Program) (w:World) (y:Str) (e:Int×Value):Prop:=∃ tk,e=((strKind prog w).hash y,.str y tk)
structure Qq (prog:Program) (w:World) (ys:List Str) (es:Array (Int×Value)) (t:SetTable):Prop where
 rel:Paired (M8 prog w) ys es.toList
 nd:ys.Nodup
 fit:t.fits es.size=true
 led:w.params.followText "set-order" = false->t.led=true
 non:0 < es.size->t.plain=false
def Tx (prog:Program) (w:World) (h:Heap) (a:Addr) (ys:List Str):Prop:=∃ o es ep t,h.get? a=some o/\o.ExactSet/\o.data=.set es ep t/\Qq prog w ys es t
theorem Tx.keep {h h':Heap} {ys:List Str} (x:Tx prog w h a ys) (k:∀ o,h.get? a=some o->h'.get? a=some o):Tx prog w h' a ys:=
 let ⟨o,es,ep,t,e,r⟩:=x;⟨o,es,ep,t,k o e,r⟩
theorem Qq.elems {ys:List Str} {es:Array (Int×Value)} {t:SetTable} (x:Qq prog w ys es t):ElemsOf (strKind prog w) es.toList:=by
 have:∀ {ys:List Str} {l:List (Int×Value)},Paired (M8 prog w) ys l->ElemsOf (strKind prog w) l:=by
  intro ys l h
  induction h with
  |nil=>intro e he;cases he
  |cons r _ ih=>
   intro e he
   rcases List.mem_cons.mp he with rfl|he
   ·obtain⟨tk,rfl⟩:=r
    exact⟨⟨_,strKind_is _ _ _ _,rfl⟩,rfl⟩
   ·exact ih e he
 exact this x.rel
theorem Qq.size {ys:List Str} {es:Array (Int×Value)} {t:SetTable} (x:Qq prog w ys es t):es.size=ys.length:=by rw[x.rel.length];simp
theorem KD {y z:Str} {e:Int×Value} (h:M8 prog w y e):(strKind prog w).is z e.2=true↔z=y:=by
 obtain⟨tk,rfl⟩:=h
 constructor
 ·intro q;exact (strKind prog w).inj _ _ _ q (strKind_is _ _ _ _)
 ·rintro rfl;exact strKind_is _ _ _ _
theorem yS {y:Str}:∀ {ys:List Str} {l:List (Int×Value)},Paired (M8 prog w) ys l->((l.findIdx? fun e=>(strKind prog w).is y e.2)=none↔y∉ys)
 |_,_,.nil=>by simp
 |z::ys,e::l,.cons r t=>by
  rw[List.findIdx?_cons]
  by_cases q:(strKind prog w).is y e.2=true
  ·rw[zo q,(KD r).mp q];simp
  ·rw[zS q]
   have:y≠z:=fun e'=>q ((KD r).mpr e')
   rw[Option.map_eq_none_iff,yS t]
   simp[this]
theorem Qs {ys:List Str} {y:Str} {tk:Nat} {Q:Bool->Shared->Prop} (hS:Tx prog w s.heap a ys) (hroom:ys.length+1 < scanBound)
  (h:∀ b h' ys',Heap.SameBut a s.heap h'->Tx prog w h' a ys'->(∀ z,z∈ys'↔z∈ys\/z=y)->ys'.length<=ys.length+1->Q b { s with heap:=h' }):wpAny (model prog w) A (setAddHashed a (.str y tk) ((strKind prog w).hash y)) Q E s:=by
 obtain⟨o,es,ep,t,ho,hex,hd,x⟩:=id hS
 have hsz:=x.size
 have hb1:es.size+1 < scanBound:=by rw[hsz];exact hroom
 have hel:=x.elems
 have hkey:=strKind_is prog w y tk
 unfold setAddHashed setAddHashedIn
 refine QU (zb (JJ ho hd x.fit ?_))
 dsimp only
 rw[byScan_of (knd:=strKind prog w) (x:=.str y tk) rfl (by omega) hel]
 simp only[↓reduceIte]
 unfold setAddByScan
 refine zb (zb (JP (zb (wpAny_setScan_of hkey ho hd x.fit hel ?_))))
 cases hr:es.toList.findIdx? (fun e=>(strKind prog w).is y e.2) with
 |some j=>
  dsimp only
  have hm:y∈ys:=by
   by_cases q:y∈ys
   ·exact q
   ·rw[(yS x.rel).mpr q] at hr;cases hr
  refine zd (zd (h _ s.heap ys (Heap.SameBut.refl a s.heap) hS (fun z=>⟨.inl,fun q=>q.elim id fun e=>e▸hm⟩) (JS _)))
 |none=>
  dsimp only
  have hm:y∉ys:=(yS x.rel).mp hr
  have gw:∀ (b:Bool) {s₁:Shared} {Q':Unit->Shared->Prop},Q' () s₁->wpAny (model prog w) A (match b with|true=>rule "set.scan.the-table-gave-way" | false=>pure ()) Q' E s₁:=
   fun b _ _ hq=>by cases b;exact zd hq;exact JP hq
  have hperm:=layNew_perm t es ((strKind prog w).hash y) (.str y tk)
  have hfits:=layNew_fits t es ((strKind prog w).hash y) (.str y tk)
  have Ut:=Us t es ((strKind prog w).hash y) (.str y tk)
  generalize layNew t es ((strKind prog w).hash y) (.str y tk)=L at hperm hfits Ut ⊢
  obtain⟨es1,t1,wasDummy,gave⟩:=L
  dsimp only at hperm hfits Ut ⊢
  rw[Array.toList_push] at hperm
  refine zb (gw _ ?_)
  have hrel:Paired (M8 prog w) (ys++[y]) (es.toList++[((strKind prog w).hash y,.str y tk)]):=Jf x.rel (.cons ⟨tk,rfl⟩ .nil)
  obtain⟨ys1,p1,r1⟩:=wK hperm hrel
  have nd1:ys1.Nodup:=p1.nodup_iff.mpr (List.nodup_append.mpr ⟨x.nd,by simp,fun u hu v hv=>by simp at hv;subst hv;exact fun e=>hm (e▸hu)⟩)
  have m1:∀ z,z∈ys1↔z∈ys\/z=y:=fun z=>by rw[p1.mem_iff];simp
  have l1:ys1.length=ys.length+1:=by rw[p1.length_eq];simp
  have z1:es1.size=es.size+1:=by rw[<-qE,hperm.length_eq];simp
  have tail:∀ t2:SetTable,t2.fits es1.size=true->t2.led=t1.led->t2.plain=false->wpAny (model prog w) A (do
    storeSet a es1 t2
    if (!wasDummy&&t2.tooFull)=true then do
      (match (relayAll t2 es1 (SetTable.grown es1.size)).2.2 with|true=>rule "set.scan.the-table-gave-way" | false=>pure ())
      storeSet a (relayAll t2 es1 (SetTable.grown es1.size)).1 (relayAll t2 es1 (SetTable.grown es1.size)).2.1
      pure (some true)
     else pure (some true)) (fun r s'=>∃ b,r=some b/\Q b s') E s:=by
   intro t2 f2 l2 p2
   have up:∀ (hp:Heap) (ob:Obj) (e1 e2:Array (Int×Value)) (n1:Nat) (u1 u2:SetTable),hp.get? a=some ob->ob.data=.set e1 n1 u1->(hp.update a (Obj.putSet e2 u2)).get? a=some { ob with data:=.set e2 (n1+1) u2 }:=fun hp ob e1 e2 n1 u1 u2 g q=>by
    have:=Heap.get?_update_self (Obj.putSet e2 u2) g (by rw[putSet_of e2 u2 q];rfl)
    rw[putSet_of e2 u2 q] at this;exact this
   have g1:=up s.heap o es es1 ep t t2 ho hd
   refine zb (wpAny_storeSet_of ho hd ?_ (fits_of_scanBound (by omega)))
   split
   ·have hp:=relayAll_perm t2 es1 (SetTable.grown es1.size)
    have hf:=relayAll_fits t2 es1 (SetTable.grown es1.size)
    have hl:=M7 t2 es1 (SetTable.grown es1.size)
    generalize relayAll t2 es1 (SetTable.grown es1.size)=Rl at hp hf hl ⊢
    obtain⟨es2,t3,gave2⟩:=Rl
    dsimp only at hp hf hl ⊢
    obtain⟨ys2,p2',r2⟩:=wK hp r1
    refine zb (gw _ ?_)
    refine zb (wpAny_storeSet_of g1 rfl ?_ (fits_of_scanBound (by rw[<-qE,hp.length_eq,qE];omega)))
    have g2:=up _ _ es1 es2 _ t2 t3 g1 rfl
    exact zd ⟨true,rfl,h _ _ ys2 ((Heap.SameBut.update ..).trans (Heap.SameBut.update ..)) ⟨_,es2,_,t3,g2,hex,rfl,r2,p2'.nodup_iff.mpr nd1,hf,fun q=>(hl.1.trans l2).trans (Ut.trans (x.led q)),fun _=>hl.2 p2⟩ (fun z=>by rw[p2'.mem_iff];exact m1 z) (by rw[p2'.length_eq];exact Nat.le_of_eq l1)⟩
   ·exact zd ⟨true,rfl,h _ _ ys1 (Heap.SameBut.update ..) ⟨_,es1,_,t2,g1,hex,rfl,r1,nd1,f2,fun q=>l2.trans (Ut.trans (x.led q)),fun _=>p2⟩ m1 (Nat.le_of_eq l1)⟩
  have fin:∀ {m:Sem (Option Bool)},wpAny (model prog w) A m (fun r s'=>∃ b,r=some b/\Q b s') E s->wpAny (model prog w) A m (fun r s'=>wpAny (model prog w) A (match r with|some added=>pure added|none=>setAddHashedIn a (.str y tk) ((strKind prog w).hash y) 99999) Q E s') E s:=fun hm=>ZH hm (fun r s' q=>by obtain⟨b,rfl,q⟩:=q;exact zd q) fun _ _ q=>q
  refine fin ?_
  split
  ·refine zb ?_
   rw[hashByValue_scannable 8 (x:=.str y tk) rfl]
   refine zd ?_
   exact tail { t1 with plain:=false } (SetTable.fits_plain_off hfits) rfl rfl
  ·rename_i hp
   refine zb (zd ?_)
   simp only[↓reduceIte]
   exact tail t1 hfits rfl (by simpa using hp)
end
def blank (w:World):Obj:={ cls:=.type "set", dict:=none,data:=.set #[] 0 (.fresh 0 0 (!w.params.followText "set-order")) }
section
variable {prog:Program} {w:World} {A:Around} {R:Result->Shared->Prop} {I:Addr} {fp wr:List Addr} {n:Nat} {P:Nat->Value->Prop} {St:Nat->Shared->Prop} {κ:Type} {C:Heap->List κ->Prop} {val:Nat->κ}
end
section
variable {prog:Program} {w:World} {A:Around} {E:Value->Shared->Prop} {s:Shared}
end
end S6
end
section
namespace S6
open PySem
def acK (xs:Array Nat):Prop:=∀ i j,i < j->j < xs.size->xs.getD i 0 < xs.getD j 0
structure Tb (t:SetTable):Prop where
 mask:t.mask=7\/t.mask=31\/t.mask=127
 dum:t.dummies=#[]
 rise:acK t.place
 bd:∀ j:Nat,j∈t.place->j<=t.mask
 full:t.place.size<=t.mask
def acL (mask:Nat) (p:SetTable.Probe):SetTable.Probe:=
 if p.more > 0 then { p with j:=p.j+1,more:=p.more - 1 } else
 { p with j:=(SetTable.leap mask p.i p.perturb).1,more:=SetTable.runEnd mask (SetTable.leap mask p.i p.perturb).1 - (SetTable.leap mask p.i p.perturb).1,i:=(SetTable.leap mask p.i p.perturb).1,perturb:=(SetTable.leap mask p.i p.perturb).2 }
def at0 (mask i perturb:Nat):SetTable.Probe:={ j:=i,more:=SetTable.runEnd mask i - i,i,perturb,dummy:=none }
def wlk (mask:Nat) (h:Int):Nat->SetTable.Probe
 |0=>at0 mask (SetTable.bits h % (mask+1)) (SetTable.bits h)
 |n+1=>acL mask (wlk mask h n)
def nx (M i:Nat):Nat:=(i * 5+1) % M
def lp (mask:Nat) (h:Int):Nat->Nat×Nat
 |0=>(SetTable.bits h % (mask+1),SetTable.bits h)
 |l+1=>SetTable.leap mask (lp mask h l).1 (lp mask h l).2
structure Tok (t:SetTable) (es:Array (Int×Value)):Prop extends Tb t where
 size:t.place.size=es.size
 reach:∀ (i j:Nat) e,t.place[i]?=some j->es[i]?=some e->∃ n,n < 10 * SetTable.turns t.mask/\(wlk t.mask e.1 n).j=j/\∀ m,m < n->(wlk t.mask e.1 m).j∈t.place
end S6
end
section
namespace S6
open PySem PySem.Spec PyProof.Rows P1 L2
section
variable {prog:Program} {w:World} {A:Around} {E:Value->Shared->Prop} {s:Shared} {a:Addr}
abbrev Qt (prog:Program) (w:World) (ks:List Key):Int:=tupleKeyHash (bM prog w) ks
def TE (prog:Program) (w:World) (h:Heap) (z:List Key×Addr) (e:Int×Value):Prop:=e=(Qt prog w z.1,.ref z.2)/\IsTupleKey (bM prog w) h z.1 z.2
structure Yj (prog:Program) (w:World) (h:Heap) (zs:List (List Key×Addr)) (es:Array (Int×Value)) (t:SetTable):Prop where
 rel:Paired (TE prog w h) zs es.toList
 nd:(zs.map (·.1)).Nodup
 tok:Tok t es
 load:es.size * 5 < t.mask * 3
 led:w.params.followText "set-order" = false->t.led=true
 non:0 < es.size->t.plain=false
def Tu (prog:Program) (w:World) (h:Heap) (a:Addr) (zs:List (List Key×Addr)):Prop:=∃ o es ep t,h.get? a=some o/\o.ExactSet/\o.data=.set es ep t/\Yj prog w h zs es t
theorem Uu {h h':Heap} {ks:List Key} {b:Addr} (x:IsTupleKey (bM prog w) h ks b) (k:∀ o,h.get? b=some o->o.cls=.type "tuple" → h'.get? b=some o):IsTupleKey (bM prog w) h' ks b:=
 let ⟨o,its,n,e,c,r⟩:=x;⟨o,its,n,k o e c,c,r⟩
theorem Qu {h h':Heap} {zs:List (List Key×Addr)} {l:List (Int×Value)} (k:∀ b o,h.get? b=some o->o.cls=.type "tuple" → h'.get? b=some o) (r:Paired (TE prog w h) zs l):Paired (TE prog w h') zs l:=by
 induction r with
 |nil=>exact .nil
 |cons q _ ih=>exact .cons ⟨q.1,Uu q.2 fun o e c=>k _ o e c⟩ ih
theorem Tu.keep {h h':Heap} {zs:List (List Key×Addr)} (x:Tu prog w h a zs) (k:∀ b o,h.get? b=some o->h'.get? b=some o):Tu prog w h' a zs:=
 let ⟨o,es,ep,t,e,r,d,q⟩:=x;⟨o,es,ep,t,k a o e,r,d,⟨Qu (fun b o e _=>k b o e) q.rel,q.nd,q.tok,q.load,q.led,q.non⟩⟩
theorem Yj.size {h:Heap} {zs:List (List Key×Addr)} {es:Array (Int×Value)} {t:SetTable} (x:Yj prog w h zs es t):es.size=zs.length:=by rw[x.rel.length];simp
theorem Tok.fits {t:SetTable} {es:Array (Int×Value)} (h:Tok t es):t.fits es.size=true:=by
 unfold SetTable.fits SetTable.fill
 have h1:=h.full
 have h2:=h.size
 rw[h.dum]
 simp[h2]
 omega
end
section
variable {prog:Program} {w:World} {A:Around} {E:Value->Shared->Prop} {s:Shared} {a:Addr}
end
end S6
end
section
namespace S1
open PySem PySem.Spec PyProof.Rows L2
section
variable {prog:Program} {w:World} {A:Around} {E:Value->Shared->Prop} {s:Shared}
end
end S1
end
section
namespace P1
open PySem PySem.Spec PyProof.Rows L2 S6
def oR:List Str->List Str
 |[]=>[]
 |y::ys=>if y∈ys then oR ys else y::oR ys
theorem kE:∀ {ys:List Str} {z:Str},z∈oR ys↔z∈ys
 |[],z=>by simp[oR]
 |y::ys,z=>by
  unfold oR
  split
  ·rename_i h
   rw[kE,qh]
   exact⟨.inr,fun q=>q.elim (fun e=>e▸h) id⟩
  ·rw[qh,kE,qh]
theorem oU:∀ (ys:List Str),(oR ys).Nodup
 |[]=>by simp[oR]
 |y::ys=>by
  unfold oR
  split
  ·exact oU ys
  ·rename_i h
   exact List.nodup_cons.mpr ⟨fun q=>h (kE.mp q),oU ys⟩
theorem wL {prog:Program} {w:World}:∀ {ys:List Str} {l:List (Int×Value)},Paired (M8 prog w) ys l->StrsAre (l.map (·.2)) ys
 |_,_,.nil=>.nil
 |_,_,.cons r t=>by obtain⟨tk,rfl⟩:=r;exact .cons _ _ (wL t)
theorem Dr:∀ {l l':List Value},l'.Perm l->∀ {ys:List Str},StrsAre l ys->∃ ys',ys'.Perm ys/\StrsAre l' ys':=by
 intro l l' hp
 replace hp:=hp.symm
 induction hp with
 |nil=>intro ys h;exact⟨ys,.refl _,h⟩
 |cons x _ ih=>intro ys h;cases h with|cons y k t=>obtain⟨zs,z1,z2⟩:=ih t;exact⟨y::zs,z1.cons _,.cons y k z2⟩
 |swap x y l=>intro ys h;cases h with|cons a k t=>cases t with|cons b k' t'=>exact⟨_,List.Perm.swap _ _ _,.cons b k' (.cons a k t')⟩
 |trans _ _ ih1 ih2=>intro ys h;obtain⟨zs,z1,z2⟩:=ih1 h;obtain⟨us,u1,u2⟩:=ih2 z2;exact⟨us,u1.trans z1,u2⟩
section
variable {X:Cx}
def hoS (X:Cx) (a:Addr) (zs:List Str):HO:=.ext fun h=>Tx X.prog X.w h a zs
theorem Qv {pins:List (Addr×Obj)} {σ:L2.St} {H:Hp} {s:Shared} (I:Inv X pins σ H s) {a:Addr} {zs:List Str} (h:H a=some (hoS X a zs)):Tx X.prog X.w s.heap a zs:=(I.hok _ _ h).1
theorem M9 {pins:List (Addr×Obj)} {σ:L2.St} {H:Hp} {s:Shared} {d:Drawn} (I:Inv X pins σ H s):Inv X pins σ H { s with drawn:=d }:=⟨I.ok,I.os,I.bare,I.base,I.loc,I.cell,I.free,I.lV,I.pin,I.hok,I.len⟩
def aaS (X:Cx):List V->Hp->VK->Prop:=fun xs H Q=>∃ a zs,xs=[.ref a]/\H a=some (hoS X a zs)/\zs.length < 64/\(∀ z∈zs,z.length<=sizeLine)/\∀ l H',Same H H'->H l=none->H' l=some (.lst ((bC zs).map V.str))->Q (.ref l) H'
theorem Uv (hc:X.calm=true):fK X (.builtin "sorted") (aaS X):=by
 intro pins s σ H xs us Q I r h
 obtain⟨a,zs,rfl,ha,h64,hy,q⟩:=h
 obtain⟨u,rfl,ru⟩:=vals1 r
 cases ru
 obtain⟨o,es,ep,t,ho,hex,hd,x⟩:=Qv I ha
 have hz:=x.size
 have wk:Wk X.w s.heap a es ep t:=⟨⟨o,ho,hex.1,hd⟩,x.fit,x.led,fun q=>x.non (by omega)⟩
 refine kP kind_sorted plain_sorted entry_sorted (args_sorted1 _) ?_
 unfold Builtin.«sorted»
 refine zb (m:=checkCount "sorted" 1 1 _) (zd (zb (Gi (by exact I.ok.hd hc) wk (by rw[hz,sizeLine_eq];omega) fun ord h1 d tk hp hle ext=>?_)))
 obtain⟨ys,yp,hS⟩:=Dr hp (wL x.rel)
 have hlen:ord.length < 64:=by rw[hp.length_eq];simp;omega
 refine zb (Ki ?_)
 have g0:(h1.push (seqObj "list" ord.toArray 0)).get? h1.objs.size=some (seqObj "list" ord.toArray 0):=zr _ rfl
 refine zb (QU (Qr slot_list_sort ⟨_,g0,rfl⟩ entry_list_sort (list_sort_treeK strKind_oneLt g0 hS.keysOf (fun v₁ v₂ rest e=>keyKind_strs (by rw[<-e];exact hS)) hlen fun st' a1 a2=>⟨_,rfl,zd ⟨_,rfl,?_⟩⟩) (args_list_sort _)))
 obtain⟨us,u1,u2,u3⟩:=sorted_out_str hS a1 a2
 obtain⟨n,en⟩:=sortedHeap_at (out:=(arrOf st').map (·.2)) g0
 have eu:=yG (u2.trans yp) u3
 subst eu
 have hfr:=I.hok.fresh (a:=h1.objs.size) hle
 have I2:=M9 (d:=d) (I.laid (t':=tk) (a:=h1.objs.size) (o:=.lst ((bC zs).map V.str)) (h':=sortedHeap (h1.push (seqObj "list" ord.toArray 0)) h1.objs.size ord ((arrOf st').map (·.2))) (fun b o e=>by
  have e1:=ext b o e
  have hb:=zw e1
  rw[sortedHeap_old (zI hb) (by rw[Z3];exact qr hb)]
  exact ze _ e1) hle ⟨by rw[zi,(bx _).length_eq,sizeLine_eq];omega,((arrOf st').map (·.2)).toList,n,qP u1,by rw[en]⟩)
 exact⟨.ref h1.objs.size,_,I2,rfl,q _ _ (bJ hfr) hfr aP⟩
def tS (X:Cx) (f:Ev->Option (List Str)):TE:=fun σ H Q=>∃ H0 ρ ys,aQ X.K H0 H σ ρ/\f ρ=some ys/\ys.length < 4000/\∀ a zs H',Same H H'->H' a=some (hoS X a zs)->(∀ z,z∈zs↔z∈ys)->zs.Nodup->(∀ z∈zs,z.length<=sizeLine)->Q (.ref a) H'
def PVS (X:Cx) (e:Expr) (f:Ev->Option (List Str)):Prop:=PE X e (tS X f)
variable {x:Str} {e:Expr} {f:Ev->Option Bx} {fs:Ev->Option (List Str)} {p pos:Pos}
theorem Uw (hc:X.calm=true) (hg:Gl X "sorted") (hm:X.mg "sorted" = none) (ha:PVS X e fs) (he:starEach (e::[]) X.env=(false,eval e X.env)::starEach [] X.env:=by rfl):PV X (.Call (.Name "sorted" p) [e] [] pos) (fun ρ=>(fs ρ).bind fun ys=>if ys.length < 4000/\(oR ys).length < 64 then some (.o ((bC (oR ys)).map Dt.str)) else none):=by
 refine Cw (pU (id := "sorted") (Uv hc) hg hm rfl (gO ha m7 he) (he:=he)) fun σ H Q h=>?_
 obtain⟨H0,ρ,b,E,ef,q⟩:=h
 obtain⟨ys,ey,ef⟩:=bind_some ef
 split at ef
 ·rename_i hl
  cases ef
  refine⟨H0,ρ,ys,E,ey,by omega,fun a zs H1 s1 e1 m nd hy=>⟨a,zs,rfl,e1,?_,hy,fun l H2 s2 hfr e2=>?_⟩⟩
  ·have:=(Dq nd (oU ys) fun z=>by rw[m z,kE]).length_eq
   omega
  ·have pm:=Dq nd (oU ys) fun z=>by rw[m z,kE]
   have es:bC zs=bC (oR ys):=uz ((bx zs).trans (pm.trans (bx _).symm)) (iy zs) (iy _)
   rw[es] at e2
   exact q _ H2 (s1.trans s2) (fun a ea=>by cases ea;exact s1.free hfr) ⟨l,_,rfl,e2,uw fun y h=>hy y (pm.mem_iff.mpr ((bx _).mem_iff.mp h))⟩
 ·cases ef
end
theorem Nb {prog:Program} {w:World} {A:Around} {E:Value->Shared->Prop} {s:Shared} {Q:Value->Shared->Prop} (h:Q (.ref s.heap.objs.size) { s with heap:=s.heap.push (blank w) }):wpAny (model prog w) A (newSet (.type "set")) Q E s:=by
 unfold newSet
 refine zb (nU ?_)
 simp only[newObj]
 exact zb (wpAny_alloc (zd h))
theorem Nf {prog:Program} {w:World} {A:Around} {R:Result->Shared->Prop} {s:Shared} {elt target iter:Expr} {ifs:List Expr} {rest:List Comprehension} {scope:Scope} {pos:Pos} {it acc:Value} {env:Env}
  (h0:codeAny (model prog w) A (.compLoop (.SetComp elt (⟨target,iter,ifs,0⟩::rest) scope pos) 0 it acc env) R s)
  (h:wpAny (model prog w) A (pyIter it) (fun it' s'=>codeAny (model prog w) A (.compLoop (.SetComp elt (⟨target,iter,ifs,0⟩::rest) scope pos) 0 it' acc env) R s') (notedBy (model prog w) A env fun x s'=>R (.error x) s') s) :
  codeAny (model prog w) A (.compStart (.SetComp elt (⟨target,iter,ifs,0⟩::rest) scope pos) 0 it acc env) R s:=by
 refine codeAny_of_tree ?_
 show wpAny _ _ ((compStart (.SetComp elt (⟨target,iter,ifs,0⟩::rest) scope pos) 0 it acc env).onRaise (fun x=>do noteFrame x env;standAt theWindowsPlace)) _ _ s
 refine wpAny_notedAt ?_
 unfold compStart
 show wpAny _ _ (ask >>= _) _ _ s
 refine zb (Kn (wpAny_ite ?_))
 split
 ·first
   |exact zb (zd (zd (And.intro rfl h0)))
   |exact zd (And.intro rfl h0)
 ·first
   |exact zb (JP (zb (Jn (zb (ZH h (fun it' s' h'=>zd (And.intro rfl h')) fun _ _ x=>x)))))
   |(refine zb (JP ?_);show wpAny _ _ (standAt iter.pos >>= _) _ _ s;exact zb (Jn (zb (ZH h (fun q s' h'=>zd (And.intro rfl h')) fun _ _ x=>x))))
theorem Yk {H:Hp} {a:Addr} {φ:Heap->Prop} {o:HO} (h:H a=some (.ext φ)):Kp H (upd H a o):=by
 refine⟨fun b ys e=>?_,fun b ob u e=>?_⟩
 ·rw[aC (j9 e h (by intro z;cases z))];exact e
 ·rw[aC (j9 e h (by intro z;cases z))];exact e
section
variable {X:Cx}
theorem Qw {H:Hp} {h:Heap} {a:Addr} (e:h.get? a=some (blank X.w)):dX X.prog X.w H h a (hoS X a []):=
 ⟨⟨_,#[],0,_,e,⟨rfl,rfl,rfl⟩,rfl,.nil,Qb,rfl,fun q=>by simp[SetTable.fresh,q],fun q=>absurd q (JA _)⟩,⟨_,e⟩,fun h1 h2 t1 k1=>Tx.keep t1 k1⟩
def aaT (X:Cx):V->List V->Hp->VK->Prop:=fun x vs H Q=>∃ l zs t,x=.ref l/\vs=[.str t]/\H l=some (hoS X l zs)/\zs.length+1 < 4096/\∀ zs',(∀ z,z∈zs'↔z∈zs\/z=t)->zs'.Nodup->zs'.length<=zs.length+1->Q .non (upd H l (hoS X l zs'))
theorem Ng:MtM X "set.add" (aaT X):=by
 intro pins s σ H x vs v us Q I rx rv h
 obtain⟨l,zs,t,rfl,rfl,hH,hz,q⟩:=h
 cases rx
 obtain⟨u,rfl,ru⟩:=rv.one
 obtain⟨tk,rfl⟩:=ru
 have tx:=Qv I hH
 obtain⟨o,es,ep,tb,ho,hex,hd,xx⟩:=id tx
 refine Qr F.slot_set_add ⟨o,ho,hex.1⟩ F.entry_set_add ?_ (F.args_set_add_2 _ _)
 show wpAny _ _ (setAdd l (.str t tk) >>= _) _ _ s
 refine zb ?_
 unfold setAdd
 refine QU (zb ((strKind X.prog X.w).pyHash (strKind_is X.prog X.w t tk) ?_))
 refine Qs (s:={ s with toks:=s.toks+1 }) tx hz fun b h' zs' sb t' m l'=>?_
 obtain⟨o',es',ep',tb',ho',_,_,xx'⟩:=id t'
 refine zd ⟨.none,rfl,.non,_,I.write (t':=s.toks+1) (x:=l) (e:=l) (o:=hoS X l zs') (by rw[hH];trivial) (.inl rfl) (fun b u hb e=>by rw[sb.2 b hb];exact e) ⟨o',ho'⟩ ⟨t',⟨o',ho'⟩,fun h1 h2 t1 k1=>Tx.keep t1 k1⟩,rfl,q zs' m xx'.nd l'⟩
end
section
variable {X:Cx} {elt tgt iter:Expr} {ifs:List Expr} {scope:Scope} {cl:List (Str×Addr)} {pos:Pos} {xs ts:List Str} {is:List Nat} {gt:Dt->Ev->Option Ev} {p:Ev->Option Bool} {fe:Ev->Option Bx} {fi:Ev->Option (List Dt)}
def Zz (X:Cx) (D:Addr) (_:Hp) (o1:List Dt) (o:HO):Prop:=∃ us,o=hoS X D us/\(∀ z,z∈us↔Dt.str z∈o1)/\us.Nodup/\(∀ z∈us,z.length<=sizeLine)/\us.length<=o1.length
def Ux:Bx->Option (List Dt)
 |.z (.str x)=>some [.str x]
 |_=>none
theorem Yl {n:Nat} (h:PV X elt fe):Fo X (fun D env=>do let v <-eval elt env;standAt elt.pos;let _ <-call (.builtin "set.add") [.ref D,v]) (fun ρ=>(fe ρ).bind Ux) (Zz X) 4000 n:=by
 refine Pj fun pins s σ H Hb ρ D o o1 ys I En ee hD ⟨us,e,r4⟩ hl=>?_
 subst e
 obtain⟨b,eb,ee⟩:=bind_some ee
 obtain⟨yt,rfl,rfl⟩:∃ yt,b=.z (.str yt)/\ys=[.str yt]:=by
  unfold Ux at ee
  split at ee
  ·cases ee;exact⟨_,rfl,rfl⟩
  ·cases ee
 refine zb (ZH (h pins s σ H (fun v H9=>Same H H9/\Rep X.K H9 (.str yt) v) I ⟨Hb,ρ,_,En,eb,fun v H9 s9 _ r9=>⟨s9,r9⟩⟩) (fun v s9 h9=>?_) fun _ _ z=>z)
 obtain⟨v',H9,I9,rv,Zv,r9⟩:=h9
 obtain⟨rfl,hyl⟩:v'=.str yt/\yt.length<=sizeLine:=by simpa only[Rep] using r9
 have XF:=Zv _ _ hD
 simp only[List.length_singleton] at hl
 refine zb (Jn (zb (ZH ((Ng (X:=X)) _ s9 σ H9 (.ref D) [.str yt] (.ref D) [v] (fun w H10=>∃ zs',H10=upd H9 D (hoS X D zs')/\(∀ z,z∈zs'↔z∈us\/z=yt)/\zs'.Nodup/\zs'.length<=us.length+1) I9 rfl (.cons rv .nil)
  ⟨_,us,yt,rfl,rfl,XF,by omega,fun zs' m nd hl=>⟨zs',rfl,m,nd,hl⟩⟩) (fun w s10 h10=>?_) fun _ _ z=>z)))
 obtain⟨w',H10,I10,_,zs',rfl,m',nd',hl'⟩:=h10
 refine zd ⟨H9,_,I10,Zv,Yk XF,zs',rfl,fun z=>?_,nd',fun z hz=>?_,by simp;omega⟩
 ·rw[m' z,r4.1 z];simp
 ·rcases (m' z).mp hz with q|rfl
  ·exact r4.2.2.1 z q
  ·exact hyl
end
theorem Gj:∀ {ds:List Dt} {ys:List Str},rN ds=some ys->ds=ys.map Dt.str
 |[],_,e=>by cases e;rfl
 |.str x::ds,_,e=>by
  simp only[rN] at e
  obtain⟨ys,e1,e2⟩:=bind_some e
  cases e2
  rw[zl,<-Gj e1]
 |.non::_,_,e=>by cases e
 |.bl _::_,_,e=>by cases e
 |.int _::_,_,e=>by cases e
 |.tup _::_,_,e=>by cases e
 |.lst _::_,_,e=>by cases e
 |.emp::_,_,e=>by cases e
section
variable {X:Cx} {elt tgt iter:Expr} {ifs:List Expr} {scope:Scope} {cl:List (Str×Addr)} {pos:Pos} {xs:List Str} {is:List Nat} {gt:Dt->Ev->Option Ev} {p:Ev->Option Bool} {fe:Ev->Option Bx} {fi:Ev->Option (List Dt)}
def aaU (fe:Ev->Option Bx):Ev->Option (List Dt):=fun ρ=>(fe ρ).bind Ux
def KH (fs fs':Ev->Option (List Dt)):Prop:=∀ ρ ys,fs ρ=some ys->(∀ d∈ys,∃ x,d=Dt.str x)->fs' ρ=some ys
theorem one_up:KH (Fq fe) (aaU fe):=fun ρ ys e h=>by
 obtain⟨b,eb,e⟩:=bind_some e
 obtain⟨y,rfl,rfl⟩:=vP e
 obtain⟨x,rfl⟩:=h y (List.mem_singleton.mpr rfl)
 show (fe ρ).bind Ux=_
 rw[eb];rfl
theorem Ds {fs fs':Ev->Option (List Dt)} (u:KH fs fs') {ρ:Ev}:∀ {ds out:List Dt},q9 gt p fs ρ ds=some out->(∀ d∈out,∃ x,d=Dt.str x)->q9 gt p fs' ρ ds=some out
 |[],_,e,_=>e
 |d::ds,out,e,h=>by
  simp only[q9] at e ⊢
  obtain⟨ρ1,e1,e⟩:=bind_some e
  obtain⟨k,ek,e⟩:=bind_some e
  simp only[e1,ek,Option.bind_some]
  cases k with
  |false=>rw[zS zC] at e ⊢;exact Ds u e h
  |true=>
   rw[zo rfl] at e ⊢
   obtain⟨ys,ey,e⟩:=bind_some e
   obtain⟨zs,ez,e⟩:=bind_some e
   cases e
   rw[u ρ1 ys ey fun d hd=>h d (QI _ hd),Ds u ez fun d hd=>h d (Zl _ hd)]
   rfl
theorem aaV {fs fs':Ev->Option (List Dt)} (u:KH fs fs'):KH (inC fi gt p fs) (inC fi gt p fs'):=fun ρ ys e h=>by
 obtain⟨ds,ed,e⟩:=bind_some e
 show (fi ρ).bind _=_
 rw[ed]
 exact Ds u e h
structure QVS (X:Cx) (e:Expr) (f:Ev->Option (List Str)):Prop where
 run:PVS X e f
def KJ (fs:Ev->Option (List Str)):Ev->Option Bx:=fun ρ=>(fs ρ).bind fun ys=>if ys.length < 4000/\(oR ys).length < 64 then some (.o ((bC (oR ys)).map Dt.str)) else none
variable {e:Expr} {f:Ev->Option Bx} {fs:Ev->Option (List Str)} {p':Pos}
theorem Uy (hc:X.calm=true) (hg:Gl X "sorted") (hm:X.mg "sorted" = none) (ha:QVS X e fs) (he:starEach (e::[]) X.env=(false,eval e X.env)::starEach [] X.env:=by rfl):QV X (.Call (.Name "sorted" p') [e] [] pos) (KJ fs):=⟨Uw hc hg hm ha.run he⟩
end
end P1
end
section
namespace P1
open PySem PySem.Spec PyProof.Rows L2 S1 S6
section
variable {X:Cx}
def Ts (prog:Program) (w:World) (h:Heap) (a:Addr) (zs:List (List Key×Addr)):Prop:=∃ o es ep t,h.get? a=some o/\o.ExactSet/\o.data=.set es ep t/\es.toList=zs.map (fun z=>(Qt prog w z.1,(.ref z.2:Value)))/\t.fits es.size=true/\(w.params.followText "set-order" = false->t.led=true)/\(0 < es.size->t.plain=false)
theorem Gk {prog:Program} {w:World} {h:Heap}:∀ {zs:List (List Key×Addr)} {l:List (Int×Value)},Paired (TE prog w h) zs l->l=zs.map (fun z=>(Qt prog w z.1,(.ref z.2:Value)))
 |_,_,.nil=>rfl
 |_,_,.cons r t=>by rw[zl,<-Gk t,r.1]
theorem Ts.of {prog:Program} {w:World} {h:Heap} {a:Addr} {zs:List (List Key×Addr)} (x:Tu prog w h a zs):Ts prog w h a zs:=
 let ⟨o,es,ep,t,e,r,d,q⟩:=x;⟨o,es,ep,t,e,r,d,Gk q.rel,q.tok.fits,q.led,q.non⟩
theorem Ts.keep {prog:Program} {w:World} {h h':Heap} {a:Addr} {zs:List (List Key×Addr)} (x:Ts prog w h a zs) (k:∀ o,h.get? a=some o->h'.get? a=some o):Ts prog w h' a zs:=
 let ⟨o,es,ep,t,e,r⟩:=x;⟨o,es,ep,t,k o e,r⟩
end
section
variable {α:Type} [DecidableEq α]
end
section
variable {X:Cx}
def Uz (ks:List Key):Bool:=ks.any fun k=>k.isRight
variable {e:Expr} {f:Ev->Option Bx} {fs:Ev->Option (List (List Key))} {p pos:Pos}
end
end P1
end
section
namespace P1
open PySem PySem.Spec PyProof.Rows L2
def acN (kvs:List (Key×Dt)):Dt->List (Key×Dt)
 |.tup [.str k,d]=>Iw kvs (.inr k) d
 |_=>kvs
def dictOf (out:List Dt):List (Key×Dt):=out.foldl acN []
section
variable {X:Cx} {pins:List (Addr×Obj)} {σ:L2.St} {H:Hp} {s:Shared} {a:Addr} {A:Around} {E:Value->Shared->Prop}
end
section
variable {X:Cx} {kx vx tgt iter:Expr} {ifs:List Expr} {scope:Scope} {cl:List (Str×Addr)} {pos:Pos} {xs ts:List Str} {is:List Nat} {gt:Dt->Ev->Option Ev} {p:Ev->Option Bool} {fk fv:Ev->Option Bx} {fi:Ev->Option (List Dt)}
def AcD (K:PySem.W.Frag) (_:Addr) (H:Hp) (o1:List Dt) (o:HO):Prop:=∃ us,o=.dK us/\fL K H (dictOf o1) us/\us.length<=o1.length
theorem AcD.kp {K:PySem.W.Frag} {D:Addr} {H H':Hp} {o1:List Dt} {o:HO} (k:Kp H H'):AcD K D H o1 o->AcD K D H' o1 o:=fun ⟨us,e,r,z⟩=>⟨us,e,r.kp k,z⟩
end
section
variable {X:Cx} {pins:List (Addr×Obj)} {σ:L2.St} {H:Hp} {s:Shared} {a:Addr} {ks:List (Key×V)} {o:Obj}
theorem Gm (hb:∀ ob u,X.H₀ a≠some (.lq ob u)) (I:L2.Inv X pins σ H s) (e:H a=some (.lq o (.dK ks))):L2.Inv X pins σ (upd H a (.dK ks)) s:=by
 have ne:∀ {b:Addr} {u:HO},H b=some u->u≠.lq o (.dK ks)->b≠a:=fun q n z=>by subst z;rw[e] at q;cases q;exact n rfl
 have nn:∀ {b:Addr},H b=none->b≠a:=fun q z=>by subst z;rw[e] at q;cases q
 refine⟨I.ok,I.os,I.bare,⟨I.base.keep,I.base.slot,fun b ob q n hx=>?_,I.base.there,fun b xs q=>?_,fun b ob u q=>?_,fun b ps q=>?_⟩,I.loc,I.cell,?_,fun x c q=>?_,fun p hp=>?_,fun b ob q=>?_,I.len⟩
 ·have:=I.base.free b ob q n hx
  rw[aC (nn this)];exact this
 ·have:=I.base.tups b xs q
  rw[aC (ne this fun z=>by cases z)];exact this
 ·have:=I.base.q8 b ob u q
  rw[aC (fun z=>by subst z;exact hb _ _ q)];exact this
 ·obtain⟨m,this⟩:=I.base.tR b ps q
  exact⟨m,by rw[aC (ne this fun z=>by cases z)];exact this⟩
 ·have:=I.free
  rw[aC (nn this)];exact this
 ·have:=I.lV x c q
  rw[aC (nn this)];exact this
 ·obtain⟨p1,p2,p3⟩:=I.pin p hp
  exact⟨p1,by rw[aC (nn p2)];exact p2,p3⟩
 ·have st:∀ {c:Addr} {w:HO},dX X.prog X.w H s.heap c w->dX X.prog X.w (upd H a (.dK ks)) s.heap c w:=fun x=>
   x.stay (fun _ _ _ r=>r) (fun d r=>by rw[aC (ne r fun z=>by cases z)];exact r) fun d xs r=>by rw[aC (ne r fun z=>by cases z)];exact r
  by_cases hba:b=a
  ·subst hba
   rw[aP] at q
   cases q
   exact st (I.hok _ _ e).2
  ·rw[aC hba] at q
   exact st (I.hok _ _ q)
theorem aaW (I:L2.Inv X pins σ H s) (e:H a=some (.dK ks)) (ho:s.heap.get? a=some o):L2.Inv X pins σ (upd H a (.lq o (.dK ks))) s:=by
 have:=I.write (t':=s.toks) (h':=s.heap) (x:=a) (e:=a) (o:=.lq o (.dK ks)) (by rw[e];exact True.intro) (.inl rfl) (fun _ _ _ z=>z) ⟨o,ho⟩ ⟨ho,(I.hok _ _ e).stay (fun _ _ _ r=>r) (fun d r=>by rw[aC (j9 r e (by intro z;cases z))];exact r) fun d xs r=>by rw[aC (j9 r e (by intro z;cases z))];exact r⟩
 exact this
theorem UG (I:L2.Inv X pins σ H s) (e:H a=some (.dK ks)):∀ ob u,X.H₀ a≠some (.lq ob u):=fun ob u q=>by
 have:=I.base.q8 a ob u q
 rw[e] at this;cases this
mutual
theorem Rep.Gm {K:PySem.W.Frag} (e:H a=some (.lq o (.dK ks))) (hk:ks≠[]):∀ {d:Dt} {v:V},Rep K H d v->Rep K (upd H a (.dK ks)) d v
 |.non,_,h=>by simpa only[Rep] using h
 |.bl _,_,h=>by simpa only[Rep] using h
 |.int _,_,h=>by simpa only[Rep] using h
 |.str _,_,h=>by simpa only[Rep] using h
 |.tup ds,_,h=>by
  simp only[Rep] at h ⊢
  obtain⟨b,vs,e1,q,r⟩:=h
  refine⟨b,vs,e1,?_,aF.Gm e hk r⟩
  rcases q with (q|⟨ob,q⟩)|q
  ·exact .inl (.inl (by rw[aC (fun z=>by subst z;rw[e] at q;cases q)];exact q))
  ·exact .inl (.inr ⟨ob,by rw[aC (fun z=>by subst z;rw[e] at q;cases q)];exact q⟩)
  ·exact .inr q
 |.lst ds,_,h=>by
  simp only[Rep] at h ⊢
  obtain⟨b,vs,e1,q,r⟩:=h
  refine⟨b,vs,e1,?_,aF.Gm e hk r⟩
  rcases q with⟨ob,q⟩|q
  ·exact .inl ⟨ob,by rw[aC (fun z=>by subst z;rw[e] at q;cases q)];exact q⟩
  ·exact .inr q
 |.emp,_,h=>by
  simp only[Rep] at h ⊢
  obtain⟨b,ob,e1,q⟩:=h
  exact⟨b,ob,e1,by rw[aC (fun z=>by subst z;rw[e] at q;cases q;exact hk rfl)];exact q⟩
theorem aF.Gm {K:PySem.W.Frag} (e:H a=some (.lq o (.dK ks))) (hk:ks≠[]):∀ {ds:List Dt} {vs:List V},aF K H ds vs->aF K (upd H a (.dK ks)) ds vs
 |[],_,h=>by simpa only[aF] using h
 |d::ds,_,h=>by
  simp only[aF] at h ⊢
  obtain⟨v,r,e1,q,t⟩:=h
  exact⟨v,r,e1,Rep.Gm e hk q,aF.Gm e hk t⟩
end
def Itd (a:Addr) (o:Obj) (ks:List (Key×V)):It:=
 ⟨fun i H=>H a=some (.lq o (.dK ks))/\i < ks.length,fun i H x H'=>H'=H/\(ks.map fun k=>kV k.1)[i]?=some x,fun i H=>H a=some (.lq o (.dK ks))/\ks.length<=i⟩
theorem KN {P:Program} {w:World} {h:Heap} (x:dX P w H h a (.lq o (.dK ks))) {es:Array DictEntry} {ep:Nat} (hd:o.data=.dict es ep):∃ vs,KV ks vs/\h.DictAt (bM P w) a vs ep:=by
 obtain⟨e,_,_,vs,kv,ob,es',ep',e2,c,d,r⟩:=x
 rw[e] at e2
 cases e2
 rw[hd] at d
 cases d
 exact⟨vs,kv,o,es,e,c,hd,r⟩
theorem Qx:∀ {ks:List (Key×V)} {vs:List (Key×Value)},KV ks vs->∀ {i:Nat} {p},ks[i]?=some p->∃ x,vs[i]?=some (p.1,x)
 |_,_,.nil,i,p,q=>by simp at q
 |_,_,.cons h _,0,p,q=>by simp at q;subst q;exact⟨_,by rw[List.getElem?_cons_zero,h.1]⟩
 |_,_,.cons _ t,i+1,p,q=>by
  rw[KF] at q
  obtain⟨x,hx⟩:=Qx t q
  exact⟨x,by rw[KF];exact hx⟩
theorem BJ {P:Program} {w:World} {K:PySem.W.Frag} {tg:Expr} (it:Addr) {es:Array DictEntry} {ep:Nat} (hd:o.data=.dict es ep) (hne:a≠it):Turn P w K tg (Itd a o ks) [it] it (fun i h=>h.IsKeyIter it a i ks.length ep) where
 mem:=by simp
 obj:=fun i h st b hb=>by
  have e:b=it:=by simpa using hb
  subst e
  obtain⟨ob,e,c,d⟩:=st
  exact⟨ob,e,fun v z=>by rw[d] at z;cases z⟩
 keep:=fun i h h' st k=>st.at fun ob e=>k it (by simp) ob e
 item:=by
  intro X hP hw hK hc i pins s σ H E I hf st hg
  subst hP hw hK
  obtain⟨ha,hi⟩:=hg
  obtain⟨vs,kv,dd⟩:=KN (I.hok _ _ ha) hd
  have hl:ks.length=vs.length:=kv.length
  obtain⟨x,hx⟩:=Qx kv (show ks[i]?=some ks[i] by simp[hi])
  obtain⟨f0,f1,f2,f3,f4,f5⟩:=hf it (by simp)
  rw[hl] at st
  refine wpAny_pyNext_dict_item st dd hx fun key h' hkey st' sb=>?_
  rw[<-hl] at st'
  have I1:L2.Inv X pins σ H { s with heap:=h' }:=I.turned (t':=s.toks) (fun b ob hb e=>(sb.2 b hb).trans e) f0 f1 f3 f4 f5
  obtain⟨ob,e,c,d⟩:=id st'
  refine⟨key,rfl,Ay (s:={ s with heap:=h' }) e c d (by decide) ⟨kV (ks[i]).1,H,I1,?_,⟨rfl,by rw[z4,ZA hi];rfl⟩,st',fun b hb=>(hf b hb).1⟩⟩
  have hk':jk (ks[i]).1 key=true:=hkey
  rcases bw hk' with⟨j,t,e2,e3⟩|⟨z,t,e2,e3⟩
  ·rw[e2,e3];exact⟨t,rfl⟩
  ·rw[e2,e3];exact⟨t,rfl⟩
 done:=by
  intro X hP hw hK hc i pins s σ H E I hf st hg
  subst hP hw hK
  obtain⟨ha,hi⟩:=hg
  obtain⟨vs,kv,dd⟩:=KN (I.hok _ _ ha) hd
  have hl:ks.length=vs.length:=kv.length
  obtain⟨f0,f1,f2,f3,f4,f5⟩:=hf it (by simp)
  rw[hl] at st
  exact wpAny_pyNext_dict_end (I.ok.hd hc) st dd (ZU (by omega)) fun h' eb=>⟨rfl,I.turned (t':=s.toks) (fun b ob hb e=>eb b ob hb e) f0 f1 f3 f4 f5⟩
 self:=fun _ _ _ _ _ st h=>wpAny_pyIter_keyiter st h
def Jg:Key->Dt
 |.inl i=>.int i
 |.inr x=>.str x
theorem Qy {K:PySem.W.Frag} {H:Hp} {k:Key} (h:VL k):Rep K H (Jg k) (kV k):=by
 cases k with
 |inl i=>unfold Jg Rep;rfl
 |inr x=>unfold Jg Rep;exact⟨rfl,h⟩
def keyB:Bx->Option (List Dt)
 |.n kvs=>some (kvs.map fun p=>Jg p.1)
 |_=>none
theorem Nh {b:Bx} {ds:List Dt} (h:keyB b=some ds):∃ kvs,b=.n kvs/\ds=kvs.map fun p=>Jg p.1:=by
 unfold keyB at h
 split at h
 ·cases h;exact⟨_,rfl,rfl⟩
 ·cases h
theorem wM {K:PySem.W.Frag} {Hs:Hp} {kvs:List (Key×Dt)} (ha:Hs a=some (.lq o (.dK ks))) (rm:fL K Hs kvs ks):Yields K (Itd a o ks) (kvs.map fun p=>Jg p.1) Hs:=.of fun i H s=>by
 have hl:=rm.len
 refine⟨fun d e=>?_,fun e=>⟨s _ _ ha,by rw[zi] at e;omega⟩⟩
 rw[z4] at e
 cases hp:kvs[i]? with
 |none=>rw[hp] at e;cases e
 |some p=>
  rw[hp] at e
  cases e
  have hi:i < kvs.length:=(List.getElem?_eq_some_iff.mp hp).1
  refine⟨⟨s _ _ ha,by omega⟩,fun x H' y=>?_⟩
  obtain⟨y1,y2⟩:=y
  refine⟨y1,?_⟩
  have h1:(ks.map (·.1))[i]?=some p.1:=by rw[rm.1,z4,hp];rfl
  rw[z4] at h1 y2
  cases hk:ks[i]? with
  |none=>rw[hk] at h1;cases h1
  |some q=>
   rw[hk] at h1 y2
   cases y2
   have:q.1=p.1:=by simpa using h1
   show Rep K H (Jg p.1) (kV q.1)
   rw[this]
   exact Qy (rm.2.2 p (JY hp))
theorem Jh {K:PySem.W.Frag} {H1:Hp} {σ:L2.St} {ρ:Ev} {is:List Nat} {n:Nat} (e:H1 a=some (.dK ks)) (E:aQ K H1 H1 (sS is σ++List.replicate n none) (jf is ρ++List.replicate n none)):aQ K (upd H1 a (.lq o (.dK ks))) (upd H1 a (.lq o (.dK ks))) (sS is σ++List.replicate n none) (jf is ρ++List.replicate n none):=by
 have kp:Kp H1 (upd H1 a (.lq o (.dK ks))):=.dk e
 have RX:∀ (j:Nat) c,(jf is ρ++List.replicate n none)[j]?=some (some c)->pZ c=false:=fun j c e=>by
  by_cases hj:j < is.length
  ·rw[ZO (by simp[jf];omega)] at e
   unfold jf at e
   rw[z4] at e
   cases q:is[j]? with
   |none=>rw[q] at e;cases e
   |some i=>
    rw[q] at e
    have:vM ρ i=some c:=by simpa using e
    exact tX this
  ·rw[qA (by simp[jf];omega),QN] at e
   split at e<;>cases e
 refine⟨E.len,fun j b eb=>?_,fun j k c a b e ec=>absurd ec (by rw[RX j c e];exact zC),Same.refl _,fun j c a e ec=>absurd ec (by rw[RX j c e];exact zC)⟩
 obtain⟨v,ev,r⟩:=E.val j b eb
 refine⟨v,ev,?_⟩
 cases b with
 |z d=>exact Rep.kp kp r
 |o ds=>have:=RX j _ eb;cases this
 |m ds _=>have:=RX j _ eb;cases this
 |l ds=>
  obtain⟨b,vs,e1,q,r⟩:=r
  refine⟨b,vs,e1,?_,r.kp kp⟩
  rcases q with q|⟨ob,q⟩
  ·exact .inl (by rw[aC (j9 q e (by intro z;cases z))];exact q)
  ·exact .inr ⟨ob,by rw[aC (j9 q e (by intro z;cases z))];exact q⟩
 |n ds=>
  obtain⟨b,vs,e1,q,r⟩:=r
  refine⟨b,vs,e1,?_,r.kp kp⟩
  by_cases hb:b=a
  ·subst hb
   rcases q with q|⟨ob,q⟩
   ·rw[e] at q;cases q
    exact .inr ⟨o,aP⟩
   ·rw[e] at q;cases q
  ·rcases q with q|⟨ob,q⟩
   ·exact .inl (by rw[aC hb];exact q)
   ·exact .inr ⟨ob,by rw[aC hb];exact q⟩
end
section
variable {X:Cx} {e elt tgt iter:Expr} {ifs:List Expr} {fd:Ev->Option Bx} {scope:Scope} {cl:List (Str×Addr)} {pos:Pos} {xs ts:List Str} {is:List Nat} {gt:Dt->Ev->Option Ev} {p:Ev->Option Bool} {fe:Ev->Option Bx}
def KQ (fd:Ev->Option Bx):Ev->Option (List Dt):=fun ρ=>(fd ρ).bind keyB
theorem Ni (ρ:Ev):yw gt p fe ρ []=some []:=rfl
theorem Qz (ts:List Str) (O:oF X scope cl xs is) (hcalm:X.calm=true) (hi:QV X iter fd)
  (Ei:∀ C s₀ H₀ fp,RW (vI X (xs++ts) scope cl C s₀ H₀ fp) tgt gt) (hif:∀ C s₀ H₀ fp,sU (vI X (xs++ts) scope cl C s₀ H₀ fp) ifs p) (helt:∀ C s₀ H₀ fp,QV (vI X (xs++ts) scope cl C s₀ H₀ fp) elt fe) (htk:NT is.length (is.length+ts.length) gt)
  (hs:∀ x,foldedSetIterable iter X.env x=pure x:=by intro _;rfl):QV X (.ListComp elt [⟨tgt,iter,ifs,0⟩] scope pos) (fM (KQ fd) gt p fe is ts.length):=⟨fun pins s σ H Q I h=>by
 obtain⟨H0,ρ,b,E,e,q⟩:=h
 obtain⟨ds,ed,e⟩:=bind_some e
 split at e
 ·rename_i hlen
  obtain⟨out,eo,e⟩:=bind_some e
  cases e
  obtain⟨bd,ebd,ed⟩:=bind_some ed
  obtain⟨kvs,rfl,rfl⟩:=Nh ed
  rw[eval_ListComp]
  refine js (use:=none) rfl hs O.clos O.kind O.names ?_
  refine iR (hi.run pins s σ H (fun v H1=>Same H H1/\aR X.K H1 (.n kvs) v) I ⟨H0,ρ,_,E,ebd,fun v H1 s1 _ r1=>⟨s1,r1⟩⟩) fun v s1 ⟨v',H1,I1,rv,ZC,r1⟩=>?_
  obtain⟨a,ks,rfl,rd,rm⟩:=r1
  cases rv
  obtain⟨_,hsys,vs,kv,ob,es,ep,dd⟩:=Ez I1.hok rd
  have hob:=dd.1
  have hdat:=dd.2.2.1
  refine wpAny_pyIter_dict hsys (⟨ob,es,dd⟩:s1.heap.DictAt (bM X.prog X.w) a vs ep) ?_
  have hlt:a < s1.heap.objs.size:=zw hob
  have hl:ks.length=vs.length:=kv.length
  have aaX:∀ {H':Hp},L2.Inv X pins σ H' s1->∀ b∈[s1.heap.objs.size],oh X pins H' b:=fun I' b hb=>by
   have e:b=s1.heap.objs.size:=by simpa using hb
   subst e
   exact I'.Er (zk _) (I'.hok.fresh (zk _))
  have st0:Heap.IsKeyIter (s1.heap.push { cls:=.type "dict_keyiterator", data:=.fields #[.ref a,.int 0 0,.int vs.length 0,.int ep 0] }) s1.heap.objs.size a 0 ks.length ep:=⟨_,zr _ rfl,rfl,by rw[hl];rfl⟩
  rcases rd with rd|⟨o',rd⟩
  ·
   have I2:=aaW I1 rd hob
   have I3:L2.Inv X pins σ (upd H1 a (.lq ob (.dK ks))) { s1 with heap:=s1.heap.push { cls:=.type "dict_keyiterator", data:=.fields #[.ref a,.int 0 0,.int vs.length 0,.int ep 0] } }:=I2.kept (t':=s1.toks) fun b o e=>ze _ e
   have rm2:fL X.K (upd H1 a (.lq ob (.dK ks))) kvs ks:=rm.kp (.dk rd)
   refine uf (RR:=fun acc C=>compPost (model X.prog X.w) X.A X.xe none (EP X pins σ Q) acc C) (ts:=ts) (xs:=xs) O hcalm (fun C s₀ H₀ fp=>(Ei C s₀ H₀ fp).run) (fun C s₀ H₀ fp=>(hif C s₀ H₀ fp).run) (fun C s₀ H₀ fp=>(helt C s₀ H₀ fp).run) htk I3 (Jh rd ((E.grow ZC).caps is ts.length)) (BJ s1.heap.objs.size hdat (zI hlt)) st0 (aaX I2) (wM aP rm2) hlen eo ?_
   intro D C s' H' us hD I' fC ⟨m,hn⟩ s2' hD' r'
   have ha':H' a=some (.lq ob (.dK ks)):=s2' _ _ aP
   have hDa:D≠a:=fun z=>by subst z;rw[aP] at hD;cases hD
   have hD1:H1 D=none:=by rw[aC hDa] at hD;exact hD
   have sm:Same H1 (upd H' a (.dK ks)):=fun b u e=>by
    by_cases hb:b=a
    ·subst hb;rw[rd] at e;cases e;exact aP
    ·rw[aC hb];exact s2' b u (by rw[aC hb];exact e)
   have rr:aF X.K (upd H' a (.dK ks)) out us:=by
    by_cases hk:ks=[]
    ·have:kvs=[]:=by have:=rm.len;rw[hk] at this;exact List.length_eq_zero_iff.mp (by simpa using this.symm)
     subst this
     simp only[jS] at eo
     rw[Ni] at eo
     cases eo
     simpa only[aF] using r'
    ·exact aF.Gm ha' hk r'
   refine⟨m,hn,fun h' sb=>⟨.ref D,upd H' a (.dK ks),?_,rfl,q _ _ (ZC.trans sm) (fun a ea=>by cases ea;exact ZC.free hD1) ⟨D,us,rfl,by rw[aC hDa];exact hD',rr⟩⟩⟩
   obtain⟨f0,f1,f2,f3,f4,f5⟩:=fC
   have hCa:C≠a:=fun z=>by subst z;rw[ha'] at f0;cases f0
   exact (Gm (UG I1 rd) I' ha').turned (t':=s'.toks) (fun b o hb e=>(sb.2 b hb).trans e) (by rw[aC hCa];exact f0) f1 f3 f4 f5
  ·have hoo:o'=ob:=by
    have:=(I1.hok _ _ rd).1
    rw[hob] at this;cases this;rfl
   subst hoo
   have I3:L2.Inv X pins σ H1 { s1 with heap:=s1.heap.push { cls:=.type "dict_keyiterator", data:=.fields #[.ref a,.int 0 0,.int vs.length 0,.int ep 0] } }:=I1.kept (t':=s1.toks) fun b o e=>ze _ e
   refine uf (RR:=fun acc C=>compPost (model X.prog X.w) X.A X.xe none (EP X pins σ Q) acc C) (ts:=ts) (xs:=xs) O hcalm (fun C s₀ H₀ fp=>(Ei C s₀ H₀ fp).run) (fun C s₀ H₀ fp=>(hif C s₀ H₀ fp).run) (fun C s₀ H₀ fp=>(helt C s₀ H₀ fp).run) htk I3 ((E.grow ZC).caps is ts.length) (BJ s1.heap.objs.size hdat (zI hlt)) st0 (aaX I1) (wM rd rm) hlen eo ?_
   intro D C s' H' us hD I' fC ⟨m,hn⟩ s2' hD' r'
   refine⟨m,hn,fun h' sb=>⟨.ref D,H',?_,rfl,q _ _ (ZC.trans s2') (fun a ea=>by cases ea;exact ZC.free hD) ⟨D,us,rfl,hD',r'⟩⟩⟩
   obtain⟨f0,f1,f2,f3,f4,f5⟩:=fC
   exact I'.turned (t':=s'.toks) (fun b o hb e=>(sb.2 b hb).trans e) f0 f1 f3 f4 f5
 ·cases e⟩
end
section
variable {prog:Program} {w:World} {A:Around} {E:Value->Shared->Prop} {s:Shared}
def two (a b:Str) (i:Nat):Str:=if i=0 then a else b
end
section
variable {X:Cx}
end
section
variable {X:Cx} {e:Expr} {es:List Expr} {fs:Ev->Option (List Bx)} {p px pos spos:Pos} {x y:Str} {k n:Nat} {f:Addr} {fd:FuncData} {ps:List Str} {G:Addr->List (Key×Dt)->List Bx->Option (List (Key×Dt))}
end
def V4:Option Bool->Bool
 |some true=>true
 |_=>false
def Nj (x:Dt) (ys:List Dt):Option Bool:=if (ys.all fun y=>(uh y x).isSome&&decide (min (rJ y) (rJ x)<=60))=true then some (ys.any fun y=>V4 (uh y x)) else none
def inX (a b:Bx):Option Bx:=match a with
 |.z d=>(yD b).bind fun ys=>(Nj d ys).bind fun k=>some (.z (.bl k))
 |_=>none
def QC (a b:Bx):Option Bx:=match a with
 |.z d=>(yD b).bind fun ys=>(Nj d ys).bind fun k=>some (.z (.bl (!k)))
 |_=>none
section
variable {X:Cx} {pins:List (Addr×Obj)} {σ:L2.St} {H:Hp} {s:Shared}
theorem Du (I:L2.Inv X pins σ H s) (hu:X.A.units+100 < cLine) {d:Dt} {x:V} {u:Value} (rx:Rep X.K H d x) (ru:RelV x u) {ys:List Dt} {vs:List V} {its:List Value} (rs:aF X.K H ys vs) (rv:Vals vs its) {k:Bool} (hk:Nj d ys=some k) :
  ∃ e:Value->Bool,(∀ y,y∈its->SeqAt.EqAt X.A.in1 s y u (e y))/\its.any e=k:=by
 unfold Nj at hk
 split at hk
 ·rename_i hall
  injection hk with hk
  rw[QQ] at hall
  have at_:∀ (i:Nat) y,its[i]?=some y->∃ c,ys[i]?=some c/\SeqAt.EqAt X.A.in1 s y u (V4 (uh c d)):=fun i y hy=>by
   have hl:=rv.length
   have hl2:=rs.length
   have hi:i < its.length:=(List.getElem?_eq_some_iff.mp hy).1
   have hi':i < ys.length:=by omega
   obtain⟨v,ev,r1⟩:=rs.get (show ys[i]?=some ys[i] by simp[hi'])
   obtain⟨y',ey,r2⟩:=rv.get ev
   rw[hy] at ey
   cases ey
   refine⟨ys[i],by simp[hi'],?_⟩
   have hc:=hall ys[i] (kB hi')
   rw[qq] at hc
   obtain⟨b,hb⟩:=Option.isSome_iff_exists.mp hc.1
   have:=V0 I 60 (A:=X.A.in1) (kr hc.2) (by rw[units_in1];omega) r1 rx r2 ru hb
   rw[hb]
   cases b<;>exact this
  classical
  refine⟨fun y=>decide (∃ (i:Nat) (c:Dt),its[i]?=some y/\ys[i]?=some c/\V4 (uh c d)=true),fun y hy=>?_,?_⟩
  ·dsimp only
   by_cases q:∃ (i:Nat) (c:Dt),its[i]?=some y/\ys[i]?=some c/\V4 (uh c d)=true
   ·rw[JU q]
    obtain⟨i,c,h1,h2,h3⟩:=q
    obtain⟨c',e1,e2⟩:=at_ i y h1
    rw[h2] at e1
    cases e1
    rw[h3] at e2
    exact e2
   ·rw[ZN q]
    obtain⟨i,hi,ei⟩:=List.getElem_of_mem hy
    have h1:its[i]?=some y:=by rw[ZA hi,ei]
    obtain⟨c,e1,e2⟩:=at_ i y h1
    have:V4 (uh c d)=false:=by
     cases hq:V4 (uh c d) with
     |false=>rfl
     |true=>exact absurd ⟨i,c,h1,e1,hq⟩ q
    rw[this] at e2
    exact e2
  ·rw[<-hk,ki,QE,QE]
   constructor
   ·rintro⟨y,hy,h⟩
    obtain⟨i,c,h1,h2,h3⟩:=kr h
    exact⟨c,JY h2,h3⟩
   ·rintro⟨c,hc,h3⟩
    obtain⟨i,hi,ei⟩:=List.getElem_of_mem hc
    have hl:=rv.length
    have hl2:=rs.length
    have hi':i < its.length:=by omega
    exact⟨its[i],kB hi',JU ⟨i,c,by simp[hi'],by rw[ZA hi,ei],h3⟩⟩
 ·cases hk
theorem Ym (hu:X.A.units+100 < cLine):Cy X (compareOp .In) inX:=by
 intro pins s σ H x y v u Q I rx ry h
 obtain⟨a,b,c,ra,rb,e,q⟩:=h
 unfold inX at e
 split at e
 ·rename_i d
  obtain⟨ys,ey,e⟩:=bind_some e
  obtain⟨k,ek,e⟩:=bind_some e
  cases e
  obtain⟨p,vs,rfl,sq,rs⟩:=Di rb ey
  cases ry
  rcases sq with sq|sq
  ·obtain⟨its,r',pl,hz⟩:=I.list sq
   obtain⟨f,f1,f2⟩:=Du I hu ra rx rs r' ek
   refine SeqAt.in_listAt f pl.isList (fun w hw=>f1 w (by simpa using hw)) ⟨.bl k,H,I,by rw[show its.toArray.any f=its.any f by simp,f2];rfl,q _ H (Same.refl H) trivial (by simp only[aR,Rep])⟩
  ·obtain⟨its,r',pl,hz⟩:=I.tuple sq
   obtain⟨f,f1,f2⟩:=Du I hu ra rx rs r' ek
   refine SeqAt.in_tupleAt f pl (fun w hw=>f1 w (by simpa using hw)) ⟨.bl k,H,I,by rw[show its.toArray.any f=its.any f by simp,f2];rfl,q _ H (Same.refl H) trivial (by simp only[aR,Rep])⟩
 ·cases e
theorem UJ (hu:X.A.units+100 < cLine):Cy X (compareOp .NotIn) QC:=by
 intro pins s σ H x y v u Q I rx ry h
 obtain⟨a,b,c,ra,rb,e,q⟩:=h
 unfold QC at e
 split at e
 ·rename_i d
  obtain⟨ys,ey,e⟩:=bind_some e
  obtain⟨k,ek,e⟩:=bind_some e
  cases e
  obtain⟨p,vs,rfl,sq,rs⟩:=Di rb ey
  cases ry
  rcases sq with sq|sq
  ·obtain⟨its,r',pl,hz⟩:=I.list sq
   obtain⟨f,f1,f2⟩:=Du I hu ra rx rs r' ek
   refine SeqAt.notIn_listAt f pl.isList (fun w hw=>f1 w (by simpa using hw)) ⟨.bl (!k),H,I,by rw[show its.toArray.any f=its.any f by simp,f2];rfl,q _ H (Same.refl H) trivial (by simp only[aR,Rep])⟩
  ·obtain⟨its,r',pl,hz⟩:=I.tuple sq
   obtain⟨f,f1,f2⟩:=Du I hu ra rx rs r' ek
   refine SeqAt.notIn_tupleAt f pl (fun w hw=>f1 w (by simpa using hw)) ⟨.bl (!k),H,I,by rw[show its.toArray.any f=its.any f by simp,f2];rfl,q _ H (Same.refl H) trivial (by simp only[aR,Rep])⟩
 ·cases e
end
section
variable {X:Cx} {g:Ev->Option Out} {st:List Stmt} {i:Nat}
def Yn (i:Nat) (ρ:Ev):Option Ev:=match ρ[i]? with
 |some (some (.o ds))=>some (ρ.set i (some (.z (.lst ds))))
 |_=>none
def fzG (i:Nat) (g:Ev->Option Out):Ev->Option Out:=fun ρ=>(Yn i ρ).bind g
theorem Yo (h:Ln X st g):Ln X st (fzG i g):=by
 intro pins s σ H D I q
 obtain⟨H0,ρ,r,E,e,f⟩:=q
 obtain⟨ρ',e1,e2⟩:=bind_some e
 unfold Yn at e1
 split at e1
 ·rename_i ds hr
  cases e1
  obtain⟨v,hv,a,vs,rfl,ha,rs⟩:=E.val i _ hr
  obtain⟨o,I2⟩:=sJ I ha
  have kp:Kp H (upd H a (.lq o (.lst vs))):=.lst ha
  refine h pins s σ _ D I2 ⟨H0,_,r,E.Xw hr rfl hv kp ?_,e2,f⟩
  simp only[aR,Rep]
  exact⟨a,vs,rfl,.inl ⟨o,aP⟩,rs.kp kp⟩
 ·cases e1
theorem Yp (h:NQ X st g):NQ X st (fzG i g):=⟨Yo h.run⟩
end
open AutoSeq1 (wpAny_loadPart')
open SeqAt
section
variable {X:Cx} {pins:List (Addr×Obj)} {σ:L2.St} {H:Hp} {s:Shared}
end
section
variable {X:Cx} {o e:Expr} {fo fx:Ev->Option Bx}
end
section
variable {X:Cx} {c:Expr} {body:List Stmt} {t:Ev->Option Bool} {g:Ev->Option Out} {pos:Pos}
end
section
variable {X:Cx} {pins:List (Addr×Obj)} {σ:L2.St} {H:Hp} {s:Shared} {h':Heap}
theorem UL {t':Nat} {e it:Addr} {xs:List V} (I:L2.Inv X pins σ H s) (k:∀ b o,b≠e->b≠it->s.heap.get? b=some o->h'.get? b=some o) (fe:oh X pins H e) (fi:oh X pins H it)
  (he:∃ o,h'.get? e=some o) (hi:∃ o,h'.get? it=some o) (new:dX X.prog X.w (upd H s.heap.objs.size (.tup xs)) h' s.heap.objs.size (.tup xs)):L2.Inv X pins σ (upd H s.heap.objs.size (.tup xs)) { s with heap:=h',toks:=t' }:=by
 have hf:H s.heap.objs.size=none:=I.hok.fresh (zk _)
 have nd:∀ b u,H b=some u->b≠s.heap.objs.size:=fun b u q z=>by rw[z,hf] at q;cases q
 have ne:∀ b u,H b=some u->b≠e/\b≠it:=fun b u q=>⟨fun z=>(by rw[z,fe.1] at q;cases q),fun z=>(by rw[z,fi.1] at q;cases q)⟩
 have nc:∀ b,b∉[e,it]->b≠e/\b≠it:=fun b hb=>⟨fun z=>hb (by simp[z]),fun z=>hb (by simp[z])⟩
 refine I.step (g':=s.gens) (d':=s.drawn) (ch:=[e,it]) (fun b hb=>?_) (fun b o _ _ hc q _=>k b o (nc b hc).1 (nc b hc).2 q) (fun b o _ _ hc q _=>⟨o.slots,k b o (nc b hc).1 (nc b hc).2 q⟩) (fun b o _ q n=>?_)
  (fun b o hc q=>⟨o,k b o (nc b hc).1 (nc b hc).2 q⟩) (fun b ys q=>?_) (fun b o u q=>?_) (fun b ps q=>⟨#[],?_⟩) (fun m hm=>?_) (fun b u q=>?_) I.bare
 ·rcases List.mem_cons.mp hb with rfl|hb
  ·exact⟨fe.2.2.2.1,fe.2.1,fe.2.2.2.2.1,fe.2.2.2.2.2⟩
  ·cases List.mem_singleton.mp hb
   exact⟨fi.2.2.2.1,fi.2.1,fi.2.2.2.2.1,fi.2.2.2.2.2⟩
 ·rw[aC (zI (zw q))];exact n
 ·rw[aC (nd b _ q)];exact q
 ·rw[aC (nd b _ q)];exact q
 ·rw[aC (nd b _ q),q];simp
 ·obtain⟨o,es,ep,ho,r⟩:=hm
  exact⟨o,es,ep,k _ o (QR fe.2.1) (QR fi.2.1) ho,r⟩
 ·by_cases hb:b=s.heap.objs.size
  ·subst hb
   rw[aP] at q;cases q
   exact new
  ·rw[aC hb] at q
   refine (I.hok b u q).stay (fun c v hc w=>k c v ?_ ?_ w) (fun c w=>?_) fun c ys w=>?_
   ·rcases hc with rfl|z
    ·exact (ne _ _ q).1
    ·exact (ne _ _ z).1
   ·rcases hc with rfl|z
    ·exact (ne _ _ q).2
    ·exact (ne _ _ z).2
   ·rw[aC (nd c _ w)];exact w
   ·rw[aC (nd c _ w)];exact w
end
def Ite (K:PySem.W.Frag) (l:Addr):It:=
 ⟨fun i H=>∃ xs x,nF K H l xs/\xs[i]?=some x,fun i H v H'=>∃ p x,H p=none/\(∀ xs,nF K H l xs->xs[i]?=some x)/\v=.ref p/\H'=upd H p (.tup [.int i,x]),fun i H=>∃ xs,nF K H l xs/\xs.length<=i⟩
theorem Nk {P:Program} {w:World} {K:PySem.W.Frag} {elts:List Expr} {x1:Nat} {tpos:Pos} (l e it:Addr) (hne:e≠it) :
  Turn P w K (.Tuple elts x1 tpos) (Ite K l) [e,it] e (fun i h=>(∃ old,IsEnum h e it i old)/\h.IsListIter it l i) where
 mem:=by simp
 obj:=fun i h st b hb=>by
  obtain⟨⟨old,h1⟩,o,h2,_,h3⟩:=st
  rcases List.mem_cons.mp hb with rfl|hb
  ·exact⟨_,h1,fun v z=>by cases z⟩
  ·cases List.mem_singleton.mp hb
   exact⟨o,h2,fun v z=>by rw[h3] at z;cases z⟩
 keep:=fun i h h' st k=>by
  obtain⟨⟨old,h1⟩,h2⟩:=st
  exact⟨⟨old,k e (by simp) _ h1⟩,h2.at fun o q=>k it (by simp) o q⟩
 item:=by
  intro X hP hw hK hc i pins s σ H E I hf st hg
  subst hP hw hK
  obtain⟨⟨old,h1⟩,h2⟩:=st
  obtain⟨xs,x,hq,hx⟩:=hg
  obtain⟨its,rv,p,hz⟩:=I.list hq
  obtain⟨u,hu,ru⟩:=rv.get hx
  have fe:=hf e (by simp)
  have fi:=hf it (by simp)
  refine wpAny_pyNext_enum_item h1 h2 p.isList (x:=u) (by simpa using hu) hne fun h1' ho hit' hT hsz hk=>⟨_,rfl,?_⟩
  refine wpAny_letOwnedTupleGo_enum ho fun h2' aaZ hsb=>?_
  have elt:e < s.heap.objs.size:=zw h1
  have ilt:it < s.heap.objs.size:=by obtain⟨_,q,_⟩:=h2;exact zw q
  have hT2:h2'.get? s.heap.objs.size=some { cls:=.type "tuple", data:=.seq #[.int i s.toks,u] }:=(hsb.2 _ (ko elt)).trans hT
  have hit2:h2'.IsListIter it l (i+1):=hit'.at fun o q=>(hsb.2 it (QR hne)).trans q
  refine⟨.ref s.heap.objs.size,upd H s.heap.objs.size (.tup [.int i,x]),UL (t':=s.toks+1) I (fun b o n1 n2 q=>(hsb.2 b n1).trans (hk b o n1 n2 q)) fe fi ⟨_,aaZ⟩ (by obtain⟨o,q,_⟩:=hit2;exact⟨o,q⟩) ?_,rfl,⟨_,x,I.hok.fresh (zk _),fun ys hy=>by rw[I.yc hy hq];exact hx,rfl,rfl⟩,⟨⟨_,by simpa using aaZ⟩,hit2⟩,fun b hb=>?_⟩
  ·exact⟨by show 2<=sizeLine;decide,[.int i s.toks,u],.cons ⟨_,rfl⟩ (.cons ru .nil),_,hT2,rfl,⟨_,rfl⟩,rfl⟩
  ·rcases List.mem_cons.mp hb with rfl|hb
   ·rw[aC (zI elt)];exact fe.1
   ·cases List.mem_singleton.mp hb
    rw[aC (zI ilt)];exact fi.1
 done:=by
  intro X hP hw hK hc i pins s σ H E I hf st hg
  subst hP hw hK
  obtain⟨⟨old,h1⟩,h2⟩:=st
  obtain⟨xs,hq,hx⟩:=hg
  obtain⟨its,rv,p,hz⟩:=I.list hq
  obtain⟨f0,f1,f2,f3,f4,f5⟩:=hf it (by simp)
  have hl:=rv.length
  exact wpAny_pyNext_enum_end (I.ok.hd hc) h1 h2 p.isList (by simp;omega) fun h' eb=>⟨rfl,I.turned (t':=s.toks) (fun b o hb e=>eb b o hb e) f0 f1 f3 f4 f5⟩
 self:=fun _ _ _ _ _ st h=>by
  obtain⟨⟨old,h1⟩,_⟩:=st
  exact wpAny_pyIter_enum h1 h
def wN (ds:List Dt):List Dt:=(List.range ds.length).zipWith (fun k d=>.tup [.int (k:Nat),d]) ds
theorem BK (ds:List Dt):(wN ds).length=ds.length:=by simp[wN]
theorem Nm {ds:List Dt} {i:Nat} {d:Dt} (h:(wN ds)[i]?=some d):∃ c,ds[i]?=some c/\d=.tup [.int (i:Nat),c]:=by
 have hi:i < ds.length:=by
  have:=(List.getElem?_eq_some_iff.mp h).1
  rwa [BK] at this
 refine⟨ds[i],by simp[hi],?_⟩
 unfold wN at h
 rw[List.getElem?_zipWith] at h
 simp[hi] at h
 exact h.symm
theorem Yields.enum {K:PySem.W.Frag} {Hs:Hp} {l:Addr} {vs:List V} {ds:List Dt} (h:nF K Hs l vs) (r:aF K Hs ds vs):Yields K (Ite K l) (wN ds) Hs:=fun i H s=>by
 have h':=s.seq h
 have r':=r.kp (.of s)
 refine⟨fun d e=>?_,fun e=>⟨vs,h',by rw[BK] at e;rw[r.length];exact e⟩⟩
 obtain⟨c,ec,rfl⟩:=Nm e
 obtain⟨v,ev,rv⟩:=r'.get ec
 refine⟨⟨vs,v,h',ev⟩,fun x H' y=>?_⟩
 obtain⟨p,x0,hp,hq,rfl,rfl⟩:=y
 have:=hq vs h'
 rw[ev] at this;cases this
 have sm:Same H (upd H p (.tup [.int (i:Nat),v])):=fun b o q=>by rw[aC (bQ q hp)];exact q
 refine⟨sm,?_⟩
 simp only[Rep]
 exact⟨p,_,rfl,.inl (.inl aP),aF.cons (by simp only[Rep]) (aF.cons (Rep.kp (.of sm) rv) aF.nil)⟩
section
variable {X:Cx} {elts:List Expr} {x1:Nat} {tpos p pos:Pos} {e:Expr} {fs:Ev->Option (List Bx)}
def iEn (K:PySem.W.Frag) (ta:TA):TI:=fun σ H R=>ta σ H fun vs H1=>∃ l,vs=[.ref l]/\(∃ xs,nF K H1 l xs)/\R (Ite K l) H1
theorem UW {ta:TA} (hg:Gl X "enumerate") (hm:X.mg "enumerate" = none) (ha:PA X [e] ta) (hs:starEach [e] X.env=[(false,eval e X.env)]:=by rfl):PI X (.Tuple elts x1 tpos) (.Call (.Name "enumerate" p) [e] [] pos) (iEn X.K ta):=by
 intro pins s σ H R I h
 refine Call_ (xZ I hg hm boot_enumerate (PyProof.Rows.callWith_type1 (iR (ha pos pins s σ H _ I h) fun us s1 ⟨vs,H1,I1,r1,q1⟩=>?_) hs rfl))
 obtain⟨l,rfl,⟨xs,hq⟩,q⟩:=q1
 obtain⟨u,rfl,ru⟩:=vals1 r1
 cases ru
 obtain⟨its,rv,p,hz⟩:=I1.list hq
 refine call_enumerate_list p.isList fun h' he hit hsz hk=>?_
 refine wpAny_pyIter_enum he ?_
 refine⟨s1.heap.objs.size+1,[s1.heap.objs.size+1,s1.heap.objs.size],_,_,H1,rfl,I1.kept (t':=s1.toks) hk,Nk l _ _ (ko (QA _)),⟨⟨_,he⟩,hit⟩,fun b hb=>?_,q⟩
 rcases List.mem_cons.mp hb with rfl|hb
 ·exact I1.Er (JS _) (I1.hok.fresh (JS _))
 ·cases List.mem_singleton.mp hb
  exact I1.Er (zk _) (I1.hok.fresh (zk _))
def Gn:List Bx->Option (List Dt)
 |[b]=>(m9 b).bind fun ds=>some (wN ds)
 |_=>none
theorem QD (hg:Gl X "enumerate") (hm:X.mg "enumerate" = none) (ha:PVs X [e] fs) (hs:starEach [e] X.env=[(false,eval e X.env)]:=by rfl):PIC X (.Tuple elts x1 tpos) (.Call (.Name "enumerate" p) [e] [] pos) (fun ρ=>(fs ρ).bind Gn):=fun pins s σ H R I q=>by
 refine UW hg hm ha hs pins s σ H R I ?_
 obtain⟨H0,ρ,ds,E,e,q⟩:=q
 obtain⟨bs,eb,e⟩:=bind_some e
 refine⟨H0,ρ,bs,E,eb,fun vs H1 s1 r1=>?_⟩
 unfold Gn at e
 split at e
 ·rename_i b
  obtain⟨ds',ed,e⟩:=bind_some e
  cases e
  obtain⟨v,rfl,rb⟩:=rep1 r1
  obtain⟨a,ws,rfl,sq,rs⟩:=rb.z6 ed
  exact⟨a,rfl,⟨ws,sq⟩,q _ _ s1 (.enum sq rs)⟩
 ·cases e
theorem QF (hg:Gl X "enumerate") (hm:X.mg "enumerate" = none) (ha:RV X [e] fs) (hs:starEach [e] X.env=[(false,eval e X.env)]:=by rfl):Zw X (.Tuple elts x1 tpos) (.Call (.Name "enumerate" p) [e] [] pos) (fun ρ=>(fs ρ).bind Gn):=⟨QD hg hm ha.run hs⟩
end
section
variable {X:Cx} {e:Expr} {f:Ev->Option Bx} {pos:Pos}
def Np (i:Nat):Ev->Option Out:=fun ρ=>match ρ[i]? with
 |some (some (.o ds))=>some (.nx (ρ.set i (some (.o ds.reverse))))
 |_=>none
theorem Gq {K:PySem.W.Frag} {H:Hp}:∀ {ds:List Dt} {vs:List V},aF K H ds vs->aF K H ds.reverse vs.reverse
 |[],vs,h=>by
  cases vs with
  |nil=>exact h
  |cons v vs=>have:=h.length;simp at this
 |d::ds,vs,h=>by
  cases vs with
  |nil=>have:=h.length;simp at this
  |cons v vs=>
   obtain⟨v',r,e,q,t⟩:∃ v' r,v::vs=v'::r/\Rep K H d v'/\aF K H ds r:=by
    simpa only[aF] using h
   cases e
   rw[kQ,kQ]
   exact (Gq t).append (aF.cons q aF.nil)
theorem Yq (i:Nat) {x:Str} {p apos cpos:Pos} (hN:X.N[i]?=some x:=by rfl) (hv:Hv X.env.scope x:=by first|exact QP rfl|exact qi (QP rfl)|exact qi (qi rfl)) (hd:(x==("__debug__" : Str))=false:=by decide)
  (hcd:(x==("__classdict__" : Str))=false:=by decide) (hbase:attributeBase (.Name x p) "reverse" X.env (eval (.Name x p) X.env)=eval (.Name x p) X.env:=by rfl)
  (hline:(apos.endLine==cpos.line)=true:=by rfl) (hs:swapsWith (.Call (.Attribute (.Name x p) "reverse" apos) [] [] cpos) none pos.line X.env=pure false:=by rfl) :
  PG1 X (.Expr (.Call (.Attribute (.Name x p) "reverse" apos) [] [] cpos) pos) (Np i):=
 Ox (xO (Xl kn PySem.F.slot_list_reverse PySem.F.type_list_reverse Ia (mZ (i:=i) hN hv hd hcd) hbase hline) hs) fun D σ H h=>by
  obtain⟨H0,ρ,r,E,e,q⟩:=h
  unfold Np at e
  split at e
  ·rename_i ds hρ
   cases e
   obtain⟨v,e1,a,vs,rfl,ha,rs⟩:=E.val i _ hρ
   refine⟨_,e1,.inl ⟨rfl,vs,.inl (.inl ha)⟩,a,vs,rfl,rfl,ha,q _ _ ?_⟩
   exact E.HY hρ e1 ha (Gq rs)
  ·cases e
theorem Yr (i:Nat) {x:Str} {p apos cpos:Pos} (hN:X.N[i]?=some x:=by rfl) (hv:Hv X.env.scope x:=by first|exact QP rfl|exact qi (QP rfl)|exact qi (qi rfl)) (hd:(x==("__debug__" : Str))=false:=by decide)
  (hcd:(x==("__classdict__" : Str))=false:=by decide) (hbase:attributeBase (.Name x p) "reverse" X.env (eval (.Name x p) X.env)=eval (.Name x p) X.env:=by rfl)
  (hline:(apos.endLine==cpos.line)=true:=by rfl) (hs:swapsWith (.Call (.Attribute (.Name x p) "reverse" apos) [] [] cpos) none pos.line X.env=pure false:=by rfl) :
  Ml X (.Expr (.Call (.Attribute (.Name x p) "reverse" apos) [] [] cpos) pos) (Np i):=⟨Yq i hN hv hd hcd hbase hline hs⟩
end
section
variable {X:Cx} {e:Expr} {f:Ev->Option Bx} {pos:Pos}
end
section
variable {X:Cx}
end
section
variable {X:Cx} {e:Expr} {f:Ev->Option Bx} {pos:Pos}
def U0 (ρ:Ev) (i:Nat):Bx->Option Out
 |.o zs=>match ρ[i]? with
  |some (some (.o ds))=>if ds.length+zs.length<=sizeLine then some (.nx (ρ.set i (some (.o (ds++zs))))) else none
  |_=>none
 |_=>none
def QG (i:Nat) (f:Ev->Option Bx):Ev->Option Out:=fun ρ=>(f ρ).bind (U0 ρ i)
theorem Ys (i:Nat) {x:Str} {p apos cpos:Pos} (he:PV X e f) (hN:X.N[i]?=some x:=by rfl) (hv:Hv X.env.scope x:=by first|exact QP rfl|exact qi (QP rfl)|exact qi (qi rfl)) (hd:(x==("__debug__" : Str))=false:=by decide)
  (hcd:(x==("__classdict__" : Str))=false:=by decide) (hst:starEach [e] X.env=[(false,eval e X.env)]:=by rfl)
  (hbase:attributeBase (.Name x p) "extend" X.env (eval (.Name x p) X.env)=eval (.Name x p) X.env:=by rfl)
  (hfew:((backTo cpos (starEach [e] X.env)).all (fun x=>!x.1)&&(backToKw cpos (keywordEach [] X.env)).all (fun x=>x.1.isSome)
   && decide ([e].length+([]:List Keyword).length+(if ([]:List Keyword).isEmpty then 0 else 1) < 30))=true:=by rfl)
  (hline:(apos.endLine==cpos.line)=true:=by rfl) (hs:swapsWith (.Call (.Attribute (.Name x p) "extend" apos) [e] [] cpos) none pos.line X.env=pure false:=by rfl) :
  PG1 X (.Expr (.Call (.Attribute (.Name x p) "extend" apos) [e] [] cpos) pos) (QG i f):=
 Ox (xO (Ew kn PySem.F.slot_list_extend PySem.F.type_list_extend LR (mZ (i:=i) hN hv hd hcd) (gO he m7 (by rw[hst]<;>rfl)) hbase hfew hline (by rw[hst]<;>rfl) rfl) hs) fun D σ H h=>by
  obtain⟨H0,ρ,r,E,e,q⟩:=h
  obtain⟨b,eb,e⟩:=bind_some e
  cases b with
  |o zs=>
   simp only[U0] at e
   split at e
   ·rename_i ds hρ
    split at e
    ·rename_i hl
     cases e
     obtain⟨v,e1,a,vs,rfl,ha,rs⟩:=E.val i _ hρ
     refine⟨_,e1,.inl ⟨rfl,vs,.inl (.inl ha)⟩,H0,ρ,_,E,eb,fun u H1 s1 n1 r1=>?_⟩
     have E1:=E.grow s1
     obtain⟨b,ws,rfl,hb,rw1⟩:=r1
     refine⟨a,b,vs,ws,rfl,rfl,s1 _ _ ha,hb,by rw[rs.length,rw1.length];exact hl,q _ _ ?_⟩
     exact E1.HY hρ e1 (s1 _ _ ha) ((rs.kp (.of s1)).append rw1)
    ·cases e
   ·cases e
  |_=>cases e
theorem Yt (i:Nat) {x:Str} {p apos cpos:Pos} (he:QV X e f) (hN:X.N[i]?=some x:=by rfl) (hv:Hv X.env.scope x:=by first|exact QP rfl|exact qi (QP rfl)|exact qi (qi rfl)) (hd:(x==("__debug__" : Str))=false:=by decide)
  (hcd:(x==("__classdict__" : Str))=false:=by decide) (hst:starEach [e] X.env=[(false,eval e X.env)]:=by rfl)
  (hbase:attributeBase (.Name x p) "extend" X.env (eval (.Name x p) X.env)=eval (.Name x p) X.env:=by rfl)
  (hfew:((backTo cpos (starEach [e] X.env)).all (fun x=>!x.1)&&(backToKw cpos (keywordEach [] X.env)).all (fun x=>x.1.isSome)
   && decide ([e].length+([]:List Keyword).length+(if ([]:List Keyword).isEmpty then 0 else 1) < 30))=true:=by rfl)
  (hline:(apos.endLine==cpos.line)=true:=by rfl) (hs:swapsWith (.Call (.Attribute (.Name x p) "extend" apos) [e] [] cpos) none pos.line X.env=pure false:=by rfl) :
  Ml X (.Expr (.Call (.Attribute (.Name x p) "extend" apos) [e] [] cpos) pos) (QG i f):=⟨Ys i he.run hN hv hd hcd hst hbase hfew hline hs⟩
end
section
variable {X:Cx} {e ek ev:Expr} {f fk fv:Ev->Option Bx} {pos:Pos} {st:Stmt}
end
section
variable {X:Cx} {e st:Expr} {f fs:Ev->Option Bx} {pos p2:Pos}
end
section
variable {prog:Program} {w:World} {A:Around} {E:Value->Shared->Prop} {s:Shared}
end
section
variable {prog:Program} {w:World} {A:Around} {E:Value->Shared->Prop} {s:Shared}
end
section
variable {prog:Program} {w:World} {A:Around} {E:Value->Shared->Prop} {s:Shared}
end
section
variable {prog:Program} {w:World} {A:Around} {E:Value->Shared->Prop} {s:Shared}
end
section
variable {prog:Program} {w:World} {A:Around} {E:Value->Shared->Prop} {s:Shared}
end
section
variable {prog:Program} {w:World} {A:Around} {E:Value->Shared->Prop} {s:Shared} {K:Type} [DecidableEq K] {knd:KeyKind prog w K}
end
section
variable {prog:Program} {w:World} {A:Around} {E:Value->Shared->Prop} {s:Shared} {K:Type} [DecidableEq K] {knd:KeyKind prog w K}
end
section
variable {X:Cx} {ea eb:Expr} {fa fb:Ev->Option Bx} {p1 p2 pos1 pos2:Pos}
end
section
variable {X:Cx}
end
theorem oV {X:Cx} {scope:Scope} {cl:List (Str×Addr)} (xs:List Str) (is:List Nat) (clos:closureFor scope X.env=pure cl:=by with_unfolding_all rfl) (kind:scope.kind=.function:=by rfl) (cell:scope.names.all (fun y=>decide (y.2≠.cell)||(cl.lookup y.1).isNone)=true:=by rfl)
  (names:scope.names.all (fun y=>decide (y.2=.local->scope.names.lookup y.1=some .local))=true:=by decide +kernel) (sub:SubL X.env.cells cl:=by repeat (first|exact trivial|refine⟨rfl,?_⟩))
  (has:(relabel scope X.env).names.all (fun y=>!(y.2==.cell||y.2==.free)||(cl.lookup y.1).isSome||scope.names.contains (y.1,.cell))=true:=by rfl) (cap:Ad X scope cl xs is:=by repeat (first|exact Yc|refine T7 rfl (by first|exact .inl rfl|exact .inr rfl) (by first|exact .inl rfl|exact .inr rfl) ⟨_,rfl⟩ ?_)):oF X scope cl xs is:=Yd clos kind cell names sub has cap
theorem uI {N ps:List Str} {sc:Scope} (h1:sc.kind=.function:=by rfl) (h2:sc.isCoroutine=false:=by rfl) (h3:sc.isGenerator=false:=by rfl) (h4:N.Nodup:=by decide +kernel) (h5:N.take ps.length=ps:=by rfl) (h6:∀ x∈ps,sc.names.lookup x=some .local\/sc.names.lookup x=some .cell:=by decide +kernel) (h7:∀ y∈sc.names,y.2≠.free:=by decide +kernel):cL N ps sc:=⟨h1,h2,h3,h4,h5,h6,h7⟩
instance:Inhabited Dt:=⟨.non⟩
theorem bnd {α β:Type} (a:α) (f:α->Option β):(some a).bind f=f a:=(Option.bind_some a f).trans (Eq.refl _)
def hold:Option Prop->Prop
 |none=>True
 |some p=>p
def aY:Option Prop->Option Prop->Option Prop
 |none,q=>q
 |some p,none=>some p
 |some p,some q=>some (p/\q)
def yU (c:Prop):Option Prop->Option Prop
 |none=>none
 |some p=>some (c->p)
theorem ao {p q:Option Prop} (h:hold (aY p q)):hold p/\hold q:=by
 cases p with
 |none=>exact⟨trivial,h⟩
 |some p=>cases q with
  |none=>exact⟨h,trivial⟩
  |some q=>exact h
theorem kJ {c:Prop} {p:Option Prop} (h:hold (yU c p)) (hc:c):hold p:=by
 cases p with
 |none=>trivial
 |some p=>exact h hc
structure R {α β:Type} (f:Ev->Option β) (ρ:Ev) (c:α->β) where
 v:α
 D:Option Prop
 ok:hold D->f ρ=some (c v)
abbrev zE {α:Type} (e:α->Dt):α->Bx:=fun a=>.z (e a)
abbrev oE {α:Type} (e:α->Dt):List α->Bx:=fun xs=>.o (xs.map e)
abbrev lE {α:Type} (e:α->Dt):List α->Bx:=fun xs=>.l (xs.map e)
abbrev tE:Bool->Bool:=fun b=>b
abbrev iE {α:Type} (e:α->Dt):List α->List Dt:=fun xs=>xs.map e
abbrev eI:Int->Dt:=Dt.int
abbrev eB:Bool->Dt:=Dt.bl
abbrev eS:Str->Dt:=Dt.str
abbrev eL {α:Type} (e:α->Dt):List α->Dt:=fun xs=>.lst (xs.map e)
abbrev eT {α:Type} (e:α->Dt):List α->Dt:=fun xs=>.tup (xs.map e)
abbrev eO {α:Type} (e:α->Dt):Option α->Dt:=fun o=>match o with|none=>.non|some a=>e a
abbrev eP1 {α:Type} (a:α->Dt):α->Dt:=fun x=>.tup [a x]
abbrev ZD {α β:Type} (a:α->Dt) (b:β->Dt):α×β->Dt:=fun x=>.tup [a x.1,b x.2]
abbrev eP3 {α β γ:Type} (a:α->Dt) (b:β->Dt) (c:γ->Dt):α×β×γ->Dt:=fun x=>.tup [a x.1,b x.2.1,c x.2.2]
abbrev eP4 {α β γ δ:Type} (a:α->Dt) (b:β->Dt) (c:γ->Dt) (d:δ->Dt):α×β×γ×δ->Dt:=fun x=>.tup [a x.1,b x.2.1,c x.2.2.1,d x.2.2.2]
structure RL {α:Type} (f:Ev->Option Bx) (ρ:Ev) (e:α->Dt) where
 v:List α
 D:Option Prop
 b:Bx
 lk:m9 b=some (v.map e)
 ok:hold D->f ρ=some b
section
variable {α β γ δ:Type} {ρ:Ev} {f fa fb fc:Ev->Option Bx} {fs:Ev->Option (List Bx)} {e:α->Dt} {e':β->Dt}
def jr (a:R f ρ (oE e)):RL f ρ e:=⟨a.v,a.D,_,rfl,a.ok⟩
def eG (a:R f ρ (lE e)):RL f ρ e:=⟨a.v,a.D,_,rfl,a.ok⟩
def U3 (a:R f ρ (zE (eL e))):RL f ρ e:=⟨a.v,a.D,_,rfl,a.ok⟩
def Lp (b:Bx) (ds:List Dt):Prop:=b=.z (.lst ds)\/b=.l ds
theorem Lp.z6 {b:Bx} {ds:List Dt} (h:Lp b ds):m9 b=some ds:=by rcases h with rfl|rfl<;>rfl
theorem Lp.get {b:Bx} {ds:List Dt} {i:Nat} (h:Lp b ds) (hi:ρ[i]?=some (some b)):vM ρ i=some b:=by
 rcases h with rfl|rfl<;>(unfold vM;rw[hi])
theorem Lp.lend {b:Bx} {ds:List Dt} (h:Lp b ds):P1.lend b=b:=by rcases h with rfl|rfl<;>rfl
theorem uJ {b:Bx} {ds:List Dt} (h:m9 b=some ds):Lp (P1.lend b) ds:=by
 cases b with
 |z d=>cases d<;>cases h;exact .inl rfl
 |l d=>cases h;exact .inr rfl
 |o d=>cases h;exact .inr rfl
 |n d=>cases h
 |m d _=>cases h
def aA (i:Nat) (c:α->Bx) (a:α) (h:vM ρ i=some (c a)):R (gv i) ρ c:=⟨a,none,fun _=>h⟩
def gD (i:Nat) (e:α->Dt) (a:List α) {b:Bx} (h:Lp b (a.map e)) (hi:ρ[i]?=some (some b)):RL (gv i) ρ e:=⟨a,none,b,h.z6,fun _=>h.get hi⟩
def aJ (d:Dt) (e:α->Dt) (a:α) (h:d=e a):R (cB d) ρ (zE e):=⟨a,none,fun _=>by rw[h];rfl⟩
def Yu {e:α->Dt}:R (cB .non) ρ (zE (eO e)):=⟨none,none,fun _=>rfl⟩
def Yv (a:R f ρ (oE e)):R (b1 Hu f) ρ (zE (eL e)):=⟨a.v,a.D,fun h=>by simp only[b1,a.ok h,bnd,Hu]⟩
def wO (a:R f ρ (zE e)):R (b1 Hu f) ρ (zE e):=⟨a.v,a.D,fun h=>by simp only[b1,a.ok h,bnd,Hu]⟩
def aa0 (a:R f ρ (zE eI)):R (b1 Pq f) ρ (zE eI):=⟨-a.v,a.D,fun h=>by simp only[b1,a.ok h,bnd,Pq]⟩
def kO (a:R fa ρ (zE eI)) (b:R fb ρ (zE eI)):R (b2 jh fa fb) ρ (zE eI):=⟨a.v+b.v,aY a.D b.D,fun h=>by
 obtain⟨h1,h2⟩:=ao h
 simp only[b2,a.ok h1,b.ok h2,bnd,jh]⟩
def Mul (a b:Int):Prop:=(-18446744073709551616 < a/\a < 18446744073709551616)\/(-18446744073709551616 < b/\b < 18446744073709551616)
def V5 (a:R fa ρ (zE eI)) (b:R fb ρ (zE eI)):R (b2 um fa fb) ρ (zE eI):=⟨a.v * b.v,aY (aY a.D b.D) (some (Mul a.v b.v)),fun h=>by
 obtain⟨h,h3⟩:=ao h
 obtain⟨h1,h2⟩:=ao h
 simp only[b2,a.ok h1,b.ok h2,bnd]
 exact zo h3⟩
def Ji (n:Int) (hn : -18446744073709551616 < n/\n < 18446744073709551616) (b:R fb ρ (zE eI)):R (b2 um (cB (.int n)) fb) ρ (zE eI):=⟨n * b.v,b.D,fun h=>by
 simp only[b2,b.ok h,bnd,cB]
 exact zo (.inl hn)⟩
def KR (a:R fa ρ (zE eI)) (n:Int) (hn : -18446744073709551616 < n/\n < 18446744073709551616):R (b2 um fa (cB (.int n))) ρ (zE eI):=⟨a.v * n,a.D,fun h=>by
 simp only[b2,a.ok h,bnd,cB]
 exact zo (.inr hn)⟩
def QH (a:R fa ρ (zE eI)) (b:R fb ρ (zE eI)):R (b2 rK fa fb) ρ (zE eI):=⟨a.v / b.v,aY (aY a.D b.D) (some (0 < b.v/\b.v < 1073741824)),fun h=>by
 obtain⟨h,h3⟩:=ao h
 obtain⟨h1,h2⟩:=ao h
 have h3:0 < b.v/\b.v < 1073741824:=h3
 simp only[b2,a.ok h1,b.ok h2,bnd,i2,zo h3]⟩
def uK (a:R fa ρ (zE eI)) (n:Int) (hn:0 < n/\n < 1073741824):R (b2 rK fa (cB (.int n))) ρ (zE eI):=⟨a.v / n,a.D,fun h=>by
 simp only[b2,a.ok h,bnd,i2,cB,zo hn]⟩
def KY (a:R fa ρ (zE eI)) (b:R fb ρ (zE eI)):R (b2 jg fa fb) ρ (zE eI):=⟨a.v % b.v,aY (aY a.D b.D) (some (0 < b.v)),fun h=>by
 obtain⟨h,h3⟩:=ao h
 obtain⟨h1,h2⟩:=ao h
 have h3:0 < b.v:=h3
 simp only[b2,a.ok h1,b.ok h2,bnd,i2,zo h3]⟩
def dG (a:R fa ρ (zE eI)) (n:Int) (hn:0 < n):R (b2 jg fa (cB (.int n))) ρ (zE eI):=⟨a.v % n,a.D,fun h=>by
 simp only[b2,a.ok h,bnd,i2,cB,zo hn]⟩
def Yw (a b:Int) (n:Nat) (h:0<=b/\b<=1000/\a.natAbs < 18446744073709551616) (hb:b.toNat=n):R (b2 XH (cB (.int a)) (cB (.int b))) ρ (zE eI):=⟨a ^ n,none,fun _=>by
 simp only[b2,bnd,cB]
 show ((if 0<=b/\b<=1000/\a.natAbs < 2 ^ 64 then some (Dt.int (a ^ b.toNat)) else none).bind fun d=>some (Bx.z d))=_
 rw[zo h,hb]
 rfl⟩
def U4 (a:R fa ρ (zE eI)) (b:R fb ρ (zE eI)):R (b2 gtB fa fb) ρ (zE eB):=⟨decide (b.v < a.v),aY a.D b.D,fun h=>by
 obtain⟨h1,h2⟩:=ao h
 simp only[b2,a.ok h1,b.ok h2,bnd,i2]⟩
def x_ge (a:R fa ρ (zE eI)) (b:R fb ρ (zE eI)):R (b2 geB fa fb) ρ (zE eB):=⟨decide (b.v<=a.v),aY a.D b.D,fun h=>by
 obtain⟨h1,h2⟩:=ao h
 simp only[b2,a.ok h1,b.ok h2,bnd,i2]⟩
def V6 (a:R fa ρ (zE eI)) (b:R fb ρ (zE eI)):R (b2 Zy fa fb) ρ (zE eB):=⟨decide (a.v < b.v),aY a.D b.D,fun h=>by
 obtain⟨h1,h2⟩:=ao h
 simp only[b2,a.ok h1,b.ok h2,bnd,Zy]⟩
end
class Eqs {α:Type} [DecidableEq α] (e:α->Dt) (n:outParam Nat):Prop where
 eq:∀ a b,uh (e a) (e b)=some (decide (a=b))
 dp:∀ a,rJ (e a)<=n
class Non {α:Type} (e:α->Dt):Prop where
 l:∀ a,uh .non (e a)=some false
 r:∀ a,uh (e a) .non=some false
instance:Eqs eI 1:=⟨fun a b=>rfl,fun a=>by simp[rJ]⟩
instance:Eqs eB 1:=⟨fun a b=>rfl,fun a=>by simp[rJ]⟩
instance:Eqs eS 1:=⟨fun a b=>rfl,fun a=>by simp[rJ]⟩
instance:Non eI:=⟨fun a=>rfl,fun a=>rfl⟩
instance:Non eB:=⟨fun a=>rfl,fun a=>rfl⟩
instance:Non eS:=⟨fun a=>rfl,fun a=>rfl⟩
section
variable {α β γ δ:Type} [DecidableEq α] [DecidableEq β] [DecidableEq γ] [DecidableEq δ] {e:α->Dt} {e':β->Dt} {e'':γ->Dt} {e3:δ->Dt} {n m k l:Nat}
theorem yV [Eqs e n]:∀ xs ys:List α,jJ (xs.map e) (ys.map e)=some (decide (xs=ys))
 |[],[]=>by simp[jJ]
 |[],y::ys=>by simp[jJ]
 |x::xs,[]=>by simp[jJ]
 |x::xs,y::ys=>by
  simp only[zl,jJ,Eqs.eq,yV xs ys]
  congr 1
  by_cases h:x=y<;>by_cases h':xs=ys<;>simp[h,h']
theorem yW [Eqs e n]:∀ xs:List α,qd (xs.map e)<=n
 |[]=>by simp[qd]
 |x::xs=>by
  have:=Eqs.dp (e:=e) x
  have:=yW xs
  simp only[zl,qd]
  omega
instance [Eqs e n]:Eqs (eL e) (n+1):=⟨fun a b=>yV a b,fun a=>by simp only[rJ];have:=yW (e:=e) a;omega⟩
instance [Eqs e n]:Eqs (eT e) (n+1):=⟨fun a b=>yV a b,fun a=>by simp only[rJ];have:=yW (e:=e) a;omega⟩
instance:Non (eL e):=⟨fun a=>rfl,fun a=>rfl⟩
instance:Non (eT e):=⟨fun a=>rfl,fun a=>rfl⟩
instance:Non (eP1 e):=⟨fun a=>rfl,fun a=>rfl⟩
instance:Non (ZD e e'):=⟨fun a=>rfl,fun a=>rfl⟩
instance:Non (eP3 e e' e''):=⟨fun a=>rfl,fun a=>rfl⟩
instance:Non (eP4 e e' e'' e3):=⟨fun a=>rfl,fun a=>rfl⟩
instance [Eqs e n]:Eqs (eP1 e) (n+1):=⟨fun a b=>by
 simp only[xQ,jJ,Eqs.eq,kC],fun a=>by
 have:=Eqs.dp (e:=e) a
 simp only[rJ,qd];omega⟩
instance [Eqs e n] [Eqs e' m]:Eqs (ZD e e') (max n m+1):=⟨fun a b=>by
 obtain⟨a,a'⟩:=a;obtain⟨b,b'⟩:=b
 simp only[xQ,jJ,Eqs.eq,Prod.mk.injEq,Bool.decide_and,kC],fun a=>by
 have:=Eqs.dp (e:=e) a.1;have:=Eqs.dp (e:=e') a.2
 simp only[rJ,qd];omega⟩
instance [Eqs e n] [Eqs e' m] [Eqs e'' k]:Eqs (eP3 e e' e'') (max n (max m k)+1):=⟨fun a b=>by
 obtain⟨a,a',a2⟩:=a;obtain⟨b,b',b2⟩:=b
 simp only[xQ,jJ,Eqs.eq,Prod.mk.injEq,Bool.decide_and,kC],fun a=>by
 have:=Eqs.dp (e:=e) a.1;have:=Eqs.dp (e:=e') a.2.1;have:=Eqs.dp (e:=e'') a.2.2
 simp only[rJ,qd];omega⟩
instance [Eqs e n] [Eqs e' m] [Eqs e'' k] [Eqs e3 l]:Eqs (eP4 e e' e'' e3) (max n (max m (max k l))+1):=⟨fun a b=>by
 obtain⟨a,a',a2,a3⟩:=a;obtain⟨b,b',b2,b3⟩:=b
 simp only[xQ,jJ,Eqs.eq,Prod.mk.injEq,Bool.decide_and,kC],fun a=>by
 have:=Eqs.dp (e:=e) a.1;have:=Eqs.dp (e:=e') a.2.1;have:=Eqs.dp (e:=e'') a.2.2.1;have:=Eqs.dp (e:=e3) a.2.2.2
 simp only[rJ,qd];omega⟩
instance [Eqs e n] [Non e]:Eqs (eO e) (n+1):=⟨fun a b=>by
 cases a with
 |none=>cases b with
  |none=>exact rfl
  |some b=>exact (Non.l (e:=e) b).trans (by simp)
 |some a=>cases b with
  |none=>exact (Non.r (e:=e) a).trans (by simp)
  |some b=>exact (Eqs.eq (e:=e) a b).trans (by simp),fun a=>by
 cases a with
 |none=>show rJ .non<=n+1;simp[rJ]
 |some a=>exact Nat.le_succ_of_le (Eqs.dp (e:=e) a)⟩
end
section
variable {α β γ δ:Type} {ρ:Ev} {f fa fb fc:Ev->Option Bx} {p q:Ev->Option Bool} {fs:Ev->Option (List Bx)} {e:α->Dt} {e':β->Dt}
def x_eq [DecidableEq α] {n:Nat} [Eqs e n] (hn:n<=100) (a:R fa ρ (zE e)) (b:R fb ρ (zE e)):R (b2 eqB fa fb) ρ (zE eB):=⟨decide (a.v=b.v),aY a.D b.D,fun h=>by
 obtain⟨h1,h2⟩:=ao h
 have:=Eqs.dp (e:=e) a.v
 simp only[b2,a.ok h1,b.ok h2,bnd,eqB,lH,toD,zz,or_self,qk,Eqs.eq]
 rw[zo (by omega)]⟩
def Yx [DecidableEq α] {n:Nat} [Eqs e n] (hn:n<=100) (a:R fa ρ (zE e)) (b:R fb ρ (zE e)):R (b2 Kl fa fb) ρ (zE eB):=⟨!decide (a.v=b.v),aY a.D b.D,fun h=>by
 obtain⟨h1,h2⟩:=ao h
 have:=Eqs.dp (e:=e) a.v
 simp only[b2,a.ok h1,b.ok h2,bnd,Kl,lH,toD,zz,or_self,qk,Eqs.eq]
 rw[zo (by omega)]⟩
theorem uL {b:Bx} {ds:List Dt} (h:m9 b=some ds):toD b=.lst ds/\lH b=false:=by
 cases b with
 |z d=>cases d<;>cases h;exact⟨rfl,rfl⟩
 |l d=>cases h;exact⟨rfl,rfl⟩
 |o d=>cases h;exact⟨rfl,rfl⟩
 |n d=>cases h
 |m d _=>cases h
def Gr [DecidableEq α] {n:Nat} [Eqs e n] (hn:n+1<=100) (a:RL fa ρ e) (b:RL fb ρ e):R (b2 Kl fa fb) ρ (zE eB):=⟨!decide (a.v=b.v),aY a.D b.D,fun h=>by
 obtain⟨h1,h2⟩:=ao h
 simp only[b2,a.ok h1,b.ok h2,bnd,Kl,(uL a.lk).1,(uL a.lk).2,(uL b.lk).1,(uL b.lk).2,zz,or_self,qk]
 have e1:=Eqs.eq (e:=eL e) a.v b.v
 rw[zo (zv (Nat.min_le_left _ _) (zv (Eqs.dp (e:=eL e) a.v) hn)),e1,bnd]⟩
def Jj (a:R fa ρ (zE eB)):R (tV fa) ρ tE:=⟨a.v,a.D,fun h=>by simp only[tV,a.ok h,bnd,Tf]⟩
def iU {g:Bx->Bx->Option Bx} (a:R (b2 g fa fb) ρ (zE eB)):R (z7 g fa fb) ρ tE:=⟨a.v,a.D,fun h=>by simp only[z7,a.ok h,bnd,OD]⟩
def aa1 (a:R p ρ tE) (b:R q ρ tE):R (O2 p q) ρ tE:=⟨a.v&&b.v,aY a.D (yU (a.v=true) b.D),fun h=>by
 obtain⟨h1,h2⟩:=ao h
 simp only[O2,a.ok h1,bnd]
 cases hv:a.v with
 |true=>simp only[Q3,Bool.true_and];exact b.ok (kJ h2 hv)
 |false=>simp only[zz,qk,Bool.false_and]⟩
def Jk (a:R p ρ tE) (b:R q ρ tE):R (O4 p q) ρ tE:=⟨a.v||b.v,aY a.D (yU (a.v=false) b.D),fun h=>by
 obtain⟨h1,h2⟩:=ao h
 simp only[O4,a.ok h1,bnd]
 cases hv:a.v with
 |true=>simp only[Q3,Bool.true_or]
 |false=>simp only[zz,qk,Bool.false_or];exact b.ok (kJ h2 hv)⟩
def KZ (a:R p ρ tE):R (Ih p) ρ tE:=⟨!a.v,a.D,fun h=>by simp only[Ih,a.ok h,bnd]⟩
end
section
variable {α β γ δ ε:Type} {ρ:Ev} {f fa fb fc fd:Ev->Option Bx} {p q:Ev->Option Bool} {fs:Ev->Option (List Bx)} {e:α->Dt} {e':β->Dt} {e'':γ->Dt} {e3:δ->Dt}
def Yy (e:α->Dt):R (dY tZ aK) ρ (zE (eT e)):=⟨[],none,fun _=>rfl⟩
def eN (e:α->Dt):R aK ρ (fun xs:List α=>xs.map (zE e)):=⟨[],none,fun _=>rfl⟩
def bD (a:R fa ρ (zE e)) (t:R fs ρ (fun xs:List α=>xs.map (zE e))):R (au fa fs) ρ (fun xs:List α=>xs.map (zE e)):=⟨a.v::t.v,aY a.D t.D,fun h=>by
 obtain⟨h1,h2⟩:=ao h
 simp only[au,a.ok h1,t.ok h2,bnd,zl]⟩
theorem yX:∀ xs:List α,CG (xs.map (zE e))=some (xs.map e)
 |[]=>rfl
 |x::xs=>by simp only[zl,CG,yX xs,bnd]
def pK (t:R fs ρ (fun xs:List α=>xs.map (zE e))) (hl:t.v.length<=1000):R (dY p8 fs) ρ (oE e):=⟨t.v,t.D,fun h=>by
 simp only[dY,t.ok h,bnd,p8,zi,zo hl,yX]⟩
def qx (t:R fs ρ (fun xs:List α=>xs.map (zE e))) (hl:t.v.length<=1000):R (dY tZ fs) ρ (zE (eT e)):=⟨t.v,t.D,fun h=>by
 simp only[dY,t.ok h,bnd,tZ,zi,zo hl,yX]⟩
def at' [Inhabited α] (xs:List α) (i:Int):α:=(z8 xs i).getD default
def In (n:Nat) (i:Int):Prop:=-(n:Int)<=i/\i < n
theorem Dv {xs:List α} {i:Int} (h:In xs.length i):∃ x,z8 xs i=some x:=by
 obtain⟨h1,h2⟩:=h
 unfold z8 Zr
 by_cases h0:0<=i
 ·rw[zo h0,zo h2]
  exact⟨xs[i.toNat]'(by omega),ZA (by omega)⟩
 ·rw[zS h0,zo h1]
  exact⟨xs[(i+xs.length).toNat]'(by omega),ZA (by omega)⟩
theorem Yz {xs:List α} {i:Int} {x:α} (h:z8 xs i=some x):z8 (xs.map e) i=some (e x):=by
 unfold z8 at h ⊢
 rw[zi]
 obtain⟨j,ej,h⟩:=bind_some h
 rw[ej,bnd,z4,h]
 rfl
theorem YB [Inhabited α] {xs:List α} {i:Int} (h:In xs.length i):z8 (xs.map e) i=some (e (at' xs i)):=by
 obtain⟨x,hx⟩:=Dv h
 rw[Yz hx]
 unfold at'
 rw[hx]
 rfl
theorem U5 {b:Bx} {ds:List Dt} {i:Int} (h:m9 b=some ds):n8 b (.z (.int i))=(z8 ds i).bind fun d=>some (.z d):=by
 cases b with
 |z d=>cases d<;>cases h;rfl
 |l d=>cases h;rfl
 |o d=>cases h;rfl
 |n d=>cases h
 |m d _=>cases h
def ji [Inhabited α] (a:RL fa ρ e) (b:R fb ρ (zE eI)):R (b2 n8 fa fb) ρ (zE e):=⟨at' a.v b.v,aY (aY a.D b.D) (some (In a.v.length b.v)),fun h=>by
 obtain⟨h,h3⟩:=ao h
 obtain⟨h1,h2⟩:=ao h
 simp only[b2,a.ok h1,b.ok h2,bnd,U5 a.lk,YB (show In a.v.length b.v from h3)]⟩
def ch (x:Str) (i:Int):Str:=⟨#[(z8 x.cps.toList i).getD 0]⟩
def QJ (a:R fa ρ (zE eS)) (b:R fb ρ (zE eI)):R (b2 n8 fa fb) ρ (zE eS):=⟨ch a.v b.v,aY (aY a.D b.D) (some (In a.v.length b.v)),fun h=>by
 obtain⟨h,h3⟩:=ao h
 obtain⟨h1,h2⟩:=ao h
 obtain⟨x,hx⟩:=Dv (xs:=a.v.cps.toList) (i:=b.v) (show In a.v.length b.v from h3)
 simp only[b2,a.ok h1,b.ok h2,bnd,n8,hx,ch,Option.getD_some]⟩
def cut (xs:List α) (lo hi:Option Int):List α:=(xs.drop (HT.gC xs.length 0 lo)).take (HT.gC xs.length xs.length hi - HT.gC xs.length 0 lo)
theorem K1 (xs:List α) (lo hi:Option Int):cutD (xs.map e) lo hi=(cut xs lo hi).map e:=by
 unfold cutD cut
 rw[zi,List.map_take,List.map_drop]
abbrev pE:Option Int->Option Int:=fun o=>o
def vY:R iw ρ pE:=⟨none,none,fun _=>rfl⟩
def vZ (a:R fa ρ (zE eI)):R (lD fa) ρ pE:=⟨some a.v,a.D,fun h=>by simp only[lD,a.ok h,bnd,X5]⟩
variable {fl fh:Ev->Option (Option Int)}
theorem U6 {b:Bx} {ds:List Dt} {lo hi:Option Int} (h:m9 b=some ds):Zx b lo hi=some (.o (cutD ds lo hi)):=by
 cases b with
 |z d=>cases d<;>cases h;rfl
 |l d=>cases h;rfl
 |o d=>cases h;rfl
 |n d=>cases h
 |m d _=>cases h
def Jl (a:RL fa ρ e) (l:R fl ρ pE) (u:R fh ρ pE):R (Bl fa fl fh) ρ (oE e):=⟨cut a.v l.v u.v,aY a.D (aY l.D u.D),fun h=>by
 obtain⟨h1,h⟩:=ao h
 obtain⟨h2,h3⟩:=ao h
 simp only[Bl,a.ok h1,l.ok h2,u.ok h3,bnd,U6 a.lk,K1]⟩
def K3 (a:R fa ρ (zE (eT e))) (l:R fl ρ pE) (u:R fh ρ pE):R (Bl fa fl fh) ρ (zE (eT e)):=⟨cut a.v l.v u.v,aY a.D (aY l.D u.D),fun h=>by
 obtain⟨h1,h⟩:=ao h
 obtain⟨h2,h3⟩:=ao h
 simp only[Bl,a.ok h1,l.ok h2,u.ok h3,bnd,Zx,K1]⟩
def V7 (a:R fa ρ (zE eS)) (l:R fl ρ pE) (u:R fh ρ pE):R (Bl fa fl fh) ρ (zE eS):=⟨Txt.slice a.v l.v u.v,aY a.D (aY l.D u.D),fun h=>by
 obtain⟨h1,h⟩:=ao h
 obtain⟨h2,h3⟩:=ao h
 simp only[Bl,a.ok h1,l.ok h2,u.ok h3,bnd,Zx]⟩
def Ej (n:Nat):Prop:=n<=1000000
def QK (a:R fa ρ (zE eS)) (b:R fb ρ (zE eS)):R (b2 jh fa fb) ρ (zE eS):=⟨a.v++b.v,aY (aY a.D b.D) (some (Ej (a.v.length+b.v.length))),fun h=>by
 obtain⟨h,h3⟩:=ao h
 obtain⟨h1,h2⟩:=ao h
 simp only[b2,a.ok h1,b.ok h2,bnd,jh,zo (show a.v.length+b.v.length<=Mq from h3)]⟩
theorem QL {b b':Bx} {ds ds':List Dt} (h:m9 b=some ds) (h':m9 b'=some ds') (hl:ds.length+ds'.length<=Mq):jh b b'=some (.o (ds++ds')):=by
 cases b with
 |z d=>
  cases d<;>cases h
  cases b' with
  |z d'=>cases d'<;>cases h';exact zo hl
  |l d'=>cases h';exact zo hl
  |o d'=>cases h';exact zo hl
  |n d'=>cases h'
  |m d'=>cases h'
 |l d=>
  cases h
  cases b' with
  |z d'=>cases d'<;>cases h';exact zo hl
  |l d'=>cases h';exact zo hl
  |o d'=>cases h';exact zo hl
  |n d'=>cases h'
  |m d'=>cases h'
 |o d=>
  cases h
  cases b' with
  |z d'=>cases d'<;>cases h';exact zo hl
  |l d'=>cases h';exact zo hl
  |o d'=>cases h';exact zo hl
  |n d'=>cases h'
  |m d'=>cases h'
 |n d=>cases h
 |m d _=>cases h
def QM (a:RL fa ρ e) (b:RL fb ρ e):R (b2 jh fa fb) ρ (oE e):=⟨a.v++b.v,aY (aY a.D b.D) (some (Ej (a.v.length+b.v.length))),fun h=>by
 obtain⟨h,h3⟩:=ao h
 obtain⟨h1,h2⟩:=ao h
 simp only[b2,a.ok h1,b.ok h2,bnd]
 rw[QL a.lk b.lk (by rw[zi,zi];exact h3)]
 simp only[oE,Zp]⟩
def YC (a:R fa ρ (zE eS)) (b:R fb ρ (zE eI)):R (b2 um fa fb) ρ (zE eS):=⟨Txt.mul a.v b.v,aY (aY a.D b.D) (some (b.v<=1000 ∧ -1000<=b.v/\a.v.length<=1000)),fun h=>by
 obtain⟨h,h3⟩:=ao h
 obtain⟨h1,h2⟩:=ao h
 simp only[b2,a.ok h1,b.ok h2,bnd]
 exact zo h3⟩
theorem QS {b:Bx} {ds:List Dt} (h:m9 b=some ds):rz [b]=some (.z (.int ds.length)):=by
 cases b with
 |z d=>cases d<;>cases h;rfl
 |l d=>cases h;rfl
 |o d=>cases h;rfl
 |n d=>cases h
 |m d _=>cases h
theorem QT {b:Bx} {ds:List Dt} (h:m9 b=some ds):yD b=some ds:=by
 cases b with
 |z d=>cases d<;>cases h;rfl
 |l d=>cases h;rfl
 |o d=>cases h;rfl
 |n d=>cases h
 |m d _=>cases h
def x_len (a:RL fa ρ e):R (dY rz (au fa aK)) ρ (zE eI):=⟨(a.v.length:Int),a.D,fun h=>by
 simp only[dY,au,aK,a.ok h,bnd,QS a.lk,zi]⟩
def YD (a:R fa ρ (zE eS)):R (dY rz (au fa aK)) ρ (zE eI):=⟨(a.v.length:Int),a.D,fun h=>by
 simp only[dY,au,aK,a.ok h,bnd,rz]⟩
def uM (a:RL fa ρ e):R (dY oN (au fa aK)) ρ (zE (eT e)):=⟨a.v,a.D,fun h=>by
 simp only[dY,au,aK,a.ok h,bnd,oN,QT a.lk]⟩
def aa2 (a:R fa ρ (zE eI)):R (dY PJ (au fa aK)) ρ (zE eI):=⟨if a.v < 0 then -a.v else a.v,a.D,fun h=>by
 simp only[dY,au,aK,a.ok h,bnd,PJ]⟩
def YF (a:R fa ρ (zE eB)):R (dY PK (au fa aK)) ρ (zE eI):=⟨if a.v=true then 1 else 0,a.D,fun h=>by
 simp only[dY,au,aK,a.ok h,bnd,PK]⟩
theorem wg:∀ l:List Bool,yE (l.map eB)=some l
 |[]=>rfl
 |a::l=>by simp only[zl,yE,wg l,bnd]
def QW (a:RL fa ρ eB):R (dY allB (au fa aK)) ρ (zE eB):=⟨a.v.all id,a.D,fun h=>by
 simp only[dY,au,aK,a.ok h,bnd,allB,a.lk,wg]⟩
def QX (a:RL fa ρ eB):R (dY anyB (au fa aK)) ρ (zE eB):=⟨a.v.any id,a.D,fun h=>by
 simp only[dY,au,aK,a.ok h,bnd,anyB,a.lk,wg]⟩
def aa3 (a:R fa ρ (zE eI)) (b:R fb ρ (zE eI)):R (dY PX (au fa (au fb aK))) ρ (zE eI):=⟨if b.v > a.v then b.v else a.v,aY a.D b.D,fun h=>by
 obtain⟨h1,h2⟩:=ao h
 simp only[dY,au,aK,a.ok h1,b.ok h2,bnd,PX]⟩
def V8 (P:Dt->Bool) (a:R fa ρ (zE e)):R (yF P fa) ρ (zE eB):=⟨P (e a.v),a.D,fun h=>by
 simp only[yF,b1,a.ok h,bnd,lH,toD,zz,qk]⟩
def YG (P:Dt->Bool) (a:RL fa ρ e) (k:Bool) (hk:∀ ds,P (.lst ds)=k):R (yF P fa) ρ (zE eB):=⟨k,a.D,fun h=>by
 simp only[yF,b1,a.ok h,bnd,uL a.lk,zz,qk,hk]⟩
theorem strs_map:∀ l:List Str,rN (l.map eS)=some l
 |[]=>rfl
 |a::l=>by simp only[zl,rN,strs_map l,bnd]
def YH (s:Str) (a:RL fa ρ eS):R (b1 (FW s) fa) ρ (zE eS):=⟨Txt.join s a.v,aY a.D (some ((a.v.map (·.length)).sum+a.v.length * s.length<=100000)),fun h=>by
 obtain⟨h,h4⟩:=ao h
 simp only[b1,a.ok h,bnd,FW,a.lk,strs_map]
 exact zo h4⟩
def uN (a:RL fa ρ eS):R (dY uD (au fa aK)) ρ (oE eS):=⟨bC a.v,aY a.D (some (a.v.length < 64)),fun h=>by
 obtain⟨h,h4⟩:=ao h
 simp only[dY,au,aK,a.ok h,bnd,uD,a.lk,strs_map]
 exact zo h4⟩
class Flat {α:Type} (e:α->Dt):Prop where
 f:∀ a,uo (e a)=true
instance:Flat eI:=⟨fun _=>rfl⟩
instance:Flat eB:=⟨fun _=>rfl⟩
instance:Flat eS:=⟨fun _=>rfl⟩
theorem QZ [DecidableEq α] {n:Nat} [Eqs e n] [Flat e] (x:α) (ys:List α):memD (e x) (ys.map e)=some (decide (x∈ys)):=by
 unfold memD
 rw[zo ⟨Flat.f x,by rw[List.all_map];exact List.all_eq_true.mpr fun y _=>Flat.f y⟩,kK]
 congr 1
 rw[ki,QE,decide_eq_true_iff]
 constructor
 ·rintro⟨y,hy,h⟩
  simp only[Function.comp,Eqs.eq] at h
  by_cases e1:y=x
  ·rw[<-e1];exact hy
  ·simp only[e1,ka] at h
   cases h
 ·intro h
  exact⟨x,h,by simp only[Function.comp,Eqs.eq,kD]⟩
theorem U7 {d:Dt} {ds:List Dt}:inB (.z d) (.z (.tup ds))=memD d ds:=by cases d<;>rfl
def Q0 [DecidableEq α] {n:Nat} [Eqs e n] [Flat e] (a:R fa ρ (zE e)) (b:R fb ρ (zE (eT e))):R (b2 inF fa fb) ρ (zE eB):=⟨decide (a.v∈b.v),aY a.D b.D,fun h=>by
 obtain⟨h1,h2⟩:=ao h
 simp only[b2,a.ok h1,b.ok h2,bnd,inF,U7,QZ]⟩
end
structure AR {γ:Type} (cA:γ->List Bx->Prop) (fs:Ev->Option (List Bx)) (ρ:Ev) where
 v:γ
 D:Option Prop
 bs:List Bx
 h:cA v bs
 ok:hold D->fs ρ=some bs
section
variable {α β γ δ ε σ:Type} {ρ:Ev} {f fa fb fc fd:Ev->Option Bx} {p q:Ev->Option Bool} {fs:Ev->Option (List Bx)} {e:α->Dt} {e':β->Dt} {e'':γ->Dt} {e3:δ->Dt}
def aN:Unit->List Bx->Prop:=fun _ bs=>bs=[]
def aZ (e:α->Dt) (t:γ->List Bx->Prop):α×γ->List Bx->Prop:=fun x bs=>∃ r,bs=.z (e x.1)::r/\t x.2 r
def aL (e:α->Dt) (t:γ->List Bx->Prop):List α×γ->List Bx->Prop:=fun x bs=>∃ b r,bs=b::r/\m9 b=some (x.1.map e)/\t x.2 r
def dO:AR aN aK ρ:=⟨(),none,[],rfl,fun _=>rfl⟩
def lK {t:γ->List Bx->Prop} (a:R fa ρ (zE e)) (r:AR t fs ρ):AR (aZ e t) (au fa fs) ρ:=⟨(a.v,r.v),aY a.D r.D,_,⟨_,rfl,r.h⟩,fun h=>by
 obtain⟨h1,h2⟩:=ao h
 simp only[au,a.ok h1,r.ok h2,bnd]⟩
def Ai {t:γ->List Bx->Prop} (a:RL fa ρ e) (r:AR t fs ρ):AR (aL e t) (au fa fs) ρ:=⟨(a.v,r.v),aY a.D r.D,_,⟨_,_,rfl,a.lk,r.h⟩,fun h=>by
 obtain⟨h1,h2⟩:=ao h
 simp only[au,a.ok h1,r.ok h2,bnd]⟩
def x_call {cA:γ->List Bx->Prop} {F:List Bx->Option Bx} {n:Nat} {c:α->Bx} {T:γ->α} {Df:γ->Option Prop} (S:∀ v bs,cA v bs->bs.length=n/\(hold (Df v)->F (bs.map lend)=some (c (T v)))) (a:AR cA fs ρ):R (fY n F fs) ρ c:=⟨T a.v,aY a.D (Df a.v),fun h=>by
 obtain⟨h1,h2⟩:=ao h
 obtain⟨h3,h4⟩:=S a.v a.bs a.h
 simp only[fY,a.ok h1,bnd,zo h3,h4 h2]⟩
theorem jt {g:Ev->Option Out} {n:Nat} {bs:List Bx} {c:α->Bx} (x:R g (bs.map some++List.replicate (n - bs.length) none) (fun r=>Out.rt (c r))) (h:hold x.D):jq n g bs=some (c x.v):=by
 unfold jq
 rw[x.ok h]
 rfl
variable {fi:Ev->Option (List Dt)} {gt:Dt->Ev->Option Ev} {fe:Ev->Option Bx} {is:List Nat} {n:Nat}
def Q5 (xs:List α) (P:α->Option Prop):Option Prop:=some (∀ x∈xs,hold (P x))
theorem yZ {fs:Ev->Option (List Dt)} {ρ1:Ev} {g:α->List Dt} {π:α->Bool}:∀ xs:List α,(∀ x∈xs,∃ ρ2,gt (e x) ρ1=some ρ2/\p ρ2=some (π x)/\(π x=true->fs ρ2=some (g x)))->q9 gt p fs ρ1 (xs.map e)=some ((xs.filter π).flatMap g)
 |[],_=>rfl
 |x::xs,h=>by
  obtain⟨ρ2,h1,h2,h3⟩:=h x (zh ..)
  have ih:=yZ (g:=g) (π:=π) xs fun y hy=>h y (zg _ hy)
  cases hp:π x with
  |true=>simp only[zl,q9,h1,bnd,h2,hp,Q3,h3 hp,ih,Kt,jn]
  |false=>simp only[zl,q9,h1,bnd,h2,hp,ih,Kt,zz,qk]
theorem Gs {g:α->β}:∀ xs:List α,xs.flatMap (fun x=>[e' (g x)])=(xs.map g).map e'
 |[]=>rfl
 |x::xs=>by rw[jn,Gs xs];rfl
theorem Gu {ρ1:Ev} {g:α->β} {π:α->Bool} (xs:List α) (h:∀ x∈xs,∃ ρ2,gt (e x) ρ1=some ρ2/\p ρ2=some (π x)/\(π x=true->fe ρ2=some (.z (e' (g x))))):yw gt p fe ρ1 (xs.map e)=some (((xs.filter π).map g).map e'):=by
 rw[<-Gs]
 exact yZ xs fun x hx=>let ⟨ρ2,h1,h2,h3⟩:=h x hx;⟨ρ2,h1,h2,fun hp=>by rw[h3 hp];rfl⟩
theorem comp_map {ρ1:Ev} {g:α->β} (xs:List α) (h:∀ x∈xs,∃ ρ2,gt (e x) ρ1=some ρ2/\fe ρ2=some (.z (e' (g x)))):yw gt lJ fe ρ1 (xs.map e)=some ((xs.map g).map e'):=
 (Gu (π:=fun _=>true) xs fun x hx=>let ⟨ρ2,h1,h2⟩:=h x hx;⟨ρ2,h1,rfl,fun _=>h2⟩).trans (by rw[List.filter_eq_self.mpr fun _ _=>rfl])
def za (it:R fi ρ (iE e)) (ρ2:α->Ev) (hg:∀ x,gt (e x) (jf is ρ++List.replicate n none)=some (ρ2 x)) (b:∀ x,R fe (ρ2 x) (zE e')):R (fM fi gt lJ fe is n) ρ (oE e'):=⟨it.v.map fun x=>(b x).v,aY (aY it.D (some (it.v.length<=100000))) (Q5 it.v fun x=>(b x).D),fun h=>by
 obtain⟨h,h3⟩:=ao h
 obtain⟨h1,h2⟩:=ao h
 have h3:∀ x∈it.v,hold (b x).D:=h3
 simp only[fM,it.ok h1,bnd,zi,zo (show it.v.length<=100000 from h2),comp_map it.v fun x hx=>⟨ρ2 x,hg x,(b x).ok (h3 x hx)⟩]⟩
def oW (it:R fi ρ (iE e)) (ρ2:α->Ev) (hg:∀ x,gt (e x) (jf is ρ++List.replicate n none)=some (ρ2 x)) (b:∀ x,R fe (ρ2 x) (zE e')) (hb:∀ x,(b x).D=none):R (fM fi gt lJ fe is n) ρ (oE e'):=⟨it.v.map fun x=>(b x).v,aY it.D (some (it.v.length<=100000)),fun h=>by
 obtain⟨h1,h2⟩:=ao h
 simp only[fM,it.ok h1,bnd,zi,zo (show it.v.length<=100000 from h2),comp_map it.v fun x hx=>⟨ρ2 x,hg x,(b x).ok (by rw[hb x];trivial)⟩]⟩
def xV (it:R fi ρ (iE e)) (ρ2:α->Ev) (hg:∀ x,gt (e x) (jf is ρ++List.replicate n none)=some (ρ2 x)) (t:∀ x,R p (ρ2 x) tE) (b:∀ x,R fe (ρ2 x) (zE e')):R (fM fi gt p fe is n) ρ (oE e'):=⟨(it.v.filter fun x=>(t x).v).map fun x=>(b x).v,aY (aY it.D (some (it.v.length<=100000))) (Q5 it.v fun x=>aY (t x).D (yU ((t x).v=true) (b x).D)),fun h=>by
 obtain⟨h,h3⟩:=ao h
 obtain⟨h1,h2⟩:=ao h
 have h3:∀ x∈it.v,hold (aY (t x).D (yU ((t x).v=true) (b x).D)):=h3
 simp only[fM,it.ok h1,bnd,zi,zo (show it.v.length<=100000 from h2),Gu it.v fun x hx=>⟨ρ2 x,hg x,(t x).ok (ao (h3 x hx)).1,fun ht=>(b x).ok (kJ (ao (h3 x hx)).2 ht)⟩]⟩
def Nq (a:RL fa ρ e):R (FQ fa) ρ (iE e):=⟨a.v,a.D,fun h=>by
 have:TJ a.b=some (a.v.map e):=by
  have:=a.lk
  revert this
  generalize a.b=b
  generalize a.v.map e=ds
  intro this
  cases b with
  |z d=>cases d<;>cases this;rfl
  |l d=>cases this;rfl
  |o d=>cases this;rfl
  |n d=>cases this
  |m d _=>cases this
 simp only[FQ,a.ok h,bnd,this]⟩
def Jm (a:R fa ρ (zE (eT e))):R (FQ fa) ρ (iE e):=⟨a.v,a.D,fun h=>by simp only[FQ,a.ok h,bnd,TJ]⟩
def U8 (a:R fa ρ (oE e)):R (T6 fa) ρ (iE e):=⟨a.v,a.D,fun h=>by simp only[T6,a.ok h,bnd,Pa]⟩
def acP (a:R fa ρ (zE (eT e))):R (T6 fa) ρ (iE e):=⟨a.v,a.D,fun h=>by simp only[T6,a.ok h,bnd,Pa]⟩
def rng (i:Int) (n:Nat):List Int:=(List.range n).map fun k:Nat=>i+(k:Int)
theorem K4 (i:Int) (n:Nat):CK i n=(rng i n).map eI:=by
 unfold CK rng
 rw[ZE]
 rfl
def Rg (j:Int):Prop:=-4611686018427387904<=j/\j < 4611686018427387904
def zc (a:R fa ρ (zE eI)):R (FT (au fa aK)) ρ (iE eI):=⟨rng 0 a.v.toNat,aY a.D (some (Rg a.v)),fun h=>by
 obtain⟨h,h4⟩:=ao h
 simp only[FT,au,aK,a.ok h,bnd]
 show (if -(2 ^ 62)<=a.v/\a.v < 2 ^ 62 then some (CK 0 a.v.toNat) else none)=_
 exact (zo h4).trans (by rw[K4])⟩
def YJ (n:Int) (m:Nat) (hm:n.toNat=m) (hn:Rg n):R (FT (au (cB (.int n)) aK)) ρ (iE eI):=⟨rng 0 m,none,fun _=>by
 simp only[FT,au,aK,bnd,cB]
 show (if -(2 ^ 62)<=n/\n < 2 ^ 62 then some (CK 0 n.toNat) else none)=_
 exact (zo hn).trans (by rw[K4,hm])⟩
end
section
variable {α β γ δ ε σ τ:Type} {ρ:Ev} {f fa fb fc fd:Ev->Option Bx} {p q:Ev->Option Bool} {fs:Ev->Option (List Bx)} {e:α->Dt} {e':β->Dt} {g g1 g2 k:Ev->Option Out} {cO:γ->Out} {gt:Dt->Ev->Option Ev}
theorem lB {ρ':Ev} (h:g1 ρ=some (.nx ρ')):aG g1 k ρ=k ρ':=by
 unfold aG
 rw[h]
 rfl
def bO (x:R (aG g (aG g1 k)) ρ cO):R (aG (aG g g1) k) ρ cO:=⟨x.v,x.D,fun h=>by
 rw[<-x.ok h]
 unfold aG
 cases g ρ with
 |none=>rfl
 |some o=>cases o<;>rfl⟩
def cZ (x:R k ρ cO):R (aG jG k) ρ cO:=⟨x.v,x.D,fun h=>x.ok h⟩
def bY {is:List Nat} (x:γ) (h:cO x=.nx (kill is ρ)):R (eY is) ρ cO:=⟨x,none,fun _=>by rw[h];rfl⟩
def iV {c:α->Bx} (inj:α->γ) (a:R f ρ c) (h:∀ x,cO (inj x)=.rt (c x)) (hc:∀ x,O7 (c x)=some (.rt (c x))):R (aG (lW f) k) ρ cO:=⟨inj a.v,a.D,fun hd=>by
 have:lW f ρ=some (.rt (c a.v)):=by unfold lW;rw[a.ok hd,bnd,hc]
 unfold aG
 rw[this,h]
 rfl⟩
def Jo {c:α->Bx} (i:Nat) (inj:α->γ) (a:α) (hi:ρ[i]?=some (some (c a))) (h:∀ x,cO (inj x)=.rt (c x)) (hc:∀ x,O7 (c x)=some (.rt (c x))):R (aG (Ab i) k) ρ cO:=⟨inj a,none,fun hd=>by
 have:Ab i ρ=some (.rt (c a)):=by unfold Ab;rw[hi];exact hc a
 unfold aG
 rw[this,h]
 rfl⟩
def bZ {c:α->Bx} (i:Nat) (a:R f ρ c) (hc:∀ x,O8 ρ i (c x)=some (ρ.set i (some (c x)))) (K:∀ x,R k (ρ.set i (some (c x))) cO):R (aG (setG i f) k) ρ cO:=⟨(K a.v).v,aY a.D (K a.v).D,fun hd=>by
 obtain⟨h1,h2⟩:=ao hd
 rw[lB (ρ':=ρ.set i (some (c a.v))) (by unfold setG;rw[a.ok h1,bnd,hc,bnd])]
 exact (K a.v).ok h2⟩
def wQ (i:Nat) (xs:List α) (hi:ρ[i]?=some (some (.o (xs.map e)))) (a:R f ρ (zE e)) (K:∀ ys:List α,R k (ρ.set i (some (.o (ys.map e)))) cO):R (aG (Af i f) k) ρ cO:=⟨(K (xs++[a.v])).v,aY (aY a.D (some (Ej xs.length))) (K (xs++[a.v])).D,fun hd=>by
 obtain⟨h1,h3⟩:=ao hd
 obtain⟨h1,h2⟩:=ao h1
 have h2:xs.length<=1000000:=h2
 rw[lB (ρ':=ρ.set i (some (.o ((xs++[a.v]).map e)))) (by
  unfold Af
  rw[a.ok h1,bnd]
  simp only[Tt,hi,zi,Zp,zl,jS]
  rw[zo (j0 h2 (by decide))])]
 exact (K _).ok h3⟩
def uO (t:R p ρ tE) (a:R (aG g1 k) ρ cO) (b:R (aG g2 k) ρ cO):R (aG (Bg p g1 g2) k) ρ cO:=⟨if t.v=true then a.v else b.v,aY t.D (aY (yU (t.v=true) a.D) (yU (t.v=false) b.D)),fun hd=>by
 obtain⟨h1,h2⟩:=ao hd
 obtain⟨h2,h3⟩:=ao h2
 have e1:∀ c,t.v=c->aG (Bg p g1 g2) k ρ=aG (if c=true then g1 else g2) k ρ:=fun c hc=>by
  unfold aG Bg
  rw[t.ok h1,bnd,hc]
  cases c<;>rfl
 cases hv:t.v with
 |true=>rw[e1 true hv];simp only[Q3];exact a.ok (kJ h2 hv)
 |false=>rw[e1 false hv];simp only[zz,qk];exact b.ok (kJ h3 hv)⟩
def Gv (E:σ->Ev) (t:R p ρ tE) (a:R g1 ρ (fun s=>Out.nx (E s))) (b:R g2 ρ (fun s=>Out.nx (E s))) (K:∀ s,R k (E s) cO):R (aG (Bg p g1 g2) k) ρ cO:=⟨(K (if t.v=true then a.v else b.v)).v,aY (aY t.D (aY (yU (t.v=true) a.D) (yU (t.v=false) b.D))) (K (if t.v=true then a.v else b.v)).D,fun hd=>by
 obtain⟨h,h4⟩:=ao hd
 obtain⟨h1,h2⟩:=ao h
 obtain⟨h2,h3⟩:=ao h2
 rw[lB (ρ':=E (if t.v=true then a.v else b.v)) (by
  unfold Bg
  rw[t.ok h1,bnd]
  cases hv:t.v with
  |true=>simp only[Q3];exact a.ok (kJ h2 hv)
  |false=>simp only[zz,qk];exact b.ok (kJ h3 hv))]
 exact (K _).ok h4⟩
def qy (step:σ->α->σ) (P:σ->α->Option Prop):List α->σ->Prop
 |[],_=>True
 |x::xs,s=>hold (P s x)/\qy step P xs (step s x)
theorem uP {gb:Ev->Option Out} (E:σ->Ev) (ρ2:σ->α->Ev) (hg:∀ s x,gt (e x) (E s)=some (ρ2 s x)) (body:∀ s x,R gb (ρ2 s x) (fun s=>Out.nx (E s))):∀ (xs:List α) (s:σ),qy (fun s x=>(body s x).v) (fun s x=>(body s x).D) xs s->ni gt gb (xs.map e) (E s)=some (.nx (E (xs.foldl (fun s x=>(body s x).v) s)))
 |[],s,_=>rfl
 |x::xs,s,h=>by
  simp only[zl,ni,hg,bnd,(body s x).ok h.1,kf]
  exact uP E ρ2 hg body xs _ h.2
variable {fi:Ev->Option (List Dt)} {gb:Ev->Option Out}
def Gw (E:σ->Ev) (s0:σ) (hE:ρ=E s0) (it:R fi ρ (iE e)) (ρ2:σ->α->Ev) (hg:∀ s x,gt (e x) (E s)=some (ρ2 s x)) (body:∀ s x,R gb (ρ2 s x) (fun s=>Out.nx (E s))) (K:∀ s,R k (E s) cO):R (aG (qp fi gt gb) k) ρ cO:=⟨(K (it.v.foldl (fun s x=>(body s x).v) s0)).v,aY (aY it.D (some (qy (fun s x=>(body s x).v) (fun s x=>(body s x).D) it.v s0))) (K (it.v.foldl (fun s x=>(body s x).v) s0)).D,fun hd=>by
 obtain⟨h,h4⟩:=ao hd
 obtain⟨h1,h2⟩:=ao h
 rw[lB (ρ':=E (it.v.foldl (fun s x=>(body s x).v) s0)) (by
  unfold qp
  rw[it.ok h1,bnd]
  subst hE
  exact uP E ρ2 hg body it.v s0 h2)]
 exact (K _).ok h4⟩
def YK (E:σ->Ev) (s0:σ) (hE:ρ=E s0) (it:R fi ρ (iE e)) (ρ2:σ->α->Ev) (hg:∀ s x,gt (e x) (E s)=some (ρ2 s x)) (body:∀ s x,R gb (ρ2 s x) (fun s=>Out.nx (E s))) (hb:∀ s x,(body s x).D=none) (K:∀ s,R k (E s) cO):R (aG (qp fi gt gb) k) ρ cO:=⟨(K (it.v.foldl (fun s x=>(body s x).v) s0)).v,aY it.D (K (it.v.foldl (fun s x=>(body s x).v) s0)).D,fun hd=>by
 obtain⟨h1,h4⟩:=ao hd
 have h2:∀ (xs:List α) (s:σ),qy (fun s x=>(body s x).v) (fun s x=>(body s x).D) xs s:=fun xs=>by
  induction xs with
  |nil=>intro s;trivial
  |cons x xs ih=>intro s;exact⟨by show hold (body s x).D;rw[hb s x];trivial,ih _⟩
 rw[lB (ρ':=E (it.v.foldl (fun s x=>(body s x).v) s0)) (by
  unfold qp
  rw[it.ok h1,bnd]
  subst hE
  exact uP E ρ2 hg body it.v s0 (h2 _ _))]
 exact (K _).ok h4⟩
inductive nC (σ τ:Type) where
 |nx (s:σ)|rt (r:τ)|bk (s:σ)|ct (s:σ)
def cC (E:σ->Ev) (c:τ->Bx):nC σ τ->Out
 |.nx s=>.nx (E s)
 |.rt r=>.rt (c r)
 |.bk s=>.bk (E s)
 |.ct s=>.ct (E s)
def iz (step:σ->α->nC σ τ):List α->σ->nC σ τ
 |[],s=>.nx s
 |x::xs,s=>match step s x with
  |.nx s'=>iz step xs s'
  |.ct s'=>iz step xs s'
  |.bk s'=>.nx s'
  |.rt r=>.rt r
def lF (step:σ->α->nC σ τ) (P:σ->α->Option Prop):List α->σ->Prop
 |[],_=>True
 |x::xs,s=>hold (P s x)/\match step s x with
  |.nx s'=>lF step P xs s'
  |.ct s'=>lF step P xs s'
  |.bk _=>True
  |.rt _=>True
theorem xW {c:τ->Bx} (E:σ->Ev) (ρ2:σ->α->Ev) (hg:∀ s x,gt (e x) (E s)=some (ρ2 s x)) (body:∀ s x,R gb (ρ2 s x) (cC E c)):∀ (xs:List α) (s:σ),lF (fun s x=>(body s x).v) (fun s x=>(body s x).D) xs s->ni gt gb (xs.map e) (E s)=some (cC E c (iz (fun s x=>(body s x).v) xs s))
 |[],s,_=>rfl
 |x::xs,s,h=>by
  obtain⟨h1,h2⟩:=h
  dsimp only at h2
  simp only[zl,ni,hg,bnd,(body s x).ok h1,iz]
  revert h2
  cases (body s x).v with
  |nx s'=>intro h2;exact xW E ρ2 hg body xs s' h2
  |ct s'=>intro h2;exact xW E ρ2 hg body xs s' h2
  |bk s'=>intro _;rfl
  |rt r=>intro _;rfl
theorem uQ (step:σ->α->nC σ τ):∀ (xs:List α) (s:σ),(∃ s',iz step xs s=.nx s')\/∃ r,iz step xs s=.rt r
 |[],s=>.inl ⟨s,rfl⟩
 |x::xs,s=>by
  unfold iz
  cases step s x with
  |nx s'=>exact uQ step xs s'
  |ct s'=>exact uQ step xs s'
  |bk s'=>exact .inl ⟨s',rfl⟩
  |rt r=>exact .inr ⟨r,rfl⟩
def behind (r:nC σ τ) (inj:τ->γ) (K:σ->γ):γ:=match r with
 |.rt r=>inj r
 |.nx s=>K s
 |.bk s=>K s
 |.ct s=>K s
def qR (r:nC σ τ) (K:σ->Prop):Prop:=match r with
 |.rt _=>True
 |.nx s=>K s
 |.bk s=>K s
 |.ct s=>K s
def K5 (r:nC σ τ) (K:σ->Option Prop):Option Prop:=some (qR r fun s=>hold (K s))
def R.to {α β:Type} {f:Ev->Option β} {ρ:Ev} {c:α->β} (x:R f ρ c) (v':α) (D':Option Prop) (hv:x.v=v':=by kernel_rfl) (hD:x.D=D':=by kernel_rfl):R f ρ c:=⟨v',D',fun h=>by
 subst hv hD
 exact x.ok h⟩
def YL {c:τ->Bx} (E:σ->Ev) (s0:σ) (hE:ρ=E s0) (it:R fi ρ (iE e)) (ρ2:σ->α->Ev) (hg:∀ s x,gt (e x) (E s)=some (ρ2 s x)) (body:∀ s x,R gb (ρ2 s x) (cC E c)) (inj:τ->γ) (hj:∀ r,cO (inj r)=.rt (c r)) (K:∀ s,R k (E s) cO):R (aG (qp fi gt gb) k) ρ cO:=⟨behind (iz (fun s x=>(body s x).v) it.v s0) inj fun s=>(K s).v,aY (aY it.D (some (lF (fun s x=>(body s x).v) (fun s x=>(body s x).D) it.v s0))) (K5 (iz (fun s x=>(body s x).v) it.v s0) fun s=>(K s).D),fun hd=>by
 obtain⟨h,h4⟩:=ao hd
 obtain⟨h1,h2⟩:=ao h
 have e1:qp fi gt gb ρ=some (cC E c (iz (fun s x=>(body s x).v) it.v s0)):=by
  unfold qp
  rw[it.ok h1,bnd]
  subst hE
  exact xW E ρ2 hg body it.v s0 h2
 rcases uQ (fun s x=>(body s x).v) it.v s0 with⟨s',es⟩|⟨r,es⟩
 ·rw[es] at e1 h4 ⊢
  rw[lB e1]
  exact (K s').ok h4
 ·rw[es] at e1 ⊢
  show aG (qp fi gt gb) k ρ=some (cO (inj r))
  unfold aG
  rw[e1,hj]
  rfl⟩
theorem YM {i:Nat} {ds:List Dt} (h:ρ[i]?=some (some (.l ds))):nq i gt gb ρ=ni gt gb ds ρ:=by unfold nq;rw[h]
theorem zf {i:Nat} {ds:List Dt} (h:ρ[i]?=some (some (.z (.tup ds)))):nq i gt gb ρ=ni gt gb ds ρ:=by unfold nq;rw[h];rfl
theorem YQ {i:Nat} {ds:List Dt} (h:ρ[i]?=some (some (.z (.lst ds)))):nq i gt gb ρ=ni gt gb ds ρ:=by unfold nq;rw[h];rfl
theorem YS {i:Nat} {ds:List Dt} {b:Bx} (hp:Lp b ds) (h:ρ[i]?=some (some b)):nq i gt gb ρ=ni gt gb ds ρ:=by
 rcases hp with rfl|rfl
 ·exact YQ h
 ·exact YM h
def Jp (i:Nat) {ρ':Ev} (xs:List α) (hv:nq i gt gb ρ=ni gt gb (xs.map e) ρ') (E:σ->Ev) (s0:σ) (hE:ρ'=E s0) (ρ2:σ->α->Ev) (hg:∀ s x,gt (e x) (E s)=some (ρ2 s x)) (body:∀ s x,R gb (ρ2 s x) (fun s=>Out.nx (E s))) (K:∀ s,R k (E s) cO):R (aG (nq i gt gb) k) ρ cO:=⟨(K (xs.foldl (fun s x=>(body s x).v) s0)).v,aY (some (qy (fun s x=>(body s x).v) (fun s x=>(body s x).D) xs s0)) (K (xs.foldl (fun s x=>(body s x).v) s0)).D,fun hd=>by
 obtain⟨h2,h4⟩:=ao hd
 rw[lB (ρ':=E (xs.foldl (fun s x=>(body s x).v) s0)) (by
  rw[hv,hE]
  exact uP E ρ2 hg body xs s0 h2)]
 exact (K _).ok h4⟩
def Dw {c:τ->Bx} (i:Nat) {ρ':Ev} (xs:List α) (hv:nq i gt gb ρ=ni gt gb (xs.map e) ρ') (E:σ->Ev) (s0:σ) (hE:ρ'=E s0) (ρ2:σ->α->Ev) (hg:∀ s x,gt (e x) (E s)=some (ρ2 s x)) (body:∀ s x,R gb (ρ2 s x) (cC E c)) (inj:τ->γ) (hj:∀ r,cO (inj r)=.rt (c r)) (K:∀ s,R k (E s) cO):R (aG (nq i gt gb) k) ρ cO:=⟨behind (iz (fun s x=>(body s x).v) xs s0) inj fun s=>(K s).v,aY (some (lF (fun s x=>(body s x).v) (fun s x=>(body s x).D) xs s0)) (K5 (iz (fun s x=>(body s x).v) xs s0) fun s=>(K s).D),fun hd=>by
 obtain⟨h2,h4⟩:=ao hd
 have e1:nq i gt gb ρ=some (cC E c (iz (fun s x=>(body s x).v) xs s0)):=by
  rw[hv,hE]
  exact xW E ρ2 hg body xs s0 h2
 rcases uQ (fun s x=>(body s x).v) xs s0 with⟨s',es⟩|⟨r,es⟩
 ·rw[es] at e1 h4 ⊢
  rw[lB e1]
  exact (K s').ok h4
 ·rw[es] at e1 ⊢
  show aG (nq i gt gb) k ρ=some (cO (inj r))
  unfold aG
  rw[e1,hj]
  rfl⟩
class Ky {κ:Type} (c:κ->Key):Prop where
 inj:∀ a b,c a=c b->a=b
abbrev kS:Str->Key:=Sum.inr
abbrev kI:Int->Key:=Sum.inl
instance:Ky kS:=⟨fun _ _ h=>by cases h;rfl⟩
instance:Ky kI:=⟨fun _ _ h=>by cases h;rfl⟩
abbrev mE (e:α->Dt):List (Str×α)->Bx:=fun m=>.m (m.map fun q=>(kS q.1,e q.2)) none
abbrev nE (e:α->Dt):List (Str×α)->Bx:=fun m=>.n (m.map fun q=>(kS q.1,e q.2))
section
variable {κ:Type} [DecidableEq κ] {c:κ->Key}
def look [Inhabited α] (m:List (κ×α)) (x:κ):α:=((m.find? fun q=>decide (q.1=x)).map (·.2)).getD default
def has (m:List (κ×α)) (x:κ):Bool:=m.any fun q=>decide (q.1=x)
def put (m:List (κ×α)) (x:κ) (a:α):List (κ×α):=if has m x=true then m.map (fun q=>if q.1=x then (q.1,a) else q) else m++[(x,a)]
theorem V9 [Ky c] (a b:κ):decide (c a=c b)=decide (a=b):=by
 by_cases h:a=b
 ·rw[h];simp
 ·rw[ZN h,ZN fun z=>h (Ky.inj (c:=c) _ _ z)]
theorem Q6 [Ky c] (m:List (κ×α)) (x:κ):yH (m.map fun q=>(c q.1,e q.2)) (c x)=((m.find? fun q=>decide (q.1=x)).map (·.2)).map e:=by
 unfold yH
 rw[List.find?_map]
 simp only[Option.map_map,Function.comp_def,V9]
theorem Q7 [Ky c] [Inhabited α] {m:List (κ×α)} {x:κ} (h:has m x=true):yH (m.map fun q=>(c q.1,e q.2)) (c x)=some (e (look m x)):=by
 rw[Q6]
 unfold look
 unfold has at h
 rw[QE] at h
 obtain⟨q,hq,hx⟩:=h
 cases hf:m.find? fun q=>decide (q.1=x) with
 |none=>exact absurd hx (by simpa using List.find?_eq_none.mp hf q hq)
 |some q=>rfl
theorem U9 [Ky c] (m:List (κ×α)) (x:κ) (a:α):Iw (m.map fun q=>(c q.1,e q.2)) (c x) (e a)=(put m x a).map fun q=>(c q.1,e q.2):=by
 unfold Iw put has
 rw[kK]
 simp only[Function.comp_def,V9]
 by_cases h:(m.any fun q=>decide (q.1=x))=true
 ·rw[zo h,zo h]
  rw[ZE,ZE]
  refine ZY fun q _=>?_
  simp only[Function.comp]
  by_cases hq:q.1=x
  ·simp[hq]
  ·have h':¬ c q.1=c x:=fun z=>hq (Ky.inj (c:=c) _ _ z)
   simp[hq,h']
 ·rw[zS h,zS h]
  simp
end
theorem Gx:∀ m:List (Str×α),Mu (m.map fun q=>(kS q.1,e q.2))=some (m.map (·.1))
 |[]=>rfl
 |q::m=>by rw[zl,Mu,Gx m,bnd];rfl
def YT (e:α->Dt):R (fun _=>some (.m [] none)) ρ (mE e):=⟨[],none,fun _=>rfl⟩
def Va (a:R fa ρ (nE e)):R (dY yI (au fa aK)) ρ (oE eS):=⟨bC (a.v.map (·.1)),aY a.D (some (a.v.length < 64)),fun h=>by
 obtain⟨h,h4⟩:=ao h
 simp only[dY,au,aK,a.ok h,bnd,yI,nE,Gx,zi,zo (show a.v.length < 64 from h4),ZE]⟩
end
section
variable {α β:Type} {ρ:Ev} {fa f:Ev->Option Bx} {fs:Ev->Option (List Str)} {fi:Ev->Option (List Dt)} {e:α->Dt}
abbrev sE:List Str->List Str:=fun ys=>ys
theorem Dy {b:Bx} {ds:List Dt} (h:m9 b=some ds):yD b=some ds:=by
 cases b with
 |z d=>cases d<;>first|exact h|(cases h;done)
 |l _=>exact h
 |o _=>exact h
 |n _=>cases h
 |m _ _=>cases h
def YW (a:R fs ρ sE):R (KJ fs) ρ (oE eS):=⟨bC (oR a.v),aY a.D (some (a.v.length < 4000/\(oR a.v).length < 64)),fun h=>by
 obtain⟨h,h4⟩:=ao h
 simp only[KJ,a.ok h,bnd]
 exact zo h4⟩
theorem Wa (n:Nat):∃ m,m=n:=⟨n,rfl⟩
noncomputable def kN (n:Nat):Nat:=Classical.choose (Wa n)
theorem wR (n:Nat):kN n=n:=Classical.choose_spec (Wa n)
noncomputable def Jq (n:Int) (m:Nat) (hm:n.toNat=m) (hn:Rg n):R (FT (au (cB (.int n)) aK)) ρ (iE eI):=⟨rng 0 (kN m),none,fun h=>by rw[wR];exact (YJ n m hm hn).ok h⟩
end
end P1
end
section
namespace P1
open PySem PySem.Spec PyProof.Rows L2 S1 S6
class mJ {α:Type} (e:α->Dt) where
 k:α->Key
 ok:∀ a,Ui (e a)=some (k a)
 inj:∀ a b,k a=k b->a=b
 same:∀ a b,Kv (k a) (k b)=true
instance:mJ eI:=⟨fun i=>.inl i,fun _=>rfl,fun a b h=>by cases h;rfl,fun _ _=>rfl⟩
instance:mJ eS:=⟨fun i=>.inr i,fun _=>rfl,fun a b h=>by cases h;rfl,fun _ _=>rfl⟩
class Wb {α:Type} (e:α->Dt) where
 k:α->List Key
 ok:∀ a,yN (e a)=some (k a)
 inj:∀ a b,k a=k b->a=b
 shp:∀ a b,Dh (k a) (k b)=true
 ne:∀ a,(k a).isEmpty=false
class YX {α:Type} (e:α->Dt) [Wb e]:Prop where
 tx:∀ a,Uz (Wb.k e a)=true
section
variable {α β γ δ:Type} {e:α->Dt} {e':β->Dt} {e'':γ->Dt} {e3:δ->Dt}
instance [mJ e] [mJ e']:Wb (ZD e e'):=⟨fun q=>[mJ.k e q.1,mJ.k e' q.2],fun q=>by simp only[yN,wJ,mJ.ok,bnd],fun a b h=>by
 simp only[kg,and_true] at h
 exact Prod.ext (mJ.inj _ _ h.1) (mJ.inj _ _ h.2),fun a b=>by simp[Dh,mJ.same],fun _=>rfl⟩
instance [mJ e] [mJ e'] [mJ e'']:Wb (eP3 e e' e''):=⟨fun q=>[mJ.k e q.1,mJ.k e' q.2.1,mJ.k e'' q.2.2],fun q=>by simp only[yN,wJ,mJ.ok,bnd],fun a b h=>by
 simp only[kg,and_true] at h
 exact Prod.ext (mJ.inj _ _ h.1) (Prod.ext (mJ.inj _ _ h.2.1) (mJ.inj _ _ h.2.2)),fun a b=>by simp[Dh,mJ.same],fun _=>rfl⟩
instance [mJ e] [mJ e'] [mJ e''] [mJ e3]:Wb (eP4 e e' e'' e3):=⟨fun q=>[mJ.k e q.1,mJ.k e' q.2.1,mJ.k e'' q.2.2.1,mJ.k e3 q.2.2.2],fun q=>by simp only[yN,wJ,mJ.ok,bnd],fun a b h=>by
 simp only[kg,and_true] at h
 exact Prod.ext (mJ.inj _ _ h.1) (Prod.ext (mJ.inj _ _ h.2.1) (Prod.ext (mJ.inj _ _ h.2.2.1) (mJ.inj _ _ h.2.2.2))),fun a b=>by simp[Dh,mJ.same],fun _=>rfl⟩
instance [mJ e]:YX (ZD e eS):=⟨fun a=>by simp[Wb.k,Uz,mJ.k]⟩
instance [mJ e] [mJ e']:YX (eP3 e eS e'):=⟨fun a=>by simp[Wb.k,Uz,mJ.k]⟩
instance [mJ e] [mJ e'] [mJ e'']:YX (eP4 e eS e' e''):=⟨fun a=>by simp[Wb.k,Uz,mJ.k]⟩
variable {ρ:Ev} {fa f:Ev->Option Bx} {fs:Ev->Option (List (List Key))}
end
end P1
end
section
namespace P1
open PySem PySem.Spec PyProof.Rows L2
section
variable {α β γ:Type} {ρ:Ev} {fa fb fd f fk fv:Ev->Option Bx} {fs:Ev->Option (List Bx)} {fi:Ev->Option (List Dt)} {e:α->Dt} {e':β->Dt} {g k:Ev->Option Out} {cO:γ->Out} {gt:Dt->Ev->Option Ev} {p:Ev->Option Bool} {is:List Nat} {n:Nat}
abbrev mW (w:Option Addr) (e:α->Dt):List (Str×α)->Bx:=fun m=>.m (m.map fun q=>(kS q.1,e q.2)) w
def Vb (w:Option Addr) (i:Nat) (m:List (Str×α)) (hi:ρ[i]?=some (some (mW w e m))) (a:R fa ρ (zE e)) (b:R fb ρ (zE eS)) (K:∀ m':List (Str×α),R k (ρ.set i (some (mW w e m'))) cO):R (aG (Qc i fa fb) k) ρ cO:=⟨(K (put m b.v a.v)).v,aY (aY (aY a.D b.D) (some (m.length < 1000))) (K (put m b.v a.v)).D,fun hd=>by
 obtain⟨h,h4⟩:=ao hd
 obtain⟨h,h3⟩:=ao h
 obtain⟨h1,h2⟩:=ao h
 rw[lB (ρ':=ρ.set i (some (mW w e (put m b.v a.v)))) (by
  unfold Qc
  rw[a.ok h1,bnd,b.ok h2,bnd]
  simp only[FZ,V2,bnd,hi,mW,zi,zo (show m.length < 1000 from h3),U9])]
 exact (K _).ok h4⟩
end
section
variable {α:Type} {ρ:Ev} {fa fb:Ev->Option Bx} {e:α->Dt}
def uR [DecidableEq α] (x:α) (ys:List α):Bool:=decide (x∈ys)
theorem Gy [DecidableEq α] {x:α} {ys:List α}:uR x ys=true↔x∈ys:=by unfold uR;rw[QY]
theorem Gz [DecidableEq α] {n:Nat} [Eqs e n] (hn:n<=60) (x:α) (ys:List α):Nj (e x) (ys.map e)=some (decide (x∈ys)):=by
 unfold Nj
 rw[zo]
 ·congr 1
  rw[kK,ki,QE,QY]
  constructor
  ·rintro⟨y,hy,h⟩
   simp only[Function.comp,Eqs.eq] at h
   by_cases q:y=x
   ·exact q▸hy
   ·simp[q,V4] at h
  ·intro h
   exact⟨x,h,by simp[Function.comp,Eqs.eq,V4]⟩
 ·rw[List.all_map,QQ]
  intro y _
  have:=Eqs.dp (e:=e) y
  simp only[Function.comp,Eqs.eq,Option.isSome_some,Bool.true_and,QY]
  omega
def aa4 [DecidableEq α] {n:Nat} [Eqs e n] (hn:n<=60) (a:R fa ρ (zE e)) (b:RL fb ρ e):R (b2 inX fa fb) ρ (zE eB):=⟨uR a.v b.v,aY a.D b.D,fun h=>by
 obtain⟨h1,h2⟩:=ao h
 simp only[b2,a.ok h1,b.ok h2,bnd,inX,Dy b.lk,Gz hn,uR]⟩
def YZ [DecidableEq α] {n:Nat} [Eqs e n] (hn:n<=60) (a:R fa ρ (zE e)) (b:RL fb ρ e):R (b2 QC fa fb) ρ (zE eB):=⟨!uR a.v b.v,aY a.D b.D,fun h=>by
 obtain⟨h1,h2⟩:=ao h
 simp only[b2,a.ok h1,b.ok h2,bnd,QC,Dy b.lk,Gz hn,uR]⟩
end
end P1
end
section
namespace P1
open PySem PySem.Spec PyProof.Rows L2 S1 S6
section
variable {ρ:Ev} {fa:Ev->Option Bx}
def kT (xs:List Str):List Key:=xs.map Sum.inr
theorem Y0 {a b:List Str} (h:kT a=kT b):a=b:=by
 unfold kT at h
 induction a generalizing b with
 |nil=>cases b with|nil=>rfl|cons _ _=>simp at h
 |cons x a ih=>cases b with
  |nil=>simp at h
  |cons y b=>
   simp only[zl,kg] at h
   rw[Sum.inr.inj h.1,ih h.2]
theorem GC:∀ (xs:List Str),wJ (xs.map eS)=some (kT xs)
 |[]=>rfl
 |x::xs=>by simp only[zl,wJ,Ui,bnd,GC xs];rfl
theorem BL:∀ (xss:List (List Str)),yO (xss.map (eT eS))=some (xss.map kT)
 |[]=>rfl
 |x::xss=>by simp only[zl,yO,yN,eT,GC,bnd,BL xss]
def Jr (a b:List Str):Bool:=sX (kT a) (kT b)
def oX (xss:List (List Str)):List (List Str):=xss.mergeSort Jr
theorem wU (xs:List (List Str)):(oX xs).Perm xs:=List.mergeSort_perm ..
theorem wV (xs:List (List Str)):(oX xs).Pairwise (fun a b=>Jr a b=true):=KB (le:=Jr) (fun a b c=>yK (kT a) (kT b) (kT c)) (fun a b=>yL (kT a) (kT b)) xs
theorem Nr {a b:List Str} (h:Jr a b=true) (h':Jr b a=true):a=b:=Y0 (Bo h h')
theorem Js (xs:List (List Str)):sY (xs.map kT)=(oX xs).map kT:=(Bp ((wU xs).map _) (List.pairwise_map.mpr (wV xs))).symm
theorem Vc (xs:List (List Str)):(xs.map kT).map tupK=xs.map (eT eS):=by
 rw[ZE]
 refine ZY fun a _=>?_
 show Dt.tup ((kT a).map dK)=Dt.tup (a.map eS)
 unfold kT
 rw[ZE]
 rfl
theorem Y4 (a b:List Str):Dh (kT a) (kT b)=true:=by
 unfold Dh kT
 rw[QQ]
 rintro⟨x,y⟩ h
 obtain⟨h1,h2⟩:=List.of_mem_zip h
 obtain⟨p,_,rfl⟩:=List.mem_map.mp h1
 obtain⟨q,_,rfl⟩:=List.mem_map.mp h2
 rfl
theorem Vd (xs:List (List Str)) (h:xs.length < 64) (hn:∀ x∈xs,x.isEmpty=false):Ul (xs.map kT)=true:=by
 simp only[Ul,qq,QY,QQ,JO,zi,List.mem_map,forall_exists_index,and_imp,forall_apply_eq_imp_iff₂]
 refine⟨h,fun a ha=>?_,fun a _ b _=>Y4 a b⟩
 have:=hn a ha
 cases a with
 |nil=>cases this
 |cons _ _=>rfl
def Ve (a:RL fa ρ (eT eS)):R (dY yP (au fa aK)) ρ (oE (eT eS)):=⟨oX a.v,aY a.D (some (a.v.length < 64/\∀ x∈a.v,x.isEmpty=false)),fun h=>by
 obtain⟨h,h4⟩:=ao h
 obtain⟨h4,h5⟩:a.v.length < 64/\∀ x∈a.v,x.isEmpty=false:=h4
 simp only[dY,au,aK,a.ok h,bnd,yP,Dy a.lk,BL,Vd a.v h4 h5,Q3,Js,Vc]⟩
end
section
variable {α:Type} {ρ:Ev} {f:Ev->Option Bx} {e:α->Dt}
theorem map_some (e:α->Dt) (xs:List α):(xs.map some).map (eO e)=xs.map e:=by rw[ZE];rfl
def acQ (a:R f ρ (oE e)):R f ρ (oE (eO e)):=⟨a.v.map some,a.D,fun h=>by rw[a.ok h];show _=some (Bx.o _);rw[map_some]⟩
def acR (a:R f ρ (lE e)):R f ρ (lE (eO e)):=⟨a.v.map some,a.D,fun h=>by rw[a.ok h];show _=some (Bx.l _);rw[map_some]⟩
end
end P1
end
section
namespace P1
open PySem PySem.Spec PyProof.Rows L2
section
variable {α:Type} {k g:Ev->Option Out} {ρ:Ev} {cO:α->Out}
def aa5 (i:Nat) (E:Ev) (hE:Yn i ρ=some E) (K:R (aG g k) E cO):R (aG (fzG i g) k) ρ cO:=⟨K.v,K.D,fun h=>by
 have:=K.ok h
 unfold aG at this ⊢
 unfold fzG
 rw[hE]
 exact this⟩
end
section
variable {α:Type} {e:α->Dt} {ρ:Ev} {fa fb:Ev->Option Bx}
end
section
variable {σ τ γ:Type} {p:Ev->Option Bool} {gb k:Ev->Option Out} {ρ:Ev} {cO:γ->Out}
end
section
variable {α:Type} {e:α->Dt} {ρ:Ev} {fa:Ev->Option Bx}
def enC (fs:Ev->Option (List Bx)):Ev->Option (List Dt):=fun ρ=>(fs ρ).bind Gn
def rO (xs:List α):List (Int×α):=(List.range xs.length).zipWith (fun (k:Nat) x=>((k:Int),x)) xs
theorem Nt (xs:List α):wN (xs.map e)=(rO xs).map (ZD eI e):=by
 unfold wN rO
 rw[zi,List.zipWith_map_right,List.map_zipWith]
def Vf (a:RL fa ρ e):R (enC (au fa aK)) ρ (iE (ZD eI e)):=⟨rO a.v,a.D,fun h=>by
 simp only[enC,au,aK,a.ok h,bnd,Gn,a.lk,Nt]⟩
end
section
variable {α β σ τ:Type}
theorem K6 {step:σ->α->σ} {P:σ->α->Option Prop} (I:Nat->σ->Prop):∀ (xs:List α) (m:Nat) (s0:σ),I m s0->(∀ k x s,xs[k]?=some x->I (m+k) s->hold (P s x)/\I (m+k+1) (step s x))->qy step P xs s0/\I (m+xs.length) (xs.foldl step s0)
 |[],m,s0,h0,_=>⟨trivial,h0⟩
 |x::xs,m,s0,h0,hs=>by
  obtain⟨h1,h2⟩:=hs 0 x s0 rfl h0
  have:=K6 I xs (m+1) (step s0 x) h2 fun k y s e h=>by
   have:=hs (k+1) y s (by simpa using e) (by rw[show m+(k+1)=m+1+k by omega];exact h)
   rw[show m+(k+1)+1=m+1+k+1 by omega] at this
   exact this
  refine⟨⟨h1,this.1⟩,?_⟩
  rw[qf,show m+(xs.length+1)=m+1+xs.length by omega]
  exact this.2
theorem Vg {i:Int} {n k:Nat} {x:Int} (h:(rng i n)[k]?=some x):x=i+k/\k < n:=by
 unfold rng at h
 rw[z4] at h
 cases hk:(List.range n)[k]? with
 |none=>rw[hk] at h;cases h
 |some j=>
  rw[hk] at h
  have hl:k < n:=by simpa using (List.getElem?_eq_some_iff.mp hk).1
  have:j=k:=by
   rw[kb hl] at hk
   cases hk;rfl
  subst this
  cases h
  exact⟨rfl,hl⟩
theorem jZ (i:Int) (n:Nat):(rng i n).length=n:=by unfold rng;simp
theorem qz {step:σ->Int->σ} {P:σ->Int->Option Prop} (I:Nat->σ->Prop) (n:Nat) (s0:σ) (h0:I 0 s0) (hs:∀ (k:Nat) s,k < n->I k s->hold (P s k)/\I (k+1) (step s k)):qy step P (rng 0 n) s0/\I n ((rng 0 n).foldl step s0):=by
 have:=K6 (P:=P) I (rng 0 n) 0 s0 h0 fun k x s e h=>by
  obtain⟨rfl,hk⟩:=Vg e
  rw[Nat.zero_add] at h ⊢
  rw[Int.zero_add]
  exact hs k s hk h
 rw[jZ,Nat.zero_add] at this
 exact this
theorem GD {step:Unit->α->nC Unit Bool} {P:Unit->α->Option Prop}:∀ xs:List α,(∀ x∈xs,hold (P () x)/\(step () x=.nx ()\/step () x=.ct ()))->iz step xs ()=.nx ()/\lF step P xs ()
 |[],_=>⟨rfl,trivial⟩
 |x::xs,h=>by
  obtain⟨h1,h2⟩:=h x (zh ..)
  have ih:=GD (P:=P) xs fun y hy=>h y (zg _ hy)
  rcases h2 with h2|h2
  ·exact⟨by unfold iz;rw[h2];exact ih.1,h1,by rw[h2];exact ih.2⟩
  ·exact⟨by unfold iz;rw[h2];exact ih.1,h1,by rw[h2];exact ih.2⟩
theorem Jt [Inhabited α] {xs:List α} {i:Int} (h:In xs.length i):at' xs i∈xs:=by
 obtain⟨x,hx⟩:=Dv h
 unfold at'
 rw[hx]
 unfold z8 at hx
 obtain⟨j,_,hx⟩:=bind_some hx
 exact JY hx
theorem Y5 [Inhabited α] {xs:List α} {k:Nat} {x:α} (h:xs[k]?=some x):at' xs (k:Int)=x:=by
 have hl:k < xs.length:=(List.getElem?_eq_some_iff.mp h).1
 unfold at' z8 Zr
 rw[zo (by omega),zo (by omega),bnd,kX,h]
 rfl
theorem Ju [Inhabited α] (xs:List α) (k:Nat) (h:k < xs.length):at' xs (k:Int)=xs[k]:=Y5 (ZA h)
theorem in_of {n:Nat} {i:Int} (h0:0<=i) (h1:i < n):In n i:=⟨by omega,h1⟩
theorem zj {n k:Nat} (h:k < n):In n (k:Int):=⟨by omega,by omega⟩
theorem Dz {n:Nat} {x m:Int} (hm:0 < m) (h:m<=n):In n (x % m):=in_of (Int.emod_nonneg _ (by omega)) (Int.lt_of_lt_of_le (Int.emod_lt_of_pos _ hm) h)
theorem mK (x:Int) {m:Int} (hm:0 < m):0<=x % m/\x % m < m:=⟨Int.emod_nonneg _ (by omega),Int.emod_lt_of_pos _ hm⟩
theorem zm {j:Int} (h0:0<=j) (h1:j<=1000000):Rg j:=⟨by omega,by omega⟩
theorem Wc {a b:Int} (h0:0<=a) (h1:a < 18446744073709551616):Mul a b:=.inl ⟨by omega,h1⟩
theorem xX (xs:List α) (lo hi:Option Int):(cut xs lo hi).length<=xs.length:=by
 unfold cut
 rw[kz,kA]
 omega
theorem uT {xs:List α} {k:Nat} (h:k<=xs.length):cut xs (some (k:Int)) none=xs.drop k:=by
 unfold cut
 rw[HT.J6,HT.Et,Nat.min_eq_left h,List.take_of_length_le (by simp)]
theorem Q8 {xs:List α} {k:Nat} (h:k<=xs.length):cut xs none (some (k:Int))=xs.take k:=by
 unfold cut
 rw[HT.J6,HT.Et,Nat.min_eq_left h,Nat.sub_zero,List.drop_zero]
theorem qC (x y:Str):(x++y).length=x.length+y.length:=by
 show (x.cps++y.cps).size=_
 rw[ku]
 rfl
theorem DG (x:Str) (i:Int):(ch x i).length=1:=rfl
theorem slice_le (x:Str) (l u:Option Int):(Txt.slice x l u).length<=x.length:=PyProof.Txt.length_slice_le x l u
end
section
variable {α γ:Type} [Inhabited α] {e:α->Dt} {ρ:Ev} {f:Ev->Option Bx} {k:Ev->Option Out} {cO:γ->Out}
def aa6 (i:Nat) (xs:List α) (hi:ρ[i]?=some (some (.o (xs.map e)))) (K:∀ ys:List α,R k (ρ.set i (some (.o (ys.map e)))) cO):R (aG (Np i) k) ρ cO:=⟨(K xs.reverse).v,(K xs.reverse).D,fun h=>by
 rw[lB (ρ':=ρ.set i (some (.o (xs.reverse.map e)))) (by
  unfold Np
  rw[hi]
  dsimp only
  rw[List.map_reverse])]
 exact (K xs.reverse).ok h⟩
end
section
variable {ρ:Ev} {fa:Ev->Option Bx}
end
section
variable {α γ:Type} {e:α->Dt} {ρ:Ev} {f:Ev->Option Bx} {k:Ev->Option Out} {cO:γ->Out}
def aa7 (i:Nat) (xs:List α) (hi:ρ[i]?=some (some (.o (xs.map e)))) (a:R f ρ (oE e)) (K:∀ ys:List α,R k (ρ.set i (some (.o (ys.map e)))) cO):R (aG (QG i f) k) ρ cO:=⟨(K (xs++a.v)).v,aY (aY a.D (some (Ej (xs.length+a.v.length)))) (K (xs++a.v)).D,fun hd=>by
 obtain⟨h1,h3⟩:=ao hd
 obtain⟨h1,h2⟩:=ao h1
 have h2:xs.length+a.v.length<=1000000:=h2
 rw[lB (ρ':=ρ.set i (some (.o ((xs++a.v).map e)))) (by
  unfold QG
  rw[a.ok h1,bnd]
  show U0 ρ i (.o (a.v.map e))=_
  simp only[U0,hi,zi,Zp]
  rw[zo (zv h2 (by decide))])]
 exact (K _).ok h3⟩
end
section
variable {α β γ:Type} {e:α->Dt} {f fa fb:Ev->Option Bx} {k g:Ev->Option Out} {ρ:Ev} {cO:γ->Out}
end
section
variable {α:Type} {e:α->Dt} {f fa fb:Ev->Option Bx} {ρ:Ev}
end
section
variable {α β γ:Type} {e:α->Dt} {e':β->Dt} {fa fb:Ev->Option Bx} {ρ:Ev}
end
def RP {α β:Type} (f:Ev->Option β) (ρ:Ev) (c:α->β) (v:α) (D:Option Prop):Prop:=hold D->f ρ=some (c v)
theorem R.tp {α β:Type} {f:Ev->Option β} {ρ:Ev} {c:α->β} {v':α} {D':Option Prop} (x:R f ρ c) (hv:x.v=v':=by kernel_rfl) (hD:x.D=D':=by kernel_rfl):RP f ρ c v' D':=fun h=>by
 subst hv hD
 exact x.ok h
def RP.r {α β:Type} {f:Ev->Option β} {ρ:Ev} {c:α->β} {v:α} {D:Option Prop} (h:RP f ρ c v D):R f ρ c:=⟨v,D,h⟩
theorem len1 {α:Type} {p:List α->Prop} (h:∀ a,p [a]):∀ us:List α,us.length=1->p us
 |[a],_=>h a
theorem len2 {α:Type} {p:List α->Prop} (h:∀ a b,p [a,b]):∀ us:List α,us.length=2->p us
 |[a,b],_=>h a b
end P1
end
section
namespace P1
open PySem PySem.Spec PyProof.Rows L2 S1
section
variable {prog:Program} {w:World} {A:Around} {E:Value->Shared->Prop} {s:Shared}
end
section
variable {X:Cx}
end
section
variable {fa:Ev->Option Bx} {ρ:Ev}
end
end P1
end
section
namespace P1
open PySem PySem.Spec PyProof.Rows L2
section
variable {i n:Nat} {is:List Nat} {f:Ev->Option Bx} {fs:Ev->Option (List Bx)} {p:Ev->Option Bool} {gt:Dt->Ev->Option Ev} {g1 g2 gb:Ev->Option Out}
end
section
variable {X:Cx} {st:Stmt} {rest:List Stmt} {g1 g2:Ev->Option Out}
end
section
variable {P:Program} {w:World} {K:PySem.W.Frag} {mg:Str->Option Value} {base:Heap}
end
section
variable {X:Cx} {pins:List (Addr×Obj)} {σ:L2.St} {H:Hp} {s:Shared} {a:Addr} {ks:List V} {o:Obj}
end
def Fr3 (Hb Hc H:Hp) (σ:L2.St) (i:Nat):Prop:=∃ (t p0 p1 p2:Addr) (x0 x1 x2:List V) (o0 o1 o2:Obj),(x0.length < 1000/\x2.length < 1000)/\σ[i]?=some (some (.ref t))/\H t=some (.tup [.ref p0,.ref p1,.ref p2])/\(H p0=some (.lq o0 (.lst x0))/\H p1=some (.lq o1 (.lst x1))/\H p2=some (.lq o2 (.lst x2)))/\(Hc p0=none/\Hc p1=none/\Hc p2=none)/\(p0≠p1/\p0≠p2/\p1≠p2)/\(∀ ob u,Hb p0≠some (.lq ob u))/\(∀ ob u,Hb p1≠some (.lq ob u))/\∀ ob u,Hb p2≠some (.lq ob u)
theorem Fr3.grow {Hb Hc H H':Hp} {σ σ':L2.St} {i:Nat} (h:Fr3 Hb Hc H σ i) (s:Same H H') (hs:σ'[i]?=σ[i]?):Fr3 Hb Hc H' σ' i:=by
 obtain⟨t,p0,p1,p2,x0,x1,x2,o0,o1,o2,l,e,ht,⟨h0,h1,h2⟩,r⟩:=h
 exact⟨t,p0,p1,p2,x0,x1,x2,o0,o1,o2,l,by rw[hs];exact e,s _ _ ht,⟨s _ _ h0,s _ _ h1,s _ _ h2⟩,r⟩
section
variable {X:Cx} {i:Nat} {M0 M1 M2 er:Expr} {f0 f2 f:Ev->Option Bx} {d0 d2:Dt} {z0 z1 z2 z3:Pos}
end
theorem aQ.sl {K:PySem.W.Frag} {H0 H:Hp} {σ:L2.St} {ρ:Ev} (E:aQ K H0 H σ ρ) {i:Nat} (h:∀ c,ρ[i]?≠some (some c)) (v:Option V):aQ K H0 H (σ.set i v) ρ:=by
 have ne:∀ {j:Nat} {c:Bx},ρ[j]?=some (some c)->(σ.set i v)[j]?=σ[j]?:=fun e=>List.getElem?_set_ne (fun z=>h _ (z▸e))
 exact⟨by rw[jb];exact E.len,fun j b e=>by rw[ne e];exact E.val j b e,fun j k c a b e1 e2 e3 e4 e5 e6=>E.own j k c a b e1 e2 (by rw[<-ne e1];exact e3) e4 e5 (by rw[<-ne e4];exact e6),E.base,fun j c a e1 e2 e3=>E.new j c a e1 e2 (by rw[<-ne e1];exact e3)⟩
section
variable {X:Cx} {st:List Stmt} {g:Ev->Option Out} {f fr fe:Ev->Option Bx} {p:Ev->Option Bool} {i i':Nat} {W:List Nat} {c e:Expr} {pos z:Pos}
end
section
variable {a b c g g1 g2 gb:Ev->Option Out} {f:Ev->Option Bx} {p:Ev->Option Bool} {i k:Nat} {gt:Dt->Ev->Option Ev}
end
end P1
end
section
namespace P1
open PySem PySem.Spec PyProof.Rows L2 S6
section
variable {X:Cx} {elt kx vx t1 i1 t2 i2:Expr} {f1 f2:List Expr} {scope:Scope} {cl:List (Str×Addr)} {pos:Pos} {xs:List Str} {is:List Nat} {g1 g2:Dt->Ev->Option Ev} {p1 p2:Ev->Option Bool} {fe fk fv:Ev->Option Bx} {ZF ZG:Ev->Option (List Dt)} {fs:Ev->Option (List Dt)} {N m:Nat} {Ac:Addr->Hp->List Dt->HO->Prop} {el:Addr->Env->Sem Unit}
def cls2 (fi:Ev->Option (List Dt)) (gt:Dt->Ev->Option Ev) (p:Ev->Option Bool) (fs:Ev->Option (List Dt)) (is:List Nat) (n:Nat):Ev->Option (List Dt):=fun ρ=>(fi ρ).bind fun ds=>q9 gt p fs (jf is ρ++List.replicate n none) ds
def zp (fi:Ev->Option (List Dt)) (gt:Dt->Ev->Option Ev) (p:Ev->Option Bool) (fs:Ev->Option (List Dt)) (is:List Nat) (n:Nat):Ev->Option Bx:=fun ρ=>(cls2 fi gt p fs is n ρ).bind fun out=>if out.length<=100000 then some (.o out) else none
structure Two (X:Cx) (ts:List Str) (m:Nat) (scope:Scope) (cl:List (Str×Addr)) (xs:List Str) (is:List Nat) (t1 i1:Expr) (f1:List Expr) (t2 i2:Expr) (f2:List Expr) (ZF ZG:Ev->Option (List Dt)) (g1 g2:Dt->Ev->Option Ev) (p1 p2:Ev->Option Bool):Prop where
 ok:oF X scope cl xs is
 calm:X.calm=true
 it1:Zw X t1 i1 ZF
 tg1:∀ C s₀ H₀ fp,RW (vI X (xs++ts) scope cl C s₀ H₀ fp) t1 g1
 c1:∀ C s₀ H₀ fp,sU (vI X (xs++ts) scope cl C s₀ H₀ fp) f1 p1
 k1:NT is.length m g1
 it2:∀ C s₀ H₀ fp,QIF (vI X (xs++ts) scope cl C s₀ H₀ fp) t2 i2 ZG
 tg2:∀ C s₀ H₀ fp,RW (vI X (xs++ts) scope cl C s₀ H₀ fp) t2 g2
 c2:∀ C s₀ H₀ fp,sU (vI X (xs++ts) scope cl C s₀ H₀ fp) f2 p2
 k2:NT m (is.length+ts.length) g2
 hm:is.length<=m:=by decide
 hm2:m<=is.length+ts.length:=by decide
 hs:∀ x,foldedSetIterable i1 X.env x=pure x:=by intro _;rfl
 hs2:∀ C x,foldedSetIterable i2 (compEnvC scope (cellsFrom (C+1) scope.names cl) C X.env) x=pure x:=by intro _ _;rfl
theorem NZ.no {K:PySem.W.Frag} {D:Addr} {H:Hp} {o1:List Dt} {o:HO}:NZ K D H o1 o->(∀ ob u,o≠.lq ob u)/\∀ vs,o≠.tup vs:=fun ⟨_,e,_⟩=>by subst e;exact⟨fun _ _ z=>(by cases z),fun _ z=>(by cases z)⟩
theorem Zz.no {D:Addr} {H:Hp} {o1:List Dt} {o:HO}:Zz X D H o1 o->(∀ ob u,o≠.lq ob u)/\∀ vs,o≠.tup vs:=fun ⟨_,e,_⟩=>by subst e;exact⟨fun _ _ z=>(by cases z),fun _ z=>(by cases z)⟩
theorem GF (ts:List Str) (W:Two X ts m scope cl xs is t1 i1 f1 t2 i2 f2 ZF ZG g1 g2 p1 p2) (he:∀ C s₀ H₀ fp,QV (vI X (xs++ts) scope cl C s₀ H₀ fp) elt fe) :
  QV X (.ListComp elt [⟨t1,i1,f1,0⟩,⟨t2,i2,f2,0⟩] scope pos) (zp ZF g1 p1 (inC ZG g2 p2 (Fq fe)) is ts.length):=⟨fun pins s σ H Q I h=>by
 obtain⟨H0,ρ,b,E,e,q⟩:=h
 obtain⟨out,eo,e⟩:=bind_some e
 obtain⟨ds,ed,eo⟩:=bind_some eo
 split at e
 ·rename_i hlen
  cases e
  rw[eval_ListComp]
  refine js (use:=none) rfl W.hs W.ok.clos W.ok.kind W.ok.names ?_
  refine iR (W.it1.run pins s σ H (fun J H'=>Same H H'/\Yields X.K J ds H') I ⟨H0,ρ,ds,E,ed,fun J H' s' y=>⟨s',y⟩⟩) fun v s1 h1=>iR h1 fun itv s2 h2=>?_
  obtain⟨it,fp,tn,J,H2,rfl,I2,T,st,hf,s12,Y⟩:=h2
  refine vR (Ac:=NZ X.K) (O0:=.lst []) (N:=100000) (RR:=fun acc C=>compPost (model X.prog X.w) X.A X.xe none (EP X pins σ Q) acc C) (ts:=ts) (xs:=xs) W.ok W.calm (fun C s₀ H₀ fp=>(W.tg1 C s₀ H₀ fp).run) (fun C s₀ H₀ fp=>(W.c1 C s₀ H₀ fp).run)
   (fun C s₀ H₀ fp=>Fp (X:=vI X (xs++ts) scope cl C s₀ H₀ fp) (comp:=.ListComp elt [⟨t1,i1,f1,0⟩,⟨t2,i2,f2,0⟩] scope pos) (d:=1) W.calm rfl (W.it2 C s₀ H₀ fp).run (W.tg2 C s₀ H₀ fp).run (W.c2 C s₀ H₀ fp).run (Kf (he C s₀ H₀ fp).run) W.k2 W.hm2 NZ.kp NZ.no (W.hs2 C) (fun _ _ _=>rfl) (Bj rfl fun h=>h) fun h=>h)
   W.k1 W.hm I2 ((E.grow s12).caps is ts.length) T st hf Y eo hlen ?_
   qa (fun _=>⟨qv _,[],0,.nil,zr _ rfl⟩) (fun _=>⟨[],rfl,aF.nil⟩) NZ.kp (fun _ _ _=>by simp only[bind_assoc,pure_bind];rfl) codeAny_compStart_list fun h=>h
  rintro D C s' H' o hD I' fC ⟨m,hn⟩ s2' hD' ⟨us,rfl,r'⟩
  refine⟨m,hn,fun h' sb=>⟨.ref D,H',?_,rfl,q _ _ (s12.trans s2') (fun a ea=>by cases ea;exact s12.free hD) ⟨D,us,rfl,hD',r'⟩⟩⟩
  obtain⟨f0,f1,f2,f3,f4,f5⟩:=fC
  exact I'.turned (t':=s'.toks) (fun b o hb e=>(sb.2 b hb).trans e) f0 f1 f3 f4 f5
 ·cases e⟩
def K7 (f:Ev->Option (List Dt)):Ev->Option (List Str):=fun ρ=>(f ρ).bind fun out=>if out.length<=4000 then rN out else none
theorem Nu (ts:List Str) (W:Two X ts m scope cl xs is t1 i1 f1 t2 i2 f2 ZF ZG g1 g2 p1 p2) (he:∀ C s₀ H₀ fp,QV (vI X (xs++ts) scope cl C s₀ H₀ fp) elt fe) :
  QVS X (.SetComp elt [⟨t1,i1,f1,0⟩,⟨t2,i2,f2,0⟩] scope pos) (K7 (cls2 ZF g1 p1 (inC ZG g2 p2 (Fq fe)) is ts.length)):=⟨fun pins s σ H Q I h=>by
 obtain⟨H0,ρ,ys,E,e,hl,q⟩:=h
 obtain⟨out,eo,e⟩:=bind_some e
 obtain⟨ds,ed,eo⟩:=bind_some eo
 split at e
 ·rename_i hlen
  have aa8:=Gj e
  have hst:∀ d∈out,∃ z,d=Dt.str z:=fun d hd=>by rw[aa8] at hd;obtain⟨z,_,rfl⟩:=List.mem_map.mp hd;exact⟨z,rfl⟩
  rw[arm_eval_SetComp]
  refine js (use:=none) rfl W.hs W.ok.clos W.ok.kind W.ok.names ?_
  refine iR (W.it1.run pins s σ H (fun J H'=>Same H H'/\Yields X.K J ds H') I ⟨H0,ρ,ds,E,ed,fun J H' s' y=>⟨s',y⟩⟩) fun v s1 h1=>iR h1 fun itv s2 h2=>?_
  obtain⟨it,fp,tn,J,H2,rfl,I2,T,st,hf,s12,Y⟩:=h2
  have hel:∀ C s₀ H₀ fp,Fo (vI X (xs++ts) scope cl C s₀ H₀ fp) (fun D env=>do let v <-eval elt env;standAt elt.pos;let _ <-call (.builtin "set.add") [.ref D,v]) (aaU fe) (Zz X) 4000 (is.length+ts.length):=fun C s₀ H₀ fp=>Yl (he C s₀ H₀ fp).run
  refine vR (Ac:=Zz X) (O0:=hoS X s2.heap.objs.size []) (N:=4000) (RR:=fun acc C=>compPost (model X.prog X.w) X.A X.xe none (EP X pins σ Q) acc C) (ts:=ts) (xs:=xs) W.ok W.calm (fun C s₀ H₀ fp=>(W.tg1 C s₀ H₀ fp).run) (fun C s₀ H₀ fp=>(W.c1 C s₀ H₀ fp).run)
   (fun C s₀ H₀ fp=>Fp (X:=vI X (xs++ts) scope cl C s₀ H₀ fp) (comp:=.SetComp elt [⟨t1,i1,f1,0⟩,⟨t2,i2,f2,0⟩] scope pos) (d:=1) W.calm rfl (W.it2 C s₀ H₀ fp).run (W.tg2 C s₀ H₀ fp).run (W.c2 C s₀ H₀ fp).run (hel C s₀ H₀ fp) W.k2 W.hm2 (fun _ h=>h) Zz.no (W.hs2 C) (fun _ _ _=>rfl) (Bj rfl fun h=>h) fun h=>h)
   W.k1 W.hm I2 ((E.grow s12).caps is ts.length) T st hf Y (Ds (aaV one_up) eo hst) hlen ?_
   Nb (fun _=>Qw (zr _ rfl)) (fun _=>⟨[],rfl,by simp,Qb,by simp,zk _⟩) (fun _ h=>h) (fun _ _ _=>by simp only[bind_assoc,pure_bind];rfl) Nf fun h=>h
  rintro D C s' H' o hD I' fC ⟨m,hn⟩ s2' hD' ⟨zs,rfl,mz,nd,hz,_⟩
  refine⟨m,hn,fun h' sb=>⟨.ref D,H',?_,rfl,q D zs H' (s12.trans s2') hD' (fun z=>?_) nd hz⟩⟩
  ·obtain⟨f0,f1,f2,f3,f4,f5⟩:=fC
   exact I'.turned (t':=s'.toks) (fun b o hb e=>(sb.2 b hb).trans e) f0 f1 f3 f4 f5
  ·rw[mz z,aa8]
   constructor
   ·intro q'
    obtain⟨y,hy,e⟩:=List.mem_map.mp q'
    cases e;exact hy
   ·exact fun q'=>List.mem_map.mpr ⟨z,q',rfl⟩
 ·cases e⟩
end
end P1
end
section
namespace P1
open PySem PySem.Spec PyProof.Rows L2
section
variable {α β:Type} {ρ:Ev} {e:α->Dt} {e':β->Dt} {p:Ev->Option Bool} {fi fs:Ev->Option (List Dt)} {gt:Dt->Ev->Option Ev} {fe:Ev->Option Bx} {is:List Nat} {n:Nat}
theorem GJ {g:α->List β}:∀ xs:List α,(xs.flatMap g).map e'=xs.flatMap fun x=>(g x).map e'
 |[]=>rfl
 |x::xs=>by rw[jn,Zp,GJ xs];rfl
def Q9 (it:R fi ρ (iE e)) (ρ2:α->Ev) (hg:∀ x,gt (e x) (jf is ρ++List.replicate n none)=some (ρ2 x)) (b:∀ x,R fs (ρ2 x) (iE e')):R (cls2 fi gt lJ fs is n) ρ (iE e'):=⟨it.v.flatMap fun x=>(b x).v,aY it.D (Q5 it.v fun x=>(b x).D),fun h=>by
 obtain⟨h1,h2⟩:=ao h
 have h2:∀ x∈it.v,hold (b x).D:=h2
 simp only[cls2,it.ok h1,bnd]
 rw[yZ (π:=fun _=>true) (g:=fun x=>(b x).v.map e') it.v fun x hx=>⟨ρ2 x,hg x,rfl,fun _=>(b x).ok (h2 x hx)⟩,List.filter_eq_self.mpr fun _ _=>rfl]
 rw[iE,GJ]⟩
def Ra (it:R fi ρ (iE e)) (ρ2:α->Ev) (hg:∀ x,gt (e x) ρ=some (ρ2 x)) (b:∀ x,R fe (ρ2 x) (zE e')):R (inC fi gt lJ (Fq fe)) ρ (iE e'):=⟨it.v.map fun x=>(b x).v,aY it.D (Q5 it.v fun x=>(b x).D),fun h=>by
 obtain⟨h1,h2⟩:=ao h
 have h2:∀ x∈it.v,hold (b x).D:=h2
 simp only[inC,it.ok h1,bnd]
 exact comp_map it.v fun x hx=>⟨ρ2 x,hg x,(b x).ok (h2 x hx)⟩⟩
def K8 (a:R (cls2 fi gt p fs is n) ρ (iE e)):R (zp fi gt p fs is n) ρ (oE e):=⟨a.v,aY a.D (some (a.v.length<=100000)),fun h=>by
 obtain⟨h1,h2⟩:=ao h
 simp only[zp,a.ok h1,bnd,zi,zo (show a.v.length<=100000 from h2)]⟩
def Y6 (a:R fs ρ (iE eS)):R (K7 fs) ρ sE:=⟨a.v,aY a.D (some (a.v.length<=4000)),fun h=>by
 obtain⟨h1,h2⟩:=ao h
 simp only[K7,a.ok h1,bnd,zi,zo (show a.v.length<=4000 from h2),strs_map]⟩
end
section
variable {X:Cx}
abbrev Vh:=i2 fun i j=>if 0<=j then some (.int (i / 2 ^ j.toNat)) else none
abbrev K9:=i2 fun i j=>some (.int (Builtin.bitAnd i j))
theorem Rb:Cy X (binaryOp .RShift) Vh:=yC W5 fun i j d H Q e q=>by
 split at e
 ·rename_i h;cases e;exact⟨i,j,rfl,rfl,h,q _ okI⟩
 ·cases e
theorem La:Cy X (binaryOp .BitAnd) K9:=yC W6 fun i j d H Q e q=>by cases e;exact⟨i,j,rfl,rfl,q _ okI⟩
def Wf:V->List V->Hp->VK->Prop:=fun x vs H Q=>∃ l ks k v,x=.ref l/\vs=[kV k,v]/\H l=some (.dK ks)/\ks.length < sizeLine/\(∀ w,mF ks k=some w->Q w H)/\(mF ks k=none->Q v (upd H l (.dK (putK ks k v))))
theorem Vi:MtM X "dict.setdefault" Wf:=by
 intro pins s σ H x vs v us Q I rx rv h
 obtain⟨l,ks,k,y,rfl,rfl,hH,hz,q1,q2⟩:=h
 cases rx
 obtain⟨uk,uy,rfl,rk,ry⟩:=rv.two
 obtain⟨z,hd,vs,rel,dd⟩:=VJ I.hok hH
 have hvl:vs.length<=sizeLine:=by rw[<-rel.length];exact z
 refine Qr PySem.F.slot_dict_setdefault dd.typeIs PySem.F.entry_dict_setdefault ?_ (PySem.F.args_dict_setdefault_3 _ _ _)
 unfold Builtin.«dict.setdefault»
 refine zb ?_
 unfold Builtin.Dict.keyAndDefault
 refine zb (wpAny_notOrdered_dict dd.typeIs ?_)
 show wpAny _ _ (pure (l,uk,some uy)) _ _ s
 refine zd ?_
 show wpAny _ _ (if (l==sysModules)=true then _ else (dictSetDefault l uk uy >>= _)) _ _ s
 rw[zS (by rw[hd];exact zC)]
 refine zb (kt_dictSetDefault_pairs (hsz:=hvl) (Ey rk) dd (fun w hw=>?_) fun hn h' Xm hs=>?_)
 ·have hr:=rel.val k
  rw[hw] at hr
  cases hv:mF ks k with
  |none=>rw[hv] at hr;exact hr.elim
  |some w'=>
   rw[hv] at hr
   exact zd ⟨w,rfl,w',H,I.kept (t':=s.toks+1) fun _ _ e=>e,hr,q1 w' hv⟩
 ·have hv:mF ks k=none:=by
   have hr:=rel.val k
   rw[hn] at hr
   cases hv:mF ks k with
   |none=>rfl
   |some w'=>rw[hv] at hr;exact hr.elim
  have hl:(putK ks k y).length<=sizeLine:=by have:=pY ks k y;omega
  have he:∃ q,h'.get? l=some q:=let ⟨q,_,_,hq,_⟩:=Xm;⟨q,hq⟩
  exact zd ⟨uy,rfl,y,_,Cv (t':=s.toks+1) I (by rw[hH];exact True.intro) hs he (Oq hl hd (rel.put k ry) Xm),ry,q2 hv⟩
end
section
variable {ρ:Ev} {fa fb:Ev->Option Bx}
def Wg (a:R fa ρ (zE eI)) (b:R fb ρ (zE eI)):R (b2 Vh fa fb) ρ (zE eI):=⟨a.v / 2 ^ b.v.toNat,aY (aY a.D b.D) (some (0<=b.v)),fun h=>by
 obtain⟨h,h3⟩:=ao h
 obtain⟨h1,h2⟩:=ao h
 have h3:0<=b.v:=h3
 simp only[b2,a.ok h1,b.ok h2,bnd,i2,zo h3]⟩
def Rc (a:R fa ρ (zE eI)) (b:R fb ρ (zE eI)):R (b2 K9 fa fb) ρ (zE eI):=⟨Builtin.bitAnd a.v b.v,aY a.D b.D,fun h=>by
 obtain⟨h1,h2⟩:=ao h
 simp only[b2,a.ok h1,b.ok h2,bnd,i2]⟩
end
def hx (h:Heap) (a:Addr):HO:=.ext fun h'=>h'.get? a=h.get? a
def LD (o:Option HO):Prop:=(∃ xs,o=some (.lst xs))\/∃ ks,o=some (.dK ks)
def Sep (as:List Addr) (σ:L2.St) (ρ:Ev):Prop:=∀ (j:Nat) c a,ρ[j]?=some (some c)->loose c=true->σ[j]?=some (some (.ref a))->a∉as
section
variable {X:Cx} {pins:List (Addr×Obj)} {σ:L2.St} {H H2:Hp} {s:Shared} {as:List Addr}
theorem LD.at {P:Program} {w:World} {H H':Hp} {h h':Heap} {a:Addr} {o:HO} (k:LD (some o)) (e:h'.get? a=h.get? a) (x:dX P w H h a o):dX P w H' h' a o:=by
 rcases k with⟨xs,hk⟩|⟨ks,hk⟩
 ·cases hk
  obtain⟨z,its,n,v,g⟩:=x
  exact⟨z,its,n,v,e.trans g⟩
 ·cases hk
  obtain⟨z,hd,vs,kv,o,es,ep,ho,r⟩:=x
  exact⟨z,hd,vs,kv,o,es,ep,e.trans ho,r⟩
theorem LD.obj {P:Program} {w:World} {H:Hp} {h:Heap} {a:Addr} (k:LD (H a)) (x:tM P w H h):∃ o,h.get? a=some o:=by
 rcases k with⟨xs,hk⟩|⟨ks,hk⟩
 ·obtain⟨_,its,n,_,g⟩:=x a _ hk
  exact⟨_,g⟩
 ·obtain⟨_,_,vs,_,o,es,ep,ho,_⟩:=x a _ hk
  exact⟨o,ho⟩
theorem aQ.move {K:PySem.W.Frag} {Hb Zu H H':Hp} {σ:L2.St} {ρ:Ev} (E:aQ K Hb H σ ρ) (S:Sep as σ ρ) (kp:Kp H H') (ho:∀ b,b∉as->H' b=H b) (hb:Same Zu H') (hn:∀ (j:Nat) c a,ρ[j]?=some (some c)->pZ c=true->σ[j]?=some (some (.ref a))->Zu a=none):aQ K Zu H' σ ρ:=by
 refine⟨E.len,fun j b e=>?_,E.own,hb,hn⟩
 obtain⟨v,ev,rb⟩:=E.val j b e
 refine⟨v,ev,?_⟩
 cases b with
 |z d=>exact Rep.kp kp rb
 |l dz=>
  obtain⟨a,vs,rfl,q,rr⟩:=rb
  have ha:=ho a (S j _ a e rfl ev)
  exact⟨a,vs,rfl,q.imp (fun q=>ha.trans q) fun ⟨o,q⟩=>⟨o,ha.trans q⟩,rr.kp kp⟩
 |o dz=>
  obtain⟨a,vs,rfl,q,rr⟩:=rb
  exact⟨a,vs,rfl,(ho a (S j _ a e rfl ev)).trans q,rr.kp kp⟩
 |n dz=>
  obtain⟨a,vs,rfl,q,rr⟩:=rb
  have ha:=ho a (S j _ a e rfl ev)
  exact⟨a,vs,rfl,q.imp (fun q=>ha.trans q) fun ⟨o,q⟩=>⟨o,ha.trans q⟩,rr.kp kp⟩
 |m dz _=>
  obtain⟨a,vs,rfl,q,rr⟩:=rb
  exact⟨a,vs,rfl,(ho a (S j _ a e rfl ev)).trans q,rr.1.kp kp,rr.2⟩
end
section
variable {X:Cx} {pins:List (Addr×Obj)} {σ:L2.St} {H:Hp} {s:Shared}
theorem wW:∀ {as:List Addr} {H:Hp},L2.Inv X pins σ H s->(∀ a∈as,∃ vs,H a=some (.lst vs))->as.Nodup->∃ H',L2.Inv X pins σ H' s/\Kp H H'/\(∀ b,b∉as->H' b=H b)/\∀ a∈as,∃ o vs,H a=some (.lst vs)/\H' a=some (.lq o (.lst vs))
 |[],H,I,_,_=>⟨H,I,⟨fun _ _ e=>e,fun _ _ _ e=>e⟩,fun _ _=>rfl,fun _ h=>by cases h⟩
 |a::as,H,I,h,nd=>by
  obtain⟨na,nd⟩:=List.nodup_cons.mp nd
  obtain⟨vs,hv⟩:=h a (zh ..)
  obtain⟨o,I1⟩:=sJ I hv
  have kp1:Kp H (upd H a (.lq o (.lst vs))):=.lst hv
  obtain⟨H',I',kp2,h1,h2⟩:=wW (as:=as) I1 (fun b hb=>by
   obtain⟨ws,e⟩:=h b (zg _ hb)
   exact⟨ws,by rw[aC (show b≠a from fun z=>na (by rw[<-z];exact hb))];exact e⟩) nd
  refine⟨H',I',⟨fun b xs e=>kp2.t _ _ (kp1.t _ _ e),fun b ob u e=>kp2.f _ _ _ (kp1.f _ _ _ e)⟩,fun b hb=>?_,fun b hb=>?_⟩
  ·rw[h1 b fun z=>hb (zg _ z),aC (show b≠a from fun z=>hb (by rw[z];exact zh ..))]
  ·rcases List.mem_cons.mp hb with rfl|hb
   ·exact⟨o,vs,hv,by rw[h1 _ na];exact aP⟩
   ·obtain⟨ob,ws,e1,e2⟩:=h2 b hb
    rw[aC (show b≠a from fun z=>na (by rw[<-z];exact hb))] at e1
    exact⟨ob,ws,e1,e2⟩
def Fzn (P:L2.St->Hp->Prop):L2.St->Hp->Prop:=fun σ H=>∃ as:List Addr,as.Nodup/\(∀ a∈as,∃ vs,H a=some (.lst vs))/\∀ H',Kp H H'->(∀ b,b∉as->H' b=H b)->(∀ a∈as,∃ o vs,H a=some (.lst vs)/\H' a=some (.lq o (.lst vs)))->P σ H'
theorem Y7 {st:Stmt} {t:TS} (h:PS X st t):PS X st (fun D σ H=>t { D with nx:=Fzn D.nx } σ H):=fun pins s σ H D I q=>by
 refine iR (h pins s σ H _ I q) fun f s1 q=>?_
 cases f with
 |next=>
  obtain⟨σ',H',I',as,nd,k,q⟩:=q
  obtain⟨H2,I2,kp,h1,h2⟩:=wW I' k nd
  exact⟨σ',H2,I2,q H2 kp h1 h2⟩
 |ret v=>exact q
 |brk=>exact q
 |cont=>exact q
def qD {α:Type} (m:List (Int×List α)) (k:Int) (d:α):List (Int×List α):=if (m.any fun q=>decide (q.1=k))=true then m.map fun q=>if q.1=k then (q.1,q.2++[d]) else q else m++[(k,[d])]
def DK (k j:Nat) (f1:Ev->Option Bx) (p:Ev->Option Bool) (f2 fv:Ev->Option Bx) (ρ:Ev):List Dt->List (Int×List Dt)->Option (List (Int×List Dt))
 |[],m=>some m
 |d::ds,m=>(f1 (ρ.set k (some (.z d)))).bind fun b1=>match b1 with
  |.z d1=>(p ((ρ.set k (some (.z d))).set j (some (.z d1)))).bind fun t=>(if t=true then f2 ((ρ.set k (some (.z d))).set j (some (.z d1))) else some (.z d1)).bind fun b2=>match b2 with
   |.z (.int y)=>(fv (((ρ.set k (some (.z d))).set j (some (.z d1))).set j (some (.z (.int y))))).bind fun v=>match v with
    |.z x=>if m.length < 1000/\(∀ q∈m,q.2.length < 1000) then DK k j f1 p f2 fv ρ ds (qD m y x) else none
    |_=>none
   |_=>none
  |_=>none
def zq (i j k:Nat) (fi:Ev->Option (List Dt)) (f1:Ev->Option Bx) (p:Ev->Option Bool) (f2 fv:Ev->Option Bx):Ev->Option Out:=fun ρ=>match ρ[i]? with
 |some (some (.m [] none))=>if j < ρ.length then (fi (((ρ.set i none).set j none).set k none)).bind fun ds=>(DK k j f1 p f2 fv (((ρ.set i none).set j none).set k none) ds []).bind fun m=>
  some (.nx ((((ρ.set i none).set j none).set k none).set i (some (.m (m.map fun q=>(Sum.inl q.1,Dt.lst q.2)) none)))) else none
 |_=>none
structure Gp (K:PySem.W.Frag) (H:Hp) (D:Addr) (gs:List (Int×Addr×List Dt)):Prop where
 d:H D=some (.dK (gs.map fun g=>(Sum.inl g.1,V.ref g.2.1)))
 l:∀ g∈gs,∃ vs,H g.2.1=some (.lst vs)/\aF K H g.2.2 vs
 k:(gs.map (·.1)).Nodup
 a:(gs.map (·.2.1)).Nodup
def zu (D:Addr) (gs:List (Int×Addr×List Dt)):List Addr:=D::gs.map (·.2.1)
def BP (gs:List (Int×Addr×List Dt)):List (Int×List Dt):=gs.map fun g=>(g.1,g.2.2)
theorem Gp.ld {K:PySem.W.Frag} {H:Hp} {D:Addr} {gs:List (Int×Addr×List Dt)} (G:Gp K H D gs):∀ a∈zu D gs,LD (H a):=fun a ha=>by
 rcases List.mem_cons.mp ha with rfl|ha
 ·exact .inr ⟨_,G.d⟩
 ·obtain⟨g,hg,rfl⟩:=List.mem_map.mp ha
  obtain⟨vs,e,_⟩:=G.l g hg
  exact .inl ⟨vs,e⟩
theorem Gp.kept {K:PySem.W.Frag} {H H':Hp} {D:Addr} {gs:List (Int×Addr×List Dt)} (G:Gp K H D gs) (h:∀ a∈zu D gs,H' a=H a) (r:∀ ds vs,aF K H ds vs->aF K H' ds vs):Gp K H' D gs:=
 ⟨(h D (zh ..)).trans G.d,fun g hg=>let ⟨vs,e,q⟩:=G.l g hg;⟨vs,(h _ (zg _ (List.mem_map.mpr ⟨g,hg,rfl⟩))).trans e,r _ _ q⟩,G.k,G.a⟩
theorem Gp.same {K:PySem.W.Frag} {H H':Hp} {D:Addr} {gs:List (Int×Addr×List Dt)} (G:Gp K H D gs) (s:Same H H'):Gp K H' D gs:=
 ⟨s _ _ G.d,fun g hg=>let ⟨vs,e,q⟩:=G.l g hg;⟨vs,s _ _ e,q.kp (.of s)⟩,G.k,G.a⟩
theorem Gp.val {gs:List (Int×Addr×List Dt)} {k:Int}:∀ {w:V},mF (gs.map fun g=>((Sum.inl g.1:Key),V.ref g.2.1)) (Sum.inl k)=some w->∃ g∈gs,g.1=k/\w=.ref g.2.1:=by
 induction gs with
 |nil=>intro w e;cases e
 |cons g gs ih=>
  intro w e
  rw[zl] at e
  by_cases hk:g.1=k
  ·rw[pW (by rw[hk])] at e
   cases e
   exact⟨g,zh ..,hk,rfl⟩
  ·rw[pX (by simpa using hk)] at e
   obtain⟨g',h1,h2,h3⟩:=ih e
   exact⟨g',zg _ h1,h2,h3⟩
theorem Vj {gs:List (Int×Addr×List Dt)} {k:Int}:((BP gs).any fun q=>decide (q.1=k))=(mF (gs.map fun g=>((Sum.inl g.1:Key),V.ref g.2.1)) (Sum.inl k)).isSome:=by
 rw[<-tW,BP,kK,kK]
 congr 1
 funext g
 simp
end
section
variable {K:PySem.W.Frag} {H:Hp} {D l:Addr} {gs:List (Int×Addr×List Dt)} {k:Int} {x:Dt} {u:V}
theorem uU {α β:Type} {f:α->β}:∀ {xs:List α},(xs.map f).Nodup->∀ {a b:α},a∈xs->b∈xs->f a=f b->a=b
 |y::ys,h,a,b,ha,hb,e=>by
  obtain⟨h1,h2⟩:=List.nodup_cons.mp (show (f y::ys.map f).Nodup from h)
  rcases List.mem_cons.mp ha with q|q<;>rcases List.mem_cons.mp hb with t|t
  ·rw[q,t]
  ·exact absurd (List.mem_map.mpr ⟨b,t,by rw[<-e,q]⟩) h1
  ·exact absurd (List.mem_map.mpr ⟨a,q,by rw[e,t]⟩) h1
  ·exact uU h2 q t e
def pL (gs:List (Int×Addr×List Dt)) (k:Int) (x:Dt):List (Int×Addr×List Dt):=gs.map fun g=>if g.1=k then (g.1,g.2.1,g.2.2++[x]) else g
theorem Gp.app (G:Gp K H D gs) {g:Int×Addr×List Dt} (hg:g∈gs) (hk:g.1=k) {vs:List V} (hv:H g.2.1=some (.lst vs)) (r:aF K H g.2.2 vs) (rx:Rep K H x u) :
  Gp K (upd H g.2.1 (.lst (vs++[u]))) D (pL gs k x)/\zu D (pL gs k x)=zu D gs/\BP (pL gs k x)=qD (BP gs) k x:=by
 have kp:Kp H (upd H g.2.1 (.lst (vs++[u]))):=.lst hv
 have e1:(pL gs k x).map (·.1)=gs.map (·.1):=by unfold pL;rw[ZE];exact ZY fun g _=>by simp only[Function.comp];split<;>rfl
 have e2:(pL gs k x).map (·.2.1)=gs.map (·.2.1):=by unfold pL;rw[ZE];exact ZY fun g _=>by simp only[Function.comp];split<;>rfl
 have e3:((pL gs k x).map fun g=>((Sum.inl g.1:Key),V.ref g.2.1))=gs.map fun g=>(Sum.inl g.1,V.ref g.2.1):=by unfold pL;rw[ZE];exact ZY fun g _=>by simp only[Function.comp];split<;>rfl
 refine⟨⟨?_,fun g' hg'=>?_,by rw[e1];exact G.k,by rw[e2];exact G.a⟩,by unfold zu;rw[e2],?_⟩
 ·rw[e3,aC (j9 G.d hv (by intro z;cases z))];exact G.d
 ·obtain⟨g0,h0,rfl⟩:=List.mem_map.mp hg'
  by_cases hk0:g0.1=k
  ·have:g0=g:=uU G.k h0 hg (by rw[hk0,hk])
   subst this
   rw[zo hk0]
   exact⟨_,aP,(r.append (aF.cons rx aF.nil)).kp kp⟩
  ·rw[zS hk0]
   obtain⟨ws,ew,Ka⟩:=G.l g0 h0
   refine⟨ws,?_,Ka.kp kp⟩
   rw[aC fun z=>hk0 (by rw[uU (f:=fun g:Int×Addr×List Dt=>g.2.1) G.a h0 hg z];exact hk)]
   exact ew
 ·unfold qD
  have:((BP gs).any fun q=>decide (q.1=k))=true:=List.any_eq_true.mpr ⟨(g.1,g.2.2),List.mem_map.mpr ⟨g,hg,rfl⟩,by simpa using hk⟩
  rw[zo this]
  unfold BP pL
  rw[ZE,ZE]
  exact ZY fun g _=>by simp only[Function.comp];split<;>rfl
theorem Gp.new (G:Gp K H D gs) (hn:mF (gs.map fun g=>((Sum.inl g.1:Key),V.ref g.2.1)) (Sum.inl k)=none) (hl:H l=some (.lst [])) (hla:l∉zu D gs) :
  Gp K (upd H D (.dK (putK (gs.map fun g=>(Sum.inl g.1,V.ref g.2.1)) (Sum.inl k) (.ref l)))) D (gs++[(k,l,[])]):=by
 have kp:Kp H (upd H D (.dK (putK (gs.map fun g=>(Sum.inl g.1,V.ref g.2.1)) (Sum.inl k) (.ref l)))):=.dk G.d
 have hany:((gs.map fun g=>((Sum.inl g.1:Key),V.ref g.2.1)).any fun kv=>decide (kv.1=Sum.inl k))=false:=by rw[tW,hn];rfl
 have hlD:l≠D:=fun z=>hla (by rw[z];exact zh ..)
 have hkn:k∉gs.map (·.1):=fun z=>by
  obtain⟨g,hg,e⟩:=List.mem_map.mp z
  have:=List.any_eq_false.mp hany _ (List.mem_map.mpr ⟨g,hg,rfl⟩)
  simp only[QY] at this
  exact this (by rw[e])
 refine⟨?_,fun g hg=>?_,?_,?_⟩
 ·rw[aP,putK,zS (by rw[hany];exact zC),Zp];rfl
 ·rcases List.mem_append.mp hg with hg|hg
  ·obtain⟨vs,e,r⟩:=G.l g hg
   exact⟨vs,by rw[aC fun z=>by rw[z,G.d] at e;cases e];exact e,r.kp kp⟩
  ·cases List.mem_singleton.mp hg
   exact⟨[],by rw[aC hlD];exact hl,aF.nil⟩
 ·rw[Zp,qS]
  exact⟨G.k,by simp,fun a ha b hb=>by cases List.mem_singleton.mp hb;exact fun z=>hkn (by rw[z] at ha;exact ha)⟩
 ·rw[Zp,qS]
  exact⟨G.a,by simp,fun a ha b hb=>by cases List.mem_singleton.mp hb;exact fun z=>hla (zg _ (by rw[z] at ha;exact ha))⟩
theorem Rf (hn:mF (gs.map fun g=>((Sum.inl g.1:Key),V.ref g.2.1)) (Sum.inl k)=none):qD (BP gs) k x=BP (pL (gs++[(k,l,[])]) k x):=by
 have hany:((BP gs).any fun q=>decide (q.1=k))=false:=by rw[Vj,hn];rfl
 unfold qD
 rw[zS (by rw[hany];exact zC)]
 unfold BP pL
 rw[Zp,Zp]
 congr 1
 ·rw[ZE]
  refine ZY fun g hg=>?_
  have:=List.any_eq_false.mp hany (g.1,g.2.2) (List.mem_map.mpr ⟨g,hg,rfl⟩)
  simp only[QY] at this
  simp only[Function.comp,zS this]
 ·simp
end
section
variable {X:Cx} {iter e1 e2 c ev:Expr} {fi:Ev->Option (List Dt)} {f1 f2 fv:Ev->Option Bx} {p:Ev->Option Bool} {x y w:Str} {pw py py2 py3 px p1 p2 p3 p4 pl a1 a2 c1 c2 pos:Pos}
def Rh (X:Cx) (i j:Nat) (fv:Ev->Option Bx):TE:=tBM X.K "list" Kc (tBM X.K "dict" Wf (R5 i) (rH (R5 j) (rH (aaf HN) HN))) (rH (tF X.K fv) HN)
theorem Vk {i j:Nat} {Hs H5:Hp} {σ5:L2.St} {ρ5:Ev} {D:Addr} {gs:List (Int×Addr×List Dt)} {k:Int} {d:Dt} {Q:L2.St->Hp->Prop} (E5:aQ X.K Hs H5 σ5 ρ5) (hj:ρ5[j]?=some (some (.z (.int k)))) (hi:σ5[i]?=some (some (.ref D))) (ev:fv ρ5=some (.z d)) (G:Gp X.K H5 D gs) (hHs:∀ a∈zu D gs,Hs a=none) (S:Sep (zu D gs) σ5 ρ5)
  (hl:gs.length < 1000) (hll:∀ g∈gs,g.2.2.length < 1000)
  (q:∀ H' gs',aQ X.K Hs H' σ5 ρ5->Gp X.K H' D gs'->(∀ a∈zu D gs',Hs a=none)->Sep (zu D gs') σ5 ρ5->BP gs'=qD (BP gs) k d->Q σ5 H'):Rh X i j fv σ5 H5 (fun _ H'=>Q σ5 H'):=by
 obtain⟨vk,hvk,rk⟩:=E5.val j _ hj
 have rk:vk=.int k:=by simpa only[aR,Rep] using rk
 subst rk
 have sz:(1000:Nat) < sizeLine:=by decide
 refine⟨_,hi,.inr (.inr (.inl ⟨rfl,.inl ⟨_,G.d⟩⟩)),_,hvk,qv _,fun l hln=>?_⟩
 have sl:Same H5 (upd H5 l (.lst [])):=bJ hln
 have G1:=G.same sl
 have E6:=E5.grow sl
 refine⟨D,_,Sum.inl k,.ref l,rfl,rfl,G1.d,by rw[zi];omega,fun w hw=>?_,fun hn=>?_⟩
 ·obtain⟨g,hg,hk,rfl⟩:=Gp.val hw
  obtain⟨vs,hvs,rvs⟩:=G1.l g hg
  refine⟨.inl ⟨rfl,vs,.inl (.inl hvs)⟩,Hs,ρ5,_,E6,ev,fun u H7 s7 n7 r7=>?_⟩
  have G2:=G1.same s7
  have Y8:=s7 _ _ hvs
  have r7':Rep X.K H7 d u:=r7
  obtain⟨G3,eA,eM⟩:=G2.app hg hk Y8 (rvs.kp (.of s7)) r7'
  refine⟨_,vs,u,rfl,rfl,Y8,by rw[rvs.length];have:=hll g hg;omega,q _ _ ?_ G3 (by rw[eA];exact hHs) (by rw[eA];exact S) eM⟩
  have ha:g.2.1∈zu D gs:=zg _ (List.mem_map.mpr ⟨g,hg,rfl⟩)
  exact (E6.grow s7).move (as:=[g.2.1]) (fun j c a e1 e2 e3 z=>S j c a e1 e2 e3 (by rw[List.mem_singleton.mp z];exact ha)) (.lst Y8) (fun b hb=>aC fun z=>hb (by rw[z];simp)) (fun b o eb=>by
   rw[aC fun z=>by rw[z,hHs _ ha] at eb;cases eb]
   exact (E6.grow s7).base b o eb) E6.new
 ·have hla:l∉zu D gs:=fun z=>by
   have:=G.ld l z
   rcases this with⟨_,q⟩|⟨_,q⟩<;>(rw[hln] at q;cases q)
  have G2:=G1.new hn aP hla
  have E7:=E6.move (as:=[D]) (fun j c a e1 e2 e3 z=>S j c a e1 e2 e3 (by rw[List.mem_singleton.mp z];exact zh ..)) (.dk G1.d) (fun b hb=>aC (o:=.dK (putK (gs.map fun g=>(Sum.inl g.1,V.ref g.2.1)) (Sum.inl k) (.ref l))) fun z=>hb (by rw[z];simp)) (fun b o eb=>by
   rw[aC fun z=>by rw[z,hHs _ (zh ..)] at eb;cases eb]
   exact E6.base b o eb) E6.new
  have hlD:l≠D:=fun z=>hla (by rw[z];exact zh ..)
  refine⟨.inl ⟨rfl,[],.inl (.inl (by rw[aC hlD];exact aP))⟩,Hs,ρ5,_,E7,ev,fun u H7 s7 n7 r7=>?_⟩
  have G3:=G2.same s7
  have r7':Rep X.K H7 d u:=r7
  have hg:(k,l,([]:List Dt))∈gs++[(k,l,[])]:=Zl _ (List.mem_singleton.mpr rfl)
  have Y8:H7 l=some (.lst []):=s7 _ _ (by rw[aC hlD];exact aP)
  obtain⟨G4,eA,eM⟩:=G3.app hg rfl Y8 aF.nil r7'
  have hHl:Hs l=none:=E5.base.free hln
  have Ri:∀ (j:Nat) c a,ρ5[j]?=some (some c)->loose c=true->σ5[j]?=some (some (.ref a))->a≠l:=fun j c a e1 e2 e3 z=>known E5 j c a e1 e2 e3 (by rw[z];exact hln)
  have aa9:∀ {a:Addr},a∈zu D (gs++[(k,l,[])])->a∈zu D gs\/a=l:=fun {a} h=>by
   unfold zu at h ⊢
   rw[Zp] at h
   rcases List.mem_cons.mp h with z|z
   ·exact .inl (by rw[z];exact zh ..)
   ·rcases List.mem_append.mp z with z|z
    ·exact .inl (zg _ z)
    ·exact .inr (by simpa using z)
  refine⟨l,[],u,rfl,rfl,Y8,z5 (Nat.zero_lt_succ _) (qB sz),q _ _ ?_ G4 (by rw[eA];exact fun a ha=>(aa9 ha).elim (hHs a) fun z=>by rw[z];exact hHl) (by rw[eA];exact fun j c a e1 e2 e3 ha=>(aa9 ha).elim (S j c a e1 e2 e3) (Ri j c a e1 e2 e3)) (Rf (l:=l) hn).symm⟩
  exact (E7.grow s7).move (as:=[l]) (fun j c a e1 e2 e3 z=>Ri j c a e1 e2 e3 (List.mem_singleton.mp z)) (.lst Y8) (fun b hb=>aC fun z=>hb (by rw[z];simp)) (fun b o eb=>by
   rw[aC fun z=>by rw[z,hHl] at eb;cases eb]
   exact (E7.grow s7).base b o eb) E7.new
end
section
variable {X:Cx} {iter e1 e2 c ev:Expr} {fi:Ev->Option (List Dt)} {f1 f2 fv:Ev->Option Bx} {p:Ev->Option Bool} {x y w:Str} {pw py py2 py3 px p1 p2 p3 p4 pl a1 a2 c1 c2 pos:Pos}
theorem DN {ρ:Ev} {i q:Nat} {b:Bx} (h:(ρ.set i none)[q]?=some (some b)):q≠i/\ρ[q]?=some (some b):=by
 rcases getset h with⟨_,z,_⟩|⟨h1,h2⟩
 ·cases z
 ·exact⟨h1,h2⟩
theorem Rj (i j k:Nat) (hp:PassesOwn (model X.prog X.w) X.A X.env X.xe) (hc:X.calm=true) (hN:X.N.Nodup) (hi:QIF X (.Name w pw) iter fi) (h1:QV X e1 f1) (hcn:QB X c p) (h2:QV X e2 f2) (hv:QV X ev fv)
  (hij:i≠j:=by decide) (hik:i≠k:=by decide) (hjk:j≠k:=by decide) (xi:X.N[i]?=some x:=by rfl) (xj:X.N[j]?=some y:=by rfl) (xk:X.N[k]?=some w:=by rfl)
  (vi:Hv X.env.scope x:=by first|exact QP rfl|exact qi (QP rfl)|exact qi (qi rfl)) (vj:Hv X.env.scope y:=by first|exact QP rfl|exact qi (QP rfl)|exact qi (qi rfl))
  (lj:Loc X.env.scope y:=by first|exact QP rfl|exact qi rfl) (lk:Loc X.env.scope w:=by first|exact QP rfl|exact qi rfl)
  (fj:X.fn y=true\/X.env.scope.names.lookup y=some .local:=by first|exact .inl rfl|exact .inr rfl) (fk:X.fn w=true\/X.env.scope.names.lookup w=some .local:=by first|exact .inl rfl|exact .inr rfl)
  (dx:(x==("__debug__" : Str))=false:=by decide) (cx:(x==("__classdict__" : Str))=false:=by decide) (dy:(y==("__debug__" : Str))=false:=by decide) (cy:(y==("__classdict__" : Str))=false:=by decide)
  (hs:∀ z,foldedSetIterable iter X.env z=pure z:=by intro _;rfl) (s1:swapsWith e1 (some (.Name y py)) p1.line X.env=pure false:=by rfl) (s2:swapsWith e2 (some (.Name y py2)) p2.line X.env=pure false:=by rfl)
  (st1:starEach [.Name y py3,.List [] pl] X.env=[(false,eval (.Name y py3) X.env),(false,eval (.List [] pl) X.env)]:=by rfl) (st2:starEach [ev] X.env=[(false,eval ev X.env)]:=by rfl)
  (hb1:attributeBase (.Name x px) "setdefault" X.env (eval (.Name x px) X.env)=eval (.Name x px) X.env:=by rfl)
  (hb2:attributeBase (.Call (.Attribute (.Name x px) "setdefault" a1) [.Name y py3,.List [] pl] [] c1) "append" X.env (eval (.Call (.Attribute (.Name x px) "setdefault" a1) [.Name y py3,.List [] pl] [] c1) X.env)=eval (.Call (.Attribute (.Name x px) "setdefault" a1) [.Name y py3,.List [] pl] [] c1) X.env:=by rfl)
  (hw1:((backTo c1 (starEach [.Name y py3,.List [] pl] X.env)).all (fun x=>!x.1)&&(backToKw c1 (keywordEach [] X.env)).all (fun x=>x.1.isSome)&&decide ([Expr.Name y py3,.List [] pl].length+([]:List Keyword).length+(if ([]:List Keyword).isEmpty then 0 else 1) < 30))=true:=by rfl)
  (hw2:((backTo c2 (starEach [ev] X.env)).all (fun x=>!x.1)&&(backToKw c2 (keywordEach [] X.env)).all (fun x=>x.1.isSome)&&decide ([ev].length+([]:List Keyword).length+(if ([]:List Keyword).isEmpty then 0 else 1) < 30))=true:=by rfl)
  (hl1:(a1.endLine==c1.line)=true:=by rfl) (hl2:(a2.endLine==c2.line)=true:=by rfl)
  (s4:swapsWith (.Call (.Attribute (.Call (.Attribute (.Name x px) "setdefault" a1) [.Name y py3,.List [] pl] [] c1) "append" a2) [ev] [] c2) none p4.line X.env=pure false:=by rfl) :
  Ml X (.For (.Name w pw) iter [.Assign [.Name y py] e1 p1,.If c [.Assign [.Name y py2] e2 p2] [] p3,.Expr (.Call (.Attribute (.Call (.Attribute (.Name x px) "setdefault" a1) [.Name y py3,.List [] pl] [] c1) "append" a2) [ev] [] c2) p4] [] pos) (zq i j k fi f1 p f2 fv):=by
 have hrow:PE X (.Call (.Attribute (.Call (.Attribute (.Name x px) "setdefault" a1) [.Name y py3,.List [] pl] [] c1) "append" a2) [ev] [] c2) (Rh X i j fv):=
  Ew kn PySem.F.slot_list_append PySem.F.type_list_append vL
   (Ew PySem.F.plainAttrs_dict PySem.F.slot_dict_setdefault PySem.F.type_dict_setdefault Vi (mZ (i:=i) xi vi dx cx) (gO (mZ (i:=j) xj vj dy cy) (gO (Oe m7) m7 rfl) (by rw[st1]<;>rfl)) hb1 hw1 hl1 (by rw[st1]<;>rfl) rfl)
   (gO hv.run m7 (by rw[st2]<;>rfl)) hb2 hw2 hl2 (by rw[st2]<;>rfl) rfl
 refine⟨Ox (Y7 (HB hp hc hi.run (L2.Cj hN xk lk fk) (yd (Hx (pos:=p1) (pos':=py) hN xj lj h1.run s1 fj) (yd (Vx (pos:=p3) hcn.run (J4 (Hx (pos:=p2) (pos':=py2) hN xj lj h2.run s2 fj)) J3) (J4 (xO hrow s4)))) hs)) fun De σ H h=>?_⟩
 obtain⟨H0,ρ,r,E,e,q⟩:=h
 unfold zq at e
 split at e
 ·rename_i hρ
  split at e
  rotate_left
  ·cases e
  rename_i hjL
  obtain⟨ds,ed,e⟩:=bind_some e
  obtain⟨m,em,e⟩:=bind_some e
  cases e
  obtain⟨v,hσi,D,ks,rfl,hD,rm,_⟩:=E.val i _ hρ
  have hks:ks=[]:=List.length_eq_zero_iff.mp (by rw[rm.len];rfl)
  subst hks
  have hiL:i < ρ.length:=(List.getElem?_eq_some_iff.mp hρ).1
  have fr:∀ (q:Nat) b,(((ρ.set i none).set j none).set k none)[q]?=some (some b)->q≠i/\q≠j/\q≠k/\ρ[q]?=some (some b):=fun q b e=>by
   obtain⟨n1,e⟩:=DN e
   obtain⟨n2,e⟩:=DN e
   obtain⟨n3,e⟩:=DN e
   exact⟨n3,n2,n1,e⟩
  have hl0:(((ρ.set i none).set j none).set k none).length=ρ.length:=by simp
  generalize ((ρ.set i none).set j none).set k none=ρ0 at *
  have E0:aQ X.K H0 H σ ρ0:=E.forget hl0.symm fun q b e=>(fr q b e).2.2.2
  refine⟨H0,ρ0,ds,E0,ed,fun J H1 sm1 y=>?_⟩
  have E1:=E0.grow sm1
  have hD1:=sm1 _ _ hD
  have Y9:∀ (q:Nat) c a,ρ0[q]?=some (some c)->loose c=true->σ[q]?=some (some (.ref a))->a≠D:=fun q c a e1 e2 e3 z=>by
   subst z
   obtain⟨n1,_,_,e⟩:=fr q c e1
   exact n1 (E.own i q _ a c hρ rfl hσi e e2 e3).symm
  have Y:Yields X.K J ds (nO (cM H1 σ ρ0) D):=by
   refine y _ (oG.trans lG) (fun a ha=>?_) (fun a o u ha=>?_) fun a vs ha=>?_
   ·rw[jo fun z=>by rw[z,hD] at ha;cases ha]
    unfold cM
    rw[zS]
    rintro⟨q,c,e1,ec,e2⟩
    obtain⟨v,e3,rc⟩:=E0.val q _ e1
    exact known E0 q c a e1 (by cases c<;>first|rfl|cases ec) e2 ha
   ·rw[jo fun z=>by rw[z,hD1] at ha;cases ha]
    exact dI E1 (fun vs z=>by rw[ha] at z;cases z) fun vs z=>by rw[ha] at z;cases z
   ·rw[jo fun z=>by rw[z,hD1] at ha;cases ha]
    exact dI E1 (fun vs z=>by rw[ha] at z;cases z) fun vs z=>by rw[ha] at z;cases z
  have sub:Same H0 (nO (cM H1 σ ρ0) D):=fun b o eb=>by
   rw[jo fun z=>by rw[z,E.new i _ D hρ rfl hσi] at eb;cases eb]
   exact E1.sub b o eb
  have ES:aQ X.K (nO (cM H1 σ ρ0) D) H1 σ ρ0:=by
   have:=E1.sans
   exact⟨this.len,this.val,this.own,oG.trans lG,fun q c a e1 ec e2=>by
    unfold nO
    split
    ·rfl
    ·exact this.new q c a e1 ec e2⟩
  generalize hHs:nO (cM H1 σ ρ0) D=Hs at Y sub ES
  have hsD:Hs D=none:=by rw[<-hHs];exact zo rfl
  clear hHs
  refine⟨fun n m' σ' H'=>m'=ds.length - n/\n<=ds.length/\(∀ q,q≠j->q≠k->σ'[q]?=σ[q]?)/\∃ gs,aQ X.K Hs H' σ' ρ0/\Gp X.K H' D gs/\(∀ a∈zu D gs,Hs a=none)/\Sep (zu D gs) σ ρ0/\DK k j f1 p f2 fv ρ0 (ds.drop n) (BP gs)=some m,⟨ds.length,by simp,qv _,fun _ _ _=>rfl,[],ES,⟨hD1,fun g hg=>(by cases hg),Qb,Qb⟩,fun a ha=>by rw[List.mem_singleton.mp ha];exact hsD,fun q c a e1 e2 e3 z=>Y9 q c a e1 e2 e3 (List.mem_singleton.mp z),em⟩,?_⟩
  rintro n m' σ' H' ⟨rfl,hn,hσ,gs,E',G,hg0,S,em'⟩
  obtain⟨y1,y2⟩:=Y n H' E'.base
  by_cases hlt:n < ds.length
  ·right
   have hd:ds[n]?=some ds[n]:=by simp[hlt]
   obtain⟨go,yl⟩:=y1 _ hd
   rw[kM hlt] at em'
   simp only[DK] at em'
   obtain⟨b1,eb1,em'⟩:=bind_some em'
   refine⟨go,fun σ2 H2=>(∀ q,q≠j->q≠k->σ2[q]?=σ[q]?)/\∃ gs,aQ X.K Hs H2 σ2 ρ0/\Gp X.K H2 D gs/\(∀ a∈zu D gs,Hs a=none)/\Sep (zu D gs) σ ρ0/\DK k j f1 p f2 fv ρ0 (ds.drop (n+1)) (BP gs)=some m,fun σ2 H2 ⟨z1,z2⟩=>⟨ds.length - (n+1),by omega,rfl,hlt,z1,z2⟩,fun xv H2 yy=>?_⟩
   obtain⟨sm2,rx⟩:=yl xv H2 yy
   have Ek:aQ X.K Hs H2 (σ'.set k (some xv)) (ρ0.set k (some (.z ds[n]))):=(E'.grow sm2).set (b:=.z ds[n]) (Same.refl H2) rx (.inr rfl) trivial
   cases b1 with
   |z d1=>
    obtain⟨t,et,em'⟩:=bind_some em'
    obtain⟨b2,eb2,em'⟩:=bind_some em'
    refine⟨Hs,_,_,Ek,eb1,fun v1 H3 s3 n3 r3=>?_⟩
    have E3:aQ X.K Hs H3 ((σ'.set k (some xv)).set j (some v1)) ((ρ0.set k (some (.z ds[n]))).set j (some (.z d1))):=Ek.set (b:=.z d1) s3 r3 (.inr rfl) trivial
    have G3:=(G.same sm2).same s3
    split at em'
    ·rename_i yk
     obtain⟨v,ev',em'⟩:=bind_some em'
     split at em'
     ·rename_i xd
      split at em'
      ·rename_i hlen
       have fin:∀ σ5 H5,aQ X.K Hs H5 σ5 (((ρ0.set k (some (.z ds[n]))).set j (some (.z d1))).set j (some (.z (.int yk))))->Same H3 H5->(∀ q,q≠j->q≠k->σ5[q]?=σ'[q]?)->Rh X i j fv σ5 H5 (fun _ H'=>(∀ q,q≠j->q≠k->σ5[q]?=σ[q]?)/\∃ gs,aQ X.K Hs H' σ5 ρ0/\Gp X.K H' D gs/\(∀ a∈zu D gs,Hs a=none)/\Sep (zu D gs) σ ρ0/\DK k j f1 p f2 fv ρ0 (ds.drop (n+1)) (BP gs)=some m):=fun σ5 H5 E5 s5 a5=>by
        have ag:∀ q,q≠j->q≠k->σ5[q]?=σ[q]?:=fun q n1 n2=>(a5 q n1 n2).trans (hσ q n1 n2)
        have up:∀ (q:Nat) b,ρ0[q]?=some (some b)->(((ρ0.set k (some (.z ds[n]))).set j (some (.z d1))).set j (some (.z (.int yk))))[q]?=some (some b):=fun q b e=>by
         obtain⟨_,n1,n2,_⟩:=fr q b e
         rw[nJ _ n1,nJ _ n1,nJ _ n2];exact e
        have dn:∀ (q:Nat) b,loose b=true->(((ρ0.set k (some (.z ds[n]))).set j (some (.z d1))).set j (some (.z (.int yk))))[q]?=some (some b)->ρ0[q]?=some (some b):=fun q b hl e=>by
         rcases getset e with⟨_,z,_⟩|⟨_,e⟩
         ·cases z;cases hl
         ·rcases getset e with⟨_,z,_⟩|⟨_,e⟩
          ·cases z;cases hl
          ·rcases getset e with⟨_,z,_⟩|⟨_,e⟩
           ·cases z;cases hl
           ·exact e
        refine Vk (Q:=fun σ5 H'=>(∀ q,q≠j->q≠k->σ5[q]?=σ[q]?)/\∃ gs,aQ X.K Hs H' σ5 ρ0/\Gp X.K H' D gs/\(∀ a∈zu D gs,Hs a=none)/\Sep (zu D gs) σ ρ0/\DK k j f1 p f2 fv ρ0 (ds.drop (n+1)) (BP gs)=some m) E5 (vN _ (by simp;omega)) ((ag i hij hik).trans hσi) ev' (G3.same s5) hg0 (fun q c a e1 e2 e3=>?_) (by have:=hlen.1;simpa [BP] using this) (fun g hg=>hlen.2 _ (List.mem_map.mpr ⟨g,hg,rfl⟩)) fun H6 gs' E6 G6 h6 S6 eM=>⟨ag,gs',E6.forget (by simp) up,G6,h6,fun q c a e1 e2 e3=>?_,by rw[eM];exact em'⟩
        ·have e0:=dn q c e2 e1
         obtain⟨_,n1,n2,_⟩:=fr q c e0
         exact S q c a e0 e2 (by rw[<-ag q n1 n2];exact e3)
        ·obtain⟨_,n1,n2,_⟩:=fr q c e1
         exact S6 q c a (up q c e1) e2 (by rw[ag q n1 n2];exact e3)
       have a3:∀ q,q≠j->q≠k->((σ'.set k (some xv)).set j (some v1))[q]?=σ'[q]?:=fun q n1 n2=>by rw[nJ _ n1,nJ _ n2]
       refine⟨Hs,_,t,E3,et,fun H4 sm4=>?_⟩
       cases t with
       |true=>
        rw[zo rfl] at eb2 ⊢
        refine⟨Hs,_,_,E3.grow sm4,eb2,fun v2 H5 s5 n5 r5=>?_⟩
        exact fin _ _ ((E3.grow sm4).set (b:=.z (.int yk)) s5 r5 (.inr rfl) trivial) (sm4.trans s5) fun q n1 n2=>by rw[nJ _ n1];exact a3 q n1 n2
       |false=>
        rw[zS zC] at eb2 ⊢
        cases eb2
        exact fin _ _ (by rw[List.set_set];exact E3.grow sm4) sm4 a3
      ·cases em'
     ·cases em'
    ·cases em'
   |l _=>cases em'
   |o _=>cases em'
   |n _=>cases em'
   |m _ _=>cases em'
  ·left
   have hge:ds.length<=n:=by omega
   rw[List.drop_eq_nil_of_le hge] at em'
   cases em'
   refine⟨y2 hge,gs.map (·.2.1),G.a,fun a ha=>?_,fun H2 kp o1 o2=>?_⟩
   ·obtain⟨g,hg,rfl⟩:=List.mem_map.mp ha
    obtain⟨vs,e,_⟩:=G.l g hg
    exact⟨vs,e⟩
   ·have agL:∀ (q:Nat) c,ρ0[q]?=some (some c)->σ'[q]?=σ[q]?:=fun q c e=>let ⟨_,n1,n2,_⟩:=fr q c e;hσ q n1 n2
    have hDa:D∉gs.map (·.2.1):=fun z=>by
     obtain⟨g,hg,e⟩:=List.mem_map.mp z
     obtain⟨vs,e2,_⟩:=G.l g hg
     rw[e,G.d] at e2;cases e2
    have E2:aQ X.K H0 H2 σ' ρ0:=E'.move (as:=gs.map (·.2.1)) (fun q c a e1 e2 e3 z=>S q c a e1 e2 (by rw[<-agL q c e1];exact e3) (zg _ z)) kp o1 (fun b o eb=>by
     have eb':=sub b o eb
     rw[o1 b fun z=>by rw[hg0 b (zg _ z)] at eb';cases eb']
     exact E'.base b o eb') fun q c a e1 ec e2=>sub.free (E'.new q c a e1 ec e2)
    have hi':σ'[i]?=some (some (.ref D)):=(hσ i hij hik).trans hσi
    have rD:aR X.K H2 (.m ((BP gs).map fun q=>(Sum.inl q.1,Dt.lst q.2)) none) (.ref D):=by
     refine⟨D,_,rfl,(o1 D hDa).trans G.d,⟨?_,?_,?_⟩,fun b h=>by cases h⟩
     ·unfold BP;rw[ZE,ZE,ZE];rfl
     ·have:∀ gs':List (Int×Addr×List Dt),(∀ g∈gs',g∈gs)->aF X.K H2 (((BP gs').map fun q=>((Sum.inl q.1:Key),Dt.lst q.2)).map (·.2)) ((gs'.map fun g=>((Sum.inl g.1:Key),V.ref g.2.1)).map (·.2)):=by
       intro gs'
       induction gs' with
       |nil=>intro _;exact aF.nil
       |cons g gs' ih=>
        intro h
        refine aF.cons ?_ (ih fun g hg=>h g (zg _ hg))
        obtain⟨vs,e1,r1⟩:=G.l g (h g (zh ..))
        obtain⟨o,vs',e2,e3⟩:=o2 g.2.1 (List.mem_map.mpr ⟨g,h g (zh ..),rfl⟩)
        rw[e1] at e2;cases e2
        simp only[Rep]
        exact⟨g.2.1,vs,rfl,.inl ⟨o,e3⟩,r1.kp kp⟩
      exact this gs fun _ h=>h
     ·intro pr hpr
      obtain⟨g,_,rfl⟩:=List.mem_map.mp hpr
      trivial
    refine q σ' H2 ⟨by rw[jb];exact E2.len,fun q b e=>?_,fun q1 q2 c a b g1 g2 g3 g4 g5 g6=>?_,E2.base,fun q c a g1 g2 g3=>?_⟩
    ·rcases getset e with⟨rfl,z,_⟩|⟨n1,e⟩
     ·cases z;exact⟨_,hi',rD⟩
     ·exact E2.val q b e
    ·rcases getset g1 with⟨rfl,z,_⟩|⟨n1,k1⟩
     ·cases z
      rw[hi'] at g3;cases g3
      rcases getset g4 with⟨rfl,_,_⟩|⟨n2,k4⟩
      ·rfl
      ·exact absurd rfl (Y9 q2 b _ k4 g5 (by rw[<-agL q2 b k4];exact g6))
     ·rcases getset g4 with⟨rfl,z,_⟩|⟨n2,k4⟩
      ·cases z
       rw[hi'] at g6;cases g6
       exact absurd rfl (Y9 q1 c _ k1 (by cases c<;>first|rfl|cases g2) (by rw[<-agL q1 c k1];exact g3))
      ·exact E2.own q1 q2 c a b k1 g2 g3 k4 g5 g6
    ·rcases getset g1 with⟨rfl,z,_⟩|⟨n1,g1⟩
     ·rw[hi'] at g3;cases g3
      exact E.new _ _ _ hρ rfl hσi
     ·exact E2.new q c a g1 g2 g3
 ·cases e
end
section
variable {α β γ:Type} {ρ:Ev} {e:α->Dt} {e0:β->Dt} {fa fb fd f1 f2 fv:Ev->Option Bx} {p:Ev->Option Bool} {fi:Ev->Option (List Dt)} {kk:Ev->Option Out} {cO:γ->Out}
abbrev mI (e:α->Dt):List (Int×α)->Bx:=fun m=>.m (m.map fun q=>(kI q.1,e q.2)) none
abbrev nI (e:α->Dt):List (Int×α)->Bx:=fun m=>.n (m.map fun q=>(kI q.1,e q.2))
def Vl (e:α->Dt):R (fun _=>some (.m [] none)) ρ (mI e):=⟨[],none,fun _=>rfl⟩
def Vm [Inhabited α] (a:R fa ρ (nI e)) (b:R fb ρ (zE eI)):R (b2 Bm fa fb) ρ (zE e):=⟨look a.v b.v,aY (aY a.D b.D) (some (has a.v b.v=true)),fun h=>by
 obtain⟨h,h3⟩:=ao h
 obtain⟨h1,h2⟩:=ao h
 simp only[b2,a.ok h1,b.ok h2,bnd,Bm,V2,Q7 (c:=kI) (show has a.v b.v=true from h3)]⟩
def abe (a:R fd ρ (nI e)):R (KQ fd) ρ (iE eI):=⟨a.v.map (·.1),a.D,fun h=>by
 simp only[KQ,a.ok h,bnd,keyB,ZE]
 rfl⟩
def GK (k:β->Int) (v:β->α) (xs:List β):List (Int×List α):=xs.foldl (fun m x=>qD m (k x) (v x)) []
theorem Rk (m:List (Int×List α)) (k:Int) (x:α):qD (m.map fun q=>(q.1,q.2.map e)) k (e x)=(qD m k x).map fun q=>(q.1,q.2.map e):=by
 unfold qD
 rw[kK]
 simp only[Function.comp_def]
 by_cases h:(m.any fun q=>decide (q.1=k))=true
 ·rw[zo h,zo h,ZE,ZE]
  refine ZY fun q _=>?_
  simp only[Function.comp]
  split<;>simp
 ·rw[zS h,zS h]
  simp
theorem Rm (m:List (Int×List α)) (k:Int) (x:α) (n:Nat) (h:m.length<=n/\∀ q∈m,q.2.length<=n):(qD m k x).length<=n+1/\∀ q∈qD m k x,q.2.length<=n+1:=by
 unfold qD
 split
 ·refine⟨by rw[zi];omega,fun q hq=>?_⟩
  obtain⟨q',h',rfl⟩:=List.mem_map.mp hq
  have:=h.2 q' h'
  split
  ·simp;omega
  ·omega
 ·refine⟨by simp;omega,fun q hq=>?_⟩
  rcases List.mem_append.mp hq with hq|hq
  ·have:=h.2 q hq;omega
  ·cases List.mem_singleton.mp hq;simp
theorem Rn {k j:Nat} {K:β->Int} {V:β->α}:∀ (xs:List β) (m:List (Int×List α)) (n:Nat),(∀ x∈xs,∃ y1 t,f1 (ρ.set k (some (.z (e0 x))))=some (.z (.int y1))/\p ((ρ.set k (some (.z (e0 x)))).set j (some (.z (.int y1))))=some t/\(if t=true then f2 ((ρ.set k (some (.z (e0 x)))).set j (some (.z (.int y1)))) else some (.z (.int y1)))=some (.z (.int (K x)))/\fv (((ρ.set k (some (.z (e0 x)))).set j (some (.z (.int y1)))).set j (some (.z (.int (K x)))))=some (.z (e (V x)))) →
  (m.length<=n/\∀ q∈m,q.2.length<=n)->n+xs.length < 1000->DK k j f1 p f2 fv ρ (xs.map e0) (m.map fun q=>(q.1,q.2.map e))=some ((xs.foldl (fun m x=>qD m (K x) (V x)) m).map fun q=>(q.1,q.2.map e))
 |[],m,n,_,_,_=>rfl
 |x::xs,m,n,h,hm,hl=>by
  obtain⟨y1,t,h1,h2,h3,h4⟩:=h x (zh ..)
  rw[zl,kf]
  simp only[DK,h1,bnd,h2,h3,h4]
  simp only[qf] at hl
  rw[zo ⟨by rw[zi];have:=hm.1;omega,fun q hq=>by
   obtain⟨q',h',rfl⟩:=List.mem_map.mp hq
   have:=hm.2 q' h'
   simp only[zi];omega⟩,Rk]
  exact Rn xs _ (n+1) (fun y hy=>h y (zg _ hy)) (Rm m _ _ n hm) (by omega)
def Vn (i j k:Nat) (m0:List (Int×List α)) (hi:ρ[i]?=some (some (mI (eL e) m0))) (hj:j < ρ.length) {ρ0:Ev} (h0:((ρ.set i none).set j none).set k none=ρ0) (it:R fi ρ0 (iE e0)) (a:∀ x,R f1 (ρ0.set k (some (.z (e0 x)))) (zE eI)) (c:∀ x (y:Int),R p ((ρ0.set k (some (.z (e0 x)))).set j (some (.z (.int y)))) tE) (b:∀ x (y:Int),R f2 ((ρ0.set k (some (.z (e0 x)))).set j (some (.z (.int y)))) (zE eI))
  (v:∀ x (y1 y:Int),R fv (((ρ0.set k (some (.z (e0 x)))).set j (some (.z (.int y1)))).set j (some (.z (.int y)))) (zE e)) (K:∀ m:List (Int×List α),R kk (ρ0.set i (some (mI (eL e) m))) cO):R (aG (zq i j k fi f1 p f2 fv) kk) ρ cO:=
 let ky:=fun x=>if (c x (a x).v).v=true then (b x (a x).v).v else (a x).v
 ⟨(K (GK ky (fun x=>(v x (a x).v (ky x)).v) it.v)).v,aY (aY (aY (aY (some (m0=[])) it.D) (some (it.v.length < 1000))) (Q5 it.v fun x=>aY (a x).D (aY (c x (a x).v).D (aY (yU ((c x (a x).v).v=true) (b x (a x).v).D) (v x (a x).v (ky x)).D)))) (K (GK ky (fun x=>(v x (a x).v (ky x)).v) it.v)).D,fun hd=>by
 obtain⟨h,h4⟩:=ao hd
 obtain⟨h,h3⟩:=ao h
 obtain⟨h',h2⟩:=ao h
 obtain⟨hm,h1⟩:=ao h'
 have hm:m0=[]:=hm
 rw[hm] at hi
 have h2:it.v.length < 1000:=h2
 have h3:∀ x∈it.v,hold (aY (a x).D (aY (c x (a x).v).D (aY (yU ((c x (a x).v).v=true) (b x (a x).v).D) (v x (a x).v (ky x)).D))):=h3
 rw[lB (ρ':=ρ0.set i (some (mI (eL e) (GK ky (fun x=>(v x (a x).v (ky x)).v) it.v)))) (by
  unfold zq
  rw[show ρ[i]?=some (some (Bx.m [] none)) from hi]
  simp only[zo hj,h0,it.ok h1,bnd]
  have:=Rn (ρ:=ρ0) (k:=k) (j:=j) (f1:=f1) (p:=p) (f2:=f2) (fv:=fv) (e:=e) (e0:=e0) (K:=ky) (V:=fun x=>(v x (a x).v (ky x)).v) it.v [] 0 (fun x hx=>by
   obtain⟨d1,d2⟩:=ao (h3 x hx)
   obtain⟨d2,d3⟩:=ao d2
   obtain⟨d3,d4⟩:=ao d3
   refine⟨(a x).v,(c x (a x).v).v,(a x).ok d1,(c x (a x).v).ok d2,?_,(v x (a x).v (ky x)).ok d4⟩
   by_cases ht:(c x (a x).v).v=true
   ·rw[zo ht,(b x (a x).v).ok (kJ d3 ht)]
    simp only[ky,zo ht]
   ·rw[zS ht]
    simp only[ky,zS ht]) ⟨zk _,fun q hq=>by cases hq⟩ (by simpa using h2)
  rw[jS] at this
  rw[show (iE e0) it.v=it.v.map e0 from rfl,this,bnd]
  congr 5
  rw[ZE]
  rfl)]
 exact (K _).ok h4⟩
end
theorem qT {n:Nat} {i:Int} (h:i∈rng 0 n):∃ k:Nat,k < n/\i=(k:Int):=by
 unfold rng at h
 obtain⟨k,hk,rfl⟩:=List.mem_map.mp h
 exact⟨k,List.mem_range.mp hk,by omega⟩
end P1
end
section
namespace P1
open PySem PySem.Spec PyProof.Rows L2 S1 S6
theorem gF {α:Type} [DecidableEq α]:∀ {xs ys:List α},xs.Nodup->(∀ x∈xs,x∈ys)->xs.length<=ys.length
 |[],_,_,_=>qv _
 |x::xs,ys,nd,h=>by
  obtain⟨h1,h2⟩:=List.nodup_cons.mp nd
  have hx:=h x (zh ..)
  have:=gF (ys:=ys.erase x) h2 fun y hy=>(List.mem_erase_of_ne fun e=>h1 (by rw[<-e];exact hy)).mpr (h y (zg _ hy))
  rw[List.length_erase_of_mem hx] at this
  have:=List.length_pos_of_mem hx
  simp only[qf]
  omega
theorem sZ {α:Type} [DecidableEq α] {xs ys:List α} (h1:xs.Nodup) (h2:ys.Nodup) (h:∀ x,x∈xs↔x∈ys):xs.Perm ys:=by
 rw[List.perm_iff_count]
 intro a
 by_cases ha:a∈xs
 ·rw[h1.count,h2.count,zo ha,zo ((h a).mp ha)]
 ·rw[h1.count,h2.count,zS ha,zS fun z=>ha ((h a).mpr z)]
theorem Nv {xs ys:List Str} (h1:xs.Nodup) (h2:ys.Nodup) (h:∀ x,x∈xs↔x∈ys):bC xs=bC ys:=
 uz ((bx xs).trans ((sZ h1 h2 h).trans (bx ys).symm)) (iy xs) (iy ys)
structure Wd (U:List Str) (w:List (List Str)):Prop where
 ne:∀ s∈w,s≠[]
 so:∀ s∈w,s.Pairwise Iv
 nd:w.flatten.Nodup
 sub:∀ x∈w.flatten,x∈U
 st:w.Pairwise (fun a b=>Jr a b=true)
def same (w:List (List Str)) (x y:Str):Prop:=∃ s∈w,x∈s/\y∈s
theorem Lb {α:Type}:∀ {w:List (List α)},w.flatten.Nodup->∀ {s t:List α} {x:α},s∈w->t∈w->x∈s->x∈t->s=t
 |a::w,h,s,t,x,hs,ht,xs,xt=>by
  rw[ZI,qS] at h
  rcases List.mem_cons.mp hs with e1|e1<;>rcases List.mem_cons.mp ht with e2|e2
  ·rw[e1,e2]
  ·exact absurd rfl (h.2.2 x (by rw[<-e1];exact xs) x (List.mem_flatten.mpr ⟨t,e2,xt⟩))
  ·exact absurd rfl (h.2.2 x (by rw[<-e2];exact xt) x (List.mem_flatten.mpr ⟨s,e1,xs⟩))
  ·exact Lb h.2.1 e1 e2 xs xt
theorem zx {α:Type}:∀ {w:List (List α)},w.flatten.Nodup->∀ {s:List α},s∈w->s.Nodup
 |a::w,h,s,hs=>by
  rw[ZI,qS] at h
  rcases List.mem_cons.mp hs with e|e
  ·rw[e];exact h.1
  ·exact zx h.2.1 e
theorem uV {α:Type}:∀ {w:List (List α)},w.flatten.Nodup->(∀ s∈w,s≠[])->w.Nodup
 |[],_,_=>Qb
 |a::w,h,hn=>by
  have h':=h
  rw[ZI,qS] at h
  refine List.nodup_cons.mpr ⟨fun z=>?_,uV h.2.1 fun s hs=>hn s (zg _ hs)⟩
  obtain⟨x,hx⟩:=List.exists_mem_of_ne_nil a (hn a (zh ..))
  exact absurd rfl (h.2.2 x hx x (List.mem_flatten.mpr ⟨a,z,hx⟩))
theorem Wd.lM {U:List Str} {w:List (List Str)} (W:Wd U w) {s:List Str} (hs:s∈w) {x y:Str} (hx:x∈s):same w x y↔y∈s:=
 ⟨fun ⟨t,ht,xt,yt⟩=>by rw[Lb W.nd hs ht hx xt];exact yt,fun hy=>⟨s,hs,hx,hy⟩⟩
theorem Ld {U:List Str} {w w':List (List Str)} (W:Wd U w) (W':Wd U w') (h1:∀ x,x∈w.flatten↔x∈w'.flatten) (h2:∀ x y,same w x y↔same w' x y) {s:List Str} (hs:s∈w):s∈w':=by
 obtain⟨x,hx⟩:=List.exists_mem_of_ne_nil s (W.ne s hs)
 obtain⟨t,ht,xt⟩:=List.mem_flatten.mp ((h1 x).mp (List.mem_flatten.mpr ⟨s,hs,hx⟩))
 have:s=t:=uz (sZ (zx W.nd hs) (zx W'.nd ht) fun y=>by rw[<-W.lM hs hx,h2,W'.lM ht xt]) (W.so s hs) (W'.so t ht)
 rw[this];exact ht
theorem Za {U:List Str} {w w':List (List Str)} (W:Wd U w) (W':Wd U w') (h1:∀ x,x∈w.flatten↔x∈w'.flatten) (h2:∀ x y,same w x y↔same w' x y):w=w':=
 qu (fun _ _=>Nr) (sZ (uV W.nd W.ne) (uV W'.nd W'.ne) fun s=>⟨Ld W W' h1 h2,Ld W' W (fun x=>(h1 x).symm) fun x y=>(h2 x y).symm⟩) W.st W'.st
section
variable {α β:Type}
structure Zb (m:List (Int×List α)) (xs:List α):Prop where
 k:(m.map (·.1)).Nodup
 ne:∀ q∈m,q.2≠[]
 p:(m.map (·.2)).flatten.Perm xs
theorem Zb.put {m:List (Int×List α)} {xs:List α} (h:Zb m xs) (k:Int) (x:α):Zb (qD m k x) (xs++[x]):=by
 unfold qD
 split
 ·rename_i hk
  obtain⟨q0,hq,e⟩:=List.any_eq_true.mp hk
  have e:q0.1=k:=kr e
  obtain⟨pre,rest,rfl⟩:=List.append_of_mem hq
  have nk:=h.k
  rw[Zp,zl,qS] at nk
  have fix:∀ l:List (Int×List α),k∉l.map (·.1)->l.map (fun q=>if q.1=k then (q.1,q.2++[x]) else q)=l:=fun l hl=>by
   conv=>rhs;rw[<-List.map_id l]
   exact ZY fun q hq=>by rw[zS fun z=>hl (List.mem_map.mpr ⟨q,hq,z⟩)];rfl
  have f1:=fix pre fun z=>nk.2.2 _ z _ (zh ..) e.symm
  have f2:=fix rest fun z=>(List.nodup_cons.mp nk.2.1).1 (by rw[e];exact z)
  have f3:(pre++q0::rest).map (fun q=>if q.1=k then (q.1,q.2++[x]) else q)=pre++(q0.1,q0.2++[x])::rest:=by rw[Zp,zl,f1,f2,zo e]
  rw[f3]
  refine⟨by have:=h.k;simpa using this,fun q hq=>?_,?_⟩
  ·rcases List.mem_append.mp hq with hq|hq
   ·exact h.ne q (QI _ hq)
   ·rcases List.mem_cons.mp hq with z|hq
    ·rw[z];simp
    ·exact h.ne q (Zl _ (zg _ hq))
  ·refine List.Perm.trans ?_ (h.p.append_right [x])
   simp only[Zp,zl,List.flatten_append,ZI,qV]
   refine List.Perm.append_left _ (List.Perm.append_left _ ?_)
   exact List.perm_append_comm
 ·rename_i hk
  refine⟨?_,fun q hq=>?_,?_⟩
  ·rw[Zp,qS]
   refine⟨h.k,by simp,fun a ha b hb=>?_⟩
   have hb:b=k:=by simpa using hb
   subst hb
   intro z
   subst z
   obtain⟨q,hq,e⟩:=List.mem_map.mp ha
   exact hk (List.any_eq_true.mpr ⟨q,hq,JU e⟩)
  ·rcases List.mem_append.mp hq with hq|hq
   ·exact h.ne q hq
   ·cases List.mem_singleton.mp hq;simp
  ·rw[Zp,List.flatten_append]
   simpa using h.p.append_right [x]
theorem Vo (k:β->Int) (v:β->α) (xs:List β):Zb (GK k v xs) (xs.map v):=by
 unfold GK
 have:∀ (ys:List β) (m:List (Int×List α)) (zs:List α),Zb m zs->Zb (ys.foldl (fun m x=>qD m (k x) (v x)) m) (zs++ys.map v):=by
  intro ys
  induction ys with
  |nil=>intro m zs h;simpa using h
  |cons y ys ih=>
   intro m zs h
   have:=ih _ _ (h.put (k y) (v y))
   simpa [qV] using this
 simpa using this xs [] [] ⟨Qb,fun _ h=>(by cases h),.nil⟩
theorem zy [Inhabited α] {m:List (Int×α)} (nd:(m.map (·.1)).Nodup) {q:Int×α} (h:q∈m):look m q.1=q.2:=by
 unfold look
 cases hf:m.find? fun p=>decide (p.1=q.1) with
 |none=>exact absurd (List.find?_eq_none.mp hf q h) (by simp)
 |some p=>
  have h1:=List.mem_of_find?_eq_some hf
  have h2:p.1=q.1:=by simpa using List.find?_some hf
  have:p=q:=uU (f:=fun p:Int×α=>p.1) nd h1 h h2
  rw[this];rfl
end
theorem zA:∀ {m:List (List Str)},(m.map bC).flatten.Perm m.flatten
 |[]=>.nil
 |s::m=>by rw[zl,ZI,ZI];exact (bx s).append zA
theorem Nx {w w':List (List Str)} (h:w.Perm w'):w.flatten.Perm w'.flatten:=by
 induction h with
 |nil=>exact .nil
 |cons x _ ih=>rw[ZI,ZI];exact ih.append_left x
 |swap x y l=>
  simp only[ZI,<-qV]
  exact List.perm_append_comm.append_right _
 |trans _ _ h1 h2=>exact h1.trans h2
theorem Zc {m:List (Int×List Str)} {xs U:List Str} (h:Zb m xs) (nd:xs.Nodup) (hU:∀ x∈xs,x∈U):Wd U (oX ((m.map (·.1)).map fun k:Int=>bC (look m k)))/\(oX ((m.map (·.1)).map fun k:Int=>bC (look m k))).flatten.Perm xs:=by
 have e:((m.map (·.1)).map fun k:Int=>bC (look m k))=(m.map (·.2)).map bC:=by
  rw[ZE,ZE]
  exact ZY fun q hq=>by simp only[Function.comp,zy h.k hq]
 rw[e]
 have pm:=wU ((m.map (·.2)).map bC)
 have pf:(oX ((m.map (·.2)).map bC)).flatten.Perm xs:=(Nx pm).trans (zA.trans h.p)
 have mem:∀ s∈oX ((m.map (·.2)).map bC),∃ q∈m,s=bC q.2:=fun s hs=>by
  obtain⟨t,ht,rfl⟩:=List.mem_map.mp (pm.mem_iff.mp hs)
  obtain⟨q,hq,rfl⟩:=List.mem_map.mp ht
  exact⟨q,hq,rfl⟩
 refine⟨⟨fun s hs z=>?_,fun s hs=>?_,pf.nodup_iff.mpr nd,fun x hx=>hU x (pf.mem_iff.mp hx),wV _⟩,pf⟩
 ·obtain⟨q,hq,rfl⟩:=mem s hs
  exact h.ne q hq (by have:=(bx q.2).length_eq;rw[z] at this;exact List.length_eq_zero_iff.mp this.symm)
 ·obtain⟨q,hq,rfl⟩:=mem s hs
  exact iy _
end P1
end
section
set_option synthInstance.maxSize 100000
namespace G39
open PySem PySem.Spec PyProof.Rows L2 P1
noncomputable section
abbrev Ro:Type:=Int×Str
def top (i:Nat):Stmt:=PySem.Challenge.pw_onefolk_k39_asks_and_answers.main.body.getD i (.Pass ⟨0,0,0,0⟩)
abbrev jM:Stmt:=top 7
abbrev fQ:Stmt:=top 8
abbrev iW:Stmt:=top 9
abbrev cU:Stmt:=top 11
abbrev fU:Stmt:=top 10
abbrev gR:Stmt:=top 12
abbrev jN:Stmt:=top 1
abbrev jO:Stmt:=top 3
abbrev lR:Stmt:=top 4
abbrev eU:Stmt:=top 13
abbrev nW:Stmt:=top 5
abbrev jP:Stmt:=top 14
abbrev cF:Stmt:=top 15
abbrev uW:Stmt:=top 16
def rP:Ev->Option Out:=(aG (aG (setG 2 (b2 jg (b2 jh (b2 um (gv 2) (cB (.int 69621))) (gv 3)) (cB (.int 2147483647)))) jG) (eY [3]))
def oY:Ev->Option Out:=(aG (Bg (z7 Zy (gv 1) (dY rz (au (gv 0) aK))) (aG (lW (b2 n8 (gv 0) (gv 1))) jG) jG) (aG (setG 2 (b2 jg (b2 um (cB (.int 48271)) (b2 jh (b2 jh (b2 um (gv 1) (gv 1)) (b2 um (cB (.int 7)) (gv 1))) (cB (.int 11)))) (cB (.int 2147483647)))) (aG (qp (T6 (Bl (gv 0) iw (lD (cB (.int 3))))) (pJ 3) rP) (aG (lW (gv 2)) jG))))
def gJ:List Bx->Option Bx:=jq 4 oY
def jQ:Ev->Option Out:=(aG (aG (setG 3 (b2 jg (b2 jh (b2 jh (b2 um (gv 3) (b2 jh (b2 jg (gv 3) (cB (.int 65521))) (cB (.int 40487)))) (b2 um (cB (.int 7)) (gv 5))) (cB (.int 5))) (cB (.int 1999999973)))) (aG (Af 2 (b2 n8 (dY p8 (au (gv 3) (au (b2 jg (gv 4) (cB (.int 1000000))) aK))) (dY PK (au (b2 gtB (gv 4) (cB (.int 0))) aK)))) (aG (setG 4 (b2 rK (gv 4) (cB (.int 1000000)))) jG))) (eY [5]))
def j4:Ev->Option Out:=(aG (setG 2 (dY p8 aK)) (aG (setG 3 (b2 jg (b2 um (b2 jh (b2 jg (gv 0) (cB (.int 1999999973))) (cB (.int 31))) (cB (.int 765432101))) (cB (.int 1999999973)))) (aG (setG 4 (cB (.int 0))) (aG (Bg (O4 (z7 Zy (gv 0) (cB (.int 0))) (z7 geB (gv 0) (b2 XH (cB (.int 10)) (cB (.int 18))))) (aG (aG (setG 4 (dY PJ (au (gv 0) aK))) jG) (eY [])) (aG jG (eY []))) (aG (qp (FT (au (gv 1) aK)) (pJ 5) jQ) (aG (Ab 2) jG))))))
def dh:List Bx->Option Bx:=jq 6 j4
def lY:Ev->Option Out:=(aG (aG (setG 7 (b2 n8 (gv 2) (b2 jg (b2 jh (gv 6) (b2 n8 (gv 0) (cB (.int 2)))) (cB (.int 15))))) (aG (setG 8 (b2 jh (b2 jh (Bl (gv 3) iw (lD (gv 4))) (gv 7)) (Bl (gv 3) (lD (gv 4)) iw))) (aG (Bg (z7 eqB (b2 jg (b2 n8 (gv 0) (cB (.int 3))) (cB (.int 3))) (cB (.int 1))) (aG (aG (setG 8 (b2 um (b2 n8 (gv 2) (b2 rK (gv 6) (cB (.int 8)))) (b2 jh (cB (.int 1)) (b2 jg (gv 6) (cB (.int 8)))))) jG) (eY [])) (aG jG (eY []))) (aG (Af 5 (gv 8)) jG)))) (eY [6,7,8]))
def mL:Ev->Option Out:=(aG (setG 2 (cB (.str "abcdefghijklmnopqrstuvwxyz"))) (aG (setG 3 (b1 (FW "") (fM (FT (au (b2 jg (b2 n8 (gv 0) (cB (.int 0))) (cB (.int 6))) aK)) (pJ 2) lJ (b2 n8 (gv 0) (b2 jg (b2 rK (b2 n8 (gv 1) (gv 2)) (cB (.int 40))) (cB (.int 26)))) [2,0] 1))) (aG (setG 4 (b2 jg (b2 n8 (gv 0) (cB (.int 1))) (b2 jh (dY rz (au (gv 3) aK)) (cB (.int 1))))) (aG (setG 5 (dY p8 aK)) (aG (qp (FT (au (gv 1) aK)) (pJ 6) lY) (aG (Ab 5) jG))))))
def eZ:List Bx->Option Bx:=jq 9 mL
def kW:Ev->Option Out:=(aG (aG (setG 6 (fM (FT (au (cB (.int 3)) aK)) (pJ 2) (z7 eqB (b2 K9 (b2 Vh (gv 1) (gv 2)) (cB (.int 1))) (cB (.int 1))) (b2 n8 (gv 0) (gv 2)) [3,5] 1)) (aG (Bg (z7 gtB (dY rz (au (gv 6) aK)) (cB (.int 1))) (aG (aG (Af 6 (b2 n8 (gv 1) (gv 2))) jG) (eY [])) (aG jG (eY []))) (aG (Af 4 (dY oN (au (fM (FQ (dY uD (au (gv 6) aK))) (pJ 0) lJ (dY tZ (au (gv 0) aK)) [] 1) aK))) jG))) (eY [5,6]))
def gj:Ev->Option Out:=(aG (setG 2 (b2 jg (b2 n8 (gv 0) (cB (.int 0))) (cB (.int 4)))) (aG (setG 3 (fM (FT (au (cB (.int 4)) aK)) (pJ 2) (z7 Kl (gv 2) (gv 1)) (b2 n8 (gv 0) (gv 2)) [1,2] 1)) (aG (setG 4 (dY p8 aK)) (aG (qp (FT (au (cB (.int 8)) aK)) (pJ 5) kW) (aG (setG 7 (b2 jg (b2 n8 (gv 0) (cB (.int 1))) (cB (.int 8)))) (aG (lW (dY oN (au (Bl (b2 jh (Bl (gv 4) (lD (gv 7)) iw) (Bl (gv 4) iw (lD (gv 7)))) (lD (b2 jg (b2 n8 (gv 0) (cB (.int 2))) (cB (.int 3)))) iw) aK))) jG))))))
def cg:List Bx->Option Bx:=jq 8 gj
def j5:Ev->Option Out:=(aG (setG 2 (fun _=>some (.m [] none))) (aG (zq 2 4 3 (FT (au (dY rz (au (gv 0) aK)) aK)) (b2 jg (b2 rK (b2 n8 (gv 1) (b2 jg (gv 3) (dY rz (au (gv 1) aK)))) (b2 jh (cB (.int 1)) (b2 rK (gv 3) (dY rz (au (gv 1) aK))))) (dY PX (au (cB (.int 1)) (au (dY rz (au (gv 0) aK)) aK)))) (z7 gtB (b2 jg (b2 n8 (gv 1) (cB (.int 0))) (cB (.int 3))) (cB (.int 0))) (b2 jg (gv 4) (cB (.int 3))) (b2 n8 (gv 0) (gv 3))) (aG (lW (dY yP (au (fM (KQ (gv 2)) (pJ 1) lJ (dY oN (au (dY uD (au (b2 Bm (gv 0) (gv 1)) aK)) aK)) [2] 1) aK))) jG)))
def dR:List Bx->Option Bx:=jq 5 j5
def pN:Ev->Option Out:=(aG (aG (setG 6 (fY 2 dh (au (b1 Hu (fY 2 gJ (au (gv 0) (au (b1 Hu (b2 jh (b2 jh (gv 1) (cB (.int 1))) (gv 5))) aK)))) (au (cB (.int 10)) aK)))) (aG (setG 7 (fM (FT (au (dY rz (au (gv 3) aK)) aK)) (pJ 3) (O4 (z7 eqB (b2 K9 (b2 Vh (b2 rK (b2 n8 (gv 2) (cB (.int 9))) (cB (.int 7))) (gv 3)) (cB (.int 1))) (cB (.int 0))) (z7 gtB (b2 jg (b2 n8 (gv 1) (cB (.int 9))) (cB (.int 3))) (cB (.int 0)))) (b2 n8 (gv 0) (gv 3)) [3,2,6] 1)) (aG (Bg (O2 (z7 Kl (gv 4) (dY p8 aK)) (z7 eqB (b2 jg (b2 n8 (gv 6) (cB (.int 8))) (cB (.int 3))) (cB (.int 1)))) (aG (aG (setG 7 (fM (FQ (gv 3)) (pJ 1) (tV (dY anyB (au (fM (FQ (b2 n8 (gv 0) (b1 Pq (cB (.int 1))))) (pJ 1) lJ (b2 inF (gv 0) (gv 1)) [1] 1) aK))) (gv 1) [4] 1)) jG) (eY [])) (aG jG (eY []))) (aG (setG 8 (dY oN (au (fY 2 dR (au (gv 7) (au (b1 Hu (Bl (gv 6) iw (lD (cB (.int 8))))) aK))) aK))) (aG (Bg (z7 QC (gv 8) (gv 4)) (aG (aG (Af 4 (gv 8)) jG) (eY [])) (aG jG (eY []))) jG))))) (eY [5,6,7,8]))
def lN:Ev->Option Out:=(aG (setG 2 (fY 2 dh (au (b1 Hu (fY 2 gJ (au (gv 0) (au (gv 1) aK)))) (au (cB (.int 10)) aK)))) (aG (Bg (z7 eqB (b2 jg (b2 rK (b2 n8 (gv 2) (cB (.int 7))) (cB (.int 4))) (cB (.int 4))) (cB (.int 1))) (aG (lW (fY 2 cg (au (b1 Hu (dY p8 (au (b2 n8 (gv 2) (cB (.int 6))) (au (b2 n8 (gv 2) (cB (.int 8))) (au (b2 n8 (gv 2) (cB (.int 9))) aK))))) (au (b1 Hu (dY uD (au (fY 2 eZ (au (gv 2) (au (cB (.int 4)) aK))) aK))) aK)))) jG) jG) (aG (setG 3 (dY uD (au (fY 2 eZ (au (gv 2) (au (b1 Hu (b2 jh (cB (.int 1)) (b2 jg (b2 n8 (gv 2) (cB (.int 6))) (b2 n8 (dY p8 (au (cB (.int 8)) (au (cB (.int 4)) (au (cB (.int 6)) (au (cB (.int 3)) aK))))) (b2 jg (b2 n8 (gv 2) (cB (.int 7))) (cB (.int 4))))))) aK))) aK))) (aG (setG 4 (dY p8 aK)) (aG (qp (FT (au (b2 jh (cB (.int 1)) (b2 jg (b2 n8 (gv 2) (cB (.int 8))) (cB (.int 8)))) aK)) (pJ 5) pN) (aG (lW (dY oN (au (gv 4) aK))) jG))))))
def fu:List Bx->Option Bx:=jq 9 lN
def oZ:Ev->Option Out:=(aG (lW (dY uD (au (zp (FQ (gv 0)) (pJ 0) lJ (inC (T6 (gv 0)) (pJ 1) lJ (Fq (gv 1))) [] 2) aK))) jG)
def iB:List Bx->Option Bx:=jq 1 oZ
def o7:Ev->Option Out:=(aG (lW (KJ (K7 (cls2 (FQ (gv 0)) (pJ 0) lJ (inC (T6 (fY 1 iB (au (gv 0) aK))) (pJ 1) lJ (Fq (gv 1))) [] 2)))) jG)
def iD:List Bx->Option Bx:=jq 1 o7
def qU:Ev->Option Out:=(aG (setG 1 (fY 1 iD (au (gv 0) aK))) (aG (setG 2 (fM (FQ (gv 1)) (pJ 0) lJ (dY tZ (au (cB (.str "stands")) (au (gv 0) aK))) [] 1)) (aG (lW (b2 jh (gv 2) (zp (enC (au (gv 1) aK)) (Fi 2 (vO (pJ 1) (vO (pJ 2) O9))) lJ (inC (T6 (Bl (gv 0) (lD (b2 jh (gv 1) (cB (.int 1)))) iw)) (pJ 3) lJ (Fq (dY tZ (au (cB (.str "one")) (au (gv 2) (au (gv 3) aK)))))) [1] 3))) jG)))
def fV:List Bx->Option Bx:=jq 3 qU
def mO:Ev->Option Out:=(aG (aG (Qc 1 (cB (.bl true)) (gv 4)) jG) (eY [4]))
def mQ:Ev->Option Out:=(aG (aG (nq 3 (pJ 4) mO) jG) (eY [3,4]))
def mR:Ev->Option Out:=(aG (aG (nq 2 (pJ 3) mQ) jG) (eY [2,3,4]))
def mU:Ev->Option Out:=(aG (aG (QG 6 (fM (FQ (Bl (gv 5) (lD (b2 jh (gv 7) (cB (.int 1)))) iw)) (pJ 2) lJ (dY tZ (au (cB (.str "one")) (au (b2 n8 (gv 0) (gv 1)) (au (gv 2) aK)))) [5,7] 1)) jG) (eY [7]))
def ju:Ev->Option Out:=(aG (setG 1 (fun _=>some (.m [] none))) (aG (nq 0 (pJ 2) mR) (aG (setG 5 (dY yI (au (gv 1) aK))) (aG (setG 6 (fM (FQ (gv 5)) (pJ 0) lJ (dY tZ (au (cB (.str "stands")) (au (gv 0) aK))) [] 1)) (aG (qp (FT (au (dY rz (au (gv 5) aK)) aK)) (pJ 7) mU) (aG (Ab 6) jG))))))
def cR:List Bx->Option Bx:=jq 8 ju
def uX:Ev->Option Out:=(aG (lW (dY anyB (au (fM (FQ (gv 0)) (pJ 1) lJ (b1 Hu (dY allB (au (fM (FQ (Bl (gv 0) (lD (cB (.int 1))) iw)) (pJ 1) lJ (b2 inF (gv 1) (gv 0)) [1] 1) aK))) [1] 1) aK))) jG)
def jw:List Bx->Option Bx:=jq 2 uX
def rQ:Ev->Option Out:=(aG (aG (Bg (tV (dY allB (au (fM (FQ (Bl (gv 1) (lD (cB (.int 1))) iw)) (pJ 1) lJ (b2 inF (gv 1) (gv 0)) [2] 1) aK))) (aG (lW (cB (.bl true))) jG) jG) jG) (eY [2]))
def o8:Ev->Option Out:=(aG (nq 0 (pJ 2) rQ) (aG (lW (cB (.bl false))) jG))
def iG:List Bx->Option Bx:=jq 3 o8
def jx:Ev->Option Out:=(aG (aG (setG 6 (fY 2 jw (au (gv 3) (au (gv 5) aK)))) (aG (Bg (O4 (Ih (tV (yF is_bool (gv 6)))) (z7 Kl (gv 6) (fY 2 iG (au (gv 3) (au (gv 5) aK))))) (aG (lW (cB (.bl false))) jG) jG) (aG (Af 4 (gv 6)) jG))) (eY [5,6]))
def jy:Ev->Option Out:=(aG (aG (setG 4 (dY p8 aK)) (aG (nq 1 (pJ 5) jx) (fzG 4 (aG (Bg (z7 inX (gv 4) (gv 2)) (aG (lW (cB (.bl false))) jG) jG) (aG (Af 2 (gv 4)) jG))))) (eY [3,4,5,6]))
def dZ:Ev->Option Out:=(aG (setG 2 (dY p8 aK)) (aG (nq 0 (pJ 3) jy) (aG (lW (cB (.bl true))) jG)))
def bK:List Bx->Option Bx:=jq 7 dZ
def GP:Ev->Option Out:=(aG (aG (Bg (tV (dY anyB (au (fM (FQ (gv 1)) (pJ 1) lJ (b2 Kl (fY 2 jw (au (gv 1) (au (gv 0) aK))) (cB (.bl false))) [4] 1) aK))) (aG (lW (cB (.bl false))) jG) jG) jG) (eY [4]))
def Le:Ev->Option Out:=(aG (setG 1 (fY 2 fu (au (gv 0) (au (cB (.int 0)) aK)))) (aG (setG 2 (fY 1 fV (au (gv 1) aK))) (aG (setG 3 (fY 1 cR (au (gv 1) aK))) (aG (Bg (O4 (Ih (tV (yF is_list (gv 2)))) (O4 (z7 Kl (gv 2) (gv 3)) (Ih (tV (dY allB (au (fM (FQ (gv 2)) (pJ 0) lJ (b1 Hu (yF kj (gv 0))) [] 1) aK)))))) (aG (lW (cB (.bl false))) jG) jG) (aG (Bg (Ih (tV (fY 2 bK (au (gv 1) (au (gv 3) aK))))) (aG (lW (cB (.bl false))) jG) jG) (aG (Np 2) (aG (Af 2 (cB .non)) (aG (Bg (O4 (z7 Kl (fY 1 fV (au (gv 1) aK)) (gv 3)) (O4 (z7 Kl (fY 1 fV (au (b1 Hu (Bl (gv 1) iw (lD (cB (.int 1))))) aK)) (fY 1 cR (au (b1 Hu (Bl (gv 1) iw (lD (cB (.int 1))))) aK))) (z7 Kl (fY 1 fV (au (dY tZ (au (dY tZ aK) aK)) aK)) (dY p8 aK)))) (aG (lW (cB (.bl false))) jG) jG) (aG (qp (T6 (dY p8 (au (dY tZ (au (cB (.str "stands")) (au (cB (.str "zzzzzzzz")) aK))) (au (dY tZ (au (cB (.str "one")) (au (cB (.str "zzzzzzzy")) (au (cB (.str "zzzzzzzz")) aK)))) aK)))) (pJ 4) GP) (aG (lW (cB (.bl true))) jG))))))))))
def mV:List Bx->Option Bx:=jq 5 Le
end
end G39
end
section
set_option synthInstance.maxSize 100000
namespace G39
open PySem PySem.Spec PyProof.Rows L2 P1
structure T (K:PySem.W.Frag) (mg:Str->Option Value) (iH:Addr) (iY:FuncData) (dU:Addr) (eV:FuncData) (gK:Addr) (gU:FuncData) (cj:Addr) (cI:FuncData) (dW:Addr) (eX:FuncData) (fB:Addr) (fW:FuncData) (iI:Addr) (iZ:FuncData) (iJ:Addr) (jc:FuncData) (jR:Addr) (jT:FuncData) (dD:Addr) (dH:FuncData) (kY:Addr) (jU:FuncData) (iK:Addr) (jd:FuncData) (bL:Addr) (bR:FuncData) (BR:Addr) (zB:FuncData):Prop where
 gJ:zZ K "_law_cell" "_law_cell" jM iH iY
 zF:Binds K iY ["_law_script", "_law_k"] []
 zG:mg "_law_cell" = some (.ref iH)
 zH:PySem.W.keepIn K (.ref iH)=true
 dh:zZ K "_law_numbers" "_law_numbers" fQ dU eV
 rR:Binds K eV ["_law_cell_here", "_law_many"] []
 rT:mg "_law_numbers" = some (.ref dU)
 rW:PySem.W.keepIn K (.ref dU)=true
 eZ:zZ K "_law_names" "_law_names" iW gK gU
 wX:Binds K gU ["_law_xs", "_law_many"] []
 wY:mg "_law_names" = some (.ref gK)
 wZ:PySem.W.keepIn K (.ref gK)=true
 cg:zZ K "_law_hard_worlds" "_law_hard_worlds" cU cj cI
 uY:Binds K cI ["_law_xs", "_law_names_here"] []
 uZ:mg "_law_hard_worlds" = some (.ref cj)
 u0:PySem.W.keepIn K (.ref cj)=true
 dR:zZ K "_law_joining" "_law_joining" fU dW eX
 Aj:Binds K eX ["_law_names_here", "_law_xs"] []
 Ak:mg "_law_joining" = some (.ref dW)
 Al:PySem.W.keepIn K (.ref dW)=true
 fu:zZ K "_law_worlds" "_law_worlds" gR fB fW
 DP:Binds K fW ["_law_script", "_law_at"] []
 DQ:mg "_law_worlds" = some (.ref fB)
 DR:PySem.W.keepIn K (.ref fB)=true
 iB:zZ K "names_in" "names_in" jN iI iZ
 Jv:Binds K iZ ["sets"] []
 Jw:mg "names_in" = some (.ref iI)
 Jx:PySem.W.keepIn K (.ref iI)=true
 iD:zZ K "names_of" "names_of" jO iJ jc
 Jy:Binds K jc ["worlds"] []
 Jz:mg "names_of" = some (.ref iJ)
 JB:PySem.W.keepIn K (.ref iJ)=true
 fV:zZ K "asks_of" "asks_of" lR jR jT
 qW:Binds K jT ["worlds"] []
 qX:mg "asks_of" = some (.ref jR)
 qY:PySem.W.keepIn K (.ref jR)=true
 cR:zZ K "_law_all_asks" "_law_all_asks" eU dD dH
 qF:Binds K dH ["_law_worlds_here"] []
 qG:mg "_law_all_asks" = some (.ref dD)
 qH:PySem.W.keepIn K (.ref dD)=true
 jw:zZ K "answer" "answer" nW kY jU
 GQ:Binds K jU ["world", "ask"] []
 GR:mg "answer" = some (.ref kY)
 GX:PySem.W.keepIn K (.ref kY)=true
 iG:zZ K "_law_says" "_law_says" jP iK jd
 JC:Binds K jd ["_law_world", "_law_ask"] []
 JD:mg "_law_says" = some (.ref iK)
 JF:PySem.W.keepIn K (.ref iK)=true
 bK:zZ K "_law_answers_right" "_law_answers_right" cF bL bR
 rA:Binds K bR ["_law_worlds_here", "_law_asks"] []
 rB:mg "_law_answers_right" = some (.ref bL)
 rC:PySem.W.keepIn K (.ref bL)=true
 mV:zZ K "law" "law" uW BR zB
 aeu:Binds K zB ["_law_script"] []
 aev:mg "law" = some (.ref BR)
 aew:PySem.W.keepIn K (.ref BR)=true
 GZ:mg "abs" = none
 zJ:mg "all" = none
 zK:mg "any" = none
 zL:mg "bool" = none
 kZ:mg "enumerate" = none
 G5:mg "int" = none
 fD:mg "isinstance" = none
 nY:mg "len" = none
 zM:mg "list" = none
 G7:mg "max" = none
 gk:mg "range" = none
 fO:mg "sorted" = none
 j6:mg "tuple" = none
section
variable {P:Program} {w:World} {K:PySem.W.Frag} {mg:Str->Option Value} {base:Heap} {iH:Addr} {iY:FuncData} {dU:Addr} {eV:FuncData} {gK:Addr} {gU:FuncData} {cj:Addr} {cI:FuncData} {dW:Addr} {eX:FuncData} {fB:Addr} {fW:FuncData} {iI:Addr} {iZ:FuncData} {iJ:Addr} {jc:FuncData} {jR:Addr} {jT:FuncData} {dD:Addr} {dH:FuncData} {kY:Addr} {jU:FuncData} {iK:Addr} {jd:FuncData} {bL:Addr} {bR:FuncData} {BR:Addr} {zB:FuncData} (t:T K mg iH iY dU eV gK gU cj cI dW eX fB fW iI iZ iJ jc jR jT dD dH kY jU iK jd bL bR BR zB)
theorem w5:cL ["_law_script", "_law_k", "_law_state", "_law_cell_here"] ["_law_script", "_law_k"] (aH jM):=uI
include t in
theorem G8:dB P w K mg base nH 1 iH iY ["_law_script", "_law_k"] (pP K 2 gJ):=by
 unfold gJ
 refine uE (k:=0) (g:=oY) t.gJ w5 rfl rfl fun cdv A outer s H E hr=>?_
 have hu:=fZ hr
 have nd:=w5.nd
 exact (aq (mH (d8 PL (aj 1) (bB oM rfl t.nY oK (ak (aj 0) aB)) (d7 _)) (aq (d9 (cW (aj 0) (aj 1))) aO) aO) (aq (bH 2 nd (aU cQ (aU qj aD (aU dN (aU dN (aU qj (aj 1) (aj 1)) (aU qj aD (aj 1))) aD)) aD)) (aq (sO PassesOwn.never rfl (uc (nQ (aj 0) eE (eF aD))) (bf 3 nd) (bF [3] (aq (bH 2 nd (aU cQ (aU dN (aU qj (aj 2) aD) (aj 3)) aD)) aO))) (aq (d9 (aj 2)) aO))))
theorem qI:cL ["_law_cell_here", "_law_many", "_law_found", "_law_state", "_law_digits", "_law_k"] ["_law_cell_here", "_law_many"] (aH fQ):=uI
include t in
theorem zN:dB P w K mg base nH 1 dU eV ["_law_cell_here", "_law_many"] (pP K 2 dh):=by
 unfold dh
 refine uE (k:=0) (g:=j4) t.dh qI rfl rfl fun cdv A outer s H E hr=>?_
 have hu:=fZ hr
 have nd:=qI.nd
 exact (aq (bH 2 nd (lu aB)) (aq (bH 3 nd (aU cQ (aU qj (aU dN (aU cQ (aj 0) aD) aD) aD) aD)) (aq (bH 4 nd aD) (aq (mH (Mj (sI (d8 PL (aj 0) aD (d7 _)) (tY (d8 aaK (aj 0) (aU XJ aD aD) (d7 _))))) (bF [] (aq (bH 4 nd (bB X7 rfl t.GZ X3 (ak (aj 0) aB))) aO)) (bF [] aO)) (aq (sO PassesOwn.never rfl (ig rfl t.gk (ak (aj 1) aB)) (bf 5 nd) (bF [5] (aq (bH 3 nd (aU cQ (aU dN (aU dN (aU qj (aj 3) (aU dN (aU cQ (aj 3) aD) aD)) (aU qj aD (aj 5))) aD) aD)) (aq (qb 2 (cW (lu (ak (aj 3) (ak (aU cQ (aj 4) aD) aB))) (lO X8 rfl t.G5 XS (ak (yq Km (aj 4) aD (d7 _)) aB)))) (aq (bH 4 nd (aU oJ (aj 4) aD)) aO))))) (aq (CJ 2) aO))))))
theorem u5:cL ["_law_xs", "_law_many", "_law_letters", "_law_stem", "_law_at", "_law_found", "_law_k", "_law_mark", "_law_name"] ["_law_xs", "_law_many"] (aH iW):=uI
include t in
theorem DW:dB P w K mg base nH 1 gK gU ["_law_xs", "_law_many"] (pP K 2 eZ):=by
 unfold eZ
 refine uE (k:=0) (g:=mL) t.eZ u5 rfl rfl fun cdv A outer s H E hr=>?_
 have hu:=fZ hr
 have nd:=u5.nd
 exact (aq (bH 2 nd nA) (aq (bH 3 nd (T9 (jY ["_law_k"] (oV ["_law_letters", "_law_xs"] [2,0]) rfl (CP (ig rfl t.gk (ak (aU cQ (cW (aj 0) aD) aD) aB))) (fun _ _ _ _=>(bf 2 (by show List.Nodup (_++_);decide +kernel))) (fun _ _ _ _=>bA) (fun _ _ _ _=>(cW (aj 0) (aU cQ (aU oJ (cW (aj 1) (aj 2)) aD) aD))) (bW)))) (aq (bH 4 nd (aU cQ (cW (aj 0) aD) (aU dN (bB oM rfl t.nY oK (ak (aj 3) aB)) aD))) (aq (bH 5 nd (lu aB)) (aq (sO PassesOwn.never rfl (ig rfl t.gk (ak (aj 1) aB)) (bf 6 nd) (bF [6,7,8] (aq (bH 7 nd (cW (aj 2) (aU cQ (aU dN (aj 6) (cW (aj 0) aD)) aD))) (aq (bH 8 nd (aU dN (aU dN (nQ (aj 3) eE (eF (aj 4))) (aj 7)) (nQ (aj 3) (eF (aj 4)) eE))) (aq (mH (d8 (of_eq hu) (aU cQ (cW (aj 0) aD) aD) aD (d7 _)) (bF [] (aq (bH 8 nd (aU qj (cW (aj 2) (aU oJ (aj 6) aD)) (aU dN aD (aU cQ (aj 6) aD)))) aO)) (bF [] aO)) (aq (qb 5 (aj 8)) aO)))))) (aq (CJ 5) aO))))))
theorem lZ:cL ["_law_xs", "_law_names_here", "_law_main", "_law_others", "_law_found", "_law_k", "_law_some", "_law_at"] ["_law_xs", "_law_names_here"] (aH cU):=uI
include t in
theorem tu:dB P w K mg base nH 1 cj cI ["_law_xs", "_law_names_here"] (pP K 2 cg):=by
 unfold cg
 refine uE (k:=0) (g:=gj) t.cg lZ rfl rfl fun cdv A outer s H E hr=>?_
 have hu:=fZ hr
 have nd:=lZ.nd
 exact (aq (bH 2 nd (aU cQ (cW (aj 0) aD) aD)) (aq (bH 3 nd (jY ["_law_j"] (oV ["_law_names_here", "_law_main"] [1,2]) rfl (CP (ig rfl t.gk (ak aD aB))) (fun _ _ _ _=>(bf 2 (by show List.Nodup (_++_);decide +kernel))) (fun _ _ _ _=>(oO (d8 (wD hu) (aj 2) (aj 1) (d7 _)))) (fun _ _ _ _=>(cW (aj 0) (aj 2))) (bW))) (aq (bH 4 nd (lu aB)) (aq (sO PassesOwn.never rfl (ig rfl t.gk (ak aD aB)) (bf 5 nd) (bF [5,6] (aq (ug 6 ["_law_j"] (oV ["_law_others", "_law_k"] [3,5]) rfl nd (CP (ig rfl t.gk (ak aD aB))) (fun _ _ _ _=>(bf 2 (by show List.Nodup (_++_);decide +kernel))) (fun _ _ _ _=>(oO (d8 (of_eq hu) (aU La (aU Rb (aj 1) (aj 2)) aD) aD (d7 _)))) (fun _ _ _ _=>(cW (aj 0) (aj 2))) (bW)) (aq (mH (d8 Km (bB oM rfl t.nY oK (ak (aj 6) aB)) aD (d7 _)) (bF [] (aq (qb 6 (cW (aj 1) (aj 2))) aO)) (bF [] aO)) (aq (qb 4 (lO qm rfl t.j6 nP (ak (jY ["_law_name"] (oV [] []) rfl (gP (bB nR rfl t.fO jL (ak (aj 6) aB))) (fun _ _ _ _=>(bf 0 (by show List.Nodup (_++_);decide +kernel))) (fun _ _ _ _=>bA) (fun _ _ _ _=>(oA (ak (aj 0) aB))) (bW)) aB))) aO))))) (aq (bH 7 nd (aU cQ (cW (aj 0) aD) aD)) (aq (d9 (lO qm rfl t.j6 nP (ak (nQ (aU dN (nQ (aj 4) (eF (aj 7)) eE) (nQ (aj 4) eE (eF (aj 7)))) (eF (aU cQ (cW (aj 0) aD) aD)) eE) aB))) aO))))))
theorem qJ:cL ["_law_names_here", "_law_xs", "_law_found", "_law_k", "_law_spot"] ["_law_names_here", "_law_xs"] (aH fU):=uI
include t in
theorem zO:dB P w K mg base nH 1 dW eX ["_law_names_here", "_law_xs"] (pP K 2 dR):=by
 unfold dR
 refine uE (k:=0) (g:=j5) t.dR qJ rfl rfl fun cdv A outer s H E hr=>?_
 have hu:=fZ hr
 have nd:=qJ.nd
 exact (aq (bH 2 nd Kq) (aq (Rj 2 4 3 PassesOwn.never rfl nd (ig rfl t.gk (ak (bB oM rfl t.nY oK (ak (aj 0) aB)) aB)) (aU cQ (aU oJ (cW (aj 1) (aU cQ (aj 3) (bB oM rfl t.nY oK (ak (aj 1) aB)))) (aU dN aD (aU oJ (aj 3) (bB oM rfl t.nY oK (ak (aj 1) aB))))) (bB (Yg rfl) rfl t.G7 X4 (ak aD (ak (bB oM rfl t.nY oK (ak (aj 0) aB)) aB)))) (d8 Km (aU cQ (cW (aj 1) aD) aD) aD (d7 _)) (aU cQ (aj 4) aD) (cW (aj 0) (aj 3))) (aq (d9 (bB Qm rfl t.fO jL (ak (Qz ["_law_spot"] (oV ["_law_found"] [2]) rfl (aj 2) (fun _ _ _ _=>(bf 1 (by show List.Nodup (_++_);decide +kernel))) (fun _ _ _ _=>bA) (fun _ _ _ _=>(lO qm rfl t.j6 nP (ak (bB nR rfl t.fO jL (ak (Ua hu (aj 0) (aj 1)) aB)) aB))) (bW)) aB))) aO)))
theorem rY:cL ["_law_script", "_law_at", "_law_head", "_law_names_here", "_law_found", "_law_k", "_law_xs", "_law_some", "_law_world"] ["_law_script", "_law_at"] (aH gR):=uI
include t in
theorem Am (o9:dB P w K mg base nH 1 iH iY ["_law_script", "_law_k"] (pP K 2 gJ)) (jz:dB P w K mg base nH 1 cj cI ["_law_xs", "_law_names_here"] (pP K 2 cg)) (nD:dB P w K mg base nH 1 dW eX ["_law_names_here", "_law_xs"] (pP K 2 dR)) (mX:dB P w K mg base nH 1 gK gU ["_law_xs", "_law_many"] (pP K 2 eZ)) (j7:dB P w K mg base nH 1 dU eV ["_law_cell_here", "_law_many"] (pP K 2 dh)):dB P w K mg base nH 2 fB fW ["_law_script", "_law_at"] (pP K 2 fu):=by
 unfold fu
 refine uE (k:=1) (g:=lN) t.fu rY rfl rfl fun cdv A outer s H E hr=>?_
 have hu:=fZ hr
 have nd:=rY.nd
 exact (aq (bH 2 nd (cN j7 (hr.mono (by decide)) rfl t.rT t.rW t.rR (ak (p7 (cN o9 (hr.mono (by decide)) rfl t.zG t.zH t.zF (ak (aj 0) (ak (aj 1) aB)))) (ak aD aB)))) (aq (mH (d8 (of_eq hu) (aU cQ (aU oJ (cW (aj 2) aD) aD) aD) aD (d7 _)) (aq (d9 (cN jz (hr.mono (by decide)) rfl t.uZ t.u0 t.uY (ak (p7 (lu (ak (cW (aj 2) aD) (ak (cW (aj 2) aD) (ak (cW (aj 2) aD) aB))))) (ak (p7 (bB nR rfl t.fO jL (ak (cN mX (hr.mono (by decide)) rfl t.wY t.wZ t.wX (ak (aj 2) (ak aD aB))) aB))) aB)))) aO) aO) (aq (bH 3 nd (bB nR rfl t.fO jL (ak (cN mX (hr.mono (by decide)) rfl t.wY t.wZ t.wX (ak (aj 2) (ak (p7 (aU dN aD (aU cQ (cW (aj 2) aD) (cW (lu (ak aD (ak aD (ak aD (ak aD aB))))) (aU cQ (cW (aj 2) aD) aD))))) aB))) aB))) (aq (bH 4 nd (lu aB)) (aq (sO PassesOwn.never rfl (ig rfl t.gk (ak (aU dN aD (aU cQ (cW (aj 2) aD) aD)) aB)) (bf 5 nd) (bF [5,6,7,8] (aq (bH 6 nd (cN j7 (hr.mono (by decide)) rfl t.rT t.rW t.rR (ak (p7 (cN o9 (hr.mono (by decide)) rfl t.zG t.zH t.zF (ak (aj 0) (ak (p7 (aU dN (aU dN (aj 1) aD) (aj 5))) aB)))) (ak aD aB)))) (aq (ug 7 ["_law_j"] (oV ["_law_names_here", "_law_head", "_law_xs"] [3,2,6]) rfl nd (CP (ig rfl t.gk (ak (bB oM rfl t.nY oK (ak (aj 3) aB)) aB))) (fun _ _ _ _=>(bf 3 (by show List.Nodup (_++_);decide +kernel))) (fun _ _ _ _=>(oO (Mj (sI (d8 (of_eq hu) (aU La (aU Rb (aU oJ (cW (aj 2) aD) aD) (aj 3)) aD) aD (d7 _)) (tY (d8 Km (aU cQ (cW (aj 1) aD) aD) aD (d7 _))))))) (fun _ _ _ _=>(cW (aj 0) (aj 3))) (bW)) (aq (mH (Mj (Tj (d8 (wD hu) (aj 4) (lu aB) (d7 _)) (O5 (d8 (of_eq hu) (aU cQ (cW (aj 6) aD) aD) aD (d7 _))))) (bF [] (aq (ug 7 ["_law_name"] (oV ["_law_found"] [4]) rfl nd (gP (aj 3)) (fun _ _ _ _=>(bf 1 (by show List.Nodup (_++_);decide +kernel))) (fun _ _ _ _=>(oO (sy (bB (Iu rfl) rfl t.zK Ip (ak (jY ["_law_part"] (oV ["_law_name"] [1]) rfl (gP (cW (aj 0) (aaz XM aD))) (fun _ _ _ _=>(bf 1 (by show List.Nodup (_++_);decide +kernel))) (fun _ _ _ _=>bA) (fun _ _ _ _=>(yq Pu (aj 0) (aj 1) (by with_unfolding_all rfl))) (bW)) aB))))) (fun _ _ _ _=>(aj 1)) (bW)) aO)) (bF [] aO)) (aq (bH 8 nd (lO qm rfl t.j6 nP (ak (cN nD (hr.mono (by decide)) rfl t.Ak t.Al t.Aj (ak (aj 7) (ak (p7 (nQ (aj 6) eE (eF aD))) aB))) aB))) (aq (mH (d8 (UJ hu) (aj 8) (aj 4) (by with_unfolding_all rfl)) (bF [] (aq (qb 4 (aj 8)) aO)) (bF [] aO)) aO))))))) (aq (d9 (lO qm rfl t.j6 nP (ak (aj 4) aB))) aO))))))
theorem w6:cL ["sets"] ["sets"] (aH jN):=uI
include t in
theorem G9:dB P w K mg base nH 1 iI iZ ["sets"] (pP K 1 iB):=by
 unfold iB
 refine uE (k:=0) (g:=oZ) t.iB w6 rfl rfl fun cdv A outer s H E hr=>?_
 have hu:=fZ hr
 have nd:=w6.nd
 exact (aq (d9 (bB nR rfl t.fO jL (ak (GF ["own", "name"] (Two.mk (m:=1) (oV [] []) rfl (gP (aj 0)) (fun _ _ _ _=>(bf 0 (by show List.Nodup (_++_);decide +kernel))) (fun _ _ _ _=>bA) (bW) (fun _ _ _ _=>(uc (aj 0))) (fun _ _ _ _=>(bf 1 (by show List.Nodup (_++_);decide +kernel))) (fun _ _ _ _=>bA) (bW)) (fun _ _ _ _=>(aj 1))) aB))) aO)
theorem xg:cL ["worlds"] ["worlds"] (aH jO):=uI
include t in
theorem Hf (tB:dB P w K mg base nH 1 iI iZ ["sets"] (pP K 1 iB)):dB P w K mg base nH 2 iJ jc ["worlds"] (pP K 1 iD):=by
 unfold iD
 refine uE (k:=1) (g:=o7) t.iD xg rfl rfl fun cdv A outer s H E hr=>?_
 have hu:=fZ hr
 have nd:=xg.nd
 exact (aq (d9 (Uy rfl rfl t.fO (Nu ["world", "name"] (Two.mk (m:=1) (oV [] []) rfl (gP (aj 0)) (fun _ _ _ _=>(bf 0 (by show List.Nodup (_++_);decide +kernel))) (fun _ _ _ _=>bA) (bW) (fun _ _ _ _=>(uc (cN tB (hr.mono (by decide)) rfl t.Jw t.Jx t.Jv (ak (aj 0) aB)))) (fun _ _ _ _=>(bf 1 (by show List.Nodup (_++_);decide +kernel))) (fun _ _ _ _=>bA) (bW)) (fun _ _ _ _=>(aj 1))))) aO)
theorem zP:cL ["worlds", "names", "stands"] ["worlds"] (aH lR):=uI
include t in
theorem JG (tD:dB P w K mg base nH 2 iJ jc ["worlds"] (pP K 1 iD)):dB P w K mg base nH 3 jR jT ["worlds"] (pP K 1 fV):=by
 unfold fV
 refine uE (k:=2) (g:=qU) t.fV zP rfl rfl fun cdv A outer s H E hr=>?_
 have hu:=fZ hr
 have nd:=zP.nd
 exact (aq (bH 1 nd (cN tD (hr.mono (by decide)) rfl t.Jz t.JB t.Jy (ak (aj 0) aB))) (aq (ug 2 ["name"] (oV [] []) rfl nd (gP (aj 1)) (fun _ _ _ _=>(bf 0 (by show List.Nodup (_++_);decide +kernel))) (fun _ _ _ _=>bA) (fun _ _ _ _=>(oA (ak nA (ak (aj 0) aB)))) (bW)) (aq (d9 (aU dN (aj 2) (GF ["at", "name", "other"] (Two.mk (m:=3) (oV ["names"] [1]) rfl (QF rfl t.kZ (ak (aj 1) aB)) (fun _ _ _ _=>(Xv rfl (Fg (bf 1 (by show List.Nodup (_++_);decide +kernel)) (Fg (bf 2 (by show List.Nodup (_++_);decide +kernel)) Tr)))) (fun _ _ _ _=>bA) (XC (Fl (bW) (Fl (bW) Tw))) (fun _ _ _ _=>(uc (nQ (aj 0) (eF (aU dN (aj 1) aD)) eE))) (fun _ _ _ _=>(bf 3 (by show List.Nodup (_++_);decide +kernel))) (fun _ _ _ _=>bA) (bW)) (fun _ _ _ _=>(oA (ak nA (ak (aj 2) (ak (aj 3) aB)))))))) aO)))
theorem pO:cL ["_law_worlds_here", "_law_names_here", "_law_world", "_law_some", "_law_name", "_law_rising", "_law_found", "_law_k"] ["_law_worlds_here"] (aH eU):=uI
include t in
theorem xK:dB P w K mg base nH 1 dD dH ["_law_worlds_here"] (pP K 1 cR):=by
 unfold cR
 refine uE (k:=0) (g:=ju) t.cR pO rfl rfl fun cdv A outer s H E hr=>?_
 have hu:=fZ hr
 have nd:=pO.nd
 exact (aq (bH 1 nd Kq) (aq (qO 0 PassesOwn.never rfl (bf 2 nd) (bF [2,3,4] (aq (qO 2 PassesOwn.never rfl (bf 3 nd) (bF [3,4] (aq (qO 3 PassesOwn.never rfl (bf 4 nd) (bF [4] (aq (Ub 1 hu pI (aj 4)) aO))) aO))) aO))) (aq (bH 5 nd (bB (IW rfl) rfl t.fO jL (ak (aj 1) aB))) (aq (ug 6 ["_law_name"] (oV [] []) rfl nd (gP (aj 5)) (fun _ _ _ _=>(bf 0 (by show List.Nodup (_++_);decide +kernel))) (fun _ _ _ _=>bA) (fun _ _ _ _=>(oA (ak nA (ak (aj 0) aB)))) (bW)) (aq (sO PassesOwn.never rfl (ig rfl t.gk (ak (bB oM rfl t.nY oK (ak (aj 5) aB)) aB)) (bf 7 nd) (bF [7] (aq (Yt 6 (jY ["_law_other"] (oV ["_law_rising", "_law_k"] [5,7]) rfl (gP (nQ (aj 5) (eF (aU dN (aj 7) aD)) eE)) (fun _ _ _ _=>(bf 2 (by show List.Nodup (_++_);decide +kernel))) (fun _ _ _ _=>bA) (fun _ _ _ _=>(oA (ak nA (ak (cW (aj 0) (aj 1)) (ak (aj 2) aB))))) (bW))) aO))) (aq (CJ 6) aO))))))
theorem BW:cL ["world", "ask"] ["world", "ask"] (aH nW):=uI
include t in
theorem Ny:dB P w K mg base nH 1 kY jU ["world", "ask"] (pP K 2 jw):=by
 unfold jw
 refine uE (k:=0) (g:=uX) t.jw BW rfl rfl fun cdv A outer s H E hr=>?_
 have hu:=fZ hr
 have nd:=BW.nd
 exact (aq (d9 (bB (Iu rfl) rfl t.zK Ip (ak (jY ["own"] (oV ["ask"] [1]) rfl (gP (aj 0)) (fun _ _ _ _=>(bf 1 (by show List.Nodup (_++_);decide +kernel))) (fun _ _ _ _=>bA) (fun _ _ _ _=>(p7 (bB (Ir rfl) rfl t.zJ Io (ak (jY ["name"] (oV ["own"] [1]) rfl (gP (nQ (aj 0) (eF aD) eE)) (fun _ _ _ _=>(bf 1 (by show List.Nodup (_++_);decide +kernel))) (fun _ _ _ _=>bA) (fun _ _ _ _=>(yq Pu (aj 1) (aj 0) (by with_unfolding_all rfl))) (bW)) aB)))) (bW)) aB))) aO)
theorem xq:cL ["_law_world", "_law_ask", "_law_some"] ["_law_world", "_law_ask"] (aH jP):=uI
include t in
theorem Hg:dB P w K mg base nH 1 iK jd ["_law_world", "_law_ask"] (pP K 2 iG):=by
 unfold iG
 refine uE (k:=0) (g:=o8) t.iG xq rfl rfl fun cdv A outer s H E hr=>?_
 have hu:=fZ hr
 have nd:=xq.nd
 exact (aq (qO 0 PassesOwn.never rfl (bf 2 nd) (bF [2] (aq (mH (sy (bB (Ir rfl) rfl t.zJ Io (ak (jY ["_law_name"] (oV ["_law_some"] [2]) rfl (gP (nQ (aj 1) (eF aD) eE)) (fun _ _ _ _=>(bf 1 (by show List.Nodup (_++_);decide +kernel))) (fun _ _ _ _=>bA) (fun _ _ _ _=>(yq Pu (aj 1) (aj 0) (by with_unfolding_all rfl))) (bW)) aB))) (aq (d9 pI) aO) aO) aO))) (aq (d9 pI) aO))
theorem lg:cL ["_law_worlds_here", "_law_asks", "_law_rows", "_law_world", "_law_row", "_law_ask", "_law_found"] ["_law_worlds_here", "_law_asks"] (aH cF):=uI
include t in
theorem qK (tH:dB P w K mg base nH 1 iK jd ["_law_world", "_law_ask"] (pP K 2 iG)) (nZ:dB P w K mg base nH 1 kY jU ["world", "ask"] (pP K 2 jw)):dB P w K mg base nH 2 bL bR ["_law_worlds_here", "_law_asks"] (pP K 2 bK):=by
 unfold bK
 refine uE (k:=1) (g:=dZ) t.bK lg rfl rfl fun cdv A outer s H E hr=>?_
 have hu:=fZ hr
 have nd:=lg.nd
 exact (aq (bH 2 nd (lu aB)) (aq (qO 0 PassesOwn.never rfl (bf 3 nd) (bF [3,4,5,6] (aq (bH 4 nd (lu aB)) (aq (qO 1 PassesOwn.never rfl (bf 5 nd) (bF [5,6] (aq (bH 6 nd (cN nZ (hr.mono (by decide)) rfl t.GR t.GX t.GQ (ak (aj 3) (ak (aj 5) aB)))) (aq (mH (Mj (sI (Cz (sy (FJ (aj 6) rfl t.fD rfl t.zL))) (tY (d8 (wD hu) (aj 6) (cN tH (hr.mono (by decide)) rfl t.JD t.JF t.JC (ak (aj 3) (ak (aj 5) aB))) (d7 _))))) (aq (d9 pI) aO) aO) (aq (qb 4 (aj 6)) aO))))) (Yp (i:=4) (aq (mH (d8 (Ym hu) (aj 4) (aj 2) (by with_unfolding_all rfl)) (aq (d9 pI) aO) aO) (aq (qb 2 (aj 4)) aO))))))) (aq (d9 pI) aO)))
theorem Rp:cL ["_law_script", "_law_worlds_here", "_law_asks", "_law_due", "_law_ask"] ["_law_script"] (aH uW):=uI
include t in
theorem Zd (jA:dB P w K mg base nH 1 dD dH ["_law_worlds_here"] (pP K 1 cR)) (gZ:dB P w K mg base nH 2 bL bR ["_law_worlds_here", "_law_asks"] (pP K 2 bK)) (pq:dB P w K mg base nH 2 fB fW ["_law_script", "_law_at"] (pP K 2 fu)) (nZ:dB P w K mg base nH 1 kY jU ["world", "ask"] (pP K 2 jw)) (lU:dB P w K mg base nH 3 jR jT ["worlds"] (pP K 1 fV)):dB P w K mg base nH 4 BR zB ["_law_script"] (pP K 1 mV):=by
 unfold mV
 refine uE (k:=3) (g:=Le) t.mV Rp rfl rfl fun cdv A outer s H E hr=>?_
 have hu:=fZ hr
 have nd:=Rp.nd
 exact (aq (bH 1 nd (cN pq (hr.mono (by decide)) rfl t.DQ t.DR t.DP (ak (aj 0) (ak aD aB)))) (aq (bH 2 nd (cN lU (hr.mono (by decide)) rfl t.qX t.qY t.qW (ak (aj 1) aB))) (aq (bH 3 nd (cN jA (hr.mono (by decide)) rfl t.qG t.qH t.qF (ak (aj 1) aB))) (aq (mH (Mj (sI (Cz (sy (FN (aj 2) rfl t.fD rfl t.zM))) (sI (d8 (wD hu) (aj 2) (aj 3) (d7 _)) (tY (Cz (sy (bB (Ir rfl) rfl t.zJ Io (ak (jY ["_law_ask"] (oV [] []) rfl (gP (aj 2)) (fun _ _ _ _=>(bf 0 (by show List.Nodup (_++_);decide +kernel))) (fun _ _ _ _=>bA) (fun _ _ _ _=>(p7 (CV (aj 0) rfl t.fD rfl t.j6))) (bW)) aB)))))))) (aq (d9 pI) aO) aO) (aq (mH (Cz (sy (cN gZ (hr.mono (by decide)) rfl t.rB t.rC t.rA (ak (aj 1) (ak (aj 3) aB))))) (aq (d9 pI) aO) aO) (aq (Yr 2) (aq (qb 2 Xq) (aq (mH (Mj (sI (d8 (wD hu) (cN lU (hr.mono (by decide)) rfl t.qX t.qY t.qW (ak (aj 1) aB)) (aj 3) (d7 _)) (sI (d8 (wD hu) (cN lU (hr.mono (by decide)) rfl t.qX t.qY t.qW (ak (p7 (nQ (aj 1) eE (eF aD))) aB)) (cN jA (hr.mono (by decide)) rfl t.qG t.qH t.qF (ak (p7 (nQ (aj 1) eE (eF aD))) aB)) (d7 _)) (tY (d8 (wD hu) (cN lU (hr.mono (by decide)) rfl t.qX t.qY t.qW (ak (oA (ak (oA aB) aB)) aB)) (lu aB) (d7 _)))))) (aq (d9 pI) aO) aO) (aq (sO PassesOwn.never rfl (uc (lu (ak (oA (ak nA (ak nA aB))) (ak (oA (ak nA (ak nA (ak nA aB)))) aB)))) (bf 4 nd) (bF [4] (aq (mH (sy (bB (Iu rfl) rfl t.zK Ip (ak (jY ["_law_world"] (oV ["_law_ask"] [4]) rfl (gP (aj 1)) (fun _ _ _ _=>(bf 1 (by show List.Nodup (_++_);decide +kernel))) (fun _ _ _ _=>bA) (fun _ _ _ _=>(yq (wD hu) (cN nZ (hr.mono (by decide)) rfl t.GR t.GX t.GQ (ak (aj 1) (ak (aj 0) aB))) pI (d7 _))) (bW)) aB))) (aq (d9 pI) aO) aO) aO))) (aq (d9 pI) aO))))))))))
end
end G39
end
section
set_option synthInstance.maxSize 100000
namespace G39
open PySem PySem.Spec PyProof.Rows L2 P1
theorem all_mk {l:PySem.W.OpenLaw} {w:World} {K:PySem.W.Frag} {h:Heap} {mg:Str->Option Value} {fa:Addr} {f0:Addr} {od0 an0:Option Addr} {sl0:Array (Option Value)} {oc0 kV0 dc0 pm0 cd0 ct0:Value} {f1:Addr} {od1 an1:Option Addr} {sl1:Array (Option Value)} {oc1 kV1 dc1 pm1 cd1 ct1:Value} {f2:Addr} {od2 an2:Option Addr} {sl2:Array (Option Value)} {oc2 kV2 dc2 pm2 cd2 ct2:Value} {f3:Addr} {od3 an3:Option Addr} {sl3:Array (Option Value)} {oc3 kV3 dc3 pm3 cd3 ct3:Value} {f4:Addr} {od4 an4:Option Addr} {sl4:Array (Option Value)} {oc4 kV4 dc4 pm4 cd4 ct4:Value} {f5:Addr} {od5 an5:Option Addr} {sl5:Array (Option Value)} {oc5 kV5 dc5 pm5 cd5 ct5:Value} {f6:Addr} {od6 an6:Option Addr} {sl6:Array (Option Value)} {oc6 kV6 dc6 pm6 cd6 ct6:Value} {f7:Addr} {od7 an7:Option Addr} {sl7:Array (Option Value)} {oc7 kV7 dc7 pm7 cd7 ct7:Value} {f8:Addr} {od8 an8:Option Addr} {sl8:Array (Option Value)} {oc8 kV8 dc8 pm8 cd8 ct8:Value} {f9:Addr} {od9 an9:Option Addr} {sl9:Array (Option Value)} {oc9 kV9 dc9 pm9 cd9 ct9:Value} {f10:Addr} {acX acY:Option Addr} {acZ:Array (Option Value)} {ac0 ac1 ac2 ac3 abf ac4:Value} {f11:Addr} {ac5 ac6:Option Addr} {ac7:Array (Option Value)} {ac8 ac9 ada adb abg ade:Value} {f12:Addr} {adg adh:Option Addr} {adi:Array (Option Value)} {adk adl adn ado abh adp:Value} {f13:Addr} {adt abj:Option Addr} {adu:Array (Option Value)} {adv abk abl abm Ze abn:Value} (X:K.In h) (G:h.Ns mainGlobals mg) (hfa:mg "law" = some (.ref fa))
  (a0:PySem.W.nsIn K mainGlobals "_law_cell" = some (some (.ref f0))) (l0:K.lookup f0=some ⟨oc0,od0,.func (PySem.W.fnOf "_law_cell" "_law_cell" (cY jM) (bV jM) (aH jM) .none kV0 dc0 pm0 an0 cd0 ct0),sl0⟩) (c0:PySem.W.codeIn K cd0 "_law_cell" = true) (k0:PySem.W.keepIn K (.ref f0)=true)
  (a1:PySem.W.nsIn K mainGlobals "_law_numbers" = some (some (.ref f1))) (l1:K.lookup f1=some ⟨oc1,od1,.func (PySem.W.fnOf "_law_numbers" "_law_numbers" (cY fQ) (bV fQ) (aH fQ) .none kV1 dc1 pm1 an1 cd1 ct1),sl1⟩) (c1:PySem.W.codeIn K cd1 "_law_numbers" = true) (k1:PySem.W.keepIn K (.ref f1)=true)
  (a2:PySem.W.nsIn K mainGlobals "_law_names" = some (some (.ref f2))) (l2:K.lookup f2=some ⟨oc2,od2,.func (PySem.W.fnOf "_law_names" "_law_names" (cY iW) (bV iW) (aH iW) .none kV2 dc2 pm2 an2 cd2 ct2),sl2⟩) (c2:PySem.W.codeIn K cd2 "_law_names" = true) (k2:PySem.W.keepIn K (.ref f2)=true)
  (a3:PySem.W.nsIn K mainGlobals "_law_hard_worlds" = some (some (.ref f3))) (l3:K.lookup f3=some ⟨oc3,od3,.func (PySem.W.fnOf "_law_hard_worlds" "_law_hard_worlds" (cY cU) (bV cU) (aH cU) .none kV3 dc3 pm3 an3 cd3 ct3),sl3⟩) (c3:PySem.W.codeIn K cd3 "_law_hard_worlds" = true) (k3:PySem.W.keepIn K (.ref f3)=true)
  (a4:PySem.W.nsIn K mainGlobals "_law_joining" = some (some (.ref f4))) (l4:K.lookup f4=some ⟨oc4,od4,.func (PySem.W.fnOf "_law_joining" "_law_joining" (cY fU) (bV fU) (aH fU) .none kV4 dc4 pm4 an4 cd4 ct4),sl4⟩) (c4:PySem.W.codeIn K cd4 "_law_joining" = true) (k4:PySem.W.keepIn K (.ref f4)=true)
  (a5:PySem.W.nsIn K mainGlobals "_law_worlds" = some (some (.ref f5))) (l5:K.lookup f5=some ⟨oc5,od5,.func (PySem.W.fnOf "_law_worlds" "_law_worlds" (cY gR) (bV gR) (aH gR) .none kV5 dc5 pm5 an5 cd5 ct5),sl5⟩) (c5:PySem.W.codeIn K cd5 "_law_worlds" = true) (k5:PySem.W.keepIn K (.ref f5)=true)
  (a6:PySem.W.nsIn K mainGlobals "names_in" = some (some (.ref f6))) (l6:K.lookup f6=some ⟨oc6,od6,.func (PySem.W.fnOf "names_in" "names_in" (cY jN) (bV jN) (aH jN) .none kV6 dc6 pm6 an6 cd6 ct6),sl6⟩) (c6:PySem.W.codeIn K cd6 "names_in" = true) (k6:PySem.W.keepIn K (.ref f6)=true)
  (a7:PySem.W.nsIn K mainGlobals "names_of" = some (some (.ref f7))) (l7:K.lookup f7=some ⟨oc7,od7,.func (PySem.W.fnOf "names_of" "names_of" (cY jO) (bV jO) (aH jO) .none kV7 dc7 pm7 an7 cd7 ct7),sl7⟩) (c7:PySem.W.codeIn K cd7 "names_of" = true) (k7:PySem.W.keepIn K (.ref f7)=true)
  (a8:PySem.W.nsIn K mainGlobals "asks_of" = some (some (.ref f8))) (l8:K.lookup f8=some ⟨oc8,od8,.func (PySem.W.fnOf "asks_of" "asks_of" (cY lR) (bV lR) (aH lR) .none kV8 dc8 pm8 an8 cd8 ct8),sl8⟩) (c8:PySem.W.codeIn K cd8 "asks_of" = true) (k8:PySem.W.keepIn K (.ref f8)=true)
  (a9:PySem.W.nsIn K mainGlobals "_law_all_asks" = some (some (.ref f9))) (l9:K.lookup f9=some ⟨oc9,od9,.func (PySem.W.fnOf "_law_all_asks" "_law_all_asks" (cY eU) (bV eU) (aH eU) .none kV9 dc9 pm9 an9 cd9 ct9),sl9⟩) (c9:PySem.W.codeIn K cd9 "_law_all_asks" = true) (k9:PySem.W.keepIn K (.ref f9)=true)
  (a10:PySem.W.nsIn K mainGlobals "answer" = some (some (.ref f10))) (l10:K.lookup f10=some ⟨ac0,acX,.func (PySem.W.fnOf "answer" "answer" (cY nW) (bV nW) (aH nW) .none ac1 ac2 ac3 acY abf ac4),acZ⟩) (c10:PySem.W.codeIn K abf "answer" = true) (k10:PySem.W.keepIn K (.ref f10)=true)
  (a11:PySem.W.nsIn K mainGlobals "_law_says" = some (some (.ref f11))) (l11:K.lookup f11=some ⟨ac8,ac5,.func (PySem.W.fnOf "_law_says" "_law_says" (cY jP) (bV jP) (aH jP) .none ac9 ada adb ac6 abg ade),ac7⟩) (c11:PySem.W.codeIn K abg "_law_says" = true) (k11:PySem.W.keepIn K (.ref f11)=true)
  (a12:PySem.W.nsIn K mainGlobals "_law_answers_right" = some (some (.ref f12))) (l12:K.lookup f12=some ⟨adk,adg,.func (PySem.W.fnOf "_law_answers_right" "_law_answers_right" (cY cF) (bV cF) (aH cF) .none adl adn ado adh abh adp),adi⟩) (c12:PySem.W.codeIn K abh "_law_answers_right" = true) (k12:PySem.W.keepIn K (.ref f12)=true)
  (a13:PySem.W.nsIn K mainGlobals "law" = some (some (.ref f13))) (l13:K.lookup f13=some ⟨adv,adt,.func (PySem.W.fnOf "law" "law" (cY uW) (bV uW) (aH uW) .none abk abl abm abj Ze abn),adu⟩) (c13:PySem.W.codeIn K Ze "law" = true) (k13:PySem.W.keepIn K (.ref f13)=true)
  (GZ:PySem.W.nsIn K mainGlobals "abs" = some none)
  (zJ:PySem.W.nsIn K mainGlobals "all" = some none)
  (zK:PySem.W.nsIn K mainGlobals "any" = some none)
  (zL:PySem.W.nsIn K mainGlobals "bool" = some none)
  (kZ:PySem.W.nsIn K mainGlobals "enumerate" = some none)
  (G5:PySem.W.nsIn K mainGlobals "int" = some none)
  (fD:PySem.W.nsIn K mainGlobals "isinstance" = some none)
  (nY:PySem.W.nsIn K mainGlobals "len" = some none)
  (zM:PySem.W.nsIn K mainGlobals "list" = some none)
  (G7:PySem.W.nsIn K mainGlobals "max" = some none)
  (gk:PySem.W.nsIn K mainGlobals "range" = some none)
  (fO:PySem.W.nsIn K mainGlobals "sorted" = some none)
  (j6:PySem.W.nsIn K mainGlobals "tuple" = some none) :
  ∃ fd:FuncData,(∀ (s:Shared) (v:Value),BindsTo s fd ⟨[v],[]⟩ [("_law_script", v)])/\∀ base:Heap,K.In base->base.Ns mainGlobals mg->dB l.prog w K mg base nH 4 fa fd ["_law_script"] (pP K 1 mV):=by
 have e:=hfa.symm.trans (qo X G a13)
 cases e
 have F0:=jm (st:=jM) l0 c0 k0
 have b0:=F0.binds (ps:=["_law_script", "_law_k"]) fun _ _ _ _ _ _=>len2 fun _ _=>rfl
 have F1:=jm (st:=fQ) l1 c1 k1
 have b1:=F1.binds (ps:=["_law_cell_here", "_law_many"]) fun _ _ _ _ _ _=>len2 fun _ _=>rfl
 have F2:=jm (st:=iW) l2 c2 k2
 have b2:=F2.binds (ps:=["_law_xs", "_law_many"]) fun _ _ _ _ _ _=>len2 fun _ _=>rfl
 have F3:=jm (st:=cU) l3 c3 k3
 have b3:=F3.binds (ps:=["_law_xs", "_law_names_here"]) fun _ _ _ _ _ _=>len2 fun _ _=>rfl
 have F4:=jm (st:=fU) l4 c4 k4
 have b4:=F4.binds (ps:=["_law_names_here", "_law_xs"]) fun _ _ _ _ _ _=>len2 fun _ _=>rfl
 have F5:=jm (st:=gR) l5 c5 k5
 have b5:=F5.binds (ps:=["_law_script", "_law_at"]) fun _ _ _ _ _ _=>len2 fun _ _=>rfl
 have F6:=jm (st:=jN) l6 c6 k6
 have b6:=F6.binds (ps:=["sets"]) fun _ _ _ _ _ _=>len1 fun _=>rfl
 have F7:=jm (st:=jO) l7 c7 k7
 have b7:=F7.binds (ps:=["worlds"]) fun _ _ _ _ _ _=>len1 fun _=>rfl
 have F8:=jm (st:=lR) l8 c8 k8
 have b8:=F8.binds (ps:=["worlds"]) fun _ _ _ _ _ _=>len1 fun _=>rfl
 have F9:=jm (st:=eU) l9 c9 k9
 have b9:=F9.binds (ps:=["_law_worlds_here"]) fun _ _ _ _ _ _=>len1 fun _=>rfl
 have F10:=jm (st:=nW) l10 c10 k10
 have b10:=F10.binds (ps:=["world", "ask"]) fun _ _ _ _ _ _=>len2 fun _ _=>rfl
 have F11:=jm (st:=jP) l11 c11 k11
 have b11:=F11.binds (ps:=["_law_world", "_law_ask"]) fun _ _ _ _ _ _=>len2 fun _ _=>rfl
 have F12:=jm (st:=cF) l12 c12 k12
 have b12:=F12.binds (ps:=["_law_worlds_here", "_law_asks"]) fun _ _ _ _ _ _=>len2 fun _ _=>rfl
 have F13:=jm (st:=uW) l13 c13 k13
 have b13:=F13.binds (ps:=["_law_script"]) fun _ _ _ _ _ _=>len1 fun _=>rfl
 have t:T K mg _ _ _ _ _ _ _ _ _ _ _ _ _ _ _ _ _ _ _ _ _ _ _ _ _ _ _ _:=⟨F0,b0,qo X G a0,k0,F1,b1,qo X G a1,k1,F2,b2,qo X G a2,k2,F3,b3,qo X G a3,k3,F4,b4,qo X G a4,k4,F5,b5,qo X G a5,k5,F6,b6,qo X G a6,k6,F7,b7,qo X G a7,k7,F8,b8,qo X G a8,k8,F9,b9,qo X G a9,k9,F10,b10,qo X G a10,k10,F11,b11,qo X G a11,k11,F12,b12,qo X G a12,k12,F13,b13,qo X G a13,k13,ZT X G GZ,ZT X G zJ,ZT X G zK,ZT X G zL,ZT X G kZ,ZT X G G5,ZT X G fD,ZT X G nY,ZT X G zM,ZT X G G7,ZT X G gk,ZT X G fO,ZT X G j6⟩
 refine⟨PySem.W.fnOf "law" "law" (cY uW) (bV uW) (aH uW) .none abk abl abm abj Ze abn,fun s v=>.of_eq rfl,fun base _ _=>?_⟩
 have o9:=G8 (P:=l.prog) (w:=w) (base:=base) t
 have j7:=zN (P:=l.prog) (w:=w) (base:=base) t
 have mX:=DW (P:=l.prog) (w:=w) (base:=base) t
 have jz:=tu (P:=l.prog) (w:=w) (base:=base) t
 have nD:=zO (P:=l.prog) (w:=w) (base:=base) t
 have pq:=Am (P:=l.prog) (w:=w) (base:=base) t o9 jz nD mX j7
 have tB:=G9 (P:=l.prog) (w:=w) (base:=base) t
 have tD:=Hf (P:=l.prog) (w:=w) (base:=base) t tB
 have lU:=JG (P:=l.prog) (w:=w) (base:=base) t tD
 have jA:=xK (P:=l.prog) (w:=w) (base:=base) t
 have nZ:=Ny (P:=l.prog) (w:=w) (base:=base) t
 have tH:=Hg (P:=l.prog) (w:=w) (base:=base) t
 have gZ:=qK (P:=l.prog) (w:=w) (base:=base) t tH nZ
 have abo:=Zd (P:=l.prog) (w:=w) (base:=base) t jA gZ pq nZ lU
 exact abo
theorem walk {l:PySem.W.OpenLaw} {q:Program} {loose:List Str} {XP:(Str->Option Value)->Heap->Prop} {YP:World->Heap->Prop} {d:DefRec} {K:Params->PySem.W.Frag} (hn:l.most=some 63) (hdf:d.params.defaults=[])
  (h1:∀ ns:List Int,ns.length<=63->mV [.z (.lst (ns.map .int))]=some (.z (.bl true))) (h2:∀ ns:List Int,ns.length<=63->mV [.l (ns.map .int)]=some (.z (.bl true)))
  (hY:∀ (w:World) (h:Heap),YP w h->(K w.params).In h)
  (F:∀ (w:World) (mg:Str->Option Value) (fa:Addr) (h:Heap),(K w.params).In h->h.Ns mainGlobals mg->mg d.name=some (.ref fa) →
   ∃ fd:FuncData,(∀ (s:Shared) (u:Value),BindsTo s fd ⟨[u],[]⟩ [("_law_script", u)])/\∀ base:Heap,(K w.params).In base->base.Ns mainGlobals mg->dB l.prog w (K w.params) mg base nH 4 fa fd ["_law_script"] (pP (K w.params) 1 mV)) :
  PySem.W.WalkO q loose XP YP l.row.toRowW d [] (fun f vs=>PySem.call f vs):=
 L2.Ow (n:=63) (k:=4) (x := "_law_script") (CX:=nH) (sp:=fun K=>pP K 1 mV) hn (by decide) hdf ⟨rfl,by decide,by decide⟩ hY F (fun K H a ns hl hO hS=>Ye h1 h2 K H a ns hl hO hS) fun _ _ _ _ z=>z
end G39
end
section
set_option synthInstance.maxSize 100000
namespace G39
open PySem PySem.Spec PyProof.Rows L2 P1
noncomputable section
def rZ  (v5:Int) (v6:Int):Int:=(let v5:=(((v5 * (69621:Int))+v6) % (2147483647:Int));v5)
theorem Ao (v0:(List Int)) {iM:Bx} (mj:Lp iM (v0.map eI)) (v4:Int) (v5:Int) (v6:Int):RP rP [some iM,some ((zE eI) v4),some ((zE eI) v5),some ((zE eI) v6)] (fun s=>Out.nx ((fun v5:Int=>[some iM,some ((zE eI) v4),some ((zE eI) v5),none]) s)) (rZ  v5 v6) (none):=R.tp (bO (bZ 2 (dG (kO (KR (aA 2 (zE eI) v5 rfl) 69621 (by decide)) (aA 3 (zE eI) v6 rfl)) 2147483647 (by decide)) (fun _=>rfl) fun v5=>(cZ (bY v5 rfl))))
def cV (v0:(List Int)) (v4:Int):Int:=(if (decide (v4 < (v0.length:Int)))=true then (at' v0 v4) else (let v5:=(((48271:Int) * (((v4 * v4)+((7:Int) * v4))+(11:Int))) % (2147483647:Int));(let v5:Int:=((cut v0 none (some (3:Int))).foldl (fun (v5:Int) (v6:Int)=>(rZ  v5 v6)) v5);v5)))
def jV (v0:(List Int)) (v4:Int):Prop:=(((decide (v4 < (v0.length:Int)))=true->In v0.length v4)/\((decide (v4 < (v0.length:Int)))=false->Mul v4 v4))
theorem JH (v0:(List Int)) {iM:Bx} (mj:Lp iM (v0.map eI)) (v4:Int):RP oY [some iM,some ((zE eI) v4),none,none] (fun r=>Out.rt ((zE eI) r)) (cV v0 v4) (some (jV v0 v4)):=R.tp (uO (iU (V6 (aA 1 (zE eI) v4 rfl) (x_len (gD 0 eI v0 mj rfl)))) (bO (iV (fun r=>r) (ji (gD 0 eI v0 mj rfl) (aA 1 (zE eI) v4 rfl)) (fun _=>rfl) fun _=>rfl)) (cZ (bZ 2 (dG (Ji 48271 (by decide) (kO (kO (V5 (aA 1 (zE eI) v4 rfl) (aA 1 (zE eI) v4 rfl)) (Ji 7 (by decide) (aA 1 (zE eI) v4 rfl))) (aJ (.int 11) eI (11:Int) rfl))) 2147483647 (by decide)) (fun _=>rfl) fun v5=>(YK (fun v5:Int=>[some iM,some ((zE eI) v4),some ((zE eI) v5),none]) v5 rfl (U8 (Jl (gD 0 eI v0 mj rfl) vY (vZ (aJ (.int 3) eI (3:Int) rfl)))) _ (fun _ _=>rfl) (fun (v5:Int) (v6:Int)=>(Ao v0 mj v4 v5 v6).r) (fun _ _=>rfl) fun v5=>(iV (fun r=>r) (aA 2 (zE eI) v5 rfl) (fun _=>rfl) fun _=>rfl)))))
theorem zQ:∀ v bs,(aL eI (aZ eI aN)) v bs->bs.length=2/\(hold (some (jV v.1 v.2.1))->gJ (bs.map lend)=some ((zE eI) (cV v.1 v.2.1))):=by
 rintro⟨v0,v4,_⟩ _ ⟨iM,_,rfl,mj,⟨_,rfl,rfl⟩⟩
 exact⟨rfl,fun h=>jt (g:=oY) (n:=4) (bs:=[lend iM,.z (eI v4)]) (JH v0 (uJ mj) v4).r h⟩
end
end G39
end
section
set_option synthInstance.maxSize 100000
namespace G39
open PySem PySem.Spec PyProof.Rows L2 P1
noncomputable section
def bI  (s1:Int×(List Int)×Int) (v4:Int):Int×(List Int)×Int:=(let v5:=((((s1.1 * ((s1.1 % (65521:Int))+(40487:Int)))+((7:Int) * v4))+(5:Int)) % (1999999973:Int));(let v8:=s1.2.1++[(at' [v5,(s1.2.2 % (1000000:Int))] (if (decide ((0:Int) < s1.2.2))=true then (1:Int) else 0))];(let v9:=(s1.2.2 / (1000000:Int));(v5,v8,v9))))
def gW  (s1:Int×(List Int)×Int) (v4:Int):Prop:=(Mul s1.1 ((s1.1 % (65521:Int))+(40487:Int))/\(let v5:=((((s1.1 * ((s1.1 % (65521:Int))+(40487:Int)))+((7:Int) * v4))+(5:Int)) % (1999999973:Int));(In [v5,(s1.2.2 % (1000000:Int))].length (if (decide ((0:Int) < s1.2.2))=true then (1:Int) else 0)/\Ej s1.2.1.length)))
theorem wj (v6:Int) (v7:Int) (s1:Int×(List Int)×Int) (v4:Int):RP jQ [some ((zE eI) v6),some ((zE eI) v7),some ((oE eI) s1.2.1),some ((zE eI) s1.1),some ((zE eI) s1.2.2),some ((zE eI) v4)] (fun s=>Out.nx ((fun s1:Int×(List Int)×Int=>[some ((zE eI) v6),some ((zE eI) v7),some ((oE eI) s1.2.1),some ((zE eI) s1.1),some ((zE eI) s1.2.2),none]) s)) (bI  s1 v4) (some (gW  s1 v4)):=R.tp (bO (bZ 3 (dG (kO (kO (V5 (aA 3 (zE eI) s1.1 rfl) (kO (dG (aA 3 (zE eI) s1.1 rfl) 65521 (by decide)) (aJ (.int 40487) eI (40487:Int) rfl))) (Ji 7 (by decide) (aA 5 (zE eI) v4 rfl))) (aJ (.int 5) eI (5:Int) rfl)) 1999999973 (by decide)) (fun _=>rfl) fun v5=>(bO (wQ 2 s1.2.1 rfl (ji (jr (pK (bD (aA 3 (zE eI) v5 rfl) (bD (dG (aA 4 (zE eI) s1.2.2 rfl) 1000000 (by decide)) (eN eI))) (zD rfl))) (YF (U4 (aA 4 (zE eI) s1.2.2 rfl) (aJ (.int 0) eI (0:Int) rfl)))) fun v8=>(bO (bZ 4 (uK (aA 4 (zE eI) s1.2.2 rfl) 1000000 (by decide)) (fun _=>rfl) fun v9=>(cZ (bY (v5,v8,v9) rfl))))))))
def gY (v6:Int) (v7:Int) (v8:(List Int)) (v5:Int) (v9:Int):(List Int):=(let s1:Int×(List Int)×Int:=((rng 0 v7.toNat).foldl (fun (s1:Int×(List Int)×Int) (v4:Int)=>(bI  s1 v4)) (v5,v8,v9));s1.2.1)
def jW (v6:Int) (v7:Int) (v8:(List Int)) (v5:Int) (v9:Int):Prop:=(Rg v7/\qy (fun (s1:Int×(List Int)×Int) (v4:Int)=>(bI  s1 v4)) (fun (s1:Int×(List Int)×Int) (v4:Int)=>some (gW  s1 v4)) (rng 0 v7.toNat) (v5,v8,v9))
def wz:Ev->Option Out:=(aG (qp (FT (au (gv 1) aK)) (pJ 5) jQ) (aG (Ab 2) jG))
theorem wA (v6:Int) (v7:Int) (v8:(List Int)) (v5:Int) (v9:Int):RP wz [some ((zE eI) v6),some ((zE eI) v7),some ((oE eI) v8),some ((zE eI) v5),some ((zE eI) v9),none] (fun r=>Out.rt ((oE eI) r)) (gY v6 v7 v8 v5 v9) (some (jW v6 v7 v8 v5 v9)):=R.tp (Gw (fun s1:Int×(List Int)×Int=>[some ((zE eI) v6),some ((zE eI) v7),some ((oE eI) s1.2.1),some ((zE eI) s1.1),some ((zE eI) s1.2.2),none]) (v5,v8,v9) rfl (zc (aA 1 (zE eI) v7 rfl)) _ (fun _ _=>rfl) (fun (s1:Int×(List Int)×Int) (v4:Int)=>(wj v6 v7 s1 v4).r) fun s1=>(Jo 2 (fun r=>r) s1.2.1 rfl (fun _=>rfl) fun _=>rfl))
def bT (v6:Int) (v7:Int):(List Int):=(let v8:=([]:List Int);(let v5:=((((v6 % (1999999973:Int))+(31:Int)) * (765432101:Int)) % (1999999973:Int));(let v9:=(0:Int);(let v9:Int:=(if ((decide (v6 < (0:Int)))||(decide (((10:Int) ^ 18)<=v6)))=true then (let v9:=(if v6 < 0 then -v6 else v6);v9) else v9);(gY v6 v7 v8 v5 v9)))))
def iu (v6:Int) (v7:Int):Prop:=(let v8:=([]:List Int);(let v5:=((((v6 % (1999999973:Int))+(31:Int)) * (765432101:Int)) % (1999999973:Int));(let v9:=(0:Int);(let v9:Int:=(if ((decide (v6 < (0:Int)))||(decide (((10:Int) ^ 18)<=v6)))=true then (let v9:=(if v6 < 0 then -v6 else v6);v9) else v9);(jW v6 v7 v8 v5 v9)))))
theorem Aq (v6:Int) (v7:Int):RP j4 [some ((zE eI) v6),some ((zE eI) v7),none,none,none,none] (fun r=>Out.rt ((oE eI) r)) (bT v6 v7) (some (iu v6 v7)):=R.tp (bZ 2 (pK (eN eI) (zD rfl)) (fun _=>rfl) fun v8=>(bZ 3 (dG (KR (kO (dG (aA 0 (zE eI) v6 rfl) 1999999973 (by decide)) (aJ (.int 31) eI (31:Int) rfl)) 765432101 (by decide)) 1999999973 (by decide)) (fun _=>rfl) fun v5=>(bZ 4 (aJ (.int 0) eI (0:Int) rfl) (fun _=>rfl) fun v9=>(Gv (fun v9:Int=>[some ((zE eI) v6),some ((zE eI) v7),some ((oE eI) v8),some ((zE eI) v5),some ((zE eI) v9),none]) (Jk (iU (V6 (aA 0 (zE eI) v6 rfl) (aJ (.int 0) eI (0:Int) rfl))) (iU (x_ge (aA 0 (zE eI) v6 rfl) (Yw 10 18 18 (by decide) rfl)))) (bO (bZ 4 (aa2 (aA 0 (zE eI) v6 rfl)) (fun _=>rfl) fun v9=>(cZ (bY v9 rfl)))) (cZ (bY v9 rfl)) fun v9=>(wA v6 v7 v8 v5 v9).r))))
theorem su:∀ v bs,(aZ eI (aZ eI aN)) v bs->bs.length=2/\(hold (some (iu v.1 v.2.1))->dh (bs.map lend)=some ((oE eI) (bT v.1 v.2.1))):=by
 rintro⟨v6,v7,_⟩ _ ⟨_,rfl,⟨_,rfl,rfl⟩⟩
 exact⟨rfl,fun h=>jt (g:=j4) (n:=6) (bs:=[.z (eI v6),.z (eI v7)]) (Aq v6 v7).r h⟩
end
end G39
end
section
set_option synthInstance.maxSize 100000
namespace G39
open PySem PySem.Spec PyProof.Rows L2 P1
noncomputable section
def dF (va:(List Int)) (vb:Str) (vc:Str) (v2:Int) (v8:(List Str)) (v4:Int):(List Str):=(let vd:=(ch vb ((v4+(at' va (2:Int))) % (15:Int)));(let ve:=(((Txt.slice vc none (some v2))++vd)++(Txt.slice vc (some v2) none));(let ve:Str:=(if (decide (((at' va (3:Int)) % (3:Int))=(1:Int)))=true then (let ve:=(Txt.mul (ch vb (v4 / (8:Int))) ((1:Int)+(v4 % (8:Int))));ve) else ve);(let v8:=v8++[ve];v8))))
def jB (va:(List Int)) (vb:Str) (vc:Str) (v2:Int) (v8:(List Str)) (v4:Int):Prop:=((In va.length (2:Int)/\In vb.length ((v4+(at' va (2:Int))) % (15:Int)))/\(let vd:=(ch vb ((v4+(at' va (2:Int))) % (15:Int)));((Ej ((Txt.slice vc none (some v2)).length+vd.length)/\Ej (((Txt.slice vc none (some v2))++vd).length+(Txt.slice vc (some v2) none).length))/\(let ve:=(((Txt.slice vc none (some v2))++vd)++(Txt.slice vc (some v2) none));((In va.length (3:Int)/\((decide (((at' va (3:Int)) % (3:Int))=(1:Int)))=true->(In vb.length (v4 / (8:Int))/\(((1:Int)+(v4 % (8:Int)))<=1000 ∧ -1000<=((1:Int)+(v4 % (8:Int)))/\(ch vb (v4 / (8:Int))).length<=1000))))/\(let ve:Str:=(if (decide (((at' va (3:Int)) % (3:Int))=(1:Int)))=true then (let ve:=(Txt.mul (ch vb (v4 / (8:Int))) ((1:Int)+(v4 % (8:Int))));ve) else ve);Ej v8.length))))))
theorem zR (va:(List Int)) {iM:Bx} (mj:Lp iM (va.map eI)) (v7:Int) (vb:Str) (vc:Str) (v2:Int) (v8:(List Str)) (v4:Int):RP lY [some iM,some ((zE eI) v7),some ((zE eS) vb),some ((zE eS) vc),some ((zE eI) v2),some ((oE eS) v8),some ((zE eI) v4),none,none] (fun s=>Out.nx ((fun v8:(List Str)=>[some iM,some ((zE eI) v7),some ((zE eS) vb),some ((zE eS) vc),some ((zE eI) v2),some ((oE eS) v8),none,none,none]) s)) (dF va vb vc v2 v8 v4) (some (jB va vb vc v2 v8 v4)):=R.tp (bO (bZ 7 (QJ (aA 2 (zE eS) vb rfl) (dG (kO (aA 6 (zE eI) v4 rfl) (ji (gD 0 eI va mj rfl) (aJ (.int 2) eI (2:Int) rfl))) 15 (by decide))) (fun _=>rfl) fun vd=>(bO (bZ 8 (QK (QK (V7 (aA 3 (zE eS) vc rfl) vY (vZ (aA 4 (zE eI) v2 rfl))) (aA 7 (zE eS) vd rfl)) (V7 (aA 3 (zE eS) vc rfl) (vZ (aA 4 (zE eI) v2 rfl)) vY)) (fun _=>rfl) fun ve=>(bO (Gv (fun ve:Str=>[some iM,some ((zE eI) v7),some ((zE eS) vb),some ((zE eS) vc),some ((zE eI) v2),some ((oE eS) v8),some ((zE eI) v4),some ((zE eS) vd),some ((zE eS) ve)]) (iU (x_eq (by decide) (dG (ji (gD 0 eI va mj rfl) (aJ (.int 3) eI (3:Int) rfl)) 3 (by decide)) (aJ (.int 1) eI (1:Int) rfl))) (bO (bZ 8 (YC (QJ (aA 2 (zE eS) vb rfl) (uK (aA 6 (zE eI) v4 rfl) 8 (by decide))) (kO (aJ (.int 1) eI (1:Int) rfl) (dG (aA 6 (zE eI) v4 rfl) 8 (by decide)))) (fun _=>rfl) fun ve=>(cZ (bY ve rfl)))) (cZ (bY ve rfl)) fun ve=>(bO (wQ 5 v8 rfl (aA 8 (zE eS) ve rfl) fun v8=>(cZ (bY v8 rfl))))))))))
def jC (va:(List Int)) (v7:Int) (vb:Str) (vc:Str):(List Str):=(let v2:=((at' va (1:Int)) % ((vc.length:Int)+(1:Int)));(let v8:=([]:List Str);(let v8:(List Str):=((rng 0 v7.toNat).foldl (fun (v8:(List Str)) (v4:Int)=>(dF va vb vc v2 v8 v4)) v8);v8)))
def mq (va:(List Int)) (v7:Int) (vb:Str) (vc:Str):Prop:=((In va.length (1:Int)/\0 < ((vc.length:Int)+(1:Int)))/\(let v2:=((at' va (1:Int)) % ((vc.length:Int)+(1:Int)));(let v8:=([]:List Str);(Rg v7/\qy (fun (v8:(List Str)) (v4:Int)=>(dF va vb vc v2 v8 v4)) (fun (v8:(List Str)) (v4:Int)=>some (jB va vb vc v2 v8 v4)) (rng 0 v7.toNat) v8))))
def zT:Ev->Option Out:=(aG (setG 4 (b2 jg (b2 n8 (gv 0) (cB (.int 1))) (b2 jh (dY rz (au (gv 3) aK)) (cB (.int 1))))) (aG (setG 5 (dY p8 aK)) (aG (qp (FT (au (gv 1) aK)) (pJ 6) lY) (aG (Ab 5) jG))))
theorem zU (va:(List Int)) {iM:Bx} (mj:Lp iM (va.map eI)) (v7:Int) (vb:Str) (vc:Str):RP zT [some iM,some ((zE eI) v7),some ((zE eS) vb),some ((zE eS) vc),none,none,none,none,none] (fun r=>Out.rt ((oE eS) r)) (jC va v7 vb vc) (some (mq va v7 vb vc)):=R.tp (bZ 4 (KY (ji (gD 0 eI va mj rfl) (aJ (.int 1) eI (1:Int) rfl)) (kO (YD (aA 3 (zE eS) vc rfl)) (aJ (.int 1) eI (1:Int) rfl))) (fun _=>rfl) fun v2=>(bZ 5 (pK (eN eS) (zD rfl)) (fun _=>rfl) fun v8=>(Gw (fun v8:(List Str)=>[some iM,some ((zE eI) v7),some ((zE eS) vb),some ((zE eS) vc),some ((zE eI) v2),some ((oE eS) v8),none,none,none]) v8 rfl (zc (aA 1 (zE eI) v7 rfl)) _ (fun _ _=>rfl) (fun (v8:(List Str)) (v4:Int)=>(zR va mj v7 vb vc v2 v8 v4).r) fun v8=>(Jo 5 (fun r=>r) v8 rfl (fun _=>rfl) fun _=>rfl))))
def aX (va:(List Int)) (v7:Int):(List Str):=(let vb:=("abcdefghijklmnopqrstuvwxyz" : Str);(let vc:=(Txt.join "" ((rng 0 ((at' va (0:Int)) % (6:Int)).toNat).map fun v4:Int=>(ch vb (((at' va v4) / (40:Int)) % (26:Int)))));(jC va v7 vb vc)))
def je (va:(List Int)) (v7:Int):Prop:=(let vb:=("abcdefghijklmnopqrstuvwxyz" : Str);(((((In va.length (0:Int)/\Rg ((at' va (0:Int)) % (6:Int)))/\(rng 0 ((at' va (0:Int)) % (6:Int)).toNat).length<=100000)/\(∀ v4∈(rng 0 ((at' va (0:Int)) % (6:Int)).toNat),(In va.length v4/\In vb.length (((at' va v4) / (40:Int)) % (26:Int)))))/\(((rng 0 ((at' va (0:Int)) % (6:Int)).toNat).map fun v4:Int=>(ch vb (((at' va v4) / (40:Int)) % (26:Int)))).map (·.length)).sum+((rng 0 ((at' va (0:Int)) % (6:Int)).toNat).map fun v4:Int=>(ch vb (((at' va v4) / (40:Int)) % (26:Int)))).length * ("" : Str).length<=100000)/\(let vc:=(Txt.join "" ((rng 0 ((at' va (0:Int)) % (6:Int)).toNat).map fun v4:Int=>(ch vb (((at' va v4) / (40:Int)) % (26:Int)))));(mq va v7 vb vc))))
theorem Hh (va:(List Int)) {iM:Bx} (mj:Lp iM (va.map eI)) (v7:Int):RP mL [some iM,some ((zE eI) v7),none,none,none,none,none,none,none] (fun r=>Out.rt ((oE eS) r)) (aX va v7) (some (je va v7)):=R.tp (bZ 2 (aJ (.str "abcdefghijklmnopqrstuvwxyz") eS ("abcdefghijklmnopqrstuvwxyz" : Str) rfl) (fun _=>rfl) fun vb=>(bZ 3 (YH "" (jr (za (zc (dG (ji (gD 0 eI va mj rfl) (aJ (.int 0) eI (0:Int) rfl)) 6 (by decide))) _ (fun _=>rfl) (fun v4:Int=>(QJ (aA 0 (zE eS) vb rfl) (dG (uK (ji (gD 1 eI va mj (congrArg some (mj.get rfl))) (aA 2 (zE eI) v4 rfl)) 40 (by decide)) 26 (by decide))))))) (fun _=>rfl) fun vc=>(zU va mj v7 vb vc).r))
theorem xr:∀ v bs,(aL eI (aZ eI aN)) v bs->bs.length=2/\(hold (some (je v.1 v.2.1))->eZ (bs.map lend)=some ((oE eS) (aX v.1 v.2.1))):=by
 rintro⟨va,v7,_⟩ _ ⟨iM,_,rfl,mj,⟨_,rfl,rfl⟩⟩
 exact⟨rfl,fun h=>jt (g:=mL) (n:=9) (bs:=[lend iM,.z (eI v7)]) (Hh va (uJ mj) v7).r h⟩
end
end G39
end
section
set_option synthInstance.maxSize 100000
namespace G39
open PySem PySem.Spec PyProof.Rows L2 P1
noncomputable section
def bG (vf:(List Str)) (vg:Int) (vh:(List Str)) (v8:(List (List (List Str)))) (v4:Int):(List (List (List Str))):=(let vj:=(((rng 0 (kN 3)).filter fun vi:Int=>(decide ((Builtin.bitAnd (v4 / 2 ^ vi.toNat) (1:Int))=(1:Int)))).map fun vi:Int=>(at' vh vi));(let vj:(List Str):=(if (decide ((1:Int) < (vj.length:Int)))=true then (let vj:=vj++[(at' vf vg)];vj) else vj);(let v8:=v8++[((bC vj).map fun ve:Str=>[ve])];v8)))
def cT (vf:(List Str)) (vg:Int) (vh:(List Str)) (v8:(List (List (List Str)))) (v4:Int):Prop:=(((rng 0 (kN 3)).length<=100000/\(∀ vi∈(rng 0 (kN 3)),(0<=vi/\((decide ((Builtin.bitAnd (v4 / 2 ^ vi.toNat) (1:Int))=(1:Int)))=true->In vh.length vi))))/\(let vj:=(((rng 0 (kN 3)).filter fun vi:Int=>(decide ((Builtin.bitAnd (v4 / 2 ^ vi.toNat) (1:Int))=(1:Int)))).map fun vi:Int=>(at' vh vi));(((decide ((1:Int) < (vj.length:Int)))=true->(In vf.length vg/\Ej vj.length))/\(let vj:(List Str):=(if (decide ((1:Int) < (vj.length:Int)))=true then (let vj:=vj++[(at' vf vg)];vj) else vj);((vj.length < 64/\(bC vj).length<=100000)/\Ej v8.length)))))
theorem qL (va:(List Int)) {iM:Bx} (mj:Lp iM (va.map eI)) (vf:(List Str)) {b_1:Bx} (h_1:Lp b_1 (vf.map eS)) (vg:Int) (vh:(List Str)) (v8:(List (List (List Str)))) (v4:Int):RP kW [some iM,some b_1,some ((zE eI) vg),some ((oE eS) vh),some ((oE (eT (eT eS))) v8),some ((zE eI) v4),none,none] (fun s=>Out.nx ((fun v8:(List (List (List Str)))=>[some iM,some b_1,some ((zE eI) vg),some ((oE eS) vh),some ((oE (eT (eT eS))) v8),none,none,none]) s)) (bG vf vg vh v8 v4) (some (cT vf vg vh v8 v4)):=R.tp (bO (bZ 6 (xV (Jq 3 3 rfl (by unfold Rg;decide)) _ (fun _=>rfl) (fun vi:Int=>(iU (x_eq (by decide) (Rc (Wg (aA 1 (zE eI) v4 rfl) (aA 2 (zE eI) vi rfl)) (aJ (.int 1) eI (1:Int) rfl)) (aJ (.int 1) eI (1:Int) rfl)))) (fun vi:Int=>(ji (eG (aA 0 (lE eS) vh rfl)) (aA 2 (zE eI) vi rfl)))) (fun _=>rfl) fun vj=>(bO (Gv (fun vj:(List Str)=>[some iM,some b_1,some ((zE eI) vg),some ((oE eS) vh),some ((oE (eT (eT eS))) v8),some ((zE eI) v4),some ((oE eS) vj),none]) (iU (U4 (x_len (eG (aA 6 (lE eS) vj rfl))) (aJ (.int 1) eI (1:Int) rfl))) (bO (wQ 6 vj rfl (ji (gD 1 eS vf h_1 rfl) (aA 2 (zE eI) vg rfl)) fun vj=>(cZ (bY vj rfl)))) (cZ (bY vj rfl)) fun vj=>(bO (wQ 4 v8 rfl (uM (jr (oW (Nq (jr (uN (eG (aA 6 (lE eS) vj rfl))))) _ (fun _=>rfl) (fun ve:Str=>(qx (bD (aA 0 (zE eS) ve rfl) (eN eS)) (zD rfl))) fun _=>rfl))) fun v8=>(cZ (bY v8 rfl))))))))
def dJ (va:(List Int)) (vf:(List Str)):(List (List (List Str))):=(let vg:=((at' va (0:Int)) % (4:Int));(let vh:=(((rng 0 (kN 4)).filter fun vi:Int=>(!decide (vi=vg))).map fun vi:Int=>(at' vf vi));(let v8:=([]:List (List (List Str)));(let v8:(List (List (List Str))):=((rng 0 (kN 8)).foldl (fun (v8:(List (List (List Str)))) (v4:Int)=>(bG vf vg vh v8 v4)) v8);(let v2:=((at' va (1:Int)) % (8:Int));(cut ((cut v8 (some v2) none)++(cut v8 none (some v2))) (some ((at' va (2:Int)) % (3:Int))) none))))))
def dM (va:(List Int)) (vf:(List Str)):Prop:=(In va.length (0:Int)/\(let vg:=((at' va (0:Int)) % (4:Int));(((rng 0 (kN 4)).length<=100000/\(∀ vi∈(rng 0 (kN 4)),((!decide (vi=vg))=true->In vf.length vi)))/\(let vh:=(((rng 0 (kN 4)).filter fun vi:Int=>(!decide (vi=vg))).map fun vi:Int=>(at' vf vi));(let v8:=([]:List (List (List Str)));(qy (fun (v8:(List (List (List Str)))) (v4:Int)=>(bG vf vg vh v8 v4)) (fun (v8:(List (List (List Str)))) (v4:Int)=>some (cT vf vg vh v8 v4)) (rng 0 (kN 8)) v8/\(let v8:(List (List (List Str))):=((rng 0 (kN 8)).foldl (fun (v8:(List (List (List Str)))) (v4:Int)=>(bG vf vg vh v8 v4)) v8);(In va.length (1:Int)/\(let v2:=((at' va (1:Int)) % (8:Int));(Ej ((cut v8 (some v2) none).length+(cut v8 none (some v2)).length)/\In va.length (2:Int)))))))))))
theorem u6 (va:(List Int)) {iM:Bx} (mj:Lp iM (va.map eI)) (vf:(List Str)) {b_1:Bx} (h_1:Lp b_1 (vf.map eS)):RP gj [some iM,some b_1,none,none,none,none,none,none] (fun r=>Out.rt ((zE (eT (eT (eT eS)))) r)) (dJ va vf) (some (dM va vf)):=R.tp (bZ 2 (dG (ji (gD 0 eI va mj rfl) (aJ (.int 0) eI (0:Int) rfl)) 4 (by decide)) (fun _=>rfl) fun vg=>(bZ 3 (xV (Jq 4 4 rfl (by unfold Rg;decide)) _ (fun _=>rfl) (fun vi:Int=>(iU (Yx (by decide) (aA 2 (zE eI) vi rfl) (aA 1 (zE eI) vg rfl)))) (fun vi:Int=>(ji (gD 0 eS vf h_1 (congrArg some (h_1.get rfl))) (aA 2 (zE eI) vi rfl)))) (fun _=>rfl) fun vh=>(bZ 4 (pK (eN (eT (eT eS))) (zD rfl)) (fun _=>rfl) fun v8=>(Gw (fun v8:(List (List (List Str)))=>[some iM,some b_1,some ((zE eI) vg),some ((oE eS) vh),some ((oE (eT (eT eS))) v8),none,none,none]) v8 rfl (Jq 8 8 rfl (by unfold Rg;decide)) _ (fun _ _=>rfl) (fun (v8:(List (List (List Str)))) (v4:Int)=>(qL va mj vf h_1 vg vh v8 v4).r) fun v8=>(bZ 7 (dG (ji (gD 0 eI va mj rfl) (aJ (.int 1) eI (1:Int) rfl)) 8 (by decide)) (fun _=>rfl) fun v2=>(iV (fun r=>r) (uM (jr (Jl (jr (QM (jr (Jl (eG (aA 4 (lE (eT (eT eS))) v8 rfl)) (vZ (aA 7 (zE eI) v2 rfl)) vY)) (jr (Jl (eG (aA 4 (lE (eT (eT eS))) v8 rfl)) vY (vZ (aA 7 (zE eI) v2 rfl)))))) (vZ (dG (ji (gD 0 eI va mj rfl) (aJ (.int 2) eI (2:Int) rfl)) 3 (by decide))) vY))) (fun _=>rfl) fun _=>rfl))))))
theorem u9:∀ v bs,(aL eI (aL eS aN)) v bs->bs.length=2/\(hold (some (dM v.1 v.2.1))->cg (bs.map lend)=some ((zE (eT (eT (eT eS)))) (dJ v.1 v.2.1))):=by
 rintro⟨va,vf,_⟩ _ ⟨iM,_,rfl,mj,⟨b_1,_,rfl,h_1,rfl⟩⟩
 exact⟨rfl,fun h=>jt (g:=gj) (n:=8) (bs:=[lend iM,lend b_1]) (u6 va (uJ mj) vf (uJ h_1)).r h⟩
end
end G39
end
section
set_option synthInstance.maxSize 100000
namespace G39
open PySem PySem.Spec PyProof.Rows L2 P1
noncomputable section
def bU (vf:(List Str)) (va:(List Int)):(List (List Str)):=(let v8:=([]:(List (Int×(List Str))));(let v8:=(GK (fun v4:Int=>(let y1:=(((at' va (v4 % (va.length:Int))) / ((1:Int)+(v4 / (va.length:Int)))) % (if (vf.length:Int) > (1:Int) then (vf.length:Int) else (1:Int)));if (decide ((0:Int) < ((at' va (0:Int)) % (3:Int))))=true then (y1 % (3:Int)) else y1)) (fun v4:Int=>(let y1:=(((at' va (v4 % (va.length:Int))) / ((1:Int)+(v4 / (va.length:Int)))) % (if (vf.length:Int) > (1:Int) then (vf.length:Int) else (1:Int)));let y2:=(if (decide ((0:Int) < ((at' va (0:Int)) % (3:Int))))=true then (y1 % (3:Int)) else y1);(at' vf v4))) (rng 0 (vf.length:Int).toNat));(oX ((v8.map (·.1)).map fun vm:Int=>(bC (look v8 vm))))))
def fX (vf:(List Str)) (va:(List Int)):Prop:=(let v8:=([]:(List (Int×(List Str))));((((v8=[]/\Rg (vf.length:Int))/\(rng 0 (vf.length:Int).toNat).length < 1000)/\(∀ v4∈(rng 0 (vf.length:Int).toNat),(((((0 < (va.length:Int)/\In va.length (v4 % (va.length:Int)))/\(0 < (va.length:Int)/\(va.length:Int) < 1073741824))/\(0 < ((1:Int)+(v4 / (va.length:Int)))/\((1:Int)+(v4 / (va.length:Int))) < 1073741824))/\0 < (if (vf.length:Int) > (1:Int) then (vf.length:Int) else (1:Int)))/\((let y1:=(((at' va (v4 % (va.length:Int))) / ((1:Int)+(v4 / (va.length:Int)))) % (if (vf.length:Int) > (1:Int) then (vf.length:Int) else (1:Int)));In va.length (0:Int))/\(let y1:=(((at' va (v4 % (va.length:Int))) / ((1:Int)+(v4 / (va.length:Int)))) % (if (vf.length:Int) > (1:Int) then (vf.length:Int) else (1:Int)));let y2:=(if (decide ((0:Int) < ((at' va (0:Int)) % (3:Int))))=true then (y1 % (3:Int)) else y1);In vf.length v4)))))/\(let v8:=(GK (fun v4:Int=>(let y1:=(((at' va (v4 % (va.length:Int))) / ((1:Int)+(v4 / (va.length:Int)))) % (if (vf.length:Int) > (1:Int) then (vf.length:Int) else (1:Int)));if (decide ((0:Int) < ((at' va (0:Int)) % (3:Int))))=true then (y1 % (3:Int)) else y1)) (fun v4:Int=>(let y1:=(((at' va (v4 % (va.length:Int))) / ((1:Int)+(v4 / (va.length:Int)))) % (if (vf.length:Int) > (1:Int) then (vf.length:Int) else (1:Int)));let y2:=(if (decide ((0:Int) < ((at' va (0:Int)) % (3:Int))))=true then (y1 % (3:Int)) else y1);(at' vf v4))) (rng 0 (vf.length:Int).toNat));(((v8.map (·.1)).length<=100000/\(∀ vm∈(v8.map (·.1)),(has v8 vm=true/\(look v8 vm).length < 64)))/\(((v8.map (·.1)).map fun vm:Int=>(bC (look v8 vm))).length < 64/\∀ x∈((v8.map (·.1)).map fun vm:Int=>(bC (look v8 vm))),x.isEmpty=false)))))
theorem Ar (vf:(List Str)) {iM:Bx} (mj:Lp iM (vf.map eS)) (va:(List Int)) {b_1:Bx} (h_1:Lp b_1 (va.map eI)):RP j5 [some iM,some b_1,none,none,none] (fun r=>Out.rt ((oE (eT eS)) r)) (bU vf va) (some (fX vf va)):=R.tp (bZ 2 (Vl (eL eS)) (fun _=>rfl) fun v8=>(Vn 2 4 3 v8 rfl (zD rfl) (ρ0:=[some iM,some b_1,none,none,none]) rfl (zc (x_len (gD 0 eS vf mj rfl))) (fun v4:Int=>(KY (QH (ji (gD 1 eI va h_1 rfl) (KY (aA 3 (zE eI) v4 rfl) (x_len (gD 1 eI va h_1 rfl)))) (kO (aJ (.int 1) eI (1:Int) rfl) (QH (aA 3 (zE eI) v4 rfl) (x_len (gD 1 eI va h_1 rfl))))) (aa3 (aJ (.int 1) eI (1:Int) rfl) (x_len (gD 0 eS vf mj rfl))))) (fun (v4:Int) y1=>(iU (U4 (dG (ji (gD 1 eI va h_1 rfl) (aJ (.int 0) eI (0:Int) rfl)) 3 (by decide)) (aJ (.int 0) eI (0:Int) rfl)))) (fun (v4:Int) y1=>(dG (aA 4 (zE eI) y1 rfl) 3 (by decide))) (fun (v4:Int) y1 y2=>(ji (gD 0 eS vf mj rfl) (aA 3 (zE eI) v4 rfl))) fun v8=>(iV (fun r=>r) (Ve (jr (za (abe (aA 2 (nI (eL eS)) v8 rfl)) _ (fun _=>rfl) (fun vm:Int=>(uM (jr (uN (U3 (Vm (aA 0 (nI (eL eS)) v8 rfl) (aA 1 (zE eI) vm rfl)))))))))) (fun _=>rfl) fun _=>rfl)))
theorem Av:∀ v bs,(aL eS (aL eI aN)) v bs->bs.length=2/\(hold (some (fX v.1 v.2.1))->dR (bs.map lend)=some ((oE (eT eS)) (bU v.1 v.2.1))):=by
 rintro⟨vf,va,_⟩ _ ⟨iM,_,rfl,mj,⟨b_1,_,rfl,h_1,rfl⟩⟩
 exact⟨rfl,fun h=>jt (g:=j5) (n:=5) (bs:=[lend iM,lend b_1]) (Ar vf (uJ mj) va (uJ h_1)).r h⟩
end
end G39
end
section
set_option synthInstance.maxSize 100000
namespace G39
open PySem PySem.Spec PyProof.Rows L2 P1
noncomputable section
def cH (v0:(List Int)) (v2:Int) (v3:(List Int)) (vf:(List Str)) (v8:(List (List (List Str)))) (v4:Int):(List (List (List Str))):=(let va:=(bT (cV v0 ((v2+(1:Int))+v4)) (10:Int));(let vj:=(((rng 0 (vf.length:Int).toNat).filter fun vi:Int=>((decide ((Builtin.bitAnd (((at' va (9:Int)) / (7:Int)) / 2 ^ vi.toNat) (1:Int))=(0:Int)))||(decide ((0:Int) < ((at' v3 (9:Int)) % (3:Int)))))).map fun vi:Int=>(at' vf vi));(let vj:(List Str):=(if ((!decide (v8=([]:List (List (List Str)))))&&(decide (((at' va (8:Int)) % (3:Int))=(1:Int))))=true then (let vj:=((vf.filter fun ve:Str=>(((at' v8 (-(1:Int))).map fun vk:(List Str)=>(decide (ve∈vk))).any id)).map fun ve:Str=>ve);vj) else vj);(let vl:=(bU vj (cut va none (some (8:Int))));(let v8:(List (List (List Str))):=(if (!uR vl v8)=true then (let v8:=v8++[vl];v8) else v8);v8)))))
def fP (v0:(List Int)) (v2:Int) (v3:(List Int)) (vf:(List Str)) (v8:(List (List (List Str)))) (v4:Int):Prop:=(((jV v0 ((v2+(1:Int))+v4))/\(iu (cV v0 ((v2+(1:Int))+v4)) (10:Int)))/\(let va:=(bT (cV v0 ((v2+(1:Int))+v4)) (10:Int));(((Rg (vf.length:Int)/\(rng 0 (vf.length:Int).toNat).length<=100000)/\(∀ vi∈(rng 0 (vf.length:Int).toNat),(((In va.length (9:Int)/\0<=vi)/\((decide ((Builtin.bitAnd (((at' va (9:Int)) / (7:Int)) / 2 ^ vi.toNat) (1:Int))=(0:Int)))=false->In v3.length (9:Int)))/\(((decide ((Builtin.bitAnd (((at' va (9:Int)) / (7:Int)) / 2 ^ vi.toNat) (1:Int))=(0:Int)))||(decide ((0:Int) < ((at' v3 (9:Int)) % (3:Int)))))=true->In vf.length vi))))/\(let vj:=(((rng 0 (vf.length:Int).toNat).filter fun vi:Int=>((decide ((Builtin.bitAnd (((at' va (9:Int)) / (7:Int)) / 2 ^ vi.toNat) (1:Int))=(0:Int)))||(decide ((0:Int) < ((at' v3 (9:Int)) % (3:Int)))))).map fun vi:Int=>(at' vf vi));((((!decide (v8=([]:List (List (List Str)))))=true->In va.length (8:Int))/\(((!decide (v8=([]:List (List (List Str)))))&&(decide (((at' va (8:Int)) % (3:Int))=(1:Int))))=true->(vf.length<=100000/\(∀ ve∈vf,(In v8.length (-(1:Int))/\(at' v8 (-(1:Int))).length<=100000)))))/\(let vj:(List Str):=(if ((!decide (v8=([]:List (List (List Str)))))&&(decide (((at' va (8:Int)) % (3:Int))=(1:Int))))=true then (let vj:=((vf.filter fun ve:Str=>(((at' v8 (-(1:Int))).map fun vk:(List Str)=>(decide (ve∈vk))).any id)).map fun ve:Str=>ve);vj) else vj);((fX vj (cut va none (some (8:Int))))/\(let vl:=(bU vj (cut va none (some (8:Int))));((!uR vl v8)=true->Ej v8.length)))))))))
theorem xM (v0:(List Int)) {iM:Bx} (mj:Lp iM (v0.map eI)) (v2:Int) (v3:(List Int)) (vf:(List Str)) (v8:(List (List (List Str)))) (v4:Int):RP pN [some iM,some ((zE eI) v2),some ((oE eI) v3),some ((oE eS) vf),some ((oE (eT (eT eS))) v8),some ((zE eI) v4),none,none,none] (fun s=>Out.nx ((fun v8:(List (List (List Str)))=>[some iM,some ((zE eI) v2),some ((oE eI) v3),some ((oE eS) vf),some ((oE (eT (eT eS))) v8),none,none,none,none]) s)) (cH v0 v2 v3 vf v8 v4) (some (fP v0 v2 v3 vf v8 v4)):=R.tp (bO (bZ 6 (x_call su (lK (wO (x_call zQ (Ai (gD 0 eI v0 mj rfl) (lK (wO (kO (kO (aA 1 (zE eI) v2 rfl) (aJ (.int 1) eI (1:Int) rfl)) (aA 5 (zE eI) v4 rfl))) dO)))) (lK (aJ (.int 10) eI (10:Int) rfl) dO))) (fun _=>rfl) fun va=>(bO (bZ 7 (xV (zc (x_len (eG (aA 3 (lE eS) vf rfl)))) _ (fun _=>rfl) (fun vi:Int=>(Jk (iU (x_eq (by decide) (Rc (Wg (uK (ji (eG (aA 2 (lE eI) va rfl)) (aJ (.int 9) eI (9:Int) rfl)) 7 (by decide)) (aA 3 (zE eI) vi rfl)) (aJ (.int 1) eI (1:Int) rfl)) (aJ (.int 0) eI (0:Int) rfl))) (iU (U4 (dG (ji (eG (aA 1 (lE eI) v3 rfl)) (aJ (.int 9) eI (9:Int) rfl)) 3 (by decide)) (aJ (.int 0) eI (0:Int) rfl))))) (fun vi:Int=>(ji (eG (aA 0 (lE eS) vf rfl)) (aA 3 (zE eI) vi rfl)))) (fun _=>rfl) fun vj=>(bO (Gv (fun vj:(List Str)=>[some iM,some ((zE eI) v2),some ((oE eI) v3),some ((oE eS) vf),some ((oE (eT (eT eS))) v8),some ((zE eI) v4),some ((oE eI) va),some ((oE eS) vj),none]) (aa1 (iU (Gr (by decide) (eG (aA 4 (lE (eT (eT eS))) v8 rfl)) (jr (pK (eN (eT (eT eS))) (zD rfl))))) (iU (x_eq (by decide) (dG (ji (eG (aA 6 (lE eI) va rfl)) (aJ (.int 8) eI (8:Int) rfl)) 3 (by decide)) (aJ (.int 1) eI (1:Int) rfl)))) (bO (bZ 7 (xV (Nq (eG (aA 3 (lE eS) vf rfl))) _ (fun _=>rfl) (fun ve:Str=>(Jj (QX (jr (oW (Jm (ji (eG (aA 0 (lE (eT (eT eS))) v8 rfl)) (aa0 (aJ (.int 1) eI (1:Int) rfl)))) _ (fun _=>rfl) (fun vk:(List Str)=>(Q0 (aA 0 (zE eS) ve rfl) (aA 1 (zE (eT eS)) vk rfl))) fun _=>rfl))))) (fun ve:Str=>(aA 1 (zE eS) ve rfl))) (fun _=>rfl) fun vj=>(cZ (bY vj rfl)))) (cZ (bY vj rfl)) fun vj=>(bO (bZ 8 (uM (jr (x_call Av (Ai (eG (aA 7 (lE eS) vj rfl)) (Ai (U3 (Yv (Jl (eG (aA 6 (lE eI) va rfl)) vY (vZ (aJ (.int 8) eI (8:Int) rfl))))) dO))))) (fun _=>rfl) fun vl=>(bO (Gv (fun v8:(List (List (List Str)))=>[some iM,some ((zE eI) v2),some ((oE eI) v3),some ((oE eS) vf),some ((oE (eT (eT eS))) v8),some ((zE eI) v4),some ((oE eI) va),some ((oE eS) vj),some ((zE (eT (eT eS))) vl)]) (iU (YZ (by decide) (aA 8 (zE (eT (eT eS))) vl rfl) (eG (aA 4 (lE (eT (eT eS))) v8 rfl)))) (bO (wQ 4 v8 rfl (aA 8 (zE (eT (eT eS))) vl rfl) fun v8=>(cZ (bY v8 rfl)))) (cZ (bY v8 rfl)) fun v8=>(cZ (bY v8 rfl))))))))))))
def fG (v0:(List Int)) (v2:Int):(List (List (List Str))):=(let v3:=(bT (cV v0 v2) (10:Int));(if (decide ((((at' v3 (7:Int)) / (4:Int)) % (4:Int))=(1:Int)))=true then (dJ [(at' v3 (6:Int)),(at' v3 (8:Int)),(at' v3 (9:Int))] (bC (aX v3 (4:Int)))) else (let vf:=(bC (aX v3 ((1:Int)+((at' v3 (6:Int)) % (at' [(8:Int),(4:Int),(6:Int),(3:Int)] ((at' v3 (7:Int)) % (4:Int)))))));(let v8:=([]:List (List (List Str)));(let v8:(List (List (List Str))):=((rng 0 ((1:Int)+((at' v3 (8:Int)) % (8:Int))).toNat).foldl (fun (v8:(List (List (List Str)))) (v4:Int)=>(cH v0 v2 v3 vf v8 v4)) v8);v8)))))
def jD (v0:(List Int)) (v2:Int):Prop:=(((jV v0 v2)/\(iu (cV v0 v2) (10:Int)))/\(let v3:=(bT (cV v0 v2) (10:Int));(In v3.length (7:Int)/\(((decide ((((at' v3 (7:Int)) / (4:Int)) % (4:Int))=(1:Int)))=true->(((In v3.length (6:Int)/\(In v3.length (8:Int)/\In v3.length (9:Int)))/\((je v3 (4:Int))/\(aX v3 (4:Int)).length < 64))/\(dM [(at' v3 (6:Int)),(at' v3 (8:Int)),(at' v3 (9:Int))] (bC (aX v3 (4:Int))))))/\((decide ((((at' v3 (7:Int)) / (4:Int)) % (4:Int))=(1:Int)))=false->(((((In v3.length (6:Int)/\(In v3.length (7:Int)/\In [(8:Int),(4:Int),(6:Int),(3:Int)].length ((at' v3 (7:Int)) % (4:Int))))/\0 < (at' [(8:Int),(4:Int),(6:Int),(3:Int)] ((at' v3 (7:Int)) % (4:Int))))/\(je v3 ((1:Int)+((at' v3 (6:Int)) % (at' [(8:Int),(4:Int),(6:Int),(3:Int)] ((at' v3 (7:Int)) % (4:Int)))))))/\(aX v3 ((1:Int)+((at' v3 (6:Int)) % (at' [(8:Int),(4:Int),(6:Int),(3:Int)] ((at' v3 (7:Int)) % (4:Int)))))).length < 64)/\(let vf:=(bC (aX v3 ((1:Int)+((at' v3 (6:Int)) % (at' [(8:Int),(4:Int),(6:Int),(3:Int)] ((at' v3 (7:Int)) % (4:Int)))))));(let v8:=([]:List (List (List Str)));((In v3.length (8:Int)/\Rg ((1:Int)+((at' v3 (8:Int)) % (8:Int))))/\qy (fun (v8:(List (List (List Str)))) (v4:Int)=>(cH v0 v2 v3 vf v8 v4)) (fun (v8:(List (List (List Str)))) (v4:Int)=>some (fP v0 v2 v3 vf v8 v4)) (rng 0 ((1:Int)+((at' v3 (8:Int)) % (8:Int))).toNat) v8)))))))))
theorem DX (v0:(List Int)) {iM:Bx} (mj:Lp iM (v0.map eI)) (v2:Int):RP lN [some iM,some ((zE eI) v2),none,none,none,none,none,none,none] (fun r=>Out.rt ((zE (eT (eT (eT eS)))) r)) (fG v0 v2) (some (jD v0 v2)):=R.tp (bZ 2 (x_call su (lK (wO (x_call zQ (Ai (gD 0 eI v0 mj rfl) (lK (aA 1 (zE eI) v2 rfl) dO)))) (lK (aJ (.int 10) eI (10:Int) rfl) dO))) (fun _=>rfl) fun v3=>(uO (iU (x_eq (by decide) (dG (uK (ji (eG (aA 2 (lE eI) v3 rfl)) (aJ (.int 7) eI (7:Int) rfl)) 4 (by decide)) 4 (by decide)) (aJ (.int 1) eI (1:Int) rfl))) (bO (iV (fun r=>r) (x_call u9 (Ai (U3 (Yv (pK (bD (ji (eG (aA 2 (lE eI) v3 rfl)) (aJ (.int 6) eI (6:Int) rfl)) (bD (ji (eG (aA 2 (lE eI) v3 rfl)) (aJ (.int 8) eI (8:Int) rfl)) (bD (ji (eG (aA 2 (lE eI) v3 rfl)) (aJ (.int 9) eI (9:Int) rfl)) (eN eI)))) (zD rfl)))) (Ai (U3 (Yv (uN (jr (x_call xr (Ai (eG (aA 2 (lE eI) v3 rfl)) (lK (aJ (.int 4) eI (4:Int) rfl) dO))))))) dO))) (fun _=>rfl) fun _=>rfl)) (cZ (bZ 3 (uN (jr (x_call xr (Ai (eG (aA 2 (lE eI) v3 rfl)) (lK (wO (kO (aJ (.int 1) eI (1:Int) rfl) (KY (ji (eG (aA 2 (lE eI) v3 rfl)) (aJ (.int 6) eI (6:Int) rfl)) (ji (jr (pK (bD (aJ (.int 8) eI (8:Int) rfl) (bD (aJ (.int 4) eI (4:Int) rfl) (bD (aJ (.int 6) eI (6:Int) rfl) (bD (aJ (.int 3) eI (3:Int) rfl) (eN eI))))) (zD rfl))) (dG (ji (eG (aA 2 (lE eI) v3 rfl)) (aJ (.int 7) eI (7:Int) rfl)) 4 (by decide)))))) dO))))) (fun _=>rfl) fun vf=>(bZ 4 (pK (eN (eT (eT eS))) (zD rfl)) (fun _=>rfl) fun v8=>(Gw (fun v8:(List (List (List Str)))=>[some iM,some ((zE eI) v2),some ((oE eI) v3),some ((oE eS) vf),some ((oE (eT (eT eS))) v8),none,none,none,none]) v8 rfl (zc (kO (aJ (.int 1) eI (1:Int) rfl) (dG (ji (eG (aA 2 (lE eI) v3 rfl)) (aJ (.int 8) eI (8:Int) rfl)) 8 (by decide)))) _ (fun _ _=>rfl) (fun (v8:(List (List (List Str)))) (v4:Int)=>(xM v0 mj v2 v3 vf v8 v4).r) fun v8=>(iV (fun r=>r) (uM (eG (aA 4 (lE (eT (eT eS))) v8 rfl))) (fun _=>rfl) fun _=>rfl)))))))
theorem DY:∀ v bs,(aL eI (aZ eI aN)) v bs->bs.length=2/\(hold (some (jD v.1 v.2.1))->fu (bs.map lend)=some ((zE (eT (eT (eT eS)))) (fG v.1 v.2.1))):=by
 rintro⟨v0,v2,_⟩ _ ⟨iM,_,rfl,mj,⟨_,rfl,rfl⟩⟩
 exact⟨rfl,fun h=>jt (g:=lN) (n:=9) (bs:=[lend iM,.z (eI v2)]) (DX v0 (uJ mj) v2).r h⟩
end
end G39
end
section
set_option synthInstance.maxSize 100000
namespace G39
open PySem PySem.Spec PyProof.Rows L2 P1
noncomputable section
def cu (vr:(List (List Str))):(List Str):=(bC (vr.flatMap fun vs:(List Str)=>(vs.map fun vt:Str=>vt)))
def tK (vr:(List (List Str))):Prop:=(((∀ vs∈vr,(∀ vt∈vs,True))/\(vr.flatMap fun vs:(List Str)=>(vs.map fun vt:Str=>vt)).length<=100000)/\(vr.flatMap fun vs:(List Str)=>(vs.map fun vt:Str=>vt)).length < 64)
theorem JK (vr:(List (List Str))):RP oZ [some ((zE (eT (eT eS))) vr)] (fun r=>Out.rt ((oE eS) r)) (cu vr) (some (tK vr)):=R.tp (iV (fun r=>r) (uN (jr (K8 (Q9 (Jm (aA 0 (zE (eT (eT eS))) vr rfl)) _ (fun _=>rfl) (fun vs:(List Str)=>(Ra (acP (aA 0 (zE (eT eS)) vs rfl)) _ (fun _=>rfl) (fun vt:Str=>(aA 1 (zE eS) vt rfl)))))))) (fun _=>rfl) fun _=>rfl)
theorem JL:∀ v bs,(aZ (eT (eT eS)) aN) v bs->bs.length=1/\(hold (some (tK v.1))->iB (bs.map lend)=some ((oE eS) (cu v.1))):=by
 rintro⟨vr,_⟩ _ ⟨_,rfl,rfl⟩
 exact⟨rfl,fun h=>jt (g:=oZ) (n:=1) (bs:=[.z ((eT (eT eS)) vr)]) (JK vr).r h⟩
end
end G39
end
section
set_option synthInstance.maxSize 100000
namespace G39
open PySem PySem.Spec PyProof.Rows L2 P1
noncomputable section
def aM (vo:(List (List (List Str)))):(List Str):=(bC (oR (vo.flatMap fun vq:(List (List Str))=>((cu vq).map fun vt:Str=>vt))))
def pA (vo:(List (List (List Str)))):Prop:=(((∀ vq∈vo,((tK vq)/\(∀ vt∈(cu vq),True)))/\(vo.flatMap fun vq:(List (List Str))=>((cu vq).map fun vt:Str=>vt)).length<=4000)/\((vo.flatMap fun vq:(List (List Str))=>((cu vq).map fun vt:Str=>vt)).length < 4000/\(oR (vo.flatMap fun vq:(List (List Str))=>((cu vq).map fun vt:Str=>vt))).length < 64))
theorem JM (vo:(List (List (List Str)))):RP o7 [some ((zE (eT (eT (eT eS)))) vo)] (fun r=>Out.rt ((oE eS) r)) (aM vo) (some (pA vo)):=R.tp (iV (fun r=>r) (YW (Y6 (Q9 (Jm (aA 0 (zE (eT (eT (eT eS)))) vo rfl)) _ (fun _=>rfl) (fun vq:(List (List Str))=>(Ra (U8 (x_call JL (lK (aA 0 (zE (eT (eT eS))) vq rfl) dO))) _ (fun _=>rfl) (fun vt:Str=>(aA 1 (zE eS) vt rfl))))))) (fun _=>rfl) fun _=>rfl)
theorem JN:∀ v bs,(aZ (eT (eT (eT eS))) aN) v bs->bs.length=1/\(hold (some (pA v.1))->iD (bs.map lend)=some ((oE eS) (aM v.1))):=by
 rintro⟨vo,_⟩ _ ⟨_,rfl,rfl⟩
 exact⟨rfl,fun h=>jt (g:=o7) (n:=1) (bs:=[.z ((eT (eT (eT eS))) vo)]) (JM vo).r h⟩
end
end G39
end
section
set_option synthInstance.maxSize 100000
namespace G39
open PySem PySem.Spec PyProof.Rows L2 P1
noncomputable section
def cJ (vo:(List (List (List Str)))):(List (List Str)):=(let vp:=(aM vo);(let vu:=(vp.map fun vt:Str=>[("stands" : Str),vt]);(vu++((rO vp).flatMap fun q1:Ro=>((cut vp (some (q1.1+(1:Int))) none).map fun vv:Str=>[("one" : Str),q1.2,vv])))))
def jX (vo:(List (List (List Str)))):Prop:=((pA vo)/\(let vp:=(aM vo);(vp.length<=100000/\(let vu:=(vp.map fun vt:Str=>[("stands" : Str),vt]);(((∀ q1∈(rO vp),(∀ vv∈(cut vp (some (q1.1+(1:Int))) none),True))/\((rO vp).flatMap fun q1:Ro=>((cut vp (some (q1.1+(1:Int))) none).map fun vv:Str=>[("one" : Str),q1.2,vv])).length<=100000)/\Ej (vu.length+((rO vp).flatMap fun q1:Ro=>((cut vp (some (q1.1+(1:Int))) none).map fun vv:Str=>[("one" : Str),q1.2,vv])).length))))))
theorem Nz (vo:(List (List (List Str)))):RP qU [some ((zE (eT (eT (eT eS)))) vo),none,none] (fun r=>Out.rt ((oE (eT eS)) r)) (cJ vo) (some (jX vo)):=R.tp (bZ 1 (x_call JN (lK (aA 0 (zE (eT (eT (eT eS)))) vo rfl) dO)) (fun _=>rfl) fun vp=>(bZ 2 (oW (Nq (eG (aA 1 (lE eS) vp rfl))) _ (fun _=>rfl) (fun vt:Str=>(qx (bD (aJ (.str "stands") eS ("stands" : Str) rfl) (bD (aA 0 (zE eS) vt rfl) (eN eS))) (zD rfl))) fun _=>rfl) (fun _=>rfl) fun vu=>(iV (fun r=>r) (QM (eG (aA 2 (lE (eT eS)) vu rfl)) (jr (K8 (Q9 (Vf (eG (aA 1 (lE eS) vp rfl))) _ (fun _=>rfl) (fun q1:Ro=>(Ra (U8 (Jl (eG (aA 0 (lE eS) vp rfl)) (vZ (kO (aA 1 (zE eI) q1.1 rfl) (aJ (.int 1) eI (1:Int) rfl))) vY)) _ (fun _=>rfl) (fun vv:Str=>(qx (bD (aJ (.str "one") eS ("one" : Str) rfl) (bD (aA 2 (zE eS) q1.2 rfl) (bD (aA 3 (zE eS) vv rfl) (eN eS)))) (zD rfl))))))))) (fun _=>rfl) fun _=>rfl)))
theorem qZ:∀ v bs,(aZ (eT (eT (eT eS))) aN) v bs->bs.length=1/\(hold (some (jX v.1))->fV (bs.map lend)=some ((oE (eT eS)) (cJ v.1))):=by
 rintro⟨vo,_⟩ _ ⟨_,rfl,rfl⟩
 exact⟨rfl,fun h=>jt (g:=qU) (n:=3) (bs:=[.z ((eT (eT (eT eS))) vo)]) (Nz vo).r h⟩
end
end G39
end
section
set_option synthInstance.maxSize 100000
namespace G39
open PySem PySem.Spec PyProof.Rows L2 P1
noncomputable section
def gn  (vf:(List (Str×Bool))) (ve:Str):(List (Str×Bool)):=(let vf:=put vf ve true;vf)
def jE  (vf:(List (Str×Bool))) (ve:Str):Prop:=vf.length < 1000
theorem vA (v1:(List (List (List Str)))) (vl:(List (List Str))) (vj:(List Str)) (vf:(List (Str×Bool))) (ve:Str):RP mO [some ((zE (eT (eT (eT eS)))) v1),some ((mE eB) vf),some ((zE (eT (eT eS))) vl),some ((zE (eT eS)) vj),some ((zE eS) ve),none,none,none] (fun s=>Out.nx ((fun vf:(List (Str×Bool))=>[some ((zE (eT (eT (eT eS)))) v1),some ((mE eB) vf),some ((zE (eT (eT eS))) vl),some ((zE (eT eS)) vj),none,none,none,none]) s)) (gn  vf ve) (some (jE  vf ve)):=R.tp (bO (Vb none 1 vf rfl (aJ (.bl true) eB true rfl) (aA 4 (zE eS) ve rfl) fun vf=>(cZ (bY vf rfl))))
def gq  (vf:(List (Str×Bool))) (vj:(List Str)):(List (Str×Bool)):=(let vf:(List (Str×Bool)):=(vj.foldl (fun (vf:(List (Str×Bool))) (ve:Str)=>(gn  vf ve)) vf);vf)
def jF  (vf:(List (Str×Bool))) (vj:(List Str)):Prop:=qy (fun (vf:(List (Str×Bool))) (ve:Str)=>(gn  vf ve)) (fun (vf:(List (Str×Bool))) (ve:Str)=>some (jE  vf ve)) vj vf
theorem vB (v1:(List (List (List Str)))) (vl:(List (List Str))) (vf:(List (Str×Bool))) (vj:(List Str)):RP mQ [some ((zE (eT (eT (eT eS)))) v1),some ((mE eB) vf),some ((zE (eT (eT eS))) vl),some ((zE (eT eS)) vj),none,none,none,none] (fun s=>Out.nx ((fun vf:(List (Str×Bool))=>[some ((zE (eT (eT (eT eS)))) v1),some ((mE eB) vf),some ((zE (eT (eT eS))) vl),none,none,none,none,none]) s)) (gq  vf vj) (some (jF  vf vj)):=R.tp (bO (Jp 3 vj (zf rfl) (fun vf:(List (Str×Bool))=>[some ((zE (eT (eT (eT eS)))) v1),some ((mE eB) vf),some ((zE (eT (eT eS))) vl),some ((zE (eT eS)) vj),none,none,none,none]) vf rfl _ (fun _ _=>rfl) (fun (vf:(List (Str×Bool))) (ve:Str)=>(vA v1 vl vj vf ve).r) fun vf=>(cZ (bY vf rfl))))
def bN  (vf:(List (Str×Bool))) (vl:(List (List Str))):(List (Str×Bool)):=(let vf:(List (Str×Bool)):=(vl.foldl (fun (vf:(List (Str×Bool))) (vj:(List Str))=>(gq  vf vj)) vf);vf)
def gA  (vf:(List (Str×Bool))) (vl:(List (List Str))):Prop:=qy (fun (vf:(List (Str×Bool))) (vj:(List Str))=>(gq  vf vj)) (fun (vf:(List (Str×Bool))) (vj:(List Str))=>some (jF  vf vj)) vl vf
theorem vC (v1:(List (List (List Str)))) (vf:(List (Str×Bool))) (vl:(List (List Str))):RP mR [some ((zE (eT (eT (eT eS)))) v1),some ((mE eB) vf),some ((zE (eT (eT eS))) vl),none,none,none,none,none] (fun s=>Out.nx ((fun vf:(List (Str×Bool))=>[some ((zE (eT (eT (eT eS)))) v1),some ((mE eB) vf),none,none,none,none,none,none]) s)) (bN  vf vl) (some (gA  vf vl)):=R.tp (bO (Jp 2 vl (zf rfl) (fun vf:(List (Str×Bool))=>[some ((zE (eT (eT (eT eS)))) v1),some ((mE eB) vf),some ((zE (eT (eT eS))) vl),none,none,none,none,none]) vf rfl _ (fun _ _=>rfl) (fun (vf:(List (Str×Bool))) (vj:(List Str))=>(vB v1 vl vf vj).r) fun vf=>(cZ (bY vf rfl))))
def gB (vx:(List Str)) (v8:(List (List Str))) (v4:Int):(List (List Str)):=(let v8:=v8++((cut vx (some (v4+(1:Int))) none).map fun vy:Str=>[("one" : Str),(at' vx v4),vy]);v8)
def mY (vx:(List Str)) (v8:(List (List Str))) (v4:Int):Prop:=(((cut vx (some (v4+(1:Int))) none).length<=100000/\(∀ vy∈(cut vx (some (v4+(1:Int))) none),In vx.length v4))/\Ej (v8.length+((cut vx (some (v4+(1:Int))) none).map fun vy:Str=>[("one" : Str),(at' vx v4),vy]).length))
theorem vD (v1:(List (List (List Str)))) (vf:(List (Str×Bool))) (vx:(List Str)) (v8:(List (List Str))) (v4:Int):RP mU [some ((zE (eT (eT (eT eS)))) v1),some ((mE eB) vf),none,none,none,some ((oE eS) vx),some ((oE (eT eS)) v8),some ((zE eI) v4)] (fun s=>Out.nx ((fun v8:(List (List Str))=>[some ((zE (eT (eT (eT eS)))) v1),some ((mE eB) vf),none,none,none,some ((oE eS) vx),some ((oE (eT eS)) v8),none]) s)) (gB vx v8 v4) (some (mY vx v8 v4)):=R.tp (bO (aa7 6 v8 rfl (za (Nq (jr (Jl (eG (aA 5 (lE eS) vx rfl)) (vZ (kO (aA 7 (zE eI) v4 rfl) (aJ (.int 1) eI (1:Int) rfl))) vY))) _ (fun _=>rfl) (fun vy:Str=>(qx (bD (aJ (.str "one") eS ("one" : Str) rfl) (bD (ji (eG (aA 0 (lE eS) vx rfl)) (aA 1 (zE eI) v4 rfl)) (bD (aA 2 (zE eS) vy rfl) (eN eS)))) (zD rfl)))) fun v8=>(cZ (bY v8 rfl))))
def cD (v1:(List (List (List Str)))):(List (List Str)):=(let vf:=([]:(List (Str×Bool)));(let vf:(List (Str×Bool)):=(v1.foldl (fun (vf:(List (Str×Bool))) (vl:(List (List Str)))=>(bN  vf vl)) vf);(let vx:=(bC (vf.map (·.1)));(let v8:=(vx.map fun ve:Str=>[("stands" : Str),ve]);(let v8:(List (List Str)):=((rng 0 (vx.length:Int).toNat).foldl (fun (v8:(List (List Str))) (v4:Int)=>(gB vx v8 v4)) v8);v8)))))
def gM (v1:(List (List (List Str)))):Prop:=(let vf:=([]:(List (Str×Bool)));(qy (fun (vf:(List (Str×Bool))) (vl:(List (List Str)))=>(bN  vf vl)) (fun (vf:(List (Str×Bool))) (vl:(List (List Str)))=>some (gA  vf vl)) v1 vf/\(let vf:(List (Str×Bool)):=(v1.foldl (fun (vf:(List (Str×Bool))) (vl:(List (List Str)))=>(bN  vf vl)) vf);(vf.length < 64/\(let vx:=(bC (vf.map (·.1)));(vx.length<=100000/\(let v8:=(vx.map fun ve:Str=>[("stands" : Str),ve]);(Rg (vx.length:Int)/\qy (fun (v8:(List (List Str))) (v4:Int)=>(gB vx v8 v4)) (fun (v8:(List (List Str))) (v4:Int)=>some (mY vx v8 v4)) (rng 0 (vx.length:Int).toNat) v8))))))))
theorem zV (v1:(List (List (List Str)))):RP ju [some ((zE (eT (eT (eT eS)))) v1),none,none,none,none,none,none,none] (fun r=>Out.rt ((oE (eT eS)) r)) (cD v1) (some (gM v1)):=R.tp (bZ 1 (YT eB) (fun _=>rfl) fun vf=>(Jp 0 v1 (zf rfl) (fun vf:(List (Str×Bool))=>[some ((zE (eT (eT (eT eS)))) v1),some ((mE eB) vf),none,none,none,none,none,none]) vf rfl _ (fun _ _=>rfl) (fun (vf:(List (Str×Bool))) (vl:(List (List Str)))=>(vC v1 vf vl).r) fun vf=>(bZ 5 (Va (aA 1 (nE eB) vf rfl)) (fun _=>rfl) fun vx=>(bZ 6 (oW (Nq (eG (aA 5 (lE eS) vx rfl))) _ (fun _=>rfl) (fun ve:Str=>(qx (bD (aJ (.str "stands") eS ("stands" : Str) rfl) (bD (aA 0 (zE eS) ve rfl) (eN eS))) (zD rfl))) fun _=>rfl) (fun _=>rfl) fun v8=>(Gw (fun v8:(List (List Str))=>[some ((zE (eT (eT (eT eS)))) v1),some ((mE eB) vf),none,none,none,some ((oE eS) vx),some ((oE (eT eS)) v8),none]) v8 rfl (zc (x_len (eG (aA 5 (lE eS) vx rfl)))) _ (fun _ _=>rfl) (fun (v8:(List (List Str))) (v4:Int)=>(vD v1 vf vx v8 v4).r) fun v8=>(Jo 6 (fun r=>r) v8 rfl (fun _=>rfl) fun _=>rfl))))))
theorem qM:∀ v bs,(aZ (eT (eT (eT eS))) aN) v bs->bs.length=1/\(hold (some (gM v.1))->cR (bs.map lend)=some ((oE (eT eS)) (cD v.1))):=by
 rintro⟨v1,_⟩ _ ⟨_,rfl,rfl⟩
 exact⟨rfl,fun h=>jt (g:=ju) (n:=8) (bs:=[.z ((eT (eT (eT eS))) v1)]) (zV v1).r h⟩
end
end G39
end
section
set_option synthInstance.maxSize 100000
namespace G39
open PySem PySem.Spec PyProof.Rows L2 P1
noncomputable section
def aV (vq:(List (List Str))) (Rq:(List Str)):Bool:=((vq.map fun vs:(List Str)=>(((cut Rq (some (1:Int)) none).map fun vt:Str=>(decide (vt∈vs))).all id)).any id)
def qN (vq:(List (List Str))) (Rq:(List Str)):Prop:=(vq.length<=100000/\(∀ vs∈vq,(cut Rq (some (1:Int)) none).length<=100000))
theorem Rr (vq:(List (List Str))) (Rq:(List Str)):RP uX [some ((zE (eT (eT eS))) vq),some ((zE (eT eS)) Rq)] (fun r=>Out.rt ((zE eB) r)) (aV vq Rq) (some (qN vq Rq)):=R.tp (iV (fun r=>r) (QX (jr (za (Jm (aA 0 (zE (eT (eT eS))) vq rfl)) _ (fun _=>rfl) (fun vs:(List Str)=>(wO (QW (jr (oW (Jm (K3 (aA 0 (zE (eT eS)) Rq rfl) (vZ (aJ (.int 1) eI (1:Int) rfl)) vY)) _ (fun _=>rfl) (fun vt:Str=>(Q0 (aA 1 (zE eS) vt rfl) (aA 0 (zE (eT eS)) vs rfl))) fun _=>rfl)))))))) (fun _=>rfl) fun _=>rfl)
theorem Hi:∀ v bs,(aZ (eT (eT eS)) (aZ (eT eS) aN)) v bs->bs.length=2/\(hold (some (qN v.1 v.2.1))->jw (bs.map lend)=some ((zE eB) (aV v.1 v.2.1))):=by
 rintro⟨vq,Rq,_⟩ _ ⟨_,rfl,⟨_,rfl,rfl⟩⟩
 exact⟨rfl,fun h=>jt (g:=uX) (n:=2) (bs:=[.z ((eT (eT eS)) vq),.z ((eT eS) Rq)]) (Rr vq Rq).r h⟩
end
end G39
end
section
set_option synthInstance.maxSize 100000
namespace G39
open PySem PySem.Spec PyProof.Rows L2 P1
noncomputable section
def cP (vz:(List Str)) (s1:Unit) (vj:(List Str)):nC (Unit) Bool:=(if (((cut vz (some (1:Int)) none).map fun ve:Str=>(decide (ve∈vj))).all id)=true then (nC.rt true) else (nC.nx ()))
def j8 (vz:(List Str)) (s1:Unit) (vj:(List Str)):Prop:=(cut vz (some (1:Int)) none).length<=100000
theorem Aw (vl:(List (List Str))) (vz:(List Str)) (s1:Unit) (vj:(List Str)):RP rQ [some ((zE (eT (eT eS))) vl),some ((zE (eT eS)) vz),some ((zE (eT eS)) vj)] (cC (fun s1:Unit=>[some ((zE (eT (eT eS))) vl),some ((zE (eT eS)) vz),none]) (zE eB)) (cP vz s1 vj) (some (j8 vz s1 vj)):=R.tp (bO (uO (Jj (QW (jr (oW (Jm (K3 (aA 1 (zE (eT eS)) vz rfl) (vZ (aJ (.int 1) eI (1:Int) rfl)) vY)) _ (fun _=>rfl) (fun ve:Str=>(Q0 (aA 1 (zE eS) ve rfl) (aA 0 (zE (eT eS)) vj rfl))) fun _=>rfl)))) (bO (iV .rt (aJ (.bl true) eB true rfl) (fun _=>rfl) fun _=>rfl)) (cZ (cZ (bY (.nx ()) rfl)))))
def iQ (vl:(List (List Str))) (vz:(List Str)):Bool:=(behind (iz (fun (s1:Unit) (vj:(List Str))=>((cP vz s1 vj):nC (Unit) Bool)) vl ()) (fun r=>r) fun s1:Unit=>false)
def pB (vl:(List (List Str))) (vz:(List Str)):Prop:=(lF (fun (s1:Unit) (vj:(List Str))=>((cP vz s1 vj):nC (Unit) Bool)) (fun (s1:Unit) (vj:(List Str))=>some (j8 vz s1 vj)) vl ()/\(qR (iz (fun (s1:Unit) (vj:(List Str))=>((cP vz s1 vj):nC (Unit) Bool)) vl ()) fun s1:Unit=>True))
theorem JQ (vl:(List (List Str))) (vz:(List Str)):RP o8 [some ((zE (eT (eT eS))) vl),some ((zE (eT eS)) vz),none] (fun r=>Out.rt ((zE eB) r)) (iQ vl vz) (some (pB vl vz)):=R.tp (Dw 0 vl (zf rfl) (fun s1:Unit=>[some ((zE (eT (eT eS))) vl),some ((zE (eT eS)) vz),none]) () rfl _ (fun _ _=>rfl) (fun (s1:Unit) (vj:(List Str))=>((Aw vl vz s1 vj).r:R _ _ (cC (fun s1:Unit=>[some ((zE (eT (eT eS))) vl),some ((zE (eT eS)) vz),none]) (zE eB)))) (fun r=>r) (fun _=>rfl) fun s1=>(iV (fun r=>r) (aJ (.bl false) eB false rfl) (fun _=>rfl) fun _=>rfl))
theorem JR:∀ v bs,(aZ (eT (eT eS)) (aZ (eT eS) aN)) v bs->bs.length=2/\(hold (some (pB v.1 v.2.1))->iG (bs.map lend)=some ((zE eB) (iQ v.1 v.2.1))):=by
 rintro⟨vl,vz,_⟩ _ ⟨_,rfl,⟨_,rfl,rfl⟩⟩
 exact⟨rfl,fun h=>jt (g:=o8) (n:=3) (bs:=[.z ((eT (eT eS)) vl),.z ((eT eS) vz)]) (JQ vl vz).r h⟩
end
end G39
end
section
set_option synthInstance.maxSize 100000
namespace G39
open PySem PySem.Spec PyProof.Rows L2 P1
noncomputable section
def bh (vl:(List (List Str))) (jj:(List Bool)) (vz:(List Str)):nC ((List Bool)) Bool:=(let v8:=(aV vl vz);(if ((!(is_bool (eB v8)))||(!decide (v8=(iQ vl vz))))=true then (nC.rt false) else (let jj:=jj++[v8];(nC.nx jj))))
def fH (vl:(List (List Str))) (jj:(List Bool)) (vz:(List Str)):Prop:=((qN vl vz)/\(let v8:=(aV vl vz);(((!(is_bool (eB v8)))=false->(pB vl vz))/\(((!(is_bool (eB v8)))||(!decide (v8=(iQ vl vz))))=false->Ej jj.length))))
theorem pC (v1:(List (List (List Str)))) (vn:(List (List Str))) {b_1:Bx} (h_1:Lp b_1 (vn.map (eT eS))) (jH:(List (List Bool))) (vl:(List (List Str))) (jj:(List Bool)) (vz:(List Str)):RP jx [some ((zE (eT (eT (eT eS)))) v1),some b_1,some ((oE (eL eB)) jH),some ((zE (eT (eT eS))) vl),some ((oE eB) jj),some ((zE (eT eS)) vz),none] (cC (fun jj:(List Bool)=>[some ((zE (eT (eT (eT eS)))) v1),some b_1,some ((oE (eL eB)) jH),some ((zE (eT (eT eS))) vl),some ((oE eB) jj),none,none]) (zE eB)) (bh vl jj vz) (some (fH vl jj vz)):=R.tp (bO (bZ 6 (x_call Hi (lK (aA 3 (zE (eT (eT eS))) vl rfl) (lK (aA 5 (zE (eT eS)) vz rfl) dO))) (fun _=>rfl) fun v8=>(bO (uO (Jk (KZ (Jj (V8 is_bool (aA 6 (zE eB) v8 rfl)))) (iU (Yx (by decide) (aA 6 (zE eB) v8 rfl) (x_call JR (lK (aA 3 (zE (eT (eT eS))) vl rfl) (lK (aA 5 (zE (eT eS)) vz rfl) dO)))))) (bO (iV .rt (aJ (.bl false) eB false rfl) (fun _=>rfl) fun _=>rfl)) (cZ (bO (wQ 4 jj rfl (aA 6 (zE eB) v8 rfl) fun jj=>(cZ (bY (.nx jj) rfl)))))))))
def aW (vn:(List (List Str))) (jH:(List (List Bool))) (vl:(List (List Str))):nC ((List (List Bool))) Bool:=(let jj:=([]:List Bool);(behind (iz (fun (jj:(List Bool)) (vz:(List Str))=>((bh vl jj vz):nC ((List Bool)) Bool)) vn jj) (fun r=>nC.rt r) fun jj:(List Bool)=>(if (uR jj jH)=true then (nC.rt false) else (let jH:=jH++[jj];(nC.nx jH)))))
def fJ (vn:(List (List Str))) (jH:(List (List Bool))) (vl:(List (List Str))):Prop:=(let jj:=([]:List Bool);(lF (fun (jj:(List Bool)) (vz:(List Str))=>((bh vl jj vz):nC ((List Bool)) Bool)) (fun (jj:(List Bool)) (vz:(List Str))=>some (fH vl jj vz)) vn jj/\(qR (iz (fun (jj:(List Bool)) (vz:(List Str))=>((bh vl jj vz):nC ((List Bool)) Bool)) vn jj) fun jj:(List Bool)=>((uR jj jH)=false->Ej jH.length))))
theorem pD (v1:(List (List (List Str)))) (vn:(List (List Str))) {b_1:Bx} (h_1:Lp b_1 (vn.map (eT eS))) (jH:(List (List Bool))) (vl:(List (List Str))):RP jy [some ((zE (eT (eT (eT eS)))) v1),some b_1,some ((oE (eL eB)) jH),some ((zE (eT (eT eS))) vl),none,none,none] (cC (fun jH:(List (List Bool))=>[some ((zE (eT (eT (eT eS)))) v1),some b_1,some ((oE (eL eB)) jH),none,none,none,none]) (zE eB)) (aW vn jH vl) (some (fJ vn jH vl)):=R.tp (bO (bZ 4 (pK (eN eB) (zD rfl)) (fun _=>rfl) fun jj=>(bO (Dw 1 vn (YS h_1 rfl) (fun jj:(List Bool)=>[some ((zE (eT (eT (eT eS)))) v1),some b_1,some ((oE (eL eB)) jH),some ((zE (eT (eT eS))) vl),some ((oE eB) jj),none,none]) jj rfl _ (fun _ _=>rfl) (fun (jj:(List Bool)) (vz:(List Str))=>((pC v1 vn h_1 jH vl jj vz).r:R _ _ (cC (fun jj:(List Bool)=>[some ((zE (eT (eT (eT eS)))) v1),some b_1,some ((oE (eL eB)) jH),some ((zE (eT (eT eS))) vl),some ((oE eB) jj),none,none]) (zE eB)))) .rt (fun _=>rfl) fun jj=>(aa5 4 [some ((zE (eT (eT (eT eS)))) v1),some b_1,some ((oE (eL eB)) jH),some ((zE (eT (eT eS))) vl),some ((zE (eL eB)) jj),none,none] rfl (bO (uO (iU (aa4 (by decide) (aA 4 (zE (eL eB)) jj rfl) (eG (aA 2 (lE (eL eB)) jH rfl)))) (bO (iV .rt (aJ (.bl false) eB false rfl) (fun _=>rfl) fun _=>rfl)) (cZ (bO (wQ 2 jH rfl (aA 4 (zE (eL eB)) jj rfl) fun jH=>(cZ (bY (.nx jH) rfl))))))))))))
def cG (v1:(List (List (List Str)))) (vn:(List (List Str))):Bool:=(let jH:=([]:List (List Bool));(behind (iz (fun (jH:(List (List Bool))) (vl:(List (List Str)))=>((aW vn jH vl):nC ((List (List Bool))) Bool)) v1 jH) (fun r=>r) fun jH:(List (List Bool))=>true))
def cX (v1:(List (List (List Str)))) (vn:(List (List Str))):Prop:=(let jH:=([]:List (List Bool));(lF (fun (jH:(List (List Bool))) (vl:(List (List Str)))=>((aW vn jH vl):nC ((List (List Bool))) Bool)) (fun (jH:(List (List Bool))) (vl:(List (List Str)))=>some (fJ vn jH vl)) v1 jH/\(qR (iz (fun (jH:(List (List Bool))) (vl:(List (List Str)))=>((aW vn jH vl):nC ((List (List Bool))) Bool)) v1 jH) fun jH:(List (List Bool))=>True)))
theorem rE (v1:(List (List (List Str)))) (vn:(List (List Str))) {b_1:Bx} (h_1:Lp b_1 (vn.map (eT eS))):RP dZ [some ((zE (eT (eT (eT eS)))) v1),some b_1,none,none,none,none,none] (fun r=>Out.rt ((zE eB) r)) (cG v1 vn) (some (cX v1 vn)):=R.tp (bZ 2 (pK (eN (eL eB)) (zD rfl)) (fun _=>rfl) fun jH=>(Dw 0 v1 (zf rfl) (fun jH:(List (List Bool))=>[some ((zE (eT (eT (eT eS)))) v1),some b_1,some ((oE (eL eB)) jH),none,none,none,none]) jH rfl _ (fun _ _=>rfl) (fun (jH:(List (List Bool))) (vl:(List (List Str)))=>((pD v1 vn h_1 jH vl).r:R _ _ (cC (fun jH:(List (List Bool))=>[some ((zE (eT (eT (eT eS)))) v1),some b_1,some ((oE (eL eB)) jH),none,none,none,none]) (zE eB)))) (fun r=>r) (fun _=>rfl) fun jH=>(iV (fun r=>r) (aJ (.bl true) eB true rfl) (fun _=>rfl) fun _=>rfl)))
theorem rG:∀ v bs,(aZ (eT (eT (eT eS))) (aL (eT eS) aN)) v bs->bs.length=2/\(hold (some (cX v.1 v.2.1))->bK (bs.map lend)=some ((zE eB) (cG v.1 v.2.1))):=by
 rintro⟨v1,vn,_⟩ _ ⟨_,rfl,⟨b_1,_,rfl,h_1,rfl⟩⟩
 exact⟨rfl,fun h=>jt (g:=dZ) (n:=7) (bs:=[.z ((eT (eT (eT eS))) v1),lend b_1]) (rE v1 vn (uJ h_1)).r h⟩
end
end G39
end
section
set_option synthInstance.maxSize 100000
namespace G39
open PySem PySem.Spec PyProof.Rows L2 P1
noncomputable section
def mC (v1:(List (List (List Str)))) (s1:Unit) (vz:(List Str)):nC (Unit) Bool:=(if ((v1.map fun vl:(List (List Str))=>(!decide ((aV vl vz)=false))).any id)=true then (nC.rt false) else (nC.nx ()))
def vG (v1:(List (List (List Str)))) (s1:Unit) (vz:(List Str)):Prop:=(v1.length<=100000/\(∀ vl∈v1,(qN vl vz)))
theorem Rt (v0:(List Int)) {iM:Bx} (mj:Lp iM (v0.map eI)) (v1:(List (List (List Str)))) (vn:(List (Option (List Str)))) (vw:(List (List Str))) (s1:Unit) (vz:(List Str)):RP GP [some iM,some ((zE (eT (eT (eT eS)))) v1),some ((oE (eO (eT eS))) vn),some ((oE (eT eS)) vw),some ((zE (eT eS)) vz)] (cC (fun s1:Unit=>[some iM,some ((zE (eT (eT (eT eS)))) v1),some ((oE (eO (eT eS))) vn),some ((oE (eT eS)) vw),none]) (zE eB)) (mC v1 s1 vz) (some (vG v1 s1 vz)):=R.tp (bO (uO (Jj (QX (jr (za (Jm (aA 1 (zE (eT (eT (eT eS)))) v1 rfl)) _ (fun _=>rfl) (fun vl:(List (List Str))=>(Yx (by decide) (x_call Hi (lK (aA 1 (zE (eT (eT eS))) vl rfl) (lK (aA 0 (zE (eT eS)) vz rfl) dO))) (aJ (.bl false) eB false rfl))))))) (bO (iV .rt (aJ (.bl false) eB false rfl) (fun _=>rfl) fun _=>rfl)) (cZ (cZ (bY (.nx ()) rfl)))))
def Hj (v0:(List Int)):Bool:=(let v1:=(fG v0 (0:Int));(let vn:=((cJ v1).map some);(let vw:=(cD v1);(if ((!true)||((!decide (vn=(vw.map some)))||(!((vn.map fun vz:(Option (List Str))=>(kj ((eO (eT eS)) vz))).all id))))=true then false else (if (!(cG v1 vw))=true then false else (let vn:=vn.reverse;(let vn:=vn++[none];(if ((!decide ((cJ v1)=vw))||((!decide ((cJ (cut v1 none (some (1:Int))))=(cD (cut v1 none (some (1:Int))))))||(!decide ((cJ [([]:List (List Str))])=([]:List (List Str))))))=true then false else (behind (iz (fun (s1:Unit) (vz:(List Str))=>((mC v1 s1 vz):nC (Unit) Bool)) [[("stands" : Str),("zzzzzzzz" : Str)],[("one" : Str),("zzzzzzzy" : Str),("zzzzzzzz" : Str)]] ()) (fun r=>r) fun s1:Unit=>true)))))))))
def Hl (v0:(List Int)):Prop:=((jD v0 (0:Int))/\(let v1:=(fG v0 (0:Int));((jX v1)/\(let vn:=((cJ v1).map some);((gM v1)/\(let vw:=(cD v1);(((!true)=false->((!decide (vn=(vw.map some)))=false->vn.length<=100000))/\(((!true)||((!decide (vn=(vw.map some)))||(!((vn.map fun vz:(Option (List Str))=>(kj ((eO (eT eS)) vz))).all id))))=false->((cX v1 vw)/\((!(cG v1 vw))=false->(let vn:=vn.reverse;(Ej vn.length/\(let vn:=vn++[none];(((jX v1)/\((!decide ((cJ v1)=vw))=false->(((jX (cut v1 none (some (1:Int))))/\(gM (cut v1 none (some (1:Int)))))/\((!decide ((cJ (cut v1 none (some (1:Int))))=(cD (cut v1 none (some (1:Int))))))=false->(jX [([]:List (List Str))])))))/\(((!decide ((cJ v1)=vw))||((!decide ((cJ (cut v1 none (some (1:Int))))=(cD (cut v1 none (some (1:Int))))))||(!decide ((cJ [([]:List (List Str))])=([]:List (List Str))))))=false->(lF (fun (s1:Unit) (vz:(List Str))=>((mC v1 s1 vz):nC (Unit) Bool)) (fun (s1:Unit) (vz:(List Str))=>some (vG v1 s1 vz)) [[("stands" : Str),("zzzzzzzz" : Str)],[("one" : Str),("zzzzzzzy" : Str),("zzzzzzzz" : Str)]] ()/\(qR (iz (fun (s1:Unit) (vz:(List Str))=>((mC v1 s1 vz):nC (Unit) Bool)) [[("stands" : Str),("zzzzzzzz" : Str)],[("one" : Str),("zzzzzzzy" : Str),("zzzzzzzz" : Str)]] ()) fun s1:Unit=>True)))))))))))))))))
theorem abp (v0:(List Int)) {iM:Bx} (mj:Lp iM (v0.map eI)):RP Le [some iM,none,none,none,none] (fun r=>Out.rt ((zE eB) r)) (Hj v0) (some (Hl v0)):=R.tp (bZ 1 (x_call DY (Ai (gD 0 eI v0 mj rfl) (lK (aJ (.int 0) eI (0:Int) rfl) dO))) (fun _=>rfl) fun v1=>(bZ 2 (acQ (x_call qZ (lK (aA 1 (zE (eT (eT (eT eS)))) v1 rfl) dO))) (fun _=>rfl) fun vn=>(bZ 3 (x_call qM (lK (aA 1 (zE (eT (eT (eT eS)))) v1 rfl) dO)) (fun _=>rfl) fun vw=>(uO (Jk (KZ (Jj (YG is_list (eG (aA 2 (lE (eO (eT eS))) vn rfl)) true fun _=>rfl))) (Jk (iU (Gr (by decide) (eG (aA 2 (lE (eO (eT eS))) vn rfl)) (eG (acR (aA 3 (lE (eT eS)) vw rfl))))) (KZ (Jj (QW (jr (oW (Nq (eG (aA 2 (lE (eO (eT eS))) vn rfl))) _ (fun _=>rfl) (fun vz:(Option (List Str))=>(wO (V8 kj (aA 0 (zE (eO (eT eS))) vz rfl)))) fun _=>rfl))))))) (bO (iV (fun r=>r) (aJ (.bl false) eB false rfl) (fun _=>rfl) fun _=>rfl)) (cZ (uO (KZ (Jj (x_call rG (lK (aA 1 (zE (eT (eT (eT eS)))) v1 rfl) (Ai (eG (aA 3 (lE (eT eS)) vw rfl)) dO))))) (bO (iV (fun r=>r) (aJ (.bl false) eB false rfl) (fun _=>rfl) fun _=>rfl)) (cZ (aa6 2 vn rfl fun vn=>(wQ 2 vn rfl Yu fun vn=>(uO (Jk (iU (Gr (by decide) (jr (x_call qZ (lK (aA 1 (zE (eT (eT (eT eS)))) v1 rfl) dO))) (eG (aA 3 (lE (eT eS)) vw rfl)))) (Jk (iU (Gr (by decide) (jr (x_call qZ (lK (wO (K3 (aA 1 (zE (eT (eT (eT eS)))) v1 rfl) vY (vZ (aJ (.int 1) eI (1:Int) rfl)))) dO))) (jr (x_call qM (lK (wO (K3 (aA 1 (zE (eT (eT (eT eS)))) v1 rfl) vY (vZ (aJ (.int 1) eI (1:Int) rfl)))) dO))))) (iU (Gr (by decide) (jr (x_call qZ (lK (qx (bD (Yy (eT eS)) (eN (eT (eT eS)))) (zD rfl)) dO))) (jr (pK (eN (eT eS)) (zD rfl))))))) (bO (iV (fun r=>r) (aJ (.bl false) eB false rfl) (fun _=>rfl) fun _=>rfl)) (cZ (YL (fun s1:Unit=>[some iM,some ((zE (eT (eT (eT eS)))) v1),some ((oE (eO (eT eS))) vn),some ((oE (eT eS)) vw),none]) () rfl (U8 (pK (bD (qx (bD (aJ (.str "stands") eS ("stands" : Str) rfl) (bD (aJ (.str "zzzzzzzz") eS ("zzzzzzzz" : Str) rfl) (eN eS))) (zD rfl)) (bD (qx (bD (aJ (.str "one") eS ("one" : Str) rfl) (bD (aJ (.str "zzzzzzzy") eS ("zzzzzzzy" : Str) rfl) (bD (aJ (.str "zzzzzzzz") eS ("zzzzzzzz" : Str) rfl) (eN eS)))) (zD rfl)) (eN (eT eS)))) (zD rfl))) _ (fun _ _=>rfl) (fun (s1:Unit) (vz:(List Str))=>((Rt v0 mj v1 vn vw s1 vz).r:R _ _ (cC (fun s1:Unit=>[some iM,some ((zE (eT (eT (eT eS)))) v1),some ((oE (eO (eT eS))) vn),some ((oE (eT eS)) vw),none]) (zE eB)))) (fun r=>r) (fun _=>rfl) fun s1=>(iV (fun r=>r) (aJ (.bl true) eB true rfl) (fun _=>rfl) fun _=>rfl)))))))))))))
theorem Wh:∀ v bs,(aL eI aN) v bs->bs.length=1/\(hold (some (Hl v.1))->mV (bs.map lend)=some ((zE eB) (Hj v.1))):=by
 rintro⟨v0,_⟩ _ ⟨iM,_,rfl,mj,rfl⟩
 exact⟨rfl,fun h=>jt (g:=Le) (n:=5) (bs:=[lend iM]) (abp v0 (uJ mj)).r h⟩
theorem Wi (h:∀ ns:List Int,ns.length<=63->Hl ns/\Hj ns=true):(∀ ns:List Int,ns.length<=63->mV [.z (.lst (ns.map .int))]=some (.z (.bl true)))/\∀ ns:List Int,ns.length<=63->mV [.l (ns.map .int)]=some (.z (.bl true)):=
 ⟨fun ns hn=>((Wh (ns,()) [.z (.lst (ns.map .int))] ⟨_,_,rfl,rfl,rfl⟩).2 (h ns hn).1).trans (by rw[(h ns hn).2]),fun ns hn=>((Wh (ns,()) [.l (ns.map .int)] ⟨_,_,rfl,rfl,rfl⟩).2 (h ns hn).1).trans (by rw[(h ns hn).2])⟩
end
end G39
end
section
set_option synthInstance.maxSize 100000
namespace G39
open PySem PySem.Spec PyProof.Rows L2 P1
theorem Ru (script:List Int) (k:Int) (h0:0<=k) (h1:k<=1000):jV script k:=by
 unfold jV
 exact⟨fun h=>in_of h0 (by simpa using h),fun _=>Wc h0 (by omega)⟩
theorem Rv (k:Nat) (s:Int×List Int×Int) (hk:k < 1000) (h:(0<=s.1/\s.1 < 1999999973)/\s.2.1.length=k/\(∀ x∈s.2.1,0<=x)/\0<=s.2.2):gW s k/\(0<=(bI s k).1/\(bI s k).1 < 1999999973)/\(bI s k).2.1.length=k+1/\(∀ x∈(bI s k).2.1,0<=x)/\0<=(bI s k).2.2:=by
 obtain⟨h1,h2,h3,h4⟩:=h
 have hin:In 2 (if (decide ((0:Int) < s.2.2))=true then (1:Int) else 0):=by split<;>exact in_of (by omega) (by omega)
 refine⟨⟨Wc h1.1 (by omega),hin,?_⟩,mK _ (by decide),?_,?_,Int.ediv_nonneg h4 (by decide)⟩
 ·show s.2.1.length<=1000000
  omega
 ·show (s.2.1++[_]).length=k+1
  rw[Zs,h2];rfl
 ·intro x hx
  rcases List.mem_append.mp hx with hx|hx
  ·exact h3 x hx
  ·cases List.mem_singleton.mp hx
   have:=Jt (xs:=[((((s.1 * ((s.1 % (65521:Int))+(40487:Int)))+((7:Int) * k))+(5:Int)) % (1999999973:Int)),(s.2.2 % (1000000:Int))]) hin
   simp only[qh,qc,or_false] at this
   rcases this with e|e<;>rw[e]
   ·exact (mK _ (by decide)).1
   ·exact (mK _ (by decide)).1
theorem Rw (c m:Int) (h0:0<=m) (h1:m<=1000):iu c m/\(bT c m).length=m.toNat/\∀ x∈bT c m,0<=x:=by
 have key:∀ st dg:Int,(0<=st/\st < 1999999973)->0<=dg->jW c m [] st dg/\(gY c m [] st dg).length=m.toNat/\∀ x∈gY c m [] st dg,0<=x:=fun st dg hs hd=>by
  have:=qz (P:=fun s k=>some (gW s k)) (fun k s=>(0<=s.1/\s.1 < 1999999973)/\s.2.1.length=k/\(∀ x∈s.2.1,0<=x)/\0<=s.2.2) (step:=fun s k=>bI s k) m.toNat (st,[],dg) ⟨hs,rfl,fun x h=>(by cases h),hd⟩ fun k s hk h=>Rv k s (by omega) h
  exact⟨⟨zm h0 (by omega),this.1⟩,this.2.2.1,this.2.2.2.1⟩
 refine key _ _ (mK _ (by decide)) ?_
 dsimp only
 split<;>(try split)<;>omega
theorem foldl_size {α:Type} (c:Array α):∀ (n:Nat) (a:Array α),((List.replicate n c).foldl (·++·) a).size=a.size+n * c.size
 |0,a=>by simp
 |n+1,a=>by
  rw[List.replicate_succ,kf,foldl_size c n,ku,Nat.succ_mul]
  omega
theorem CQ (x:Str) (k:Int):(Txt.mul x k).length<=x.length * k.toNat:=by
 unfold Txt.mul
 split
 ·exact qv _
 split
 ·rename_i h0 h
  simp only[Bool.or_eq_true,beq_iff_eq] at h
  rcases h with h|h
  ·subst h;simp
  ·rw[h];simp
 ·show (Array.size _)<=_
  rw[foldl_size]
  have:x.cps.size=x.length:=rfl
  rw[this,Nat.mul_comm]
  simp
def LT:Str:=("abcdefghijklmnopqrstuvwxyz" : Str)
theorem JT:LT.length=26:=by decide +kernel
theorem lC {n:Nat} (h:n<=1000):Ej n:=zv h (by decide)
theorem JV (xs:List Int) (hl:6<=xs.length) (stem:Str) (hs:stem.length<=5) (at_:Int) (k:Nat) (found:List Str) (hk:k < 200) (h:found.length=k/\∀ n∈found,n.length<=12):jB xs LT stem at_ found k/\(dF xs LT stem at_ found k).length=k+1/\∀ n∈dF xs LT stem at_ found k,n.length<=12:=by
 have s1:=zv (slice_le stem none (some at_)) hs
 have s2:=zv (slice_le stem (some at_) none) hs
 have c1:=DG LT ((↑k+at' xs 2) % 15)
 have m8:=mK (k:Int) (m:=8) (by decide)
 have hd:(0:Int)<=(k:Int) / 8/\(k:Int) / 8 < 26:=by omega
 refine⟨⟨⟨in_of (by decide) (by omega),Dz (by decide) (by rw[JT];decide)⟩,⟨lC (by omega),lC (by rw[qC];omega)⟩,⟨in_of (by decide) (by omega),fun _=>⟨in_of hd.1 (by rw[JT];exact hd.2),by omega,by omega,by rw[DG];decide⟩⟩,lC (by omega)⟩,?_⟩
 have key:∀ n:Str,n.length<=12->(found++[n]).length=k+1/\∀ m∈found++[n],m.length<=12:=fun n hn=>⟨by simp[h.1],fun m hm=>by
  rcases List.mem_append.mp hm with hm|hm
  ·exact h.2 m hm
  ·cases List.mem_singleton.mp hm;exact hn⟩
 unfold dF
 dsimp only
 split
 ·exact key _ (by have:=CQ (ch LT ((k:Int) / 8)) (1+(k:Int) % 8);rw[DG] at this;exact zv this (by omega))
 ·exact key _ (by rw[qC,qC,c1];omega)
theorem Zf (xs:List Str) (n:Nat) (h:∀ x∈xs,x.length<=n):(Txt.join "" xs).length<=xs.length * n:=by
 have h1:=StrLaws.join_length_le ("" : Str) xs
 rw[<-StrLaws.glued_eq_join] at h1
 have h2:(xs.map (·.length)).sum<=xs.length * n:=by
  clear h1
  induction xs with
  |nil=>simp
  |cons a l ih=>
   have:=ih fun x hx=>h x (zg _ hx)
   have:=h a (zh ..)
   simp only[zl,List.sum_cons,qf,Nat.succ_mul]
   omega
 have h3:("" : Str).length=0:=rfl
 rw[h3,Nat.mul_zero] at h1
 exact zv h1 (by omega)
theorem adC (xs:List Str) (h:∀ x∈xs,x.length=1):(xs.map (·.length)).sum=xs.length:=by
 induction xs with
 |nil=>rfl
 |cons a l ih=>
  have:=ih fun x hx=>h x (zg _ hx)
  have:=h a (zh ..)
  simp only[zl,List.sum_cons,qf]
  omega
theorem Rx (xs:List Int) (hl:6<=xs.length) (many:Int) (h0:0<=many) (h1:many<=200):je xs many/\(aX xs many).length=many.toNat/\∀ n∈aX xs many,n.length<=12:=by
 have m6:=mK (at' xs 0) (m:=6) (by decide)
 have st:∀ stem:Str,stem.length<=5->mq xs many LT stem/\(jC xs many LT stem).length=many.toNat/\∀ n∈jC xs many LT stem,n.length<=12:=fun stem hs=>by
  have:=qz (P:=fun f k=>some (jB xs LT stem (at' xs 1 % ((stem.length:Int)+1)) f k)) (step:=fun f k=>dF xs LT stem (at' xs 1 % ((stem.length:Int)+1)) f k) (fun k s=>s.length=k/\∀ n∈s,n.length<=12) many.toNat [] ⟨rfl,fun n h=>(by cases h)⟩ fun k s hk h=>JV xs hl stem hs _ k s (by omega) h
  exact⟨⟨⟨in_of (by decide) (by omega),by omega⟩,zm h0 (by omega),this.1⟩,this.2⟩
 have c1:∀ x∈((rng 0 (at' xs 0 % 6).toNat).map fun k_:Int=>ch LT (at' xs k_ / 40 % 26)),x.length=1:=fun x hx=>by
  obtain⟨k,_,rfl⟩:=List.mem_map.mp hx
  exact DG _ _
 have:=st (Txt.join "" ((rng 0 (at' xs 0 % 6).toNat).map fun k_:Int=>ch LT (at' xs k_ / 40 % 26))) (by
  have:=Zf _ 1 fun x hx=>Nat.le_of_eq (c1 x hx)
  rw[zi,jZ] at this
  omega)
 refine⟨⟨⟨⟨⟨⟨in_of (by decide) (by omega),zm m6.1 (by omega)⟩,by rw[jZ];omega⟩,fun k hk=>?_⟩,?_⟩,this.1⟩,this.2⟩
 ·obtain⟨j,hj,rfl⟩:=qT hk
  exact⟨in_of (by omega) (by omega),Dz (by decide) (by rw[show ("abcdefghijklmnopqrstuvwxyz" : Str)=LT from rfl,JT];decide)⟩
 ·rw[show ("abcdefghijklmnopqrstuvwxyz" : Str)=LT from rfl,adC _ c1,zi,jZ]
  have h3:("" : Str).length=0:=rfl
  rw[h3]
  omega
def ZJ (xs:List Int) (stem:Str) (at_:Int) (k:Int):Str:=if (decide (((at' xs (3:Int)) % (3:Int))=(1:Int)))=true then (Txt.mul (ch LT (k / (8:Int))) ((1:Int)+(k % (8:Int)))) else (((Txt.slice stem none (some at_))++(ch LT ((k+(at' xs (2:Int))) % (15:Int))))++(Txt.slice stem (some at_) none))
theorem zW {α β:Type} (g:β->α):∀ (l:List β) (f:List α),l.foldl (fun f k=>f++[g k]) f=f++l.map g
 |[],f=>by simp
 |k::l,f=>by rw[kf,zW g l];simp
theorem Ho (xs:List Int) (many:Int):∃ stem at_,aX xs many=(rng 0 many.toNat).map (ZJ xs stem at_):=by
 refine⟨_,_,(zW (ZJ xs _ _) _ []).trans (ke _)⟩
theorem JW {a b m m':Str} (h:(a++m)++b=(a++m')++b):m=m':=by
 have h:=congrArg (fun s:Str=>s.cps.toList) h
 have h:((a.cps++m.cps)++b.cps).toList=((a.cps++m'.cps)++b.cps).toList:=h
 simp only[Array.toList_append] at h
 have:=List.append_cancel_left (List.append_cancel_right h)
 cases m;cases m'
 congr 1
 exact Array.ext' this
theorem Zg:∀ i:Fin 30,∀ j:Fin 30,Txt.mul (ch LT ((i.val:Int) / 8)) (1+(i.val:Int) % 8)=Txt.mul (ch LT ((j.val:Int) / 8)) (1+(j.val:Int) % 8)->i=j:=by decide +kernel
theorem abq:∀ i:Fin 15,∀ j:Fin 15,ch LT (i.val:Int)=ch LT (j.val:Int)->i=j:=by decide +kernel
theorem Zh {x y:Int} (hx:0<=x/\x < 15) (hy:0<=y/\y < 15) (h:ch LT x=ch LT y):x=y:=by
 have:=abq ⟨x.toNat,by omega⟩ ⟨y.toNat,by omega⟩ (by
  show ch LT ((x.toNat:Nat):Int)=ch LT ((y.toNat:Nat):Int)
  rw[Int.toNat_of_nonneg hx.1,Int.toNat_of_nonneg hy.1];exact h)
 have:=congrArg Fin.val this
 have:x.toNat=y.toNat:=this
 omega
theorem Zi {xs:List Int} {stem:Str} {at_:Int} {i j:Nat} (hi:i < 15) (hj:j < 15) (h:ZJ xs stem at_ i=ZJ xs stem at_ j):i=j:=by
 unfold ZJ at h
 by_cases e:(decide (((at' xs (3:Int)) % (3:Int))=(1:Int)))=true
 ·rw[zo e,zo e] at h
  exact congrArg Fin.val (Zg ⟨i,by omega⟩ ⟨j,by omega⟩ h)
 ·rw[zS e,zS e] at h
  have:=Zh (mK _ (by decide)) (mK _ (by decide)) (JW h)
  omega
theorem Zj {n:Nat} {g:Int->Str} (h:∀ i j:Nat,i < n->j < n->g i=g j->i=j):((rng 0 n).map g).Nodup:=by
 unfold rng
 rw[ZE]
 unfold List.Nodup
 rw[kR]
 refine Kk ?_ (List.nodup_range (n:=n))
 intro a b ha hb hne e
 refine hne (h a b (List.mem_range.mp ha) (List.mem_range.mp hb) ?_)
 have e:g (0+(a:Int))=g (0+(b:Int)):=e
 rwa [Int.zero_add,Int.zero_add] at e
theorem Ry (xs:List Int) (many:Int) (h:many<=15):(aX xs many).Nodup:=by
 obtain⟨stem,at_,e⟩:=Ho xs many
 rw[e]
 exact Zj fun i j hi hj=>Zi (by omega) (by omega)
end G39
end
section
set_option synthInstance.maxSize 100000
namespace G39
open PySem PySem.Spec PyProof.Rows L2 P1
theorem abr {α:Type} (p:α->Bool) (l:List α):(l.filter p).length<=l.length:=List.length_filter_le p l
theorem Rz {α:Type} [Inhabited α] (xs:List α):(rng 0 (xs.length:Int).toNat).map (fun k:Int=>at' xs k)=xs:=by
 refine List.ext_getElem? fun k=>?_
 rw[z4]
 by_cases h:k < xs.length
 ·have h1:(rng 0 (xs.length:Int).toNat)[k]?=some (k:Int):=by
   unfold rng
   rw[z4,kb (by omega)]
   simp
  rw[h1,Option.map_some,Ju xs k h,ZA h]
 ·rw[ZU (by rw[jZ];omega),ZU (by omega)];rfl
theorem JX (names:List Str) (xs:List Int) (nd:names.Nodup) (hl:names.length < 60) (h0:0 < xs.length) (h1:xs.length<=1000):fX names xs/\Wd names (bU names xs)/\(bU names xs).flatten.Perm names:=by
 have hx:(0:Int) < (xs.length:Int):=by omega
 have pos:(0:Int) < (if (names.length:Int) > (1:Int) then (names.length:Int) else (1:Int)):=by split<;>omega
 unfold bU fX
 dsimp only
 have G:=Vo (fun v4:Int=>if (decide ((0:Int) < ((at' xs (0:Int)) % (3:Int))))=true then ((((at' xs (v4 % (xs.length:Int))) / ((1:Int)+(v4 / (xs.length:Int)))) % (if (names.length:Int) > (1:Int) then (names.length:Int) else (1:Int))) % (3:Int)) else (((at' xs (v4 % (xs.length:Int))) / ((1:Int)+(v4 / (xs.length:Int)))) % (if (names.length:Int) > (1:Int) then (names.length:Int) else (1:Int)))) (fun v4:Int=>at' names v4) (rng 0 (names.length:Int).toNat)
 rw[Rz] at G
 generalize GK _ _ _=m at G
 have W:=Zc G nd fun x h=>h
 have abr:∀ (w:List (List Str)),(∀ s∈w,s≠[])->w.length<=w.flatten.length:=fun w=>by
  induction w with
  |nil=>intro _;exact qv _
  |cons s w ih=>
   intro h
   have:=ih fun s hs=>h s (zg _ hs)
   have:=List.length_pos_iff.mpr (h s (zh ..))
   rw[ZI,Zs,qf]
   omega
 have ml:m.length<=names.length:=by
  have:=abr (m.map (·.2)) fun s hs=>by obtain⟨q,hq,rfl⟩:=List.mem_map.mp hs;exact G.ne q hq
  rw[zi,G.p.length_eq] at this;exact this
 have ql:∀ q∈m,q.2.length<=names.length:=fun q hq=>by
  rw[<-G.p.length_eq]
  obtain⟨pre,rest,e⟩:=List.append_of_mem (List.mem_map.mpr ⟨q,hq,rfl⟩:q.2∈m.map (·.2))
  rw[e,List.flatten_append,ZI]
  simp only[Zs];omega
 refine⟨⟨⟨⟨⟨rfl,zm (by omega) (by omega)⟩,by rw[jZ];omega⟩,fun v hv=>?_⟩,⟨by rw[zi];omega,fun k hk=>?_⟩,by rw[zi,zi];omega,fun s hs=>?_⟩,W.1,W.2⟩
 ·obtain⟨k,hk,rfl⟩:=qT hv
  have d0:(0:Int)<=(k:Int) / (xs.length:Int):=Int.ediv_nonneg (by omega) (by omega)
  have d1:(k:Int) / (xs.length:Int)<=k:=Int.ediv_le_self _ (by omega)
  exact⟨⟨⟨⟨⟨hx,Dz hx (by omega)⟩,hx,by omega⟩,by omega,by omega⟩,pos⟩,in_of (by decide) hx,zj (by omega)⟩
 ·obtain⟨q,hq,rfl⟩:=List.mem_map.mp hk
  refine⟨List.any_eq_true.mpr ⟨q,hq,by simp⟩,?_⟩
  rw[zy G.k hq]
  have:=ql q hq
  omega
 ·obtain⟨k,hk,rfl⟩:=List.mem_map.mp hs
  obtain⟨q,hq,rfl⟩:=List.mem_map.mp hk
  rw[zy G.k hq]
  have:=G.ne q hq
  have hp:=(bx q.2).length_eq
  cases hz:bC q.2 with
  |nil=>rw[hz] at hp;exact absurd (List.length_eq_zero_iff.mp hp.symm) this
  |cons _ _=>rfl
def ZZ:Str:=("zzzzzzzz" : Str)
theorem adD:∀ i:Fin 15,∀ x∈(ch LT (i.val:Int)).cps.toList,x∉ZZ.cps.toList:=by decide +kernel
theorem adE:∀ i:Fin 8,Txt.mul (ch LT ((i.val:Int) / 8)) (1+(i.val:Int) % 8)≠ZZ:=by decide +kernel
theorem RB (xs:List Int) (many:Int) (h:many<=8):ZZ∉aX xs many:=by
 obtain⟨stem,at_,e⟩:=Ho xs many
 rw[e]
 intro z
 obtain⟨v,hv,z⟩:=List.mem_map.mp z
 obtain⟨k,hk,rfl⟩:=qT hv
 unfold ZJ at z
 split at z
 ·exact adE ⟨k,by omega⟩ z
 ·have m15:=mK ((k:Int)+at' xs 2) (m:=15) (by decide)
  have hz:=adD ⟨(((k:Int)+at' xs 2) % 15).toNat,by omega⟩
  simp only[Int.toNat_of_nonneg m15.1] at hz
  have h2:=congrArg (fun s:Str=>s.cps.toList) z
  have h2:((((Txt.slice stem none (some at_)).cps++(ch LT (((k:Int)+at' xs 2) % 15)).cps)++(Txt.slice stem (some at_) none).cps)).toList=ZZ.cps.toList:=h2
  simp only[Array.toList_append] at h2
  refine hz _ (List.mem_singleton.mpr rfl) ?_
  rw[<-h2]
  exact QI _ (Zl _ (List.mem_singleton.mpr rfl))
structure Ws (U:List Str) (ws:List (List (List Str))):Prop where
 u:U.length<=8
 z:ZZ∉U
 n:ws.length<=8
 w:∀ w∈ws,Wd U w
 nd:ws.Nodup
theorem Ws.fl {U:List Str} {ws:List (List (List Str))} (h:Ws U ws) {w:List (List Str)} (hw:w∈ws):w.flatten.length<=8:=zv (gF (h.w w hw).nd (h.w w hw).sub) h.u
theorem Vp {vf:List Str} (nd:vf.Nodup) {p:Int->Bool}:(((rng 0 (vf.length:Int).toNat).filter p).map fun vi:Int=>at' vf vi).Nodup/\∀ x∈(((rng 0 (vf.length:Int).toNat).filter p).map fun vi:Int=>at' vf vi),x∈vf:=by
 have hs:(((rng 0 (vf.length:Int).toNat).filter p).map fun vi:Int=>at' vf vi).Sublist ((rng 0 (vf.length:Int).toNat).map fun vi:Int=>at' vf vi):=(List.filter_sublist ..).map _
 rw[Rz] at hs
 exact⟨nd.sublist hs,fun x hx=>hs.subset hx⟩
theorem Hq (script:List Int) (head:List Int) (hh:head.length=10) (vf:List Str) (nd:vf.Nodup) (hl:vf.length<=8) (hz:ZZ∉vf) (k:Nat) (hk:k < 8) (v8:List (List (List Str))) (I:v8.length<=k/\(∀ w∈v8,Wd vf w)/\v8.Nodup) :
  fP script 0 head vf v8 k/\(cH script 0 head vf v8 k).length<=k+1/\(∀ w∈cH script 0 head vf v8 k,Wd vf w)/\(cH script 0 head vf v8 k).Nodup:=by
 have N:=Rw (cV script ((0+1)+(k:Int))) 10 (by decide) (by decide)
 unfold cH fP
 dsimp only
 generalize bT (cV script ((0+1)+(k:Int))) 10=xs at N
 have xl:xs.length=10:=N.2.1
 have c8:(cut xs none (some 8)).length=8:=by rw[show (8:Int)=((8:Nat):Int) from rfl,Q8 (by omega),kz];omega
 have key:∀ vj:List Str,vj.Nodup->(∀ x∈vj,x∈vf)->fX vj (cut xs none (some 8))/\Wd vf (bU vj (cut xs none (some 8))):=fun vj nj sj=>by
  have jl:=gF nj sj
  obtain⟨d,W,_⟩:=JX vj (cut xs none (some 8)) nj (by omega) (by omega) (by omega)
  exact⟨d,W.ne,W.so,W.nd,fun x hx=>sj x (W.sub x hx),W.st⟩
 have s1:=Vp (vf:=vf) nd (p:=fun vi:Int=>((decide ((Builtin.bitAnd (((at' xs (9:Int)) / (7:Int)) / 2 ^ vi.toNat) (1:Int))=(0:Int)))||(decide ((0:Int) < ((at' head (9:Int)) % (3:Int))))))
 have s2:∀ p:Str->Bool,((vf.filter p).map fun ve:Str=>ve).Nodup/\∀ x∈(vf.filter p).map fun ve:Str=>ve,x∈vf:=fun p=>by
  rw[List.map_id']
  exact⟨nd.sublist (List.filter_sublist ..),fun x hx=>(List.mem_filter.mp hx).1⟩
 have s3:∀ c:Bool,(if c=true then ((vf.filter fun ve:Str=>(((at' v8 (-(1:Int))).map fun vk:(List Str)=>(decide (ve∈vk))).any id)).map fun ve:Str=>ve) else (((rng 0 (vf.length:Int).toNat).filter fun vi:Int=>((decide ((Builtin.bitAnd (((at' xs (9:Int)) / (7:Int)) / 2 ^ vi.toNat) (1:Int))=(0:Int)))||(decide ((0:Int) < ((at' head (9:Int)) % (3:Int)))))).map fun vi:Int=>(at' vf vi))).Nodup/\∀ x∈(if c=true then ((vf.filter fun ve:Str=>(((at' v8 (-(1:Int))).map fun vk:(List Str)=>(decide (ve∈vk))).any id)).map fun ve:Str=>ve) else (((rng 0 (vf.length:Int).toNat).filter fun vi:Int=>((decide ((Builtin.bitAnd (((at' xs (9:Int)) / (7:Int)) / 2 ^ vi.toNat) (1:Int))=(0:Int)))||(decide ((0:Int) < ((at' head (9:Int)) % (3:Int)))))).map fun vi:Int=>(at' vf vi))),x∈vf:=fun c=>by
  cases c
  ·exact s1
  ·exact s2 _
 have s4:=s3 ((!decide (v8=([]:List (List (List Str)))))&&(decide (((at' xs (8:Int)) % (3:Int))=(1:Int))))
 generalize hvj:(if ((!decide (v8=([]:List (List (List Str)))))&&(decide (((at' xs (8:Int)) % (3:Int))=(1:Int))))=true then _ else _)=vj at s4 ⊢
 obtain⟨dj,Wj⟩:=key vj s4.1 s4.2
 have abt:∀ w∈v8,w.length<=100000:=fun w hw=>by
  have W:=I.2.1 w hw
  have h1:=gF (uV W.nd W.ne) (ys:=w) fun x h=>h
  have:w.length<=w.flatten.length:=by
   have:∀ (w:List (List Str)),(∀ s∈w,s≠[])->w.length<=w.flatten.length:=fun w=>by
    induction w with
    |nil=>intro _;exact qv _
    |cons s w ih=>
     intro h
     have:=ih fun s hs=>h s (zg _ hs)
     have:=List.length_pos_iff.mpr (h s (zh ..))
     rw[ZI,Zs,qf]
     omega
   exact this w W.ne
  have:=gF W.nd W.sub
  omega
 refine⟨⟨⟨Ru _ _ (by omega) (by omega),N.1⟩,⟨⟨zm (by omega) (by omega),by rw[jZ];omega⟩,fun v hv=>?_⟩,⟨fun _=>in_of (by decide) (by omega),fun hc=>⟨by omega,fun x _=>?_⟩⟩,dj,fun _=>lC (by omega)⟩,?_⟩
 ·obtain⟨j,hj,rfl⟩:=qT hv
  exact⟨⟨⟨in_of (by decide) (by omega),by omega⟩,fun _=>in_of (by decide) (by omega)⟩,fun _=>zj (by omega)⟩
 ·have hne:v8≠[]:=fun z=>by rw[z] at hc;simp at hc
  have hin:In v8.length (-(1:Int)):=⟨by have:=List.length_pos_iff.mpr hne;omega,by omega⟩
  exact⟨hin,abt _ (Jt hin)⟩
 ·by_cases hm:(!uR (bU vj (cut xs none (some 8))) v8)=true
  ·rw[zo hm]
   refine⟨by simp;omega,fun w hw=>?_,?_⟩
   ·rcases List.mem_append.mp hw with hw|hw
    ·exact I.2.1 w hw
    ·rw[List.mem_singleton.mp hw];exact Wj
   ·rw[qS]
    refine⟨I.2.2,by simp,fun a ha b hb z=>?_⟩
    rw[List.mem_singleton.mp hb] at z
    have:uR (bU vj (cut xs none (some 8))) v8=true:=Gy.mpr (z▸ha)
    rw[this] at hm;cases hm
  ·rw[zS hm]
   exact⟨by omega,I.2.1,I.2.2⟩
end G39
end
section
set_option synthInstance.maxSize 100000
namespace G39
open PySem PySem.Spec PyProof.Rows L2 P1
def RD (vj:List Str):List (List Str):=(bC vj).map fun x:Str=>[x]
theorem zX:∀ l:List Str,(l.map fun x:Str=>[x]).flatten=l
 |[]=>rfl
 |x::l=>by rw[zl,ZI,zX l];rfl
theorem Ea {vj:List Str} {x:Str}:x∈(RD vj).flatten↔x∈vj:=by
 unfold RD
 rw[zX]
 exact (bx vj).mem_iff
theorem RG {x y:Str} (h:Iv x y):Jr [x] [y]=true:=by
 have h:ltCps y.cps.toList x.cps.toList=false:=h
 rw[ltCps_eq] at h
 show (!S1.lA [Sum.inr y] [Sum.inr x])=true
 unfold S1.lA
 split
 ·rfl
 ·show (!decide (y.cps.toList < x.cps.toList))=true
  rw[h];rfl
theorem Zk {vj U:List Str} (nd:vj.Nodup) (h:∀ x∈vj,x∈U):Wd U (RD vj):=by
 refine⟨fun s hs=>?_,fun s hs=>?_,?_,fun x hx=>h x (Ea.mp hx),?_⟩
 ·obtain⟨x,_,rfl⟩:=List.mem_map.mp hs;simp
 ·obtain⟨x,_,rfl⟩:=List.mem_map.mp hs;simp
 ·unfold RD;rw[zX];exact (bx vj).nodup_iff.mpr nd
 ·exact List.pairwise_map.mpr ((iy vj).imp RG)
def Bt (k:Nat):List Int:=[[],[0],[1],[0,1],[2],[0,2],[1,2],[0,1,2]].getD k []
theorem bits:∀ k:Fin 8,((rng 0 (kN 3)).filter fun vi:Int=>(decide ((Builtin.bitAnd ((k.val:Int) / 2 ^ vi.toNat) (1:Int))=(1:Int))))=Bt k.val:=by rw[wR];decide +kernel
theorem Zm:∀ i j:Fin 8,(∀ t∈([0,1,2]:List Int),t∈Bt i.val↔t∈Bt j.val)->i=j:=by decide +kernel
theorem wB:∀ i:Fin 8,(Bt i.val).Nodup/\∀ t∈Bt i.val,t∈([0,1,2]:List Int):=by decide +kernel
def Lv (m:Str) (vh:List Str) (k:Nat):List Str:=if (decide ((1:Int) < (((Bt k).map fun vi:Int=>at' vh vi).length:Int)))=true then ((Bt k).map fun vi:Int=>at' vh vi)++[m] else (Bt k).map fun vi:Int=>at' vh vi
theorem Vq {vf:List Str} (hl:vf.length=4) (nd:vf.Nodup) {vg:Int} (h0:0<=vg/\vg < 4):∃ o0 o1 o2,(((rng 0 (kN 4)).filter fun vi:Int=>(!decide (vi=vg))).map fun vi:Int=>(at' vf vi))=[o0,o1,o2]/\[at' vf vg,o0,o1,o2].Nodup/\∀ x∈[at' vf vg,o0,o1,o2],x∈vf:=by
 match vf,hl with
 |[a,b,c,d],_=>
  have:vg=0\/vg=1\/vg=2\/vg=3:=by omega
  simp only[List.nodup_cons,qh,qc,or_false,not_or,Qb,and_true,not_false_eq_true] at nd
  obtain⟨⟨n1,n2,n3⟩,⟨n4,n5⟩,n6⟩:=nd
  have e0:at' [a,b,c,d] (0:Int)=a:=rfl
  have e1:at' [a,b,c,d] (1:Int)=b:=rfl
  have e2:at' [a,b,c,d] (2:Int)=c:=rfl
  have e3:at' [a,b,c,d] (3:Int)=d:=rfl
  rw[wR]
  rcases this with rfl|rfl|rfl|rfl
  ·exact⟨b,c,d,rfl,by rw[e0];simp[n1,n2,n3,n4,n5,n6],by rw[e0];simp⟩
  ·exact⟨a,c,d,rfl,by rw[e1];simp[n1,n2,n3,n4,n5,n6,QR n1,QR n4,QR n5],by rw[e1];simp⟩
  ·exact⟨a,b,d,rfl,by rw[e2];simp[n1,n2,n3,n4,n5,n6,QR n2,QR n4,QR n6],by rw[e2];simp⟩
  ·exact⟨a,b,c,rfl,by rw[e3];simp[n1,n2,n3,n4,n5,n6,QR n3,QR n5,QR n6],by rw[e3];simp⟩
theorem JZ {m o0 o1 o2:Str} (nd:[m,o0,o1,o2].Nodup) (i:Fin 8) {t:Int} (ht:t∈([0,1,2]:List Int)):at' [o0,o1,o2] t∈Lv m [o0,o1,o2] i.val↔t∈Bt i.val:=by
 simp only[List.nodup_cons,qh,qc,or_false,not_or,Qb,and_true,not_false_eq_true] at nd
 obtain⟨⟨n1,n2,n3⟩,⟨n4,n5⟩,n6⟩:=nd
 have e0:at' [o0,o1,o2] (0:Int)=o0:=rfl
 have e1:at' [o0,o1,o2] (1:Int)=o1:=rfl
 have e2:at' [o0,o1,o2] (2:Int)=o2:=rfl
 have inj:∀ s∈([0,1,2]:List Int),at' [o0,o1,o2] s=at' [o0,o1,o2] t->s=t:=fun s hs e=>by
  simp only[qh,qc,or_false] at hs ht
  rcases hs with rfl|rfl|rfl<;>rcases ht with rfl|rfl|rfl<;>first|rfl|(rw[e0,e1] at e;exact absurd e n4)|(rw[e0,e2] at e;exact absurd e n5)|(rw[e1,e0] at e;exact absurd e.symm n4)|(rw[e1,e2] at e;exact absurd e n6)|(rw[e2,e0] at e;exact absurd e.symm n5)|(rw[e2,e1] at e;exact absurd e.symm n6)
 have nm:at' [o0,o1,o2] t≠m:=by
  simp only[qh,qc,or_false] at ht
  rcases ht with rfl|rfl|rfl
  ·rw[e0];exact QR n1
  ·rw[e1];exact QR n2
  ·rw[e2];exact QR n3
 have hm:at' [o0,o1,o2] t∈((Bt i.val).map fun vi:Int=>at' [o0,o1,o2] vi)↔t∈Bt i.val:=by
  rw[List.mem_map]
  exact⟨fun ⟨s,hs,e⟩=>by rw[<-inj s ((wB i).2 s hs) e];exact hs,fun h=>⟨t,h,rfl⟩⟩
 unfold Lv
 split
 ·rw[List.mem_append,hm,List.mem_singleton]
  exact⟨fun h=>h.resolve_right nm,.inl⟩
 ·exact hm
theorem Wm {m o0 o1 o2:Str} (nd:[m,o0,o1,o2].Nodup) (i:Fin 8):(Lv m [o0,o1,o2] i.val).Nodup/\(∀ x∈Lv m [o0,o1,o2] i.val,x∈[m,o0,o1,o2])/\(Lv m [o0,o1,o2] i.val).length<=4:=by
 have l3:∀ t∈([0,1,2]:List Int),at' [o0,o1,o2] t∈[o0,o1,o2]:=by
  intro t ht
  simp only[qh,qc,or_false] at ht
  rcases ht with rfl|rfl|rfl
  ·exact zh ..
  ·exact zg _ (zh ..)
  ·exact zg _ (zg _ (zh ..))
 have sub:∀ x∈((Bt i.val).map fun vi:Int=>at' [o0,o1,o2] vi),x∈[o0,o1,o2]:=fun x hx=>by
  obtain⟨s,hs,rfl⟩:=List.mem_map.mp hx
  exact l3 s ((wB i).2 s hs)
 obtain⟨n0,n1⟩:=List.nodup_cons.mp nd
 have ndm:((Bt i.val).map fun vi:Int=>at' [o0,o1,o2] vi).Nodup:=by
  unfold List.Nodup
  rw[kR]
  refine Kk ?_ (wB i).1
  intro a b ha hb hne e
  have h1:=(JZ nd i ((wB i).2 a ha))
  refine hne ?_
  simp only[List.nodup_cons,qh,qc,or_false,not_or,Qb,and_true,not_false_eq_true] at n1
  obtain⟨⟨n4,n5⟩,n6⟩:=n1
  have e0:at' [o0,o1,o2] (0:Int)=o0:=rfl
  have e1:at' [o0,o1,o2] (1:Int)=o1:=rfl
  have e2:at' [o0,o1,o2] (2:Int)=o2:=rfl
  have ha:=(wB i).2 a ha
  have hb:=(wB i).2 b hb
  simp only[qh,qc,or_false] at ha hb
  rcases ha with rfl|rfl|rfl<;>rcases hb with rfl|rfl|rfl<;>first|rfl|(rw[e0,e1] at e;exact absurd e n4)|(rw[e0,e2] at e;exact absurd e n5)|(rw[e1,e0] at e;exact absurd e.symm n4)|(rw[e1,e2] at e;exact absurd e n6)|(rw[e2,e0] at e;exact absurd e.symm n5)|(rw[e2,e1] at e;exact absurd e.symm n6)
 have res:(Lv m [o0,o1,o2] i.val).Nodup/\∀ x∈Lv m [o0,o1,o2] i.val,x∈[m,o0,o1,o2]:=by
  unfold Lv
  split
  ·refine⟨List.nodup_append.mpr ⟨ndm,by simp,fun a ha b hb z=>?_⟩,fun x hx=>?_⟩
   ·rw[List.mem_singleton.mp hb] at z
    exact n0 (by rw[<-z];exact sub a ha)
   ·rcases List.mem_append.mp hx with hx|hx
    ·exact zg _ (sub x hx)
    ·rw[List.mem_singleton.mp hx];exact zh ..
  ·exact⟨ndm,fun x hx=>zg _ (sub x hx)⟩
 exact⟨res.1,res.2,gF res.1 res.2⟩
theorem Vr (va:List Int) (hva:va.length=3) (vf:List Str) (hl:vf.length=4) (nd:vf.Nodup) (hz:ZZ∉vf):dM va vf/\Ws vf (dJ va vf):=by
 have g4:=mK (at' va 0) (m:=4) (by decide)
 have g8:=mK (at' va 1) (m:=8) (by decide)
 have g3:=mK (at' va 2) (m:=3) (by decide)
 obtain⟨o0,o1,o2,evh,nd4,adF⟩:=Vq hl nd g4
 have abu:∀ (k:Nat),k < 8->∀ v8:List (List (List Str)),bG vf (at' va 0 % 4) [o0,o1,o2] v8 (k:Int)=v8++[RD (Lv (at' vf (at' va 0 % 4)) [o0,o1,o2] k)]:=fun k hk v8=>by
  unfold bG
  have:=bits ⟨k,hk⟩
  dsimp only at this ⊢
  rw[this]
  rfl
 have D1:=qz (P:=fun v8 v4=>some (cT vf (at' va 0 % 4) [o0,o1,o2] v8 v4)) (step:=fun v8 v4=>bG vf (at' va 0 % 4) [o0,o1,o2] v8 v4) (fun k v8=>v8=(List.range k).map fun i=>RD (Lv (at' vf (at' va 0 % 4)) [o0,o1,o2] i)) 8 [] rfl fun k v8 hk h=>by
  refine⟨?_,by rw[abu k hk,h,List.range_succ,Zp];rfl⟩
  show cT vf (at' va 0 % 4) [o0,o1,o2] v8 (k:Int)
  unfold cT
  have hb:=bits ⟨k,hk⟩
  dsimp only at hb ⊢
  rw[hb]
  have hL:=(Wm nd4 ⟨k,hk⟩).2.2
  unfold Lv at hL
  dsimp only at hL
  refine⟨⟨by rw[wR,jZ];decide,fun v hv=>?_⟩,fun _=>⟨in_of g4.1 (by omega),lC ?_⟩,⟨j0 hL (by decide),by rw[(bx _).length_eq];exact zv hL (by decide)⟩,lC (by rw[h];simp;omega)⟩
  ·rw[wR] at hv
   obtain⟨j,hj,rfl⟩:=qT hv
   exact⟨by omega,fun _=>zj hj⟩
  ·rw[zi]
   have:∀ i:Fin 8,(Bt i.val).length<=3:=by decide
   exact zv (this ⟨k,hk⟩) (by decide)
 have nd8:((List.range 8).map fun i=>RD (Lv (at' vf (at' va 0 % 4)) [o0,o1,o2] i)).Nodup:=by
  unfold List.Nodup
  rw[kR]
  refine Kk ?_ (List.nodup_range (n:=8))
  intro a b ha hb hne e
  have ha:=List.mem_range.mp ha
  have hb:=List.mem_range.mp hb
  refine hne (congrArg Fin.val (Zm ⟨a,ha⟩ ⟨b,hb⟩ fun t ht=>?_))
  rw[<-JZ nd4 ⟨a,ha⟩ ht,<-JZ nd4 ⟨b,hb⟩ ht,<-Ea,<-Ea (vj:=Lv _ _ (Fin.val ⟨b,hb⟩))]
  rw[show RD (Lv (at' vf (at' va 0 % 4)) [o0,o1,o2] (Fin.val ⟨a,ha⟩))=RD (Lv (at' vf (at' va 0 % 4)) [o0,o1,o2] (Fin.val ⟨b,hb⟩)) from e]
 have w8:∀ w∈((List.range 8).map fun i=>RD (Lv (at' vf (at' va 0 % 4)) [o0,o1,o2] i)),Wd vf w:=fun w hw=>by
  obtain⟨i,hi,rfl⟩:=List.mem_map.mp hw
  have:=Wm nd4 ⟨i,List.mem_range.mp hi⟩
  exact Zk this.1 fun x hx=>adF x (this.2.1 x hx)
 unfold dM dJ
 dsimp only
 rw[evh,show kN 8=8 from wR 8,D1.2]
 generalize hv8:(List.range 8).map (fun i=>RD (Lv (at' vf (at' va 0 % 4)) [o0,o1,o2] i))=v8 at nd8 w8
 have l8:v8.length=8:=by rw[<-hv8];simp
 obtain⟨c,hc,ec⟩:∃ c:Nat,c < 8/\at' va 1 % 8=(c:Int):=⟨(at' va 1 % 8).toNat,by omega,by omega⟩
 obtain⟨b,hb,eb⟩:∃ c:Nat,c < 3/\at' va 2 % 3=(c:Int):=⟨(at' va 2 % 3).toNat,by omega,by omega⟩
 rw[ec,eb,uT (by omega),Q8 (by omega)]
 have pm:(v8.drop c++v8.take c).Perm v8:=List.perm_append_comm.trans (by rw[List.take_append_drop])
 rw[uT (by rw[pm.length_eq];omega)]
 have sl:=List.drop_sublist b (v8.drop c++v8.take c)
 refine⟨⟨in_of (by decide) (by omega),⟨by rw[wR,jZ];decide,fun v hv=>?_⟩,D1.1,in_of (by decide) (by omega),lC ?_,in_of (by decide) (by omega)⟩,by omega,hz,?_,fun w hw=>w8 w (pm.mem_iff.mp (sl.subset hw)),(pm.nodup_iff.mpr nd8).sublist sl⟩
 ·rw[wR] at hv
  obtain⟨j,hj,rfl⟩:=qT hv
  exact fun _=>zj (by omega)
 ·rw[<-Zs,pm.length_eq,l8];decide
 ·rw[kA,pm.length_eq];omega
end G39
end
section
set_option synthInstance.maxSize 100000
namespace G39
open PySem PySem.Spec PyProof.Rows L2 P1
theorem NK (script:List Int):jD script 0/\∃ U,Ws U (fG script 0):=by
 have N:=Rw (cV script 0) 10 (by decide) (by decide)
 unfold jD fG
 dsimp only
 generalize bT (cV script 0) 10=xs at N
 have xl:xs.length=10:=N.2.1
 have i6:In xs.length (6:Int):=in_of (by decide) (by omega)
 have i7:In xs.length (7:Int):=in_of (by decide) (by omega)
 have i8:In xs.length (8:Int):=in_of (by decide) (by omega)
 have i9:In xs.length (9:Int):=in_of (by decide) (by omega)
 have st:∀ m:Int,0<=m->m<=8->je xs m/\(aX xs m).length=m.toNat/\(bC (aX xs m)).length=m.toNat/\(bC (aX xs m)).Nodup/\ZZ∉bC (aX xs m):=fun m h0 h1=>by
  obtain⟨a,b,_⟩:=Rx xs (by omega) m h0 (by omega)
  have pm:=bx (aX xs m)
  exact⟨a,b,by rw[pm.length_eq,b],pm.nodup_iff.mpr (Ry xs m (by omega)),fun z=>RB xs m h1 (pm.mem_iff.mp z)⟩
 have k4:In [(8:Int),(4:Int),(6:Int),(3:Int)].length (at' xs (7:Int) % (4:Int)):=Dz (by decide) (by decide)
 have km:0 < at' [(8:Int),(4:Int),(6:Int),(3:Int)] (at' xs (7:Int) % (4:Int))/\at' [(8:Int),(4:Int),(6:Int),(3:Int)] (at' xs (7:Int) % (4:Int))<=8:=by
  have:=Jt k4
  simp only[qh,qc,or_false] at this
  rcases this with e|e|e|e<;>rw[e]<;>decide
 generalize at' [(8:Int),(4:Int),(6:Int),(3:Int)] (at' xs (7:Int) % (4:Int))=mm at km ⊢
 have mb:=mK (at' xs 6) km.1
 have m8:=mK (at' xs 8) (m:=8) (by decide)
 obtain⟨n1,n2,n3,n4,n5⟩:=st 4 (by decide) (by decide)
 obtain⟨q1,q2,q3,q4,q5⟩:=st (1+at' xs 6 % mm) (by omega) (by omega)
 have H:=Vr [at' xs 6,at' xs 8,at' xs 9] rfl _ n3 n4 n5
 have L:=qz (P:=fun v8 v4=>some (fP script 0 xs (bC (aX xs (1+at' xs 6 % mm))) v8 v4)) (step:=fun v8 v4=>cH script 0 xs (bC (aX xs (1+at' xs 6 % mm))) v8 v4) (fun k v8=>v8.length<=k/\(∀ w∈v8,Wd (bC (aX xs (1+at' xs 6 % mm))) w)/\v8.Nodup) (1+at' xs 8 % 8).toNat [] ⟨qv _,fun _ h=>(by cases h),Qb⟩ fun k v8 hk h=>Hq script xs xl _ q4 (by omega) q5 k (by omega) v8 h
 refine⟨⟨⟨Ru _ _ (by decide) (by decide),N.1⟩,i7,fun _=>⟨⟨⟨i6,i8,i9⟩,n1,by omega⟩,H.1⟩,fun _=>⟨⟨⟨⟨⟨i6,i7,k4⟩,km.1⟩,q1⟩,by omega⟩,⟨i8,zm (by omega) (by omega)⟩,L.1⟩⟩,?_⟩
 split
 ·exact⟨_,H.2⟩
 ·exact⟨_,by omega,q5,zv L.2.1 (by omega),L.2.2.1,L.2.2.2⟩
theorem Ws.sub {U:List Str} {ws ws':List (List (List Str))} (h:Ws U ws) (s:ws'.Sublist ws):Ws U ws':=
 ⟨h.u,h.z,zv s.length_le h.n,fun w hw=>h.w w (s.subset hw),h.nd.sublist s⟩
theorem Zn {α:Type} (xs:List α) (lo hi:Option Int):(cut xs lo hi).Sublist xs:=(List.take_sublist ..).trans (List.drop_sublist ..)
theorem Eb (w:List (List Str)):(w.flatMap fun vs:(List Str)=>(vs.map fun vt:Str=>vt))=w.flatten:=by
 induction w with
 |nil=>rfl
 |cons s w ih=>rw[jn,ZI,ih,List.map_id']
theorem zY (w:List (List Str)):(cu w).Perm w.flatten:=by
 unfold cu
 rw[Eb]
 exact bx _
theorem Ed {ws:List (List (List Str))} {x:Str}:x∈(ws.flatMap fun vq:(List (List Str))=>((cu vq).map fun vt:Str=>vt))↔∃ w∈ws,x∈w.flatten:=by
 rw[List.mem_flatMap]
 constructor
 ·rintro⟨w,hw,h⟩;rw[List.map_id'] at h;exact⟨w,hw,(zY w).mem_iff.mp h⟩
 ·rintro⟨w,hw,h⟩;exact⟨w,hw,by rw[List.map_id'];exact (zY w).mem_iff.mpr h⟩
theorem J0 {α β:Type} (f:α->List β) (m:Nat):∀ l:List α,(∀ x∈l,(f x).length<=m)->(l.flatMap f).length<=l.length * m
 |[],_=>by simp
 |a::l,h=>by
  have:=J0 f m l fun x hx=>h x (zg _ hx)
  have:=h a (zh ..)
  rw[jn,Zs,qf,Nat.succ_mul]
  omega
section
variable {U:List Str} {ws:List (List (List Str))} (h:Ws U ws)
include h
theorem Lf:(oR (ws.flatMap fun vq:(List (List Str))=>((cu vq).map fun vt:Str=>vt))).length<=8:=
 zv (gF (oU _) fun x hx=>by
  obtain⟨w,hw,hx⟩:=Ed.mp (kE.mp hx)
  exact (h.w w hw).sub x hx) h.u
theorem J1:pA ws:=by
 have l64:=J0 (fun vq:(List (List Str))=>((cu vq).map fun vt:Str=>vt)) 8 ws fun w hw=>by
  rw[List.map_id',(zY w).length_eq];exact h.fl hw
 have:=h.n
 have l64:(ws.flatMap fun vq:(List (List Str))=>((cu vq).map fun vt:Str=>vt)).length<=64:=zv l64 (by omega)
 refine⟨⟨fun w hw=>⟨⟨⟨fun _ _ _ _=>trivial,?_⟩,?_⟩,fun _ _=>trivial⟩,zv l64 (by decide)⟩,j0 l64 (by decide),j0 (Lf h) (by decide)⟩
 ·rw[Eb];exact zv (h.fl hw) (by decide)
 ·rw[Eb];exact j0 (h.fl hw) (by decide)
theorem mD:(aM ws).Nodup/\(aM ws).length<=8/\∀ x,x∈aM ws↔∃ w∈ws,x∈w.flatten:=by
 have pm:=bx (oR (ws.flatMap fun vq:(List (List Str))=>((cu vq).map fun vt:Str=>vt)))
 exact⟨pm.nodup_iff.mpr (oU _),by unfold aM;rw[pm.length_eq];exact Lf h,fun x=>by unfold aM;rw[pm.mem_iff,kE];exact Ed⟩
end
structure Ks (m:List (Str×Bool)) (S:List Str):Prop where
 nd:(m.map (·.1)).Nodup
 io:∀ x,x∈m.map (·.1)↔x∈S
theorem Ks.len {m:List (Str×Bool)} {S U:List Str} (h:Ks m S) (hU:∀ x∈S,x∈U):m.length<=U.length:=by
 have:=gF h.nd fun x hx=>hU x ((h.io x).mp hx)
 rwa [zi] at this
theorem RJ {m:List (Str×Bool)} {x:Str}:has m x=true↔x∈m.map (·.1):=by
 unfold has
 rw[QE,List.mem_map]
 constructor
 ·rintro⟨q,hq,h⟩;exact⟨q,hq,kr h⟩
 ·rintro⟨q,hq,h⟩;exact⟨q,hq,JU h⟩
theorem Ks.put {m:List (Str×Bool)} {S:List Str} (h:Ks m S) (x:Str):Ks (put m x true) (S++[x]):=by
 unfold P1.put
 by_cases hm:has m x=true
 ·rw[zo hm]
  have e:(m.map fun q=>if q.1=x then (q.1,true) else q).map (·.1)=m.map (·.1):=by
   rw[ZE]
   exact ZY fun q _=>by simp only[Function.comp];split<;>rfl
  refine⟨by rw[e];exact h.nd,fun y=>?_⟩
  rw[e,h.io,List.mem_append,List.mem_singleton]
  exact⟨.inl,fun z=>z.elim id fun z=>by rw[z];exact (h.io x).mp (RJ.mp hm)⟩
 ·rw[zS hm]
  refine⟨?_,fun y=>?_⟩
  ·rw[Zp,qS]
   refine⟨h.nd,by simp,fun a ha b hb z=>hm (RJ.mpr ?_)⟩
   have hb:b=x:=by simpa using hb
   rw[<-hb,<-z];exact ha
  ·rw[Zp,List.mem_append,List.mem_append,h.io]
   exact Iff.rfl
theorem xY {α:Type} {step:List (Str×Bool)->α->List (Str×Bool)} {P:List (Str×Bool)->α->Option Prop} (f:α->List Str) (U:List Str) (hs:∀ m S x,Ks m S->(∀ y∈S++f x,y∈U)->hold (P m x)/\Ks (step m x) (S++f x)):∀ (xs:List α) (m:List (Str×Bool)) (S:List Str),Ks m S->(∀ y∈S++xs.flatMap f,y∈U)->qy step P xs m/\Ks (xs.foldl step m) (S++xs.flatMap f)
 |[],m,S,h,_=>⟨trivial,by simpa using h⟩
 |x::xs,m,S,h,hU=>by
  rw[jn,<-qV] at hU ⊢
  obtain⟨a,b⟩:=hs m S x h fun y hy=>hU y (QI _ hy)
  obtain⟨c,d⟩:=xY f U hs xs _ _ b hU
  exact⟨⟨a,c⟩,d⟩
theorem Vs {U:List Str} {ws:List (List (List Str))} (h:Ws U ws):qy (fun (vf:(List (Str×Bool))) (vl:(List (List Str)))=>(bN  vf vl)) (fun (vf:(List (Str×Bool))) (vl:(List (List Str)))=>some (gA  vf vl)) ws []/\(ws.foldl (fun (vf:(List (Str×Bool))) (vl:(List (List Str)))=>(bN  vf vl)) []).length<=8/\bC ((ws.foldl (fun (vf:(List (Str×Bool))) (vl:(List (List Str)))=>(bN  vf vl)) []).map (·.1))=aM ws:=by
 have hu:=h.u
 have b4:∀ (m:List (Str×Bool)) (S:List Str) (x:Str),Ks m S->(∀ y∈S++[x],y∈U)->hold (some (jE m x))/\Ks (gn m x) (S++[x]):=fun m S x k hy=>by
  refine⟨?_,k.put x⟩
  show m.length < 1000
  have:=k.len fun y hy'=>hy y (QI _ hy')
  omega
 have b3:=xY (fun x:Str=>[x]) U b4
 have b1:=xY (fun s:List Str=>s.flatMap fun x:Str=>[x]) U (P:=fun m s=>some (jF m s)) (step:=fun m s=>gq m s) fun m S s k hy=>b3 s m S k hy
 have b0:=xY (fun w:List (List Str)=>w.flatMap fun s:List Str=>s.flatMap fun x:Str=>[x]) U (P:=fun m w=>some (gA m w)) (step:=fun m w=>bN m w) fun m S s k hy=>b1 s m S k hy
 have fl:∀ x,x∈[]++(ws.flatMap fun w:List (List Str)=>w.flatMap fun s:List Str=>s.flatMap fun x:Str=>[x])↔∃ w∈ws,x∈w.flatten:=fun x=>by
  simp only[ke,List.mem_flatMap,List.mem_flatten,List.mem_singleton]
  constructor
  ·rintro⟨w,hw,s,hs,y,hy,rfl⟩;exact⟨w,hw,s,hs,hy⟩
  ·rintro⟨w,hw,s,hs,hy⟩;exact⟨w,hw,s,hs,x,hy,rfl⟩
 have hU:∀ y∈[]++(ws.flatMap fun w:List (List Str)=>w.flatMap fun s:List Str=>s.flatMap fun x:Str=>[x]),y∈U:=fun y hy=>by
  obtain⟨w,hw,hy⟩:=(fl y).mp hy
  exact (h.w w hw).sub y hy
 obtain⟨d,k⟩:=b0 ws [] [] ⟨Qb,fun x=>by simp⟩ hU
 refine⟨d,zv (k.len hU) hu,?_⟩
 unfold aM
 exact Nv k.nd (oU _) fun x=>by rw[k.io,fl,kE,Ed]
def PR (vx:List Str):List (List Str):=(rng 0 (vx.length:Int).toNat).flatMap fun k:Int=>(cut vx (some (k+(1:Int))) none).map fun vy:Str=>[("one" : Str),(at' vx k),vy]
def AS (vx:List Str):List (List Str):=(vx.map fun ve:Str=>[("stands" : Str),ve])++PR vx
theorem Vt (xs:List Str):rO xs=(rng 0 (xs.length:Int).toNat).map fun k:Int=>(k,at' xs k):=by
 refine List.ext_getElem? fun k=>?_
 unfold rO rng
 rw[z4,z4,List.getElem?_zipWith]
 by_cases h:k < xs.length
 ·rw[kb h,kb (by omega),ZA h]
  simp only[Option.map_some,Int.zero_add]
  rw[Ju xs k h]
 ·rw[ZU (l:=List.range xs.length) (by simp;omega),ZU (l:=List.range _) (by simp;omega)]
  rfl
theorem Ef (vx:List Str):((rO vx).flatMap fun q1:Ro=>((cut vx (some (q1.1+(1:Int))) none).map fun vv:Str=>[("one" : Str),q1.2,vv]))=PR vx:=by
 rw[Vt,List.flatMap_map]
 rfl
theorem BX {α β:Type} (g:β->List α):∀ (l:List β) (f:List α),l.foldl (fun f k=>f++g k) f=f++l.flatMap g
 |[],f=>by simp
 |k::l,f=>by rw[kf,BX g l,jn,qV]
theorem RK {vx:List Str} (h:vx.length<=8):(PR vx).length<=64:=by
 have:=J0 (fun k:Int=>(cut vx (some (k+(1:Int))) none).map fun vy:Str=>[("one" : Str),(at' vx k),vy]) 8 (rng 0 (vx.length:Int).toNat) fun k _=>by
  rw[zi];exact zv (xX ..) h
 rw[jZ] at this
 exact zv this (by omega)
theorem RM {vx:List Str} (h:vx.length<=8):(AS vx).length<=72:=by
 have:=RK h
 unfold AS
 rw[Zs,zi]
 omega
theorem Eh {U:List Str} {ws:List (List (List Str))} (h:Ws U ws):jX ws/\gM ws/\cJ ws=AS (aM ws)/\cD ws=AS (aM ws):=by
 obtain⟨nd,nl,_⟩:=mD h
 obtain⟨k1,k2,k3⟩:=Vs h
 have pl:=RK nl
 refine⟨⟨J1 h,zv nl (by decide),⟨fun _ _ _ _=>trivial,?_⟩,lC ?_⟩,⟨k1,j0 k2 (by decide),?_⟩,?_,?_⟩
 ·rw[Ef];omega
 ·rw[Ef,zi];omega
 ·dsimp only
  rw[k3]
  refine⟨zv nl (by decide),zm (by omega) (by omega),?_⟩
  refine (qz (fun k (v8:List (List Str))=>v8.length<=8+8 * k) _ _ (by rw[zi];omega) fun k v8 hk hv=>?_).1
  have cl:=xX (aM ws) (some ((k:Int)+1)) none
  refine⟨⟨⟨by omega,fun _ _=>zj (by omega)⟩,lC (by rw[zi];omega)⟩,?_⟩
  unfold gB
  dsimp only
  rw[Zs,zi];omega
 ·unfold cJ AS
  dsimp only
  rw[Ef]
 ·unfold cD AS
  dsimp only
  rw[k3]
  exact BX _ _ _
end G39
end
section
set_option synthInstance.maxSize 100000
namespace G39
open PySem PySem.Spec PyProof.Rows L2 P1
theorem abv (a:Str) (r:List Str):cut (a::r) (some (1:Int)) none=r:=by
 rw[show (1:Int)=((1:Nat):Int) from rfl,uT (by simp)];rfl
theorem tL (w:List (List Str)) (a x:Str):aV w [a,x]=true↔x∈w.flatten:=by
 unfold aV
 rw[abv,QE,List.mem_flatten]
 constructor
 ·rintro⟨b,hb,e⟩
  obtain⟨s,hs,rfl⟩:=List.mem_map.mp hb
  exact⟨s,hs,by simpa using e⟩
 ·rintro⟨s,hs,hx⟩
  exact⟨_,List.mem_map.mpr ⟨s,hs,rfl⟩,by simpa using hx⟩
theorem vH (w:List (List Str)) (a x y:Str):aV w [a,x,y]=true↔same w x y:=by
 unfold aV P1.same
 rw[abv,QE]
 constructor
 ·rintro⟨b,hb,e⟩
  obtain⟨s,hs,rfl⟩:=List.mem_map.mp hb
  exact⟨s,hs,by simpa using e⟩
 ·rintro⟨s,hs,hx⟩
  exact⟨_,List.mem_map.mpr ⟨s,hs,rfl⟩,by simpa using hx⟩
theorem Hr {U:List Str} {ws:List (List (List Str))} (h:Ws U ws) {w:List (List Str)} (hw:w∈ws) {z:List Str} (hz:z.length<=3):qN w z:=by
 have W:=h.w w hw
 have:∀ (w:List (List Str)),(∀ s∈w,s≠[])->w.length<=w.flatten.length:=fun w=>by
  induction w with
  |nil=>intro _;exact qv _
  |cons s w ih=>
   intro h
   have:=ih fun s hs=>h s (zg _ hs)
   have:=List.length_pos_iff.mpr (h s (zh ..))
   rw[ZI,Zs,qf]
   omega
 have:=this w W.ne
 have:=h.fl hw
 exact⟨by omega,fun _ _=>zv (xX ..) (by omega)⟩
theorem Vu (z:List Str) (hz:z.length<=3):∀ w:List (List Str),pB w z/\iQ w z=aV w z:=fun w=>by
 have cl:=xX z (some (1:Int)) none
 have key:∀ w:List (List Str),lF (fun (s1:Unit) (vj:(List Str))=>((cP z s1 vj):nC (Unit) Bool)) (fun (s1:Unit) (vj:(List Str))=>some (j8 z s1 vj)) w ()/\iQ w z=aV w z:=fun w=>by
  induction w with
  |nil=>exact⟨trivial,rfl⟩
  |cons s w ih=>
   have hd:j8 z () s:=zv cl (by omega)
   unfold iQ aV at ih ⊢
   unfold lF iz
   rw[zl,Q2]
   by_cases e:(((cut z (some (1:Int)) none).map fun ve:Str=>(decide (ve∈s))).all id)=true
   ·have:cP z () s=nC.rt true:=by unfold cP;rw[zo e]
    rw[this,e]
    exact⟨⟨hd,trivial⟩,rfl⟩
   ·have:cP z () s=nC.nx ():=by unfold cP;rw[zS e]
    rw[this,Bool.eq_false_iff.mpr e]
    exact⟨⟨hd,ih.1⟩,ih.2⟩
 refine⟨⟨(key w).1,?_⟩,(key w).2⟩
 unfold qR
 split<;>trivial
theorem Ht {U:List Str} {ws:List (List (List Str))} (h:Ws U ws) {w:List (List Str)} (hw:w∈ws):∀ (vn:List (List Str)) (jj:List Bool),(∀ z∈vn,z.length<=3)->jj.length+vn.length<=1000 →
  lF (fun (jj:(List Bool)) (vz:(List Str))=>((bh w jj vz):nC ((List Bool)) Bool)) (fun (jj:(List Bool)) (vz:(List Str))=>some (fH w jj vz)) vn jj/\iz (fun (jj:(List Bool)) (vz:(List Str))=>((bh w jj vz):nC ((List Bool)) Bool)) vn jj=.nx (jj++vn.map (aV w))
 |[],jj,_,_=>⟨trivial,by simp[iz]⟩
 |z::vn,jj,hz,hl=>by
  have z3:=hz z (zh ..)
  rw[qf] at hl
  have S:=Vu z z3 w
  have e:bh w jj z=.nx (jj++[aV w z]):=by
   unfold bh
   dsimp only
   rw[S.2]
   simp[P1.is_bool,eB]
  obtain⟨a,b⟩:=Ht h hw vn (jj++[aV w z]) (fun z hz'=>hz z (zg _ hz')) (by simp;omega)
  unfold lF iz
  rw[e]
  dsimp only
  refine⟨⟨⟨Hr h hw z3,fun _=>S.1,fun _=>lC (by omega)⟩,a⟩,?_⟩
  rw[b,zl,qV];rfl
theorem BZ {U:List Str} {ws:List (List (List Str))} (h:Ws U ws) (vn:List (List Str)) (h3:∀ z∈vn,z.length<=3) (hl:vn.length<=1000):∀ (post pre:List (List (List Str))),(∀ w∈post,w∈ws)->((pre++post).map fun w=>vn.map (aV w)).Nodup->(pre++post).length<=8 →
  lF (fun (jH:(List (List Bool))) (vl:(List (List Str)))=>((aW vn jH vl):nC ((List (List Bool))) Bool)) (fun (jH:(List (List Bool))) (vl:(List (List Str)))=>some (fJ vn jH vl)) post (pre.map fun w=>vn.map (aV w))/\∃ s,iz (fun (jH:(List (List Bool))) (vl:(List (List Str)))=>((aW vn jH vl):nC ((List (List Bool))) Bool)) post (pre.map fun w=>vn.map (aV w))=.nx s
 |[],pre,_,_,_=>⟨trivial,_,rfl⟩
 |w::post,pre,hw,nd,l8=>by
  obtain⟨a,b⟩:=Ht h (hw w (zh ..)) vn [] h3 (by simp;exact hl)
  have hn:uR (vn.map (aV w)) (pre.map fun w=>vn.map (aV w))=false:=by
   cases hm:uR (vn.map (aV w)) (pre.map fun w=>vn.map (aV w)) with
   |false=>rfl
   |true=>
    rw[Zp,qS] at nd
    exact absurd rfl (nd.2.2 _ (Gy.mp hm) _ (by rw[zl];exact zh ..))
  have e:aW vn (pre.map fun w=>vn.map (aV w)) w=.nx ((pre++[w]).map fun w=>vn.map (aV w)):=by
   unfold aW
   dsimp only
   rw[b]
   show (if _ then _ else _)=_
   rw[ke,hn,zS (by decide),Zp];rfl
  obtain⟨c,d⟩:=BZ h vn h3 hl post (pre++[w]) (fun w hw'=>hw w (zg _ hw')) (by rw[qV];exact nd) (by rw[qV];exact l8)
  unfold lF iz
  rw[e]
  refine⟨⟨⟨a,?_⟩,c⟩,d⟩
  rw[b]
  exact fun _=>lC (by rw[zi];rw[Zs] at l8;omega)
theorem adG {vx:List Str} {z:List Str} (h:z∈AS vx):z.length<=3:=by
 rcases List.mem_append.mp h with h|h
 ·obtain⟨x,_,rfl⟩:=List.mem_map.mp h;simp
 ·obtain⟨k,_,h⟩:=List.mem_flatMap.mp h
  obtain⟨x,_,rfl⟩:=List.mem_map.mp h;simp
theorem NP {vx:List Str} {x:Str} (h:x∈vx):[("stands" : Str),x]∈AS vx:=QI _ (List.mem_map.mpr ⟨x,h,rfl⟩)
theorem Wn {vx:List Str} {i j:Nat} (hi:i < j) (hj:j < vx.length):[("one" : Str),vx[i],vx[j]]∈AS vx:=by
 refine Zl _ (List.mem_flatMap.mpr ⟨(i:Int),?_,List.mem_map.mpr ⟨vx[j],?_,by rw[Ju vx i (by omega)]⟩⟩)
 ·unfold rng
  exact List.mem_map.mpr ⟨i,List.mem_range.mpr (by omega),by simp⟩
 ·rw[show (i:Int)+1=((i+1:Nat):Int) from rfl,uT (by omega)]
  rw[List.mem_iff_getElem]
  exact⟨j - (i+1),by rw[kA];omega,by rw[List.getElem_drop];congr 1;omega⟩
theorem Zo {vx:List Str} {x y:Str} (hx:x∈vx) (hy:y∈vx) (hne:x≠y):[("one" : Str),x,y]∈AS vx\/[("one" : Str),y,x]∈AS vx:=by
 obtain⟨i,hi,rfl⟩:=List.mem_iff_getElem.mp hx
 obtain⟨j,hj,rfl⟩:=List.mem_iff_getElem.mp hy
 rcases Nat.lt_trichotomy i j with h|h|h
 ·exact .inl (Wn h hj)
 ·subst h;exact absurd rfl hne
 ·exact .inr (Wn h hi)
theorem lM {w:List (List Str)} {x y:Str} (h:same w x y):x∈w.flatten/\y∈w.flatten:=by
 obtain⟨s,hs,hx,hy⟩:=h
 exact⟨List.mem_flatten.mpr ⟨s,hs,hx⟩,List.mem_flatten.mpr ⟨s,hs,hy⟩⟩
theorem Ca {w:List (List Str)} {x y:Str}:same w x y↔same w y x:=⟨fun ⟨s,hs,a,b⟩=>⟨s,hs,b,a⟩,fun ⟨s,hs,a,b⟩=>⟨s,hs,b,a⟩⟩
theorem same_self {w:List (List Str)} {x:Str}:same w x x↔x∈w.flatten:=⟨fun h=>(lM h).1,fun h=>by
 obtain⟨s,hs,a⟩:=List.mem_flatten.mp h
 exact⟨s,hs,a,a⟩⟩
theorem Vv {U:List Str} {ws:List (List (List Str))} (h:Ws U ws) {w w':List (List Str)} (hw:w∈ws) (hw':w'∈ws) (e:(AS (aM ws)).map (aV w)=(AS (aM ws)).map (aV w')):w=w':=by
 have N:=(mD h).2.2
 have ee:∀ z∈AS (aM ws),aV w z=aV w' z:=fun z hz=>List.map_inj_left.mp e z hz
 have f1:∀ x,x∈aM ws->(x∈w.flatten↔x∈w'.flatten):=fun x hx=>by
  rw[<-tL w "stands" x,<-tL w' "stands" x,ee _ (NP hx)]
 have in1:∀ x,x∈w.flatten->x∈aM ws:=fun x hx=>(N x).mpr ⟨w,hw,hx⟩
 have in2:∀ x,x∈w'.flatten->x∈aM ws:=fun x hx=>(N x).mpr ⟨w',hw',hx⟩
 have f2:∀ x y,x∈aM ws->y∈aM ws->(same w x y↔same w' x y):=fun x y hx hy=>by
  by_cases hne:x=y
  ·subst hne;rw[same_self,same_self];exact f1 x hx
  ·rcases Zo hx hy hne with a|a
   ·rw[<-vH w "one" x y,<-vH w' "one" x y,ee _ a]
   ·rw[Ca,Ca (w:=w'),<-vH w "one" y x,<-vH w' "one" y x,ee _ a]
 refine Za (h.w w hw) (h.w w' hw') (fun x=>⟨fun hx=>(f1 x (in1 x hx)).mp hx,fun hx=>(f1 x (in2 x hx)).mpr hx⟩) fun x y=>⟨fun hs=>(f2 x y (in1 x (lM hs).1) (in1 y (lM hs).2)).mp hs,fun hs=>(f2 x y (in2 x (lM hs).1) (in2 y (lM hs).2)).mpr hs⟩
theorem RN {U:List Str} {ws:List (List (List Str))} (h:Ws U ws):cX ws (AS (aM ws))/\cG ws (AS (aM ws))=true:=by
 have nl:=(mD h).2.1
 obtain⟨a,s,b⟩:=BZ h (AS (aM ws)) (fun z hz=>adG hz) (zv (RM nl) (by decide)) ws [] (fun w hw=>hw) (by
  rw[ke]
  unfold List.Nodup
  rw[kR]
  exact h.nd.imp_of_mem fun ha hb hne e=>hne (Vv h ha hb e)) (by rw[ke];exact h.n)
 unfold cX cG
 have b:iz (fun (jH:(List (List Bool))) (vl:(List (List Str)))=>((aW (AS (aM ws)) jH vl):nC ((List (List Bool))) Bool)) ws []=.nx s:=b
 dsimp only
 rw[b]
 exact⟨⟨a,trivial⟩,rfl⟩
theorem Wo {U:List Str} {ws:List (List (List Str))} (h:Ws U ws) {w:List (List Str)} (hw:w∈ws):aV w [("stands" : Str),("zzzzzzzz" : Str)]=false/\aV w [("one" : Str),("zzzzzzzy" : Str),("zzzzzzzz" : Str)]=false:=by
 have nz:ZZ∉w.flatten:=fun z=>h.z ((h.w w hw).sub _ z)
 refine⟨?_,?_⟩
 ·cases e:aV w [("stands" : Str),("zzzzzzzz" : Str)] with
  |false=>rfl
  |true=>exact absurd ((tL w _ _).mp e) nz
 ·cases e:aV w [("one" : Str),("zzzzzzzy" : Str),("zzzzzzzz" : Str)] with
  |false=>rfl
  |true=>exact absurd (lM ((vH w _ _ _).mp e)).2 nz
theorem Lg {U:List Str} {ws:List (List (List Str))} (h:Ws U ws) {z:List Str} (hz:z.length<=3) (hn:∀ w∈ws,aV w z=false):vG ws () z/\mC ws () z=.nx ():=by
 refine⟨⟨zv h.n (by decide),fun w hw=>Hr h hw hz⟩,?_⟩
 unfold mC
 rw[zS fun c=>?_]
 obtain⟨b,hb,e⟩:=List.any_eq_true.mp c
 obtain⟨w,hw,rfl⟩:=List.mem_map.mp hb
 rw[hn w hw] at e
 simp at e
theorem RQ (ns:List Int) (_:ns.length<=63):Hl ns/\Hj ns=true:=by
 obtain⟨wd,U,h⟩:=NK ns
 unfold Hl Hj
 dsimp only
 generalize fG ns 0=ws at h ⊢
 obtain⟨a1,a2,a3,a4⟩:=Eh h
 have h1:=h.sub (Zn ws none (some (1:Int)))
 obtain⟨b1,b2,b3,b4⟩:=Eh h1
 have h0:Ws [] [([]:List (List Str))]:=⟨by simp,by simp,by simp,fun w hw=>by
  rw[List.mem_singleton.mp hw]
  exact⟨fun _ h=>(by cases h),fun _ h=>(by cases h),Qb,fun _ h=>(by cases h),List.Pairwise.nil⟩,by simp⟩
 obtain⟨c1,_,c3,_⟩:=Eh h0
 have ce:aM [([]:List (List Str))]=[]:=List.eq_nil_iff_forall_not_mem.mpr fun x hx=>by
  obtain⟨w,hw,z⟩:=((mD h0).2.2 x).mp hx
  rw[List.mem_singleton.mp hw] at z
  cases z
 rw[ce] at c3
 have c3:cJ [([]:List (List Str))]=[]:=c3
 obtain⟨r1,r2⟩:=RN h
 have tl:(((AS (aM ws)).map some).map fun vz:(Option (List Str))=>(kj ((eO (eT eS)) vz))).all id=true:=by
  rw[QQ]
  intro b hb
  obtain⟨o,ho,rfl⟩:=List.mem_map.mp hb
  obtain⟨z,hz,rfl⟩:=List.mem_map.mp ho
  rfl
 have al:=RM (mD h).2.1
 have F:=GD (step:=fun (s1:Unit) (vz:(List Str))=>((mC ws s1 vz):nC (Unit) Bool)) (P:=fun (s1:Unit) (vz:(List Str))=>some (vG ws s1 vz)) [[("stands" : Str),("zzzzzzzz" : Str)],[("one" : Str),("zzzzzzzy" : Str),("zzzzzzzz" : Str)]] fun z hz=>by
  simp only[qh,qc,or_false] at hz
  rcases hz with rfl|rfl
  ·have:=Lg h (z:=[("stands" : Str),("zzzzzzzz" : Str)]) (by decide) fun w hw=>(Wo h hw).1
   exact⟨this.1,.inl this.2⟩
  ·have:=Lg h (z:=[("one" : Str),("zzzzzzzy" : Str),("zzzzzzzz" : Str)]) (by decide) fun w hw=>(Wo h hw).2
   exact⟨this.1,.inl this.2⟩
 rw[a3,a4,b3,b4,c3,tl,r2,F.1]
 refine⟨⟨wd,a1,a2,⟨fun _ _=>by rw[zi];omega,fun _=>⟨r1,fun _=>⟨lC (by rw[List.length_reverse,zi];omega),⟨a1,fun _=>⟨⟨b1,b2⟩,fun _=>c1⟩⟩,fun _=>⟨F.2,trivial⟩⟩⟩⟩⟩,?_⟩
 simp[behind]
theorem H1:∀ ns:List Int,ns.length<=63->mV [.z (.lst (ns.map .int))]=some (.z (.bl true)):=(Wi RQ).1
theorem H2:∀ ns:List Int,ns.length<=63->mV [.l (ns.map .int)]=some (.z (.bl true)):=(Wi RQ).2
end G39
end
open PySem PySem.W PyProof.Rows
set_option maxRecDepth 100000 in
set_option maxHeartbeats 0 in
theorem PySem.Challenge.cw_onefolk_k39_asks_and_answers_holds : PySem.Challenge.rw_onefolk_k39_asks_and_answers.Holds := by
 w_on;refine PySem.W.holds_law (by decide +kernel) fun said=>?_
 k_head;(case hw=>w_witness2)
 k_fill
 refine G39.walk (l:=PySem.Challenge.rw_onefolk_k39_asks_and_answers) rfl rfl G39.H1 G39.H2 (fun w h Y=>PySem.W.kIn_of Y) ?F
 case F=>
  intro w mg fa h KX G hmg
  refine' G39.all_mk KX G hmg ?a0 ?l0 ?c0 ?k0 ?a1 ?l1 ?c1 ?k1 ?a2 ?l2 ?c2 ?k2 ?a3 ?l3 ?c3 ?k3 ?a4 ?l4 ?c4 ?k4 ?a5 ?l5 ?c5 ?k5 ?a6 ?l6 ?c6 ?k6 ?a7 ?l7 ?c7 ?k7 ?a8 ?l8 ?c8 ?k8 ?a9 ?l9 ?c9 ?k9 ?a10 ?l10 ?c10 ?k10 ?a11 ?l11 ?c11 ?k11 ?a12 ?l12 ?c12 ?k12 ?a13 ?l13 ?c13 ?k13 ?GZ ?zJ ?zK ?zL ?kZ ?G5 ?fD ?nY ?zM ?G7 ?gk ?fO ?j6
  (case a0=>k_is);(case l0=>k_is);(case c0=>k_is);(case k0=>k_is)
  (case a1=>k_is);(case l1=>k_is);(case c1=>k_is);(case k1=>k_is)
  (case a2=>k_is);(case l2=>k_is);(case c2=>k_is);(case k2=>k_is)
  (case a3=>k_is);(case l3=>k_is);(case c3=>k_is);(case k3=>k_is)
  (case a4=>k_is);(case l4=>k_is);(case c4=>k_is);(case k4=>k_is)
  (case a5=>k_is);(case l5=>k_is);(case c5=>k_is);(case k5=>k_is)
  (case a6=>k_is);(case l6=>k_is);(case c6=>k_is);(case k6=>k_is)
  (case a7=>k_is);(case l7=>k_is);(case c7=>k_is);(case k7=>k_is)
  (case a8=>k_is);(case l8=>k_is);(case c8=>k_is);(case k8=>k_is)
  (case a9=>k_is);(case l9=>k_is);(case c9=>k_is);(case k9=>k_is)
  (case a10=>k_is);(case l10=>k_is);(case c10=>k_is);(case k10=>k_is)
  (case a11=>k_is);(case l11=>k_is);(case c11=>k_is);(case k11=>k_is)
  (case a12=>k_is);(case l12=>k_is);(case c12=>k_is);(case k12=>k_is)
  (case a13=>k_is);(case l13=>k_is);(case c13=>k_is);(case k13=>k_is)
  (case GZ=>k_is)
  (case zJ=>k_is)
  (case zK=>k_is)
  (case zL=>k_is)
  (case kZ=>k_is)
  (case G5=>k_is)
  (case fD=>k_is)
  (case nY=>k_is)
  (case zM=>k_is)
  (case G7=>k_is)
  (case gk=>k_is)
  (case fO=>k_is)
  (case j6=>k_is)
