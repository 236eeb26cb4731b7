import PyProof.Rows.All
import Wide.All
import OpenK.AllK
import Wide.FinOn
import PyProof.EqAt
import PyProof.EqKinds
import PyProof.TupleCall
import PyProof.StrLoop
import PyProof.StrWalks
import PyProof.CompFree
import PyProof.NeKinds
import PyProof.Rows.RuleN_isinstance
import PyProof.ConsumeWalk
import PyProof.IsiPairs
import PyProof.IsiSeqPairs
import PyProof.IsiHeapPairs
import PyProof.IsiNone
import PyProof.PureStr
import PyProof.StrCalls
import PyProof.Rows.SortStr
import PyProof.Rows.StrJoin2
import PyProof.CallStr
import PyProof.WalkInts
import PyProof.Rows.StrDigits
import PyProof.DictWalks
import PyProof.DictTruth
import PyProof.CollectWalk
import PyProof.WalkLemmas
import PyProof.Rows.SortShellK
import PyProof.Rows.SortWalk
import PyProof.SetKind
import PyProof.FactsAll.set
import PyProof.Rows.SetFrom
import PyProof.TupleKey
import PyProof.IsRules
import PyProof.WalksMore
import PyProof.SetRoads
import PyProof.DictCompW
import PyProof.ListRange
import PyProof.FString5
import PyProof.MeetsSeq2
import PyProof.FactsAll.tuple_0
import PyProof.FactsAll.tuple_2
import PyProof.FactsAll.tuple_3
import PyProof.EnumFor
import PyProof.EnumMake
import PyProof.EnumStmt
import PyProof.Rows.EnumRows
import PyProof.SumWalk
import PyProof.Rows.SeqCalls
import KE.KRevSl
import PyProof.ZipIter
import PyProof.TupleIter
import PyProof.AttrMiss
import KE.KDictOf
import KE.KDictLaws
import PyProof.TupleOfStr
import PyProof.StrCalls2
import PyProof.Rows.StrNews2
import PyProof.Rows.StrItems
import PyProof.Rows.StrSplitAre
import PyProof.Rows.StrGen4
import PyProof.Rows.RegStrFacts
import PyProof.Rows.FStr
import PyProof.SetNew
import PyProof.Rows.SetObj
import PyProof.Seq
import PyProof.Rows.SortShell
import PyProof.FactsAll.list_3
import KE.KIntText
import PyProof.StrCalls6
import PyProof.FitsReplace
import PyProof.ToksMono
import PyProof.FactsAll.str_4
import PyProof.StrBlock
import PyProof.StrLawsTight
import PyProof.Rows.StrPartPair
import PyProof.Rows.CatFin
import PyProof.Rows.StrClose
import PyProof.Rows.StrNext
import PyProof.Rows.StrBetween
import Lean
import PySem.Challenge.RW_onefolk_k72_whole_joinings_and_bars
open PySem.W (instObj methodObj keepIn cellsFrom_some fnOf codeIn nsIn mg_of)
set_option maxRecDepth 100000
set_option maxHeartbeats 4000000
set_option linter.all false
set_option Elab.async false
section
open PySem PySem.Spec PyProof.Rows
abbrev LS_:=List PySem.Str
abbrev VP_:=PySem.Value->PySem.Shared->Prop
abbrev FG_:=PySem.W.Frag
abbrev LI_:=List Int
abbrev zb:=@wpAny_bind
abbrev zd:=@Heap.get?_push_of_some
abbrev ze:=@wpAny_pure
abbrev zg:=@List.mem_cons_of_mem
abbrev zh:=@List.mem_cons_self
abbrev zi:=@Nat.le_refl
abbrev zk:=@if_pos
abbrev zl:=@Bool.false_eq_true
abbrev zo:=@List.length_map
abbrev zr:=@List.map_cons
abbrev zt:=@List.size_toArray
abbrev zv:=@Heap.get?_push_size
abbrev zw:=@if_neg
abbrev zz:=@Heap.lt_size
abbrev zC:=@Nat.le_of_ble_eq_true
abbrev zD:=@Nat.ne_of_lt
abbrev zI:=@Bool.false_ne_true
abbrev zS:=@List.length_append
abbrev z4:=@List.getElem?_eq_getElem
abbrev z5:=@decide_eq_true_eq
abbrev Zl:=@List.getElem?_map
abbrev Zp:=@decide_eq_true
abbrev Zs:=@Nat.le_trans
abbrev ZA:=@Bool.and_eq_true
abbrev ZE:=@decide_eq_false
abbrev ZH:=@List.length_cons
abbrev ZI:=@List.getElem?_append_left
abbrev ZN:=@Nat.lt_of_lt_of_le
abbrev ZO:=@if_false
abbrev ZT:=@List.getElem?_cons_succ
abbrev ZU:=@Array.getElem?_eq_getElem
abbrev ZY:=@List.all_eq_true
abbrev ZZ:=@Array.length_toList
abbrev Z3:=@List.mem_of_getElem?
abbrev qa:=@Nat.lt_succ_self
abbrev qc:=@List.mem_append_right
abbrev qf:=@PySem.W.mg_none_of
abbrev qh:=@Heap.size_push
abbrev qi:=@List.getElem?_append_right
abbrev qk:=@Array.getElem?_toList
abbrev qo:=@List.map_append
abbrev qq:=@wpAny_newObj_type
abbrev qr:=@of_decide_eq_true
abbrev qv:=@List.mem_append_left
abbrev qA:=@if_true
abbrev qB:=@List.getElem?_eq_none
abbrev qE:=@Nat.lt_succ_of_lt
abbrev qS:=@wpAny_mono
abbrev qV:=@List.map_map
abbrev Qb:=@List.find?_cons
abbrev Qr:=@Bool.not_eq_true'
abbrev QA:=@Or.inr
abbrev QE:=@List.getElem?_replicate
abbrev QI:=@Nat.zero_le
abbrev QN:=@wpAny_holding
abbrev QO:=@List.foldl_cons
abbrev QP:=@wpAny_typeOf
abbrev QQ:=@wpAny_setState_of
abbrev QR:=@List.mem_cons
abbrev QU:=@decide_eq_false_iff_not
abbrev QY:=@List.map_id'
abbrev Q1:=@wpAny_truthy_bool
abbrev Q2:=@List.getElem_of_mem
abbrev Q3:=@Nat.le_of_lt
abbrev Q4:=@List.append_assoc
abbrev ja:=@Or.inl
abbrev js:=@Nat.not_lt_zero
abbrev jv:=@List.map_congr_left
abbrev jI:=@Heap.get?_update_ne
abbrev jS:=@Nat.lt_irrefl
abbrev j0:=@List.not_mem_nil
abbrev j3:=@List.any_eq_true
abbrev Jn:=@List.rel_of_pairwise_cons
abbrev JA:=@codeAny_builtin
abbrev JE:=@Option.some.inj
abbrev JJ:=@List.mem_filter
abbrev JO:=@List.cons.injEq
abbrev JP:=@List.append_nil
abbrev JU:=@Bool.eq_iff_iff
abbrev JY:=@Nat.zero_add
abbrev ka:=@List.map_nil
abbrev kb:=@List.any_cons
abbrev kc:=@List.Pairwise.imp_of_mem
abbrev ke:=@PySem.mem_of_lookup
abbrev kf:=@wpAny_isInstance
abbrev kg:=@wpAny_call_entry
abbrev ki:=@List.length_take
abbrev km:=@wpAny_passesOwn
abbrev ko:=@List.length_set
abbrev kq:=@List.all_cons
abbrev kr:=@Bool.not_true
abbrev ku:=@List.lookup_cons_self
abbrev ky:=@List.length_singleton
abbrev kz:=@Bool.not_false
abbrev kA:=@decide_false
abbrev kB:=@List.length_drop
abbrev kC:=@List.filter_cons
abbrev kD:=@List.filterMap_cons
abbrev kF:=@wpAny_comprehension_free
abbrev kK:=@Nat.lt_of_le_of_lt
abbrev kL:=@List.append_of_mem
abbrev kM:=@wpAny_getItem_str_slice
abbrev kN:=@List.pairwise_mergeSort
abbrev kP:=@List.mem_map
abbrev kQ:=@List.reverse_cons
abbrev kR:=@List.pairwise_map
abbrev kU:=@List.nodup_append
abbrev kX:=@List.length_range
abbrev k4:=@Int.toNat_natCast
abbrev k5:=@Array.size_append
abbrev k6:=@List.length_pos_of_mem
abbrev k7:=@Array.getElem?_eq_none
abbrev k8:=@Heap.get?_update_self
abbrev k9:=@wpAny_rule
abbrev Kb:=@Bool.and_true
abbrev Ki:=@decide_true
abbrev Kj:=@Nat.le_succ
abbrev Kk:=@List.mem_erase_of_ne
abbrev Kn:=@List.nil_append
abbrev Kt:=@Bool.or_eq_true
abbrev Kx:=@List.replicate_succ
abbrev KA:=@List.mergeSort_perm
abbrev KB:=@Nat.ne_of_gt
abbrev KF:=@List.all_map
abbrev KG:=@wpAny_load
abbrev KI:=@List.nodup_nil
abbrev KL:=@List.mem_range
abbrev KM:=@List.Perm.refl
abbrev KO:=@Bool.false_and
abbrev KP:=@Bool.and_false
abbrev KS:=@Option.isSome_some
abbrev KU:=@Obj.data_mapFields
abbrev KW:=@List.mem_of_find?_eq_some
abbrev K0:=@Ne.symm
abbrev K2:=@List.getElem?_set
abbrev ya:=@List.foldl_append
abbrev yb:=@wpAny_standAt
abbrev ye:=@Bool.true_and
abbrev yf:=@PySem.F.args_tuple_add_2
abbrev yi:=@List.length_erase_of_mem
abbrev yk:=@List.nodup_range
abbrev ym:=@List.getElem_mem
abbrev yn:=@wpAny_callSpecial?_slot
abbrev yo:=@PySem.F.plainAttrs_list
abbrev yv:=@PySem.F.entry_tuple_add
abbrev yz:=@List.filter_cons_of_pos
abbrev yA:=@F.plain_set_update_loop
end
section
namespace L2
open PySem PySem.Spec PyProof.Rows
abbrev Key:=Sum Int Str
def kE:Key->Value->Bool
 |.inl k,v=>Value.isInt k v
 |.inr x,v=>Value.isStrOf x v
def ah8 (w:World):Key->Int
 |.inl k=>hashInt k
 |.inr x=>hashStr w x
theorem bL:∀ {k:Key} {v:Value},kE k v=true->(∃ i t,k=Sum.inl i/\v=Value.int i t)\/(∃ x t,k=Sum.inr x/\v=Value.str x t)
 |.inl i,v,h=>by
  obtain⟨t,e⟩:=Value.isInt_shape (k:=i) (v:=v) h;exact .inl ⟨i,t,rfl,e⟩
 |.inr x,v,h=>by
  obtain⟨t,e⟩:=Value.isStrOf_shape (x:=x) (v:=v) h;exact .inr ⟨x,t,rfl,e⟩
theorem Vk (i:Int) (t:Tok):kE (.inl i) (.int i t)=true:=by simp[kE,Value.isInt]
theorem Vl (x:Str) (t:Tok):kE (.inr x) (.str x t)=true:=by simp[kE,Value.isStrOf]
theorem adM (a b:Int):decide ((Sum.inl a:Key)=Sum.inl b)=(a==b):=by
 by_cases e:a=b
 ·subst e;simp
 ·have h:¬ (Sum.inl a:Key)=Sum.inl b:=λq=>e (Sum.inl.inj q);rw[ZE h];exact(beq_eq_false_iff_ne.mpr e).symm
theorem adN (a b:Str):decide ((Sum.inr a:Key)=Sum.inr b)=decide (a=b):=by
 by_cases e:a=b
 ·subst e;simp
 ·have h:¬ (Sum.inr a:Key)=Sum.inr b:=λq=>e (Sum.inr.inj q);rw[ZE h,ZE e]
theorem adO (a:Int) (b:Str):decide ((Sum.inl a:Key)=Sum.inr b)=false:=ZE (λq=>nomatch q)
theorem adP (a:Str) (b:Int):decide ((Sum.inr a:Key)=Sum.inl b)=false:=ZE (λq=>nomatch q)
def aX (prog:Program) (w:World):PySem.KeyKind prog w Key where
 is:=kE
 hash:=ah8 w
 inj:=λv a b ha hb=>by
  rcases bL ha with⟨i,t,rfl,rfl⟩|⟨x,t,rfl,rfl⟩
  ·rcases bL hb with⟨j,u,rfl,e⟩|⟨y,u,rfl,e⟩
   ·injection e with e1 _;rw[e1]
   ·exact nomatch e
  ·rcases bL hb with⟨j,u,rfl,e⟩|⟨y,u,rfl,e⟩
   ·exact nomatch e
   ·injection e with e1 _;rw[e1]
 byValue:=λk v h=>by
  rcases bL h with⟨i,t,rfl,rfl⟩|⟨x,t,rfl,rfl⟩<;>rfl
 pyHash:=λhv h=>by
  rcases bL hv with⟨i,t,rfl,rfl⟩|⟨x,t,rfl,rfl⟩
  ·exact wpAny_pyHash_int h
  ·exact wpAny_pyHash_str h
 eqBool:=λhu hv h=>by
  rcases bL hu with⟨i,t,rfl,rfl⟩|⟨x,t,rfl,rfl⟩
  ·rcases bL hv with⟨j,u,rfl,rfl⟩|⟨y,u,rfl,rfl⟩
   ·rw[adM] at h;exact wpAny_eqBool_int h
   ·rw[adO] at h;exact SeqAt.EqAt.int_str i t y u _ _ _ _ h
  ·rcases bL hv with⟨j,u,rfl,rfl⟩|⟨y,u,rfl,rfl⟩
   ·rw[adP] at h;exact SeqAt.EqAt.str_int x t j u _ _ _ _ h
   ·rw[adN] at h;exact wpAny_eqBool_str h
 «strs»:=λk x t v h=>by
  rcases bL h with⟨i,u,rfl,e⟩|⟨y,u,rfl,e⟩
  ·exact nomatch e
  ·injection e with e1 _;subst e1;cases v<;>rfl
theorem Nk (prog:Program) (w:World) (i:Int) (t:Tok):(aX prog w).is (.inl i) (.int i t)=true:=Vk i t
theorem Np (prog:Program) (w:World) (x:Str) (t:Tok):(aX prog w).is (.inr x) (.str x t)=true:=Vl x t
end L2
namespace L2
open PySem PySem.Spec PyProof.Rows
inductive V where
 |non|bl (b:Bool)|int (i:Int)|str (x:Str)|byt (b:Array UInt8)|flt (b:UInt64)|ref (a:Addr)|ty (n:String)
 deriving DecidableEq
def RelV:V->Value->Prop
 |.non,u=>u=Value.none
 |.bl b,u=>u=Value.bool b
 |.int i,u=>∃ t,u=Value.int i t
 |.str x,u=>∃ t,u=Value.str x t
 |.byt b,u=>∃ t,u=Value.bytes b t
 |.flt b,u=>∃ t,u=Value.float b t
 |.ref a,u=>u=Value.ref a
 |.ty n,u=>u=Value.type n
abbrev Vals:List V->List Value->Prop:=Paired RelV
theorem Vals.length {xs:List V} {us:List Value} (r:Vals xs us):xs.length=us.length:=Paired.length r
theorem Vals.get:∀ {xs:List V} {us:List Value} {i:Nat} {x:V},Vals xs us->xs[i]?=some x->∃ u,us[i]?=some u/\RelV x u
 |_,_,_,_,.nil,e=>by simp at e
 |_,_,0,_,.cons r _,e=>by simp at e;subst e;exact⟨_,rfl,r⟩
 |_,_,i+1,x,.cons _ t,e=>by
  obtain⟨u,h1,h2⟩:=Vals.get (i:=i) (x:=x) t (by simpa using e);exact⟨u,by simpa using h1,h2⟩
theorem Vals.set {x:V} {u:Value} (r:RelV x u):∀ {xs:List V} {us:List Value} (i:Nat),Vals xs us->Vals (xs.set i x) (us.set i u)
 |_,_,_,.nil=>.nil
 |_,_,0,.cons _ t=>.cons r t
 |_,_,i+1,.cons q t=>.cons q (Vals.set r i t)
theorem Vals.append:∀ {xs ys:List V} {us ws:List Value},Vals xs us->Vals ys ws->Vals (xs++ys) (us++ws)
 |_,_,_,_,.nil,s=>s
 |_,_,_,_,.cons r t,s=>.cons r (Vals.append t s)
theorem Vals.take:∀ {xs:List V} {us:List Value} (n:Nat),Vals xs us->Vals (xs.take n) (us.take n)
 |_,_,0,_=>.nil
 |_,_,_+1,.nil=>.nil
 |_,_,n+1,.cons r t=>.cons r (Vals.take n t)
theorem Vals.drop:∀ {xs:List V} {us:List Value} (n:Nat),Vals xs us->Vals (xs.drop n) (us.drop n)
 |_,_,0,r=>r
 |_,_,_+1,.nil=>.nil
 |_,_,n+1,.cons _ t=>Vals.drop n t
def Ed:Option V->Option Value->Prop
 |some v,some u=>RelV v u
 |none,none=>True
 |_,_=>False
def KV {κ:Type}:List (κ×V)->List (κ×Value)->Prop:=Paired λ(p:κ×V) (q:κ×Value)=>p.1=q.1/\RelV p.2 q.2
def kV:Key->V
 |.inl i=>.int i
 |.inr x=>.str x
inductive HO where
 |lst (xs:List V)
 |tup (xs:List V)
 |dK (kvs:List (Key×V))|dT (kvs:List (List Key×V))
 |set (S:Int->Bool) (n:Nat)
 |ins (C dx:Addr) (fs:List (Str×V))
 |own (x:Addr)
 |xd (fs:List (Str×V))
 |met (f x:Addr)
 |rng (lo hi:Int)
 |sY (o:Obj) (u:HO)
 |tbl (ps:Array Value)
 |ext (φ:Heap->Prop)
abbrev Hp:=Addr->Option HO
def upd (H:Hp) (a:Addr) (o:HO):Hp:=λb=>if b=a then some o else H b
theorem bG {H:Hp} {a:Addr} {o:HO}:upd H a o a=some o:=by unfold upd;rw[zk rfl]
theorem aR {H:Hp} {a b:Addr} {o:HO} (h:b≠a):upd H a o b=H b:=by unfold upd;rw[zw h]
def uO (h:Heap) (a:Addr) (items:Array Value):Prop:=∃ o,h.get? a=some o/\o.cls=.type "tuple" ∧ (∃ n,o.data=.seq items n)/\o.dict=none
theorem uO.weak {h:Heap} {a:Addr} {items:Array Value} (x:uO h a items):IsTup h a items:=let ⟨o,e,c,d,_⟩:=x;⟨o,e,c,d⟩
theorem uO.new (h:Heap) (items:Array Value):uO (h.push { cls:=.type "tuple", data:=.seq items }) h.objs.size items:=⟨_,zv _ rfl,rfl,⟨_,rfl⟩,rfl⟩
theorem oH {H:Hp} {a b:Addr} {o u:HO} (h:H a=some o) (h':H b=some u) (d:o≠u):a≠b:=by
 intro e;subst e;rw[h] at h';exact d (JE h')
theorem dR {H:Hp} {a b:Addr} {o:HO} (h:H a=some o) (h':H b=none):a≠b:=by
 intro e;subst e;rw[h] at h';cases h'
section
variable (P:Program) (w:World)
def gQ (H:Hp) (h:Heap) (a:Addr):HO->Prop
 |.lst xs=>xs.length<=sizeLine/\∃ (its:List Value) (n:Nat),Vals xs its/\h.get? a=some { cls:=.type "list", data:=.seq its.toArray n }
 |.tup xs=>xs.length<=sizeLine/\∃ its:List Value,Vals xs its/\uO h a its.toArray
 |.dK kvs=>kvs.length<=sizeLine/\(a==sysModules)=false/\∃ vs,KV kvs vs/\h.DictOf (aX P w) a vs
 |.dT kvs=>kvs.length<=sizeLine/\(a==sysModules)=false/\∃ xs:List (List Key×Addr×Value),
   Paired (λ(p:List Key×V) (q:List Key×Addr×Value)=>p.1=q.1/\H q.2.1=some (.tup (p.1.map kV))/\RelV p.2 q.2.2) kvs xs ∧
   ∃ o es ep,h.get? a=some o/\o.ExactDict/\o.data=.dict es ep/\es.toList=xs.map (entryOfKey (tupleKind (aX P w)))/\(xs.map (·.1)).Nodup
 |.set S n=>h.SetOf (intKind P w) a S n
 |.ins C dx fs=>H dx=some (.own a)/\fs.length<=1000/\dx≠a/\h.get? a=some (instObj C dx) ∧
   ∃ mA,h.Ns1 dx mA/\(∀ f,Ed (fs.lookup f) (mA f))/\PySem.Within mA (fs.map (·.1))
 |.own _=>∃ o,h.get? a=some o
 |.xd fs=>∃ mA,h.Ns1 a mA/\∀ f,Ed (fs.lookup f) (mA f)
 |.rng lo hi=>∃ t u v,h.get? a=some { cls:=.type "range", data:=.fields #[.int lo t,.int hi u,.int 1 v] }
 |.sY o u=>h.get? a=some o/\gQ H h a u
 |.tbl ps=>h.get? a=some { cls:=.none,data:=.fields ps }
 |.met f x=>h.get? a=some (methodObj (.ref f) (.ref x))
 |.ext φ=>φ h/\(∃ o,h.get? a=some o)/\∀ h1 h2:Heap,φ h1->(∀ o,h1.get? a=some o->h2.get? a=some o)->φ h2
def yF (H:Hp) (h:Heap):Prop:=∀ a o,H a=some o->gQ P w H h a o
end
section
variable {P:Program} {w:World} {H H':Hp} {h h':Heap} {a:Addr} {o:HO}
theorem gQ.lt (x:gQ P w H h a o):a < h.objs.size:=by
 cases o with
 |lst xs=>obtain⟨_,_,_,_,e⟩:=x;exact zz e
 |tup xs=>obtain⟨_,_,_,p⟩:=x;exact p.weak.lt
 |dK kvs=>obtain⟨_,_,_,_,o,_,_,e,_⟩:=x;exact zz e
 |dT kvs=>obtain⟨_,_,_,_,o,_,_,e,_⟩:=x;exact zz e
 |set S n=>obtain⟨o,_,_,_,e,_⟩:=x;exact zz e
 |ins C dx fs=>obtain⟨_,_,_,e,_⟩:=x;exact zz e
 |own y=>obtain⟨_,e⟩:=x;exact zz e
 |xd fs=>obtain⟨_,⟨_,_,_,e,_⟩,_⟩:=x;exact zz e
 |rng lo hi=>obtain⟨_,_,_,e⟩:=x;exact zz e
 |sY ob u=>obtain⟨e,_⟩:=x;exact zz e
 |tbl ps=>exact zz (show h.get? a=some _ from x)
 |met f y=>exact zz (show h.get? a=some _ from x)
 |ext φ=>obtain⟨_,⟨_,e⟩,_⟩:=x;exact zz e
theorem Paired.aaM {α β:Type} {F G:α->β->Prop}:∀ {l₁:List α} {l₂:List β},Paired F l₁ l₂->(∀ a b,F a b->G a b)->Paired G l₁ l₂
 |_,_,.nil,_=>.nil
 |_,_,.cons r t,f=>.cons (f _ _ r) (Paired.aaM t f)
theorem Paired.imp' {α β:Type} {F G:α->β->Prop} (f:∀ a b,F a b->G a b) {l₁:List α} {l₂:List β} (r:Paired F l₁ l₂):Paired G l₁ l₂:=Paired.aaM r f
theorem gQ.stay (x:gQ P w H h a o) (k:∀ b u,(b=a\/H b=some (.own a))->h.get? b=some u->h'.get? b=some u)
  (ho:∀ b,H b=some (.own a)->H' b=some (.own a)) (ht:∀ b xs,H b=some (.tup xs)->H' b=some (.tup xs)):gQ P w H' h' a o:=by
 induction o with
 |lst xs=>obtain⟨z,its,n,r,e⟩:=x;exact⟨z,its,n,r,k _ _ (.inl rfl) e⟩
 |tup xs=>obtain⟨z,its,r,ob,e,c⟩:=x;exact⟨z,its,r,ob,k _ _ (.inl rfl) e,c⟩
 |dK kvs=>obtain⟨z,y,vs,r,ob,es,ep,e,c⟩:=x;exact⟨z,y,vs,r,ob,es,ep,k _ _ (.inl rfl) e,c⟩
 |dT kvs=>
  obtain⟨z,y,xs,r,ob,es,ep,e,c⟩:=x;exact⟨z,y,xs,Paired.aaM r λp q z=>⟨z.1,ht _ _ z.2.1,z.2.2⟩,ob,es,ep,k _ _ (.inl rfl) e,c⟩
 |set S n=>obtain⟨ob,es,ep,t,e,c⟩:=x;exact⟨ob,es,ep,t,k _ _ (.inl rfl) e,c⟩
 |ins C dx fs=>
  obtain⟨d,z,ne,e,mA,⟨od,es,ep,e2,c⟩,r⟩:=x;exact⟨ho _ d,z,ne,k _ _ (.inl rfl) e,mA,⟨od,es,ep,k _ _ (.inr d) e2,c⟩,r⟩
 |own y=>obtain⟨ob,e⟩:=x;exact⟨ob,k _ _ (.inl rfl) e⟩
 |xd fs=>obtain⟨mA,⟨od,es,ep,e,c⟩,r⟩:=x;exact⟨mA,⟨od,es,ep,k _ _ (.inl rfl) e,c⟩,r⟩
 |rng lo hi=>obtain⟨t,u,v,e⟩:=x;exact⟨t,u,v,k _ _ (.inl rfl) e⟩
 |sY ob u ih=>obtain⟨e,q⟩:=x;exact⟨k _ _ (.inl rfl) e,ih q⟩
 |tbl ps=>
  have e:h.get? a=some { cls:=.none,data:=.fields ps }:=x;show h'.get? a=some { cls:=.none,data:=.fields ps };exact k a _ (.inl rfl) e
 |met f y=>
  have e:h.get? a=some (methodObj (.ref f) (.ref y)):=x;show h'.get? a=some (methodObj (.ref f) (.ref y));exact k a _ (.inl rfl) e
 |ext φ=>obtain⟨p,⟨o,e⟩,st⟩:=x;exact⟨st _ _ p λo q=>k _ _ (.inl rfl) q,⟨o,k _ _ (.inl rfl) e⟩,st⟩
theorem yF.lt (x:yF P w H h) (e:H a=some o):a < h.objs.size:=(x a o e).lt
theorem yF.fresh (x:yF P w H h) (e:h.objs.size<=a):H a=none:=by
 cases q:H a with
 |none=>rfl
 |some u=>exact absurd (ZN (x.lt q) e) (jS _)
theorem yF.kept (x:yF P w H h) (k:∀ b u,h.get? b=some u->h'.get? b=some u):yF P w H h':=λa o e=>
 (x a o e).stay (λb u _ q=>k b u q) (λ_ q=>q) λ_ _ q=>q
theorem yF.laid (x:yF P w H h) (k:∀ b u,h.get? b=some u->h'.get? b=some u) (hp:h.objs.size<=a) (new:gQ P w (upd H a o) h' a o):yF P w (upd H a o) h':=λb u e=>by
 have hn:=x.fresh hp;by_cases hb:b=a
 ·subst hb;rw[bG] at e;cases e;exact new
 ·rw[aR hb] at e;exact(x b u e).stay (λc v _ q=>k c v q) (λc q=>by rw[aR (dR q hn)];exact q) λc xs q=>by rw[aR (dR q hn)];exact q
end
def Rd (H:Hp) (a:Addr) (u:HO):Prop:=H a=some u\/∃ o,H a=some (.sY o u)
theorem Rd.ok {P:Program} {w:World} {H:Hp} {h:Heap} {a:Addr} {u:HO} (r:Rd H a u) (x:yF P w H h):gQ P w H h a u:=by
 rcases r with r|⟨o,r⟩
 ·exact x a u r
 ·obtain⟨_,q⟩:=x a _ r;exact q
def Mut:Option HO->Prop
 |some (.lst _)=>True
 |some (.dK _)=>True
 |some (.dT _)=>True
 |some (.set _ _)=>True
 |some (.ins _ _ _)=>True
 |some (.ext _)=>True
 |_=>False
section
variable {P:Program} {w:World} {H:Hp} {h h':Heap} {x e:Addr} {o':HO}
theorem yF.write (ok:yF P w H h) (mu:Mut (H x)) (he:e=x\/H e=some (.own x)) (k:∀ b u,b≠e->h.get? b=some u->h'.get? b=some u) (heo:∃ u,h'.get? e=some u)
  (new:gQ P w (upd H x o') h' x o'):yF P w (upd H x o') h':=λb u q=>by
 have agc:∀ c y,H c=some (.own y)->c≠x:=λc y r z=>by subst z;rw[r] at mu;exact mu
 have ah9:∀ c xs,H c=some (.tup xs)->c≠x:=λc xs r z=>by subst z;rw[r] at mu;exact mu
 by_cases hb:b=x
 ·subst hb;rw[bG] at q;cases q;exact new
 ·rw[aR hb] at q;by_cases hbe:b=e
  ·have q':H b=some (.own x):=by
    rcases he with z|z
    ·exact absurd (hbe.trans z) hb
    ·rw[hbe];exact z
   rw[q] at q';cases q';obtain⟨v,hv⟩:=heo;exact⟨v,by rw[hbe];exact hv⟩
  ·refine(ok b u q).stay (λc v hc r=>k c v ?_ r) (λc r=>by rw[aR (agc c b r)];exact r) λc xs r=>by rw[aR (ah9 c xs r)];exact r
   rcases hc with rfl|hc
   ·exact hbe
   ·rintro rfl;rcases he with z|z
    ·exact agc c b hc z
    ·rw[hc] at z;cases z;exact hb rfl
end
structure Un (fs ex:List Addr) (H H':Hp) (h h':Heap):Prop where
 keep:∀ b o,h.get? b=some o->H b=none->b∉fs->b∉ex->h'.get? b=some o
 slot:∀ b o,h.get? b=some o->H b=none->b∈fs->b∉ex->∃ sl,h'.get? b=some { o with slots:=sl }
 free:∀ b o,h.get? b=some o->H b=none->b∉ex->H' b=none
 there:∀ b o,h.get? b=some o->b∉ex->∃ o',h'.get? b=some o'
 tups:∀ b xs,H b=some (.tup xs)->H' b=some (.tup xs)
 Cz:∀ b o u,H b=some (.sY o u)->H' b=some (.sY o u)
 Hu:∀ b ps,H b=some (.tbl ps)->∃ more,H' b=some (.tbl (ps++more))
section
variable {fs fs' ex ex':List Addr} {H H1 H2:Hp} {h h1 h2 h':Heap} {a x e:Addr} {o:HO}
theorem Un.any (u:Un fs ex H H1 h h1) {b:Addr} {ob:Obj} (q:h.get? b=some ob) (n:H b=none) (hx:b∉ex):∃ sl,h1.get? b=some { ob with slots:=sl }:=by
 by_cases hb:b∈fs
 ·exact u.slot b ob q n hb hx
 ·exact⟨ob.slots,u.keep b ob q n hb hx⟩
theorem Un.kept (k:∀ b u,h.get? b=some u->h'.get? b=some u):Un fs ex H H h h':=
 ⟨λb ob q _ _ _=>k b ob q,λb ob q _ _ _=>⟨ob.slots,k b ob q⟩,λ_ _ _ n _=>n,λb ob q _=>⟨ob,k b ob q⟩,λ_ _ q=>q,λ_ _ _ q=>q,λ_ ps q=>⟨#[],by rw[q];simp⟩⟩
theorem Un.refl:Un fs ex H H h h:=Un.kept λ_ _ q=>q
theorem Un.laid (k:∀ b u,h.get? b=some u->h'.get? b=some u) (hp:h.objs.size<=a) (hn:H a=none):Un fs ex H (upd H a o) h h' where
 keep:=λb u q _ _ _=>k b u q
 slot:=λb u q _ _ _=>⟨u.slots,k b u q⟩
 free:=λb u q n _=>by rw[aR (zD (ZN (zz q) hp))];exact n
 there:=λb u q _=>⟨u,k b u q⟩
 tups:=λb xs q=>by rw[aR (dR q hn)];exact q
 Cz:=λb u xs q=>by rw[aR (dR q hn)];exact q
 Hu:=λb ps q=>⟨#[],by rw[aR (dR q hn),q];simp⟩
theorem Un.write (mu:Mut (H x)) (he:e=x\/H e=some (.own x)) (k:∀ b u,b≠e->h.get? b=some u->h'.get? b=some u) (heo:∃ u,h'.get? e=some u):Un fs ex H (upd H x o) h h':=by
 have hx:∀ b,H b=none->b≠x:=λb n z=>by subst z;rw[n] at mu;exact mu
 have hb:∀ b,H b=none->b≠e:=λb n z=>by
  subst z;rcases he with r|r
  ·exact hx b n r
  ·rw[n] at r;cases r
 have hm:∀ b u,H b=some u->¬ Mut (some u)->b≠x:=λb u q nm z=>by subst z;rw[q] at mu;exact nm mu
 refine⟨λb u q n _ _=>k b u (hb b n) q,λb u q n _ _=>⟨u.slots,k b u (hb b n) q⟩,λb u q n _=>by rw[aR (hx b n)];exact n,λb u q _=>?_,
  λb xs q=>by rw[aR (hm b _ q λz=>z)];exact q,λb u xs q=>by rw[aR (hm b _ q λz=>z)];exact q,λb ps q=>⟨#[],by rw[aR (hm b _ q λz=>z),q];simp⟩⟩
 by_cases hbe:b=e
 ·subst hbe;exact heo
 ·exact⟨u,k b u hbe q⟩
end
def trk (h:Heap) (H:Hp):List Addr:=(List.range h.objs.size).filter λa=>(H a).isSome
def J9 (h:Heap) (H:Hp):Heap:=PySem.W.hideAll h (trk h H)
theorem Vm (h:Heap) (H:Hp):(J9 h H).objs.size=h.objs.size:=PySem.W.hideAll_size _ _
theorem Xg {h:Heap} {H:Hp} {b:Addr} {o:Obj} (e:h.get? b=some o) (n:H b=none):(J9 h H).get? b=some o:=
 PySem.W.hideAll_get _ e λhm=>by
  have q:(H b).isSome=true:=(List.mem_filter.mp hm).2;rw[n] at q;simp at q
theorem aaN {h:Heap} {H:Hp} {b:Addr} {o:Obj} (e:(J9 h H).get? b=some o):h.get? b=some o/\H b=none:=by
 have e':h.get? b=some o:=PySem.W.of_hideAll (trk h H) e;refine⟨e',?_⟩;cases q:H b with
 |none=>rfl
 |some x=>
  have hm:b∈trk h H:=List.mem_filter.mpr ⟨List.mem_range.mpr (zz e'),by simp[q]⟩;have z:(J9 h H).get? b=none:=PySem.W.hideAll_none (trk h H) hm;rw[z] at e;cases e
def aaO (g h:Heap) (L:Addr):List (Addr×Obj):=(List.range h.objs.size).filterMap λa=>if a=L\/(g.get? a).isSome=true then none else(h.get? a).map λo=>(a,o)
def rest (g h:Heap) (L d:Addr):List (Addr×Obj):=(aaO g h L).filter λp=>decide (p.1≠d)
end L2
namespace L2
open PySem PySem.Spec PyProof.Rows
structure Mod (K:FG_) (mg:Str->Option Value) (base:Heap):Prop where
 kin:K.In base
 glob:base.Ns mainGlobals mg
 blt:∃ mb,base.Ns builtinsNs mb/\∀ x:Str,x ≠ "__name__" → mb x=bootBuiltins x
 nolimit:base.NoLimit
structure Cx where
 prog:Program
 w:World
 K:FG_
 mg:Str->Option Value
 base:Heap
 A:Around
 N:LS_
 s₀:Shared
 H₀:Hp
 env:Env
 outer:List Env
 stack:List Env
 ex:List Addr
 fn:Str->Bool
 calm:Bool
 pn:List (Addr×Obj)
 xe:VP_
def frs (l:List Env):List Addr:=l.filterMap (·.frame)
abbrev Cx.fs (X:Cx):List Addr:=frs X.outer
def Tv (sc:Scope) (x:Str):Prop:=sc.names.lookup x=some .local\/sc.names.lookup x=some .cell\/sc.names.lookup x=some .free
def Loc (sc:Scope) (x:Str):Prop:=sc.names.lookup x=some .local\/sc.names.lookup x=some .cell
def Look (env:Env) (h:Heap) (m:Str->Option Value) (x:Str) (u:Value):Prop:=
 (env.kindOf x=some .local/\m x=some u)\/((env.kindOf x=some .cell\/env.kindOf x=some .free)/\∃ c,env.cells.lookup x=some c/\h.IsCell c (some u))
structure Cx.Ok (X:Cx):Prop where
 mod:Mod X.K X.mg X.base
 kind:X.env.scope.kind=.function
 glob:X.env.globals=mainGlobals
 blt:X.env.builtins=builtinsNs
 above:X.s₀.heap.objs.size<=X.env.locals
 inj:∀ x y c,X.env.cells.lookup x=some c->X.env.cells.lookup y=some c->x=y
 has:∀ x,(X.env.kindOf x=some .cell\/X.env.kindOf x=some .free)->∃ c,X.env.cells.lookup x=some c
 cab:∀ x c,X.fn x=true->X.env.cells.lookup x=some c->X.s₀.heap.objs.size<=c
 hd:X.calm=true->X.A.handled=none
 frames:X.A.frames=some X.stack
 stk:X.stack=X.outer\/(X.stack=X.env::X.outer/\X.env.frame=some X.env.locals)
 exf:∀ b∈X.ex,b≠X.env.locals/\∀ x c,X.env.cells.lookup x=some c->c≠b
 bs:∀ b o,X.base.get? b=some o->X.s₀.heap.get? b=some o/\X.H₀ b=none
 bsz:X.base.objs.size<=X.s₀.heap.objs.size
 Xh:∀ b o,X.base.get? b=some o->b∉X.ex
 aaP:∀ b∈X.ex,b∉X.fs
 Ef:X.s₀.heap.FunFrames X.base X.outer
 frf:∀ b∈X.fs,X.H₀ b=none
structure Inv (X:Cx) (pins:List (Addr×Obj)) (σ:List (Option V)) (H:Hp) (s:Shared):Prop where
 ok:X.Ok
 os:s.os=X.s₀.os
 bare:AllBare s.gens
 base:Un X.fs X.ex X.H₀ H X.s₀.heap s.heap
 loc:∃ m,s.heap.Ns X.env.locals m/\∀ (i:Nat) (x:Str) (v:V),X.N[i]?=some x->σ[i]?=some (some v)->Tv X.env.scope x->∃ u,RelV v u/\Look X.env s.heap m x u
 cell:∀ x c,X.env.cells.lookup x=some c->∃ v,s.heap.IsCell c v
 free:H X.env.locals=none
 qm:∀ x c,X.env.cells.lookup x=some c->H c=none
 pin:∀ p∈X.pn++pins,s.heap.get? p.1=some p.2/\H p.1=none/\p.1≠X.env.locals/\p.1∉X.fs/\∀ v,p.2.data≠.cell v
 hok:yF X.prog X.w H s.heap
 len:σ.length=X.N.length
section
variable {X:Cx} {pins:List (Addr×Obj)} {σ:List (Option V)} {H H':Hp} {s:Shared} {h':Heap}
theorem Cx.Ok.aib (ok:X.Ok) {b:Addr} {o:Obj} (e:X.base.get? b=some o):b∉X.fs:=λhb=>by
 have:=(ok.Ef.mem hb).1;rw[e] at this;cases this
theorem Inv.bs (I:Inv X pins σ H s):∀ b o,X.base.get? b=some o->s.heap.get? b=some o/\H b=none:=λb o e=>
 ⟨I.base.keep b o (I.ok.bs b o e).1 (I.ok.bs b o e).2 (I.ok.aib e) (I.ok.Xh b o e),I.base.free b o (I.ok.bs b o e).1 (I.ok.bs b o e).2 (I.ok.Xh b o e)⟩
theorem Inv.bk (I:Inv X pins σ H s):∀ b o,X.base.get? b=some o->s.heap.get? b=some o:=λb o e=>(I.bs b o e).1
theorem Inv.mod (I:Inv X pins σ H s):Mod X.K X.mg X.base:=I.ok.mod
theorem Inv.kIn (I:Inv X pins σ H s):X.K.In s.heap:=I.ok.mod.kin.keeps I.bk
theorem Inv.lt (I:Inv X pins σ H s):X.env.locals < s.heap.objs.size:=let ⟨_,hn,_⟩:=I.loc;hn.lt
theorem Inv.sz (I:Inv X pins σ H s):X.s₀.heap.objs.size<=s.heap.objs.size:=Zs I.ok.above (Q3 I.lt)
theorem Inv.aic (I:Inv X pins σ H s) {a:Addr} (h:s.heap.objs.size<=a):a∉X.fs:=λhb=>by
 obtain⟨_,o,ho,_⟩:=I.ok.Ef.mem hb;exact absurd (ZN (zz ho) (Zs I.sz h)) (jS _)
theorem Inv.cne (I:Inv X pins σ H s):∀ x c,X.env.cells.lookup x=some c->c≠X.env.locals:=λx c e z=>by
 obtain⟨v,o,ho,hd⟩:=I.cell x c e;obtain⟨m,⟨o',es,ep,ho',hd',_⟩,_⟩:=I.loc;rw[z,ho'] at ho;cases ho;rw[hd'] at hd;cases hd
theorem Inv.Ef (I:Inv X pins σ H s):s.heap.FunFrames X.base X.outer:=by
 have all:∀ (l:List Env),(∀ b∈frs l,b∈X.fs)->X.s₀.heap.FunFrames X.base l->s.heap.FunFrames X.base l:=by
  intro l
  induction l with
  |nil=>intro _ _;trivial
  |cons env r ih=>
   intro hs hl;obtain⟨hk,⟨L,o,hf,hn,ho,hd⟩,hr⟩:=hl;have hL:L∈X.fs:=hs L (by unfold frs;rw[kD,hf];exact zh);obtain⟨sl,e⟩:=I.base.slot L o ho (I.ok.frf L hL) hL λz=>I.ok.aaP L z hL;exact⟨hk,⟨L,_,hf,hn,e,hd⟩,ih (λb hb=>hs b (by unfold frs;rw[kD,hf];exact zg _ hb)) hr⟩
 exact all X.outer (λ_ hb=>hb) I.ok.Ef
theorem Inv.stack (I:Inv X pins σ H s):s.heap.FunFrames X.base X.stack:=by
 rcases I.ok.stk with e|⟨e,hf⟩
 ·rw[e];exact I.Ef
 ·rw[e];obtain⟨m,hn,_⟩:=I.loc;refine .cons (by rw[I.ok.kind];decide) hf hn ?_ I.Ef;exact Heap.get?_none_of_le (Zs I.ok.bsz I.ok.above)
theorem Inv.Ka (I:Inv X pins σ H s):∀ b∈frs X.stack,b∈X.env.locals::X.fs:=λb hb=>by
 rcases I.ok.stk with e|⟨e,hf⟩
 ·rw[e] at hb;exact zg _ hb
 ·rw[e] at hb;unfold frs at hb;rw[kD,hf] at hb;exact hb
theorem Inv.Tw (I:Inv X pins σ H s):∀ b∈frs X.stack,H b=none:=λb hb=>by
 rcases List.mem_cons.mp (I.Ka b hb) with e|hb
 ·rw[e];exact I.free
 ·obtain⟨_,o,ho,_⟩:=I.ok.Ef.mem hb;exact I.base.free b o ho (I.ok.frf b hb) λz=>I.ok.aaP b z hb
theorem Inv.step {g':Array GenState} {t':Nat} {d':Drawn} {ch:List Addr} (I:Inv X pins σ H s)
  (hch:∀ b∈ch,(b∈X.ex\/X.s₀.heap.objs.size<=b)/\b≠X.env.locals/\(∀ x c,X.env.cells.lookup x=some c->c≠b)/\∀ p∈X.pn++pins,p.1≠b)
  (keep:∀ b o,b≠X.env.locals->b∉X.fs->b∉ch->s.heap.get? b=some o->H b=none->h'.get? b=some o)
  (slot:∀ b o,b≠X.env.locals->b∈X.fs->b∉ch->s.heap.get? b=some o->H b=none->∃ sl,h'.get? b=some { o with slots:=sl }) (free:∀ b o,b∉ch->s.heap.get? b=some o->H b=none->H' b=none)
  (there:∀ b o,b∉ch->s.heap.get? b=some o->∃ o',h'.get? b=some o')
  (tups:∀ b xs,H b=some (.tup xs)->H' b=some (.tup xs)) (Cz:∀ b o u,H b=some (.sY o u)->H' b=some (.sY o u)) (Hu:∀ b ps,H b=some (.tbl ps)->∃ more,H' b=some (.tbl (ps++more)))
  (ns:∀ m,s.heap.Ns X.env.locals m->h'.Ns X.env.locals m) (hok:yF X.prog X.w H' h') (hg:AllBare g') :
  Inv X pins σ H' { s with heap:=h',gens:=g',drawn:=d',toks:=t' }:=by
 have neL:∀ b o,X.s₀.heap.get? b=some o->b≠X.env.locals:=λb o e=>zD (ZN (zz e) I.ok.above);have neC:∀ b o,X.s₀.heap.get? b=some o->b∉X.ex->b∉ch:=λb o e hx hb=>by
  rcases(hch b hb).1 with z|z
  ·exact hx z
  ·exact absurd (ZN (zz e) z) (jS _)
 have cellK:∀ x c,X.env.cells.lookup x=some c->∀ v,s.heap.IsCell c v->h'.IsCell c v:=λx c e v ⟨o,ho,hd⟩=>by
  have nch:c∉ch:=λz=>(hch c z).2.2.1 x c e rfl;by_cases hc:c∈X.fs
  ·obtain⟨sl,q⟩:=slot c o (I.cne x c e) hc nch ho (I.qm x c e);exact⟨_,q,hd⟩
  ·exact⟨o,keep c o (I.cne x c e) hc nch ho (I.qm x c e),hd⟩
 refine⟨I.ok,I.os,hg,⟨λb o e n hb hx=>?_,λb o e n hb hx=>?_,λb o e n hx=>?_,λb o e hx=>?_,λb xs e=>tups b xs (I.base.tups b xs e),λb o xs e=>Cz b o xs (I.base.Cz b o xs e),λb ps e=>?_⟩,?_,λx c e=>?_,?_,λx c e=>?_,λp hp=>?_,hok,I.len⟩
 ·exact keep b o (neL b o e) hb (neC b o e hx) (I.base.keep b o e n hb hx) (I.base.free b o e n hx)
 ·obtain⟨sl,e1⟩:=I.base.slot b o e n hb hx;obtain⟨sl',e2⟩:=slot b _ (neL b o e) hb (neC b o e hx) e1 (I.base.free b o e n hx);exact⟨sl',e2⟩
 ·obtain⟨o',e1⟩:=I.base.there b o e hx;exact free b o' (neC b o e hx) e1 (I.base.free b o e n hx)
 ·obtain⟨o',e1⟩:=I.base.there b o e hx;exact there b o' (neC b o e hx) e1
 ·obtain⟨m1,e1⟩:=I.base.Hu b ps e;obtain⟨m2,e2⟩:=Hu b _ e1;exact⟨m1++m2,by rw[e2,Array.append_assoc]⟩
 ·obtain⟨m,hn,hl⟩:=I.loc;refine⟨m,ns m hn,λi x v e1 e2 e3=>?_⟩;obtain⟨u,r,l⟩:=hl i x v e1 e2 e3;refine⟨u,r,?_⟩;rcases l with l|⟨k,c,e,z⟩
  ·exact .inl l
  ·exact .inr ⟨k,c,e,cellK x c e _ z⟩
 ·obtain⟨v,z⟩:=I.cell x c e;exact⟨v,cellK x c e v z⟩
 ·obtain⟨m,⟨o,_,_,ho,_⟩,_⟩:=I.loc;exact free _ o (λz=>(hch _ z).2.1 rfl) ho I.free
 ·obtain⟨v,o,ho,hd⟩:=I.cell x c e;exact free c o (λz=>(hch c z).2.2.1 x c e rfl) ho (I.qm x c e)
 ·obtain⟨e,n,ne,nf,d⟩:=I.pin p hp;have nch:p.1∉ch:=λz=>(hch p.1 z).2.2.2 p hp rfl;exact⟨keep p.1 p.2 ne nf nch e n,free p.1 p.2 nch e n,ne,nf,d⟩
theorem Inv.un {t':Nat} (I:Inv X pins σ H s) (u:Un X.fs [] H H' s.heap h') (hok:yF X.prog X.w H' h'):Inv X pins σ H' { s with heap:=h',toks:=t' }:=by
 obtain⟨m,⟨o,es,ep,ho,r⟩,_⟩:=id I.loc;obtain⟨sl,hL⟩:=u.any ho I.free (by simp);exact I.step (g':=s.gens) (d':=s.drawn) (ch:=[]) (λ_ z=>nomatch z) (λb o _ hb _ e n=>u.keep b o e n hb (by simp)) (λb o _ hb _ e n=>u.slot b o e n hb (by simp)) (λb o _ e n=>u.free b o e n (by simp)) (λb o _ e=>u.there b o e (by simp)) u.tups u.Cz u.Hu (λm' hm=>by
  obtain⟨o',es',ep',ho',r'⟩:=hm;rw[ho] at ho';cases ho';exact⟨_,es',ep',hL,r'⟩) hok I.bare
theorem Inv.call {g':Array GenState} {t':Nat} {d':Drawn} {ch:List Addr} (I:Inv X pins σ H s) (u:Un (frs X.stack) ch H H' s.heap h') (hok:yF X.prog X.w H' h') (hg:AllBare g')
  (hch:∀ b∈ch,(b∈X.ex\/X.s₀.heap.objs.size<=b)/\b≠X.env.locals/\(∀ x c,X.env.cells.lookup x=some c->c≠b)/\∀ p∈X.pn++pins,p.1≠b) :
  Inv X pins σ H' { s with heap:=h',gens:=g',drawn:=d',toks:=t' }:=by
 obtain⟨m,⟨o,es,ep,ho,r⟩,_⟩:=id I.loc;obtain⟨sl,hL⟩:=u.any ho I.free λz=>(hch _ z).2.1 rfl;exact I.step (ch:=ch) hch (λb o hL hb hc e n=>u.keep b o e n (λz=>(List.mem_cons.mp (I.Ka b z)).elim hL hb) hc) (λb o _ _ hc e n=>u.any e n hc) (λb o hc e n=>u.free b o e n hc) (λb o hc e=>u.there b o e hc) u.tups u.Cz u.Hu (λm' hm=>by
  obtain⟨o',es',ep',ho',r'⟩:=hm;rw[ho] at ho';cases ho';exact⟨_,es',ep',hL,r'⟩) hok hg
theorem Inv.turned {t':Nat} {it:Addr} (I:Inv X pins σ H s) (k:∀ b o,b≠it->s.heap.get? b=some o->h'.get? b=some o) (hn:H it=none) (hL:it≠X.env.locals)
  (h1:it∈X.ex\/X.s₀.heap.objs.size<=it) (h2:∀ x c,X.env.cells.lookup x=some c->c≠it) (h3:∀ p∈X.pn++pins,p.1≠it):Inv X pins σ H { s with heap:=h',toks:=t' }:=by
 have nit:∀ b u,H b=some u->b≠it:=λb u e z=>by rw[z,hn] at e;cases e
 refine I.step (g':=s.gens) (d':=s.drawn) (ch:=[it]) (λb hb=>?_) (λb o _ _ hc e _=>k b o (λz=>hc (by simp[z])) e) (λb o _ _ hc e _=>⟨o.slots,k b o (λz=>hc (by simp[z])) e⟩) (λ_ _ _ _ n=>n)
  (λb o hc e=>⟨o,k b o (λz=>hc (by simp[z])) e⟩) (λ_ _ e=>e) (λ_ _ _ e=>e) (λb ps e=>⟨#[],by rw[e];simp⟩) (λm hm=>?_) (λb u e=>?_) I.bare
 ·have e:b=it:=by simpa using hb
  subst e;exact⟨h1,hL,h2,h3⟩
 ·obtain⟨o,es,ep,ho,r⟩:=hm;exact⟨o,es,ep,k _ o (K0 hL) ho,r⟩
 ·refine(I.hok b u e).stay (λc v hc q=>k c v ?_ q) (λ_ q=>q) λ_ _ q=>q;rcases hc with z|z
  ·rw[z];exact nit b u e
  ·exact nit c _ z
theorem Inv.tok (I:Inv X pins σ H s) (t:Nat):Inv X pins σ H { s with toks:=t }:=I.un (h':=s.heap) (t':=t) Un.refl I.hok
theorem Inv.kept {t':Nat} (I:Inv X pins σ H s) (k:∀ b u,s.heap.get? b=some u->h'.get? b=some u):Inv X pins σ H { s with heap:=h',toks:=t' }:=I.un (Un.kept k) (I.hok.kept k)
theorem Inv.laid {a:Addr} {o:HO} {t':Nat} (I:Inv X pins σ H s) (k:∀ b u,s.heap.get? b=some u->h'.get? b=some u) (hp:s.heap.objs.size<=a) (new:gQ X.prog X.w (upd H a o) h' a o) :
  Inv X pins σ (upd H a o) { s with heap:=h',toks:=t' }:=I.un (Un.laid k hp (I.hok.fresh hp)) (I.hok.laid k hp new)
theorem Inv.write {x e:Addr} {o:HO} {t':Nat} (I:Inv X pins σ H s) (mu:Mut (H x)) (he:e=x\/H e=some (.own x)) (k:∀ b u,b≠e->s.heap.get? b=some u->h'.get? b=some u) (heo:∃ u,h'.get? e=some u)
  (new:gQ X.prog X.w (upd H x o) h' x o):Inv X pins σ (upd H x o) { s with heap:=h',toks:=t' }:=I.un (Un.write mu he k heo) (I.hok.write mu he k heo new)
theorem Inv.Kc {ac5:List (Addr×Obj)} (I:Inv X pins σ H s) (h:∀ p∈ac5,s.heap.get? p.1=some p.2/\H p.1=none/\p.1≠X.env.locals/\p.1∉X.fs/\∀ v,p.2.data≠.cell v):Inv X ac5 σ H s:=
 ⟨I.ok,I.os,I.bare,I.base,I.loc,I.cell,I.free,I.qm,λp hp=>(List.mem_append.mp hp).elim (λz=>I.pin p (qv _ z)) (h p),I.hok,I.len⟩
theorem Nq {N:LS_} (hN:N.Nodup) {i j:Nat} {x:Str} (a:N[i]?=some x) (b:N[j]?=some x):i=j:=by
 obtain⟨h1,e1⟩:=List.getElem?_eq_some_iff.mp a;obtain⟨h2,e2⟩:=List.getElem?_eq_some_iff.mp b;exact(List.getElem_inj hN).mp (e1.trans e2.symm)
theorem Vn {M:Model} {A:Around} {E:VP_} {i:Nat} {x:Str} {v:V} {u:Value} {Q:Unit->Shared->Prop} (I:Inv X pins σ H s) (hN:X.N.Nodup) (hi:X.N[i]?=some x) (hx:Loc X.env.scope x) (r:RelV v u)
  (h:∀ s',Inv X pins (σ.set i (some v)) H s'->(∃ a,Heap.SameBut a s.heap s'.heap/\(a=X.env.locals\/X.env.cells.lookup x=some a))->Q () s') (hf:X.fn x=true\/X.env.scope.names.lookup x=some .local:=by first|exact .inl rfl|exact .inr rfl|assumption):wpAny M A (storeName X.env x u) Q E s:=by
 obtain⟨m,hn,hl⟩:=id I.loc;have hcls:(X.env.scope.kind==.class||(X.env.scope.kind==.module&&X.env.locals != X.env.globals))=false:=by rw[I.ok.kind];rfl
 have hiσ:i < σ.length:=by rw[I.len];exact(List.getElem?_eq_some_iff.mp hi).1
 have cne:=I.cne;have tracked:∀ {a:Addr} {h':Heap},(∃ o,s.heap.get? a=some o/\H a=none)->Heap.SameBut a s.heap h'->yF X.prog X.w H h':=λ{a h'} ha hs b ob e=>by
  obtain⟨_,_,hfree⟩:=ha;refine(I.hok b ob e).stay (λc w' hc q=>(hs.2 c ?_).trans q) (λ_ q=>q) λ_ _ q=>q;rintro rfl;rcases hc with rfl|hc
  ·rw[hfree] at e;cases e
  ·rw[hfree] at hc;cases hc
 rcases hx with hk|hk
 ·refine wpAny_storeName_local hk hn (λh' hn' hs=>?_) hcls;obtain⟨oL,_,_,hoL,_⟩:=id hn;refine h _ ⟨I.ok,I.os,I.bare,⟨λb o e n hb hx=>?_,λb o e n hb hx=>?_,I.base.free,λb o e hx=>?_,I.base.tups,I.base.Cz,I.base.Hu⟩,⟨_,hn',λj y v' e1 e2 e3=>?_⟩,λy c e=>?_,I.free,I.qm,λp hp=>?_,tracked ⟨oL,hoL,I.free⟩ hs,by simpa using I.len⟩ ⟨_,hs,.inl rfl⟩
  ·exact(hs.2 b (zD (ZN (zz e) I.ok.above))).trans (I.base.keep b o e n hb hx)
  ·obtain⟨sl,e1⟩:=I.base.slot b o e n hb hx;exact⟨sl,(hs.2 b (zD (ZN (zz e) I.ok.above))).trans e1⟩
  ·obtain⟨o',e1⟩:=I.base.there b o e hx;exact⟨o',(hs.2 b (zD (ZN (zz e) I.ok.above))).trans e1⟩
  ·by_cases hj:j=i
   ·subst hj;rw[hi] at e1;cases e1;rw[List.getElem?_set_self hiσ] at e2;cases e2;exact⟨u,r,.inl ⟨hk,by simp⟩⟩
   ·rw[List.getElem?_set_ne (K0 hj)] at e2;obtain⟨u',r',q⟩:=hl j y v' e1 e2 e3;refine⟨u',r',?_⟩;rcases q with⟨k,e⟩|⟨k,c,e,z⟩
    ·refine .inl ⟨k,?_⟩;have:y≠x:=λe=>hj (Nq hN e1 (e▸hi));simp[this,e]
    ·exact .inr ⟨k,c,e,z.sameBut hs (cne y c e)⟩
  ·obtain⟨w',z⟩:=I.cell y c e;exact⟨w',z.sameBut hs (cne y c e)⟩
  ·obtain⟨e,n,ne,nf,d⟩:=I.pin p hp;exact⟨(hs.2 p.1 ne).trans e,n,ne,nf,d⟩
 ·have hfn:X.fn x=true:=by
   rcases hf with z|z
   ·exact z
   ·rw[z] at hk;cases hk
  obtain⟨c,hc⟩:=I.ok.has x (.inl hk);obtain⟨w',z⟩:=I.cell x c hc;refine wpAny_storeName_cell I.ok.kind hk hc z (λh' hc' hs=>?_);obtain⟨oc,hoc,aie⟩:=id z;refine h { s with heap:=h' } ⟨I.ok,I.os,I.bare,⟨λb o e n hb hx=>?_,λb o e n hb hx=>?_,I.base.free,λb o e hx=>?_,I.base.tups,I.base.Cz,I.base.Hu⟩,⟨m,hn.sameBut hs (K0 (cne x c hc)),λj y v' e1 e2 e3=>?_⟩,λy c' e=>?_,I.free,I.qm,λp hp=>?_,tracked ⟨oc,hoc,I.qm x c hc⟩ hs,by simpa using I.len⟩ ⟨c,hs,.inr hc⟩
  ·exact(hs.2 b (zD (ZN (zz e) (I.ok.cab x c hfn hc)))).trans (I.base.keep b o e n hb hx)
  ·obtain⟨sl,e1⟩:=I.base.slot b o e n hb hx;exact⟨sl,(hs.2 b (zD (ZN (zz e) (I.ok.cab x c hfn hc)))).trans e1⟩
  ·obtain⟨o',e1⟩:=I.base.there b o e hx;exact⟨o',(hs.2 b (zD (ZN (zz e) (I.ok.cab x c hfn hc)))).trans e1⟩
  ·by_cases hj:j=i
   ·subst hj;rw[hi] at e1;cases e1;rw[List.getElem?_set_self hiσ] at e2;cases e2;exact⟨u,r,.inr ⟨.inl hk,c,hc,hc'⟩⟩
   ·rw[List.getElem?_set_ne (K0 hj)] at e2;obtain⟨u',r',q⟩:=hl j y v' e1 e2 e3;refine⟨u',r',?_⟩;rcases q with q|⟨k,c',e,z'⟩
    ·exact .inl q
    ·refine .inr ⟨k,c',e,z'.sameBut hs ?_⟩;rintro rfl;exact hj (Nq hN e1 (I.ok.inj _ _ _ e hc▸hi))
  ·by_cases hcc:c'=c
   ·subst hcc;exact⟨_,hc'⟩
   ·obtain⟨w2,z2⟩:=I.cell y c' e;exact⟨w2,z2.sameBut hs hcc⟩
  ·obtain⟨e,n,ne,nf,d⟩:=I.pin p hp;refine⟨(hs.2 p.1 ?_).trans e,n,ne,nf,d⟩;intro q;rw[q,hoc] at e;have q':oc=p.2:=JE e;exact d w' (by rw[<-q'];exact aie)
theorem yG {M:Model} {A:Around} {E:VP_} {i:Nat} {x:Str} {v:V} {u:Value} {Q:Unit->Shared->Prop} (I:Inv X pins σ H s) (hN:X.N.Nodup) (hi:X.N[i]?=some x) (hx:Loc X.env.scope x) (r:RelV v u)
  (h:∀ s',Inv X pins (σ.set i (some v)) H s'->Q () s') (hf:X.fn x=true\/X.env.scope.names.lookup x=some .local:=by first|exact .inl rfl|exact .inr rfl|assumption):wpAny M A (storeName X.env x u) Q E s:=
 Vn I hN hi hx r (λs' I' _=>h s' I') hf
theorem Inv.call' {s':Shared} {ch:List Addr} (I:Inv X pins σ H s) (ho:s'.os=s.os) (u:Un (frs X.stack) ch H H' s.heap s'.heap) (hok:yF X.prog X.w H' s'.heap) (hg:AllBare s'.gens)
  (hch:∀ b∈ch,(b∈X.ex\/X.s₀.heap.objs.size<=b)/\b≠X.env.locals/\(∀ x c,X.env.cells.lookup x=some c->c≠b)/\∀ p∈X.pn++pins,p.1≠b):Inv X pins σ H' s':=by
 obtain⟨h',g',d',t',o'⟩:=s';have e:o'=s.os:=ho;subst e;exact I.call (g':=g') (t':=t') (d':=d') u hok hg hch
end
abbrev XK:=Value->Option Addr->Hp->Prop
abbrev St:=List (Option V)
abbrev VK:=V->Hp->Prop
abbrev TE:=St->Hp->VK->Prop
abbrev TT:=St->Hp->(Bool->Hp->Prop)->Prop
abbrev TA:=St->Hp->(List V->Hp->Prop)->Prop
structure Ends where
 nx:St->Hp->Prop
 rt:VK
 bk:St->Hp->Prop:=λ_ _=>False
 ct:St->Hp->Prop:=λ_ _=>False
abbrev TS:=Ends->St->Hp->Prop
def EP (X:Cx) (pins:List (Addr×Obj)) (σ:St) (Q:VK) (u:Value) (s':Shared):Prop:=∃ v H',Inv X pins σ H' s'/\RelV v u/\Q v H'
def TP (X:Cx) (pins:List (Addr×Obj)) (σ:St) (Q:Bool->Hp->Prop) (b:Bool) (s':Shared):Prop:=∃ H',Inv X pins σ H' s'/\Q b H'
def AP (X:Cx) (pins:List (Addr×Obj)) (σ:St) (Q:List V->Hp->Prop) (us:List Value) (s':Shared):Prop:=∃ vs H',Inv X pins σ H' s'/\Vals vs us/\Q vs H'
def SP (X:Cx) (pins:List (Addr×Obj)) (D:Ends) (f:Flow) (s':Shared):Prop:=
 match f with
 |.next=>∃ σ' H',Inv X pins σ' H' s'/\D.nx σ' H'
 |.brk=>∃ σ' H',Inv X pins σ' H' s'/\D.bk σ' H'
 |.cont=>∃ σ' H',Inv X pins σ' H' s'/\D.ct σ' H'
 |.ret u=>∃ v σ' H',Inv X pins σ' H' s'/\RelV v u/\D.rt v H'
def PE (X:Cx) (e:Expr) (t:TE):Prop:=
 ∀ (pins:List (Addr×Obj)) (s:Shared) (σ:St) (H:Hp) (Q:VK),Inv X pins σ H s->t σ H Q->wpAny (model X.prog X.w) X.A (eval e X.env) (EP X pins σ Q) X.xe s
def PT (X:Cx) (e:Expr) (t:TT):Prop:=
 ∀ (pins:List (Addr×Obj)) (s:Shared) (σ:St) (H:Hp) (Q:Bool->Hp->Prop),Inv X pins σ H s->t σ H Q->wpAny (model X.prog X.w) X.A (isTrue e X.env (eval e X.env)) (TP X pins σ Q) X.xe s
def PW (X:Cx) (e:Expr) (t:TT):Prop:=
 ∀ (whole:Sem Value) (pins:List (Addr×Obj)) (s:Shared) (σ:St) (H:Hp) (Q:Bool->Hp->Prop),Inv X pins σ H s->t σ H Q->wpAny (model X.prog X.w) X.A (isTrue e X.env whole) (TP X pins σ Q) X.xe s
theorem PW.pt {X:Cx} {e:Expr} {t:TT} (h:PW X e t):PT X e t:=h _
def PA (X:Cx) (es:List Expr) (t:TA):Prop:=
 ∀ (pos:Pos) (pins:List (Addr×Obj)) (s:Shared) (σ:St) (H:Hp) (Q:List V->Hp->Prop),Inv X pins σ H s->t σ H Q->wpAny (model X.prog X.w) X.A (spliced (backTo pos (starEach es X.env))) (AP X pins σ Q) X.xe s
def PS (X:Cx) (st:Stmt) (t:TS):Prop:=
 ∀ (pins:List (Addr×Obj)) (s:Shared) (σ:St) (H:Hp) (D:Ends),Inv X pins σ H s->t D σ H->wpAny (model X.prog X.w) X.A (exec st X.env) (SP X pins D) X.xe s
def Q7 (X:Cx) (st:List Stmt) (t:TS):Prop:=
 ∀ (pins:List (Addr×Obj)) (s:Shared) (σ:St) (H:Hp) (D:Ends),Inv X pins σ H s->t D σ H->wpAny (model X.prog X.w) X.A (execs st X.env) (SP X pins D) X.xe s
theorem jd {α:Type} {t:Sem α} {Q Q':α->Shared->Prop} {M:Model} {A:Around} {E:VP_} {s:Shared} (h:wpAny M A t Q E s) (hQ:∀ a s,Q a s->Q' a s):wpAny M A t Q' E s:=qS h hQ λ_ _ x=>x
end L2
namespace L2
open PySem PySem.Spec PyProof.Rows
section
variable {X:Cx}
def agf (i:Nat):TE:=λσ H Q=>∃ v,σ[i]?=some (some v)/\Q v H
def tC (v:V):TE:=λ_ H Q=>Q v H
theorem sZ {i:Nat} {x:Str} {pos:Pos} (hN:X.N[i]?=some x) (hv:Tv X.env.scope x) (hd:(x==("__debug__" : Str))=false:=by decide) (hcd:(x==("__classdict__" : Str))=false:=by decide):PE X (.Name x pos) (agf i):=by
 intro pins s σ H Q I h;obtain⟨v,e,h⟩:=h;obtain⟨m,hn,hl⟩:=I.loc;obtain⟨u,r,l⟩:=hl i x v hN e hv;have fin:EP X pins σ Q u s:=⟨v,H,I,r,h⟩;rcases l with⟨hk,hm⟩|⟨hk,c,hc,hcell⟩
 ·exact wpAny_Name (wpAny_loadName_local I.ok.kind hk hn hm fin) hd
 ·rcases hk with hk|hk
  ·exact wpAny_Name (wpAny_loadName_cell I.ok.kind hk hc hcell fin) hd
  ·exact wpAny_Name (wpAny_loadName_free I.ok.kind hk hc hcell fin hcd) hd
theorem adS {i j pos}:PE X (.Constant (.int i) j pos) (tC (.int i)):=λ_ _ _ H _ I h=>wpAny_Constant_int ⟨.int i,H,I.tok _,⟨_,rfl⟩,h⟩
theorem agg {b j pos}:PE X (.Constant (.bool b) j pos) (tC (.bl b)):=λ_ _ _ H _ I h=>Constant_bool ⟨.bl b,H,I,rfl,h⟩
theorem adT {j pos}:PE X (.Constant .none j pos) (tC .non):=λ_ _ _ H _ I h=>Constant_none ⟨.non,H,I,rfl,h⟩
theorem adU {x j pos}:PE X (.Constant (.str x) j pos) (tC (.str x)):=λ_ _ _ H _ I h=>Calls.Constant_str ⟨.str x,H,I.tok _,⟨_,rfl⟩,h⟩
def Gl (X:Cx) (x:Str):Prop:=X.env.kindOf x=some .globalImplicit
theorem Tz {E:VP_} {pins:List (Addr×Obj)} {s:Shared} {σ:St} {H:Hp} {x:Str} {u:Value} {pos:Pos} {Q:VP_} (I:Inv X pins σ H s) (hg:Gl X x) (hm:X.mg x=some u) (h:Q u s)
  (hd:(x==("__debug__" : Str))=false:=by decide):wpAny (model X.prog X.w) X.A (eval (.Name x pos) X.env) Q E s:=
 Calls.Name_function_global I.ok.kind hg (Calls.loadGlobal_global (by rw[I.ok.glob];exact I.mod.glob.keeps I.bk) hm h) hd
theorem Kd {E:VP_} {pins:List (Addr×Obj)} {s:Shared} {σ:St} {H:Hp} {x:Str} {u:Value} {pos:Pos} {Q:VP_} (I:Inv X pins σ H s) (hg:Gl X x) (hm:X.mg x=none) (hv:bootBuiltins x=some u) (h:Q u s)
  (hn:x ≠ "__name__" := by decide) (hd:(x==("__debug__" : Str))=false:=by decide):wpAny (model X.prog X.w) X.A (eval (.Name x pos) X.env) Q E s:=by
 obtain⟨mb,h1,h2⟩:=I.mod.blt;exact Calls.Name_function_global I.ok.kind hg (Calls.loadGlobal_builtin (by rw[I.ok.glob];exact I.mod.glob.keeps I.bk) hm (by rw[I.ok.blt];exact h1.keeps I.bk) ((h2 x hn).trans hv) h) hd
theorem TF {x:Str} {v:V} {u:Value} {pos:Pos} (hg:Gl X x) (hm:X.mg x=some u) (r:RelV v u) (hd:(x==("__debug__" : Str))=false:=by decide):PE X (.Name x pos) (tC v):=
 λ_ _ _ H _ I h=>Tz I hg hm ⟨v,H,I,r,h⟩ hd
theorem Dl {x:Str} {v:V} {u:Value} {pos:Pos} (hg:Gl X x) (hm:X.mg x=none) (hv:bootBuiltins x=some u) (r:RelV v u) (hn:x ≠ "__name__" := by decide) (hd:(x==("__debug__" : Str))=false:=by decide):PE X (.Name x pos) (tC v):=
 λ_ _ _ H _ I h=>Kd I hg hm hv ⟨v,H,I,r,h⟩ hn hd
variable {a b:Expr} {ta tb:TE} {pos:Pos}
variable {tA tB':TT} {rest:List Expr}
def agh (t u:TT):TT:=λσ H Q=>t σ H λc H1=>if c=true then u σ H1 Q else Q false H1
def tOr (t u:TT):TT:=λσ H Q=>t σ H λc H1=>if c=true then Q true H1 else u σ H1 Q
def aif (t:TT):TT:=λσ H Q=>t σ H λc H1=>Q (!c) H1
theorem aaQ (ha:PT X a tA):PW X (.BoolOp .And [a] pos) tA:=by
 intro wh pins s σ H Q I h;refine isTrue_and (jd (ha pins s σ H Q I h) λc s1 e=>?_);cases c with
 |true=>exact isTrue_and_nil e
 |false=>exact e
theorem adV (ha:PT X a tA):PW X (.BoolOp .Or [a] pos) tA:=by
 intro wh pins s σ H Q I h;refine isTrue_or (jd (ha pins s σ H Q I h) λc s1 e=>?_);cases c with
 |false=>exact isTrue_or_nil e
 |true=>exact e
theorem adW (ha:PT X a tA) (hb:PW X (.BoolOp .And (b::rest) pos) tB'):PW X (.BoolOp .And (a::b::rest) pos) (agh tA tB'):=by
 intro wh pins s σ H Q I h;refine isTrue_and (jd (ha pins s σ H _ I h) λc s1 ⟨H1,I1,q1⟩=>?_);cases c with
 |true=>exact hb wh pins s1 σ H1 Q I1 q1
 |false=>exact⟨H1,I1,q1⟩
theorem agi (ha:PT X a tA) (hb:PW X (.BoolOp .Or (b::rest) pos) tB'):PW X (.BoolOp .Or (a::b::rest) pos) (tOr tA tB'):=by
 intro wh pins s σ H Q I h;refine isTrue_or (jd (ha pins s σ H _ I h) λc s1 ⟨H1,I1,q1⟩=>?_);cases c with
 |true=>exact⟨H1,I1,q1⟩
 |false=>exact hb wh pins s1 σ H1 Q I1 q1
theorem adX (ha:PT X a tA):PT X (.UnaryOp .Not a pos) (aif tA):=by
 intro pins s σ H Q I h;exact isTrue_not (ha pins s σ H (λc H1=>Q (!c) H1) I h)
def agj (ta tb:TE):TE:=λσ H Q=>ta σ H λx H1=>∃ c,x=.bl c/\if c=true then tb σ H1 Q else Q (.bl false) H1
def agk (ta:TE):TE:=λσ H Q=>ta σ H λx H1=>∃ c,x=.bl c/\Q (.bl (!c)) H1
theorem adY {op} {t:TE} (h:PE X a t):PE X (.BoolOp op [a] pos) t:=λpins s σ H Q I hw=>BoolOp_one (h pins s σ H Q I hw)
theorem adZ (ha:PE X a ta) (hb:PE X (.BoolOp .And (b::rest) pos) tb):PE X (.BoolOp .And (a::b::rest) pos) (agj ta tb):=by
 intro pins s σ H Q I h;refine BoolOp_and (jd (ha pins s σ H _ I h) λv s1 ⟨x,H1,I1,r1,q1⟩=>?_);obtain⟨c,rfl,q1⟩:=q1;cases r1;refine Q1 ?_;cases c with
 |true=>exact hb pins s1 σ H1 Q I1 q1
 |false=>exact⟨.bl false,H1,I1,rfl,q1⟩
theorem ad0 (ha:PE X a ta):PE X (.UnaryOp .Not a pos) (agk ta):=by
 intro pins s σ H Q I h;refine UnaryOp_ (jd (ha pins s σ H _ I h) λv s1 ⟨x,H1,I1,r1,q1⟩=>?_);obtain⟨c,rfl,q1⟩:=q1;cases r1;exact not_of (Q1 ⟨.bl (!c),H1,I1,rfl,q1⟩)
end
end L2
namespace L2
open PySem PySem.Spec PyProof.Rows
def uN (K:FG_) (H:Hp) (a:Addr) (xs:List V):Prop:=
 Rd H a (.lst xs) ∨
  ∃ (o:Obj) (its:Array Value) (n:Nat),K.lookup a=some o/\o.cls=.type "list" ∧ o.dict=none/\o.data=.seq its n/\its.size<=sizeLine/\Vals xs its.toList
def yH (K:FG_) (H:Hp) (a:Addr) (xs:List V):Prop:=
 Rd H a (.tup xs) ∨
  ∃ (o:Obj) (its:Array Value) (n:Nat),K.lookup a=some o/\(o.cls=.type "tuple" ∧ o.dict=none)/\o.data=.seq its n/\its.size<=sizeLine/\Vals xs its.toList
def ad1:Value->Option V
 |.none=>some .non
 |.bool b=>some (.bl b)
 |.int i _=>some (.int i)
 |.str x _=>some (.str x)
 |.bytes b _=>some (.byt b)
 |.float b _=>some (.flt b)
 |.ref a=>some (.ref a)
 |.type n=>some (.ty n)
 |_=>none
theorem RelV.abs {x:V} {u:Value} (r:RelV x u):ad1 u=some x:=by
 cases x with
 |non=>cases r;rfl
 |bl _=>cases r;rfl
 |int _=>obtain⟨t,rfl⟩:=r;rfl
 |str _=>obtain⟨t,rfl⟩:=r;rfl
 |byt _=>obtain⟨t,rfl⟩:=r;rfl
 |flt _=>obtain⟨t,rfl⟩:=r;rfl
 |ref _=>cases r;rfl
 |ty _=>cases r;rfl
theorem RelV.inj {x y:V} {u:Value} (r:RelV x u) (q:RelV y u):x=y:=JE (r.abs.symm.trans q.abs)
theorem Vals.inj:∀ {xs ys:List V} {us:List Value},Vals xs us->Vals ys us->xs=ys
 |_,_,_,.nil,.nil=>rfl
 |_,_,_,.cons r t,.cons r' t'=>by rw[r.inj r',Vals.inj t t']
section
variable {X:Cx} {pins:List (Addr×Obj)} {σ:St} {H:Hp} {s:Shared} {a:Addr} {xs ys:List V}
theorem Inv.list (I:Inv X pins σ H s) (h:uN X.K H a xs):∃ its:List Value,Vals xs its/\PlainL s.heap a its.toArray/\xs.length<=sizeLine:=by
 rcases h with h|⟨o,its,n,hk,hc,hd,hs,hz,r⟩
 ·obtain⟨z,its,n,r,e⟩:=h.ok I.hok;exact⟨its,r,⟨_,n,e,rfl,rfl,rfl⟩,z⟩
 ·refine⟨its.toList,r,⟨o,n,I.kIn a o hk,hc,hd,by simpa using hs⟩,?_⟩;have e:=r.length;simp only[ZZ] at e;omega
theorem Inv.tuple (I:Inv X pins σ H s) (h:yH X.K H a xs):∃ its:List Value,Vals xs its/\IsTup s.heap a its.toArray/\xs.length<=sizeLine:=by
 rcases h with h|⟨o,its,n,hk,hc,hs,hz,r⟩
 ·obtain⟨z,its,r,p⟩:=h.ok I.hok;exact⟨its,r,p.weak,z⟩
 ·refine⟨its.toList,r,⟨o,I.kIn a o hk,hc.1,n,by simpa using hs⟩,?_⟩;have e:=r.length;simp only[ZZ] at e;omega
theorem Inv.Nr (I:Inv X pins σ H s) (h:uN X.K H a xs) (h':uN X.K H a ys):xs=ys:=by
 obtain⟨its,r,⟨o,n,e,_,_,d⟩,_⟩:=I.list h;obtain⟨its',r',⟨o',n',e',_,_,d'⟩,_⟩:=I.list h';rw[e] at e';cases e';rw[d] at d';injection d' with d1 _;have:its=its':=by simpa using congrArg Array.toList d1
 subst this;exact r.inj r'
theorem Inv.Jf (I:Inv X pins σ H s) (h:yH X.K H a xs) (h':yH X.K H a ys):xs=ys:=by
 obtain⟨its,r,⟨o,e,_,n,d⟩,_⟩:=I.tuple h;obtain⟨its',r',⟨o',e',_,n',d'⟩,_⟩:=I.tuple h';rw[e] at e';cases e';rw[d] at d';injection d' with d1 _;have:its=its':=by simpa using congrArg Array.toList d1
 subst this;exact r.inj r'
end
abbrev Cx.wish (X:Cx) (E:VP_):Cx:={ X with xe:=E }
abbrev Cx.nox (X:Cx):Cx:=X.wish λ_ _=>False
theorem Cx.Ok.wish {X:Cx} (ok:X.Ok) (E:VP_):(X.wish E).Ok:=
 ⟨ok.mod,ok.kind,ok.glob,ok.blt,ok.above,ok.inj,ok.has,ok.cab,ok.hd,ok.frames,ok.stk,ok.exf,ok.bs,ok.bsz,ok.Xh,ok.aaP,ok.Ef,ok.frf⟩
theorem Cx.Ok.uP {X:Cx} {E:VP_} (ok:(X.wish E).Ok):X.Ok:=
 ⟨ok.mod,ok.kind,ok.glob,ok.blt,ok.above,ok.inj,ok.has,ok.cab,ok.hd,ok.frames,ok.stk,ok.exf,ok.bs,ok.bsz,ok.Xh,ok.aaP,ok.Ef,ok.frf⟩
section
variable {X:Cx} {pins:List (Addr×Obj)} {σ:St} {H:Hp} {s:Shared} {E:VP_}
theorem Inv.wish (I:Inv X pins σ H s) (E:VP_):Inv (X.wish E) pins σ H s:=⟨I.ok.wish E,I.os,I.bare,I.base,I.loc,I.cell,I.free,I.qm,I.pin,I.hok,I.len⟩
theorem Inv.uP (I:Inv (X.wish E) pins σ H s):Inv X pins σ H s:=⟨I.ok.uP,I.os,I.bare,I.base,I.loc,I.cell,I.free,I.qm,I.pin,I.hok,I.len⟩
theorem SP.uP {D:Ends} {f:Flow} {s':Shared} (h:SP (X.wish E) pins D f s'):SP X pins D f s':=by
 cases f with
 |next=>obtain⟨σ',H',I,q⟩:=h;exact⟨σ',H',I.uP,q⟩
 |brk=>obtain⟨σ',H',I,q⟩:=h;exact⟨σ',H',I.uP,q⟩
 |cont=>obtain⟨σ',H',I,q⟩:=h;exact⟨σ',H',I.uP,q⟩
 |ret u=>obtain⟨v,σ',H',I,r,q⟩:=h;exact⟨v,σ',H',I.uP,r,q⟩
theorem Q7.nox {st:List Stmt} {t:TS} (h:Q7 X.nox st t):Q7 X st t:=λpins s σ H D I hw=>
 qS (h pins s σ H D (I.wish _) hw) (λ_ _ q=>q.uP) λ_ _ z=>False.elim z
end
section
variable {X:Cx} {st:Stmt} {rest:List Stmt} {t u:TS} {e:Expr} {te:TE} {pos:Pos}
def agl:TS:=λD σ H=>D.nx σ H
def aii (t u:TS):TS:=λD σ H=>t { D with nx:=u D } σ H
theorem aaS:Q7 X [] agl:=λ_ _ σ H _ I h=>wpAny_execs_nil ⟨σ,H,I,h⟩
theorem Xi (h1:PS X st t) (h2:Q7 X rest u):Q7 X (st::rest) (aii t u):=by
 intro pins s σ H D I h;refine wpAny_execs_cons (jd (h1 pins s σ H { D with nx:=u D } I h) λf s1 q=>?_);cases f with
 |next=>
  obtain⟨σ',H',I',q⟩:=q;exact h2 pins s1 σ' H' D I' q
 |ret v=>exact q
 |brk=>exact q
 |cont=>exact q
theorem Inv.quiet {pins:List (Addr×Obj)} {σ:St} {H:Hp} {s:Shared} (I:Inv X pins σ H s):interactive X.env=false:=by simp[interactive,I.ok.kind]
def agm (te:TE):TS:=λD σ H=>te σ H λ_ H1=>D.nx σ H1
theorem Dm (he:PE X e te) (hs:swapsWith e none pos.line X.env=pure false:=by rfl):PS X (.Expr e pos) (agm te):=by
 intro pins s σ H D I h;exact wpAny_Expr_any (jd (he pins s σ H _ I h) λv s1 ⟨x,H1,I1,r1,q1⟩=>⟨σ,H1,I1,q1⟩) I.quiet hs
def aij (te:TE):TS:=λD σ H=>te σ H D.rt
theorem Xj (he:PE X e te):PS X (.Return (some e) pos) (aij te):=by
 intro pins s σ H D I h;exact wpAny_Return_some (jd (he pins s σ H _ I h) λv s1 ⟨x,H1,I1,r1,q1⟩=>⟨x,σ,H1,I1,r1,q1⟩)
def aik (c:TT) (t u:TS):TS:=λD σ H=>c σ H λb H1=>if b=true then t D σ H1 else u D σ H1
theorem agn {c:Expr} {a b:List Stmt} {tc:TT} (hc:PT X c tc) (ha:Q7 X a t) (hb:Q7 X b u):PS X (.If c a b pos) (aik tc t u):=by
 intro pins s σ H D I h;refine wpAny_If (jd (hc pins s σ H _ I h) λd s1 ⟨H1,I1,q1⟩=>?_);cases d with
 |true=>exact ha pins s1 σ H1 D I1 q1
 |false=>exact hb pins s1 σ H1 D I1 q1
end
abbrev TG:=V->St->Hp->(St->Hp->Prop)->Prop
abbrev TGs:=List V->St->Hp->(St->Hp->Prop)->Prop
def PG (X:Cx) (target:Expr) (t:TG):Prop:=
 ∀ (pins:List (Addr×Obj)) (s:Shared) (σ:St) (H:Hp) (v:V) (u:Value) (Q:St->Hp->Prop),Inv X pins σ H s->RelV v u->t v σ H Q →
  wpAny (model X.prog X.w) X.A (assign target X.env u) (λ_ s'=>∃ σ' H',Inv X pins σ' H' s'/\Q σ' H') X.xe s
def TJ (X:Cx) (ts:List Expr) (t:TGs):Prop:=
 ∀ (pins:List (Addr×Obj)) (s:Shared) (σ:St) (H:Hp) (vs:List V) (us:List Value) (Q:St->Hp->Prop),Inv X pins σ H s->Vals vs us->t vs σ H Q →
  wpAny (model X.prog X.w) X.A (assignInOrder ((assignEach ts X.env).map (·.2)) us) (λ_ s'=>∃ σ' H',Inv X pins σ' H' s'/\Q σ' H') X.xe s
section
variable {X:Cx} {pos:Pos}
def ac7 (i:Nat):TG:=λv σ H Q=>Q (σ.set i (some v)) H
theorem TQ {i:Nat} {x:Str} (hN:X.N.Nodup) (hi:X.N[i]?=some x) (hx:Loc X.env.scope x) (hf:X.fn x=true\/X.env.scope.names.lookup x=some .local:=by first|exact .inl rfl|exact .inr rfl|assumption):PG X (.Name x pos) (ac7 i):=by
 intro pins s σ H v u Q I r h;exact wpAny_assign_Name (yG I hN hi hx r (λs' I'=>⟨_,H,I',h⟩) hf)
def ail:TGs:=λvs σ H Q=>vs=[]/\Q σ H
def ago (t:TG) (u:TGs):TGs:=λvs σ H Q=>∃ v r,vs=v::r/\t v σ H λσ' H'=>u r σ' H' Q
theorem aaT:TJ X [] ail:=by
 intro pins s σ H vs us Q I r h;obtain⟨e,h⟩:=h;subst e;cases r;exact assignInOrder_nil ⟨σ,H,I,h⟩
theorem Xk {e:Expr} {es:List Expr} {t:TG} {u:TGs} (h1:PG X e t) (h2:TJ X es u)
  (hs:(assignEach (e::es) X.env).map (·.2)=assign e X.env::(assignEach es X.env).map (·.2):=by rfl):TJ X (e::es) (ago t u):=by
 intro pins s σ H vs us Q I r h;obtain⟨v,vr,e1,h⟩:=h;subst e1;cases r with
 |cons r rr=>
  rw[hs];refine assignInOrder_cons (jd (h1 pins s σ H _ _ _ I r h) λ_ s1 ⟨σ1,H1,I1,q1⟩=>?_);exact h2 pins s1 σ1 H1 _ _ Q I1 rr q1
def ain (K:FG_) (n:Nat) (t:TGs):TG:=λv σ H Q=>∃ a xs,v=.ref a/\yH K H a xs/\xs.length=n/\t xs σ H Q
theorem ad2 {es:List Expr} {k:Nat} {t:TGs} {n:Nat} (hc:X.calm=true) (h:TJ X es t)
  (hn:(assignEach es X.env).length=n:=by rfl) (hst:(assignEach es X.env).findIdx? (·.1)=none:=by rfl):PG X (.Tuple es k pos) (ain X.K n t):=by
 intro pins s σ H v u Q I r hw;obtain⟨a,xs,e1,hq,hl,hw⟩:=hw;subst e1;cases r;obtain⟨its,rv,ht,hz⟩:=I.tuple hq;refine assign_Tuple_tuple (I.ok.hd hc) ht (by simp[hn,<-hl,rv.length]) hst λh' hx=>?_;have I1:Inv X pins σ H { s with heap:=h' }:=I.kept (t':=s.toks) λb o e=>hx b o (zD (zz e)) e;exact h pins _ σ H xs _ Q I1 (by simpa using rv) hw
def agp (te:TE) (g:TG):TS:=λD σ H=>te σ H λx H1=>g x σ H1 D.nx
theorem ad3 {tg e:Expr} {te:TE} {g:TG} (he:PE X e te) (hg:PG X tg g) (hs:swapsWithSole [tg] e pos.line X.env=pure false:=by rfl) (hw:swappedStores [tg] e X.env=pure none:=by rfl)
  (h1:(assignEach [tg] X.env).map (·.2)=[assign tg X.env]:=by rfl):PS X (.Assign [tg] e pos) (agp te g):=by
 intro pins s σ H D I h;refine wpAny_Assign_stores (jd (he pins s σ H _ I h) λv s1 ⟨x,H1,I1,r1,q1⟩=>?_) hs hw;rw[h1];exact jd (hg pins s1 σ H1 x v _ I1 r1 q1) λ_ s2 q=>q
theorem Xl {i:Nat} {x:Str} {e:Expr} {te:TE} {pos':Pos} (hN:X.N.Nodup) (hi:X.N[i]?=some x) (hx:Loc X.env.scope x) (he:PE X e te) (hs:swapsWith e (some (.Name x pos')) pos.line X.env=pure false:=by rfl) (hf:X.fn x=true\/X.env.scope.names.lookup x=some .local:=by first|exact .inl rfl|exact .inr rfl|assumption) :
  PS X (.Assign [.Name x pos'] e pos) (agp te (ac7 i)):=by
 intro pins s σ H D I h;refine wpAny_Assign_Name (jd (he pins s σ H _ I h) λv s1 ⟨y,H1,I1,r1,q1⟩=>?_) hs;exact yG I1 hN hi hx r1 (λs2 I2=>⟨_,H1,I2,q1⟩) hf
def aio (i j:Nat) (ta:TA):TS:=λD σ H=>ta σ H λvs H1=>∃ v w,vs=[v,w]/\D.nx ((σ.set i (some v)).set j (some w)) H1
theorem ad4 {i j:Nat} {x y:Str} {a b:Expr} {ta:TA} {px py pt:Pos} {kt k2 pt2} (hc:X.calm=true) (hN:X.N.Nodup) (hi:X.N[i]?=some x) (hj:X.N[j]?=some y) (hij:i≠j)
  (hx:X.env.scope.names.lookup x=some .local) (hy:X.env.scope.names.lookup y=some .local) (ha:PA X [a,b] ta)
  (hw:swappedStores [.Tuple [.Name x px,.Name y py] kt pt] (.Tuple [a,b] k2 pt2) X.env=pure (some [x,y]))
  (hs:swapsWithSole [.Tuple [.Name x px,.Name y py] kt pt] (.Tuple [a,b] k2 pt2) pos.line X.env=pure false:=by rfl) :
  PS X (.Assign [.Tuple [.Name x px,.Name y py] kt pt] (.Tuple [a,b] k2 pt2) pos) (aio i j ta):=by
 intro pins s σ H D I h;rw[exec_Assign_arm];refine zb (yb ?_);rw[hs];refine zb (ze ?_);rw[zw (by decide)];refine zb (Tuple_ (jd (ha _ pins s σ H _ I h) λus s1 ⟨vs,H1,I1,r1,q1⟩=>?_));obtain⟨v,w,e1,q1⟩:=q1;subst e1;obtain⟨u1,u2,rfl,rv,QZ⟩:∃ u1 u2,us=[u1,u2]/\RelV v u1/\RelV w u2:=by
  cases r1 with
  |cons p q=>
   cases q with
   |cons p' q'=>
    cases q';exact⟨_,_,rfl,p,p'⟩
 refine qq ?_ (by show 2<=sizeLine;decide);have I2:Inv X pins σ H1 { s1 with heap:=s1.heap.push { cls:=.type "tuple", data:=.seq [u1,u2].toArray } }:=I1.kept (t':=s1.toks) λb o e=>zd _ e;rw[hw];refine zb (ze ?_);show wpAny (model X.prog X.w) X.A (do rule "assign.swapped-stores"; let items <-unpackItems (.ref s1.heap.objs.size) 2 none;assignInOrder [λv=>bindName X.env y v,λv=>bindName X.env x v] items.reverse;pure Flow.next) _ _ _;refine zb (k9 (zb (unpackItems_tuple (items:=#[u1,u2]) (I.ok.hd hc) (IsTup.new s1.heap _) λh' hx'=>?_)));have I3:=I2.kept (h':=h') (t':=s1.toks) λb o e=>hx' b o (zD (zz e)) e;show wpAny _ _ (assignInOrder [λv=>bindName X.env y v,λv=>bindName X.env x v] [u2,u1] >>= λ_=>pure Flow.next) _ _ _;refine zb (assignInOrder_cons (wpAny_bindName (yG I3 hN hj (.inl hy) QZ (λs2 I4=>?_) (.inr hy))));refine assignInOrder_cons (wpAny_bindName (yG I4 hN hi (.inl hx) rv (λs3 I5=>assignInOrder_nil (ze ?_)) (.inr hx)));rw[List.set_comm _ _ (K0 hij)] at I5;exact⟨_,H1,I5,q1⟩
def ad6 (c:TT) (tb:TS):TS:=λD σ H=>∃ W:Nat->St->Hp->Prop,(∃ m,W m σ H)/\∀ m σ H,W m σ H →
 c σ H λb H1=>if b=true then ∃ N:St->Hp->Prop,(∀ σ' H',N σ' H'->∃ m',m' < m/\W m' σ' H')/\tb { D with nx:=N,ct:=N,bk:=D.nx } σ H1 else D.nx σ H1
theorem Xm {c:Expr} {body:List Stmt} {tc:TT} {tb:TS} (hp:PassesOwn (model X.prog X.w) X.A X.env X.xe) (hc:PT X c tc) (hb:Q7 X body tb):PS X (.While c body [] pos) (ad6 tc tb):=by
 intro pins s σ H D I h;obtain⟨W,⟨m0,w0⟩,turn⟩:=h;refine wpAny_While (codeAny_whileLoop (λn s'=>∃ σ' H',Inv X pins σ' H' s'/\W n σ' H') ?_ m0 ⟨σ,H,I,w0⟩);rintro n s1 ⟨σ1,H1,I1,w1⟩;refine km hp (jd (hc pins s1 σ1 H1 _ I1 (turn n σ1 H1 w1)) λb s2 ⟨H2,I2,q2⟩=>?_);cases b with
 |true=>
  obtain⟨N,hN,q2⟩:=q2;rw[zk rfl];refine km hp (jd (hb pins s2 σ1 H2 _ I2 q2) λf s3 q3=>?_);cases f with
  |next=>
   obtain⟨σ3,H3,I3,n3⟩:=q3;obtain⟨m',hm,w3⟩:=hN σ3 H3 n3;exact⟨m',hm,σ3,H3,I3,w3⟩
  |cont=>
   obtain⟨σ3,H3,I3,n3⟩:=q3;obtain⟨m',hm,w3⟩:=hN σ3 H3 n3;exact⟨m',hm,σ3,H3,I3,w3⟩
  |brk=>exact q3
  |ret v=>exact q3
 |false=>
  rw[zw zI];exact wpAny_execs_nil ⟨σ1,H2,I2,q2⟩
end
structure It where
 go:Nat->Hp->Prop
 yld:Nat->Hp->V->Hp->Prop
 stop:Nat->Hp->Prop
def uQ (X:Cx) (pins:List (Addr×Obj)) (H:Hp) (b:Addr):Prop:=
 H b=none/\b≠X.env.locals/\b∉X.fs/\(b∈X.ex\/X.s₀.heap.objs.size<=b)/\(∀ x c,X.env.cells.lookup x=some c->c≠b)/\∀ p∈X.pn++pins,p.1≠b
theorem Inv.Xn {X:Cx} {pins:List (Addr×Obj)} {σ:St} {H H':Hp} {s:Shared} {b:Addr} (I:Inv X pins σ H s) (hb:s.heap.objs.size<=b) (hn:H' b=none):uQ X pins H' b:=by
 refine⟨hn,KB (ZN I.lt hb),I.aic hb,.inr (Zs I.sz hb),λx c e z=>?_,λp hp z=>?_⟩
 ·obtain⟨v,q⟩:=I.cell x c e;exact absurd (ZN q.lt (by rw[z];exact hb)) (jS _)
 ·exact absurd (ZN (zz (I.pin p hp).1) (by rw[z];exact hb)) (jS _)
structure Turn (P:Program) (w:World) (K:FG_) (tg:Expr) (J:It) (fp:List Addr) (it:Addr) (tn:Nat->Heap->Prop):Prop where
 mem:it∈fp
 obj:∀ i h,tn i h->∀ b∈fp,∃ o,h.get? b=some o/\∀ v,o.data≠.cell v
 keep:∀ i h h',tn i h->(∀ b∈fp,∀ o,h.get? b=some o->h'.get? b=some o)->tn i h'
 item:∀ (X:Cx),X.prog=P->X.w=w->X.K=K->X.calm=true->∀ (i:Nat) (pins:List (Addr×Obj)) (s:Shared) (σ:St) (H:Hp) (E:VP_),Inv X pins σ H s->(∀ b∈fp,uQ X pins H b)->tn i s.heap->J.go i H →
  wpAny (model P w) X.A (pyNext (.ref it)) (λr s1=>∃ u,r=some u ∧
   wpAny (model P w) X.A (letOwnedTupleGo tg (.ref it) u) (λ_ s2=>∃ x H',Inv X pins σ H' s2/\RelV x u/\J.yld i H x H'/\tn (i+1) s2.heap/\∀ b∈fp,H' b=none) E s1) E s
 done:∀ (X:Cx),X.prog=P->X.w=w->X.K=K->X.calm=true->∀ (i:Nat) (pins:List (Addr×Obj)) (s:Shared) (σ:St) (H:Hp) (E:VP_),Inv X pins σ H s->(∀ b∈fp,uQ X pins H b)->tn i s.heap->J.stop i H →
  wpAny (model P w) X.A (pyNext (.ref it)) (λr s1=>r=none/\Inv X pins σ H s1) E s
 self:∀ (A:Around) (i:Nat) (s:Shared) (Q:VP_) (E:VP_),tn i s.heap->Q (.ref it) s->wpAny (model P w) A (pyIter (.ref it)) Q E s
abbrev TI:=St->Hp->(It->Hp->Prop)->Prop
def PIE (X:Cx) (pins:List (Addr×Obj)) (σ:St) (tg:Expr) (R:It->Hp->Prop) (itv:Value) (s2:Shared):Prop:=
 ∃ (it:Addr) (fp:List Addr) (tn:Nat->Heap->Prop) (J:It) (H':Hp),itv=.ref it/\Inv X pins σ H' s2/\Turn X.prog X.w X.K tg J fp it tn/\tn 0 s2.heap/\(∀ b∈fp,uQ X pins H' b)/\R J H'
def PI (X:Cx) (tg iter:Expr) (wi:TI):Prop:=
 ∀ (pins:List (Addr×Obj)) (s:Shared) (σ:St) (H:Hp) (R:It->Hp->Prop),Inv X pins σ H s->wi σ H R →
  wpAny (model X.prog X.w) X.A (eval iter X.env) (λv s1=>wpAny (model X.prog X.w) X.A (pyIter v) (PIE X pins σ tg R) X.xe s1) X.xe s
theorem Jg {M:Model} {A:Around} {E:VP_} {s:Shared} {tg:Expr} {it:Addr} {u:Value} {o:Obj} {n:String} {vs:Array Value} {Q:Unit->Shared->Prop} (ho:s.heap.get? it=some o) (hc:o.cls=.type n) (hd:o.data=.fields vs)
  (hn:["enumerate", "zip", "dict_itemiterator", "dict_reverseitemiterator", "odict_iterator", "itertools.zip_longest", "itertools.pairwise"].contains n=false) (hQ:Q () s):wpAny M A (letOwnedTupleGo tg (.ref it) u) Q E s:=by
 unfold letOwnedTupleGo;cases tg<;>first
  |exact ze hQ
  |(cases u<;>first
    |exact ze hQ
    |(refine zb (KG ho ?_)
      rw[hc,hd];show wpAny M A (if(["enumerate", "zip", "dict_itemiterator", "dict_reverseitemiterator", "odict_iterator", "itertools.zip_longest", "itertools.pairwise"].contains n&&vs[0]?==some (rawInt _))=true then _ else _) Q E s;rw[zw (by intro h;rw[hn,KO] at h;cases h)];exact ze hQ))
def Itl (K:FG_) (a:Addr):It:=
 ⟨λi H=>∃ xs x,uN K H a xs/\xs[i]?=some x,λi H x H'=>H'=H/\∀ xs,uN K H a xs->xs[i]?=some x,λi H=>∃ xs,uN K H a xs/\xs.length<=i⟩
def Itt (K:FG_) (a:Addr):It:=
 ⟨λi H=>∃ xs x,yH K H a xs/\xs[i]?=some x,λi H x H'=>H'=H/\∀ xs,yH K H a xs->xs[i]?=some x,λi H=>∃ xs,yH K H a xs/\xs.length<=i⟩
def Itr (lo:Int) (n:Nat):It:=⟨λi _=>i < n,λi H x H'=>H'=H/\x=.int (lo+i),λi _=>n<=i⟩
theorem Vo {P:Program} {w:World} {K:FG_} {tg:Expr} (a it:Addr):Turn P w K tg (Itl K a) [it] it (λi h=>h.IsListIter it a i) where
 mem:=by simp
 obj:=λi h st b hb=>by
  have e:b=it:=by simpa using hb
  subst e;obtain⟨o,e,c,d⟩:=st;exact⟨o,e,λv z=>by rw[d] at z;cases z⟩
 keep:=λi h h' st k=>st.at λo e=>k it (by simp) o e
 item:=by
  intro X hP hw hK hc i pins s σ H E I hf st hg;subst hP hw hK;obtain⟨xs,x,hq,hx⟩:=hg;obtain⟨its,rv,p,hz⟩:=I.list hq;obtain⟨u,hu,ru⟩:=rv.get hx;obtain⟨f0,f1,f2,f3,f4,f5⟩:=hf it (by simp);refine wpAny_pyNext_list_item st p.isList (x:=u) (by simpa using hu) λh' st' sb=>?_;have I1:Inv X pins σ H { s with heap:=h' }:=I.turned (t':=s.toks) (λb o hb e=>(sb.2 b hb).trans e) f0 f1 f3 f4 f5;obtain⟨o,e,c,d⟩:=id st';exact⟨u,rfl,Jg (s:={ s with heap:=h' }) e c d (by decide) ⟨x,H,I1,ru,⟨rfl,λys hy=>by rw[I.Nr hy hq];exact hx⟩,st',λb hb=>(hf b hb).1⟩⟩
 done:=by
  intro X hP hw hK hc i pins s σ H E I hf st hg;subst hP hw hK;obtain⟨xs,hq,hx⟩:=hg;obtain⟨its,rv,p,hz⟩:=I.list hq;obtain⟨f0,f1,f2,f3,f4,f5⟩:=hf it (by simp);have hl:=rv.length;exact wpAny_pyNext_list_end (I.ok.hd hc) st p.isList (by simp;omega) λh' eb=>⟨rfl,I.turned (t':=s.toks) (λb o hb e=>eb b o hb e) f0 f1 f3 f4 f5⟩
 self:=λ_ _ _ _ _ st h=>wpAny_pyIter_listiter st h
theorem Q8 {P:Program} {w:World} {K:FG_} {tg:Expr} (a it:Addr):Turn P w K tg (Itt K a) [it] it (λi h=>h.IsTupleIter it a i) where
 mem:=by simp
 obj:=λi h st b hb=>by
  have e:b=it:=by simpa using hb
  subst e;obtain⟨o,e,c,d⟩:=st;exact⟨o,e,λv z=>by rw[d] at z;cases z⟩
 keep:=λi h h' st k=>st.at λo e=>k it (by simp) o e
 item:=by
  intro X hP hw hK hc i pins s σ H E I hf st hg;subst hP hw hK;obtain⟨xs,x,hq,hx⟩:=hg;obtain⟨its,rv,p,hz⟩:=I.tuple hq;obtain⟨u,hu,ru⟩:=rv.get hx;obtain⟨f0,f1,f2,f3,f4,f5⟩:=hf it (by simp);refine wpAny_pyNext_tuple_item st (show s.heap.IsTuple a its.toArray from p) (x:=u) (by simpa using hu) λh' st' sb=>?_;have I1:Inv X pins σ H { s with heap:=h' }:=I.turned (t':=s.toks) (λb o hb e=>(sb.2 b hb).trans e) f0 f1 f3 f4 f5;obtain⟨o,e,c,d⟩:=id st';exact⟨u,rfl,Jg (s:={ s with heap:=h' }) e c d (by decide) ⟨x,H,I1,ru,⟨rfl,λys hy=>by rw[I.Jf hy hq];exact hx⟩,st',λb hb=>(hf b hb).1⟩⟩
 done:=by
  intro X hP hw hK hc i pins s σ H E I hf st hg;subst hP hw hK;obtain⟨xs,hq,hx⟩:=hg;obtain⟨its,rv,p,hz⟩:=I.tuple hq;obtain⟨f0,f1,f2,f3,f4,f5⟩:=hf it (by simp);have hl:=rv.length;exact wpAny_pyNext_tuple_end (I.ok.hd hc) st (show s.heap.IsTuple a its.toArray from p) (by simp;omega) λh' eb=>⟨rfl,I.turned (t':=s.toks) (λb o hb e=>eb b o hb e) f0 f1 f3 f4 f5⟩
 self:=λ_ _ _ _ _ st h=>wpAny_pyIter_tupleiter st h
theorem Q9 {P:Program} {w:World} {K:FG_} {tg:Expr} (it:Addr) (lo:Int) (n:Nat):Turn P w K tg (Itr lo n) [it] it (λi h=>IsRangeIter h it (lo+(i:Nat) * 1) ((n:Int) - (i:Nat)) 1) where
 mem:=by simp
 obj:=λi h st b hb=>by
  have e:b=it:=by simpa using hb
  subst e;exact⟨_,st,λv z=>by
   have z':Data.fields _=Data.cell v:=z;cases z'⟩
 keep:=λi h h' st k=>k it (by simp) _ st
 item:=by
  intro X hP hw hK hc i pins s σ H E I hf st hg;subst hP hw hK;obtain⟨f0,f1,f2,f3,f4,f5⟩:=hf it (by simp);have W:=Walks.range (prog:=X.prog) (w:=X.w) (I.ok.hd hc) it lo 1 n;refine W.item i s _ _ hg st λv h' tk hv st' kk=>?_;obtain⟨t,rfl⟩:=hv;have I1:Inv X pins σ H { s with heap:=h',toks:=tk }:=I.turned (λb o hb e=>kk b o (by simpa using hb) e) f0 f1 f3 f4 f5;refine⟨_,rfl,Jg (s:={ s with heap:=h',toks:=tk }) (n := "range_iterator") st' rfl rfl (by decide) ⟨.int (lo+i),H,I1,⟨t,?_⟩,⟨rfl,rfl⟩,st',λb hb=>(hf b hb).1⟩⟩;rw[Int.mul_one]
 done:=by
  intro X hP hw hK hc i pins s σ H E I hf st hg;subst hP hw hK;obtain⟨f0,f1,f2,f3,f4,f5⟩:=hf it (by simp);exact wpAny_pyNext_range_end (I.ok.hd hc) st (by have:n<=i:=hg;omega) λh' eb=>⟨rfl,I.turned (t':=s.toks) (λb o hb e=>eb b o hb e) f0 f1 f3 f4 f5⟩
 self:=λ_ _ _ _ _ st h=>wpAny_pyIter_rangeiter st h
end L2
namespace L2
open PySem PySem.Spec PyProof.Rows
section
variable {X:Cx} {tg:Expr}
theorem Xo {pins:List (Addr×Obj)} {σ:St} {H:Hp} {s:Shared} {R:It->Hp->Prop} {E:VP_} {lo hi:Int} {t u v:Tok} {tk:Nat} (I:Inv X pins σ H s) (h1 : -(2 ^ 62)<=lo) (h2:lo < 2 ^ 62) (h3 : -(2 ^ 62)<=hi) (h4:hi < 2 ^ 62)
  (q:R (Itr lo (hi - lo).toNat) H):wpAny (model X.prog X.w) X.A (pyIter (.ref s.heap.objs.size)) (PIE X pins σ tg R) E { s with heap:=s.heap.push { cls:=.type "range", data:=.fields #[.int lo t,.int hi u,.int 1 v] },toks:=tk }:=by
 refine wpAny_pyIter_range (IsRange.new ..) (small_one h1 h2 h3 h4) ?_;have I1:Inv X pins σ H { s with heap:=s.heap.push { cls:=.type "range", data:=.fields #[.int lo t,.int hi u,.int 1 v] },toks:=tk }:=I.kept λb o e=>zd _ e;refine⟨(s.heap.push { cls:=.type "range", data:=.fields #[.int lo t,.int hi u,.int 1 v] }).objs.size,[(s.heap.push { cls:=.type "range", data:=.fields #[.int lo t,.int hi u,.int 1 v] }).objs.size],_,_,H,rfl,
  I1.kept (t':=tk) λb o e=>zd _ e,Q9 _ lo (hi - lo).toNat,?_,λb hb=>?_,q⟩
 ·have e1:lo+((0:Nat):Int) * 1=lo:=by simp
  have e2:(((hi - lo).toNat:Nat):Int) - ((0:Nat):Int)=Builtin.Range.rangeSize lo hi 1:=by rw[rangeSize_one];split<;>omega
  show IsRangeIter _ _ (lo+((0:Nat):Int) * 1) ((((hi - lo).toNat:Nat):Int) - ((0:Nat):Int)) 1;rw[e1,e2];exact zv _ rfl
 ·have e:b=(s.heap.push { cls:=.type "range", data:=.fields #[.int lo t,.int hi u,.int 1 v] }).objs.size:=by simpa using hb
  subst e;exact I1.Xn (zi _) (I1.hok.fresh (zi _))
def agr (ta:TA):TI:=λσ H R=>ta σ H λvs H1=>∃ j:Int,vs=[.int j] ∧ -(2 ^ 62)<=j/\j < 2 ^ 62/\R (Itr 0 j.toNat) H1
theorem Vp {a:Expr} {ta:TA} {p pos:Pos} (hg:Gl X "range") (hm:X.mg "range" = none) (ha:PA X [a] ta) (hs:starEach [a] X.env=[(false,eval a X.env)]:=by rfl):PI X tg (.Call (.Name "range" p) [a] [] pos) (agr ta):=by
 intro pins s σ H R I h;refine Call_ (Kd I hg hm boot_range (PyProof.Rows.callWith_type1 (jd (ha pos pins s σ H _ I h) λus s1 ⟨vs,H1,I1,r1,q1⟩=>?_) hs rfl));obtain⟨j,e,q1,q2,q⟩:=q1;subst e;cases r1 with
 |cons r rr=>
  cases rr;obtain⟨t,rfl⟩:=r;exact call_range_1 (Xo I1 (by omega) (by omega) q1 q2 (by simpa using q))
def aiq (wi:TI) (g:TG) (tb:TS):TS:=λD σ H=>wi σ H λJ H1=>∃ W:Nat->Nat->St->Hp->Prop,(∃ m,W 0 m σ H1)/\∀ i m σ H,W i m σ H →
 (J.stop i H/\D.nx σ H)\/(J.go i H/\∃ N:St->Hp->Prop,(∀ σ' H',N σ' H'->∃ m',m' < m/\W (i+1) m' σ' H')/\∀ x H',J.yld i H x H'->g x σ H' λσ2 H2=>tb { D with nx:=N,ct:=N,bk:=D.nx } σ2 H2)
def Al (fp:List Addr) (h:Heap):List (Addr×Obj):=fp.filterMap λb=>(h.get? b).map λo=>(b,o)
theorem tu {fp:List Addr} {h:Heap} {b:Addr} {o:Obj} (hb:b∈fp) (e:h.get? b=some o):(b,o)∈Al fp h:=List.mem_filterMap.mpr ⟨b,hb,by rw[e];rfl⟩
theorem Vq {fp:List Addr} {h:Heap} {p:Addr×Obj} (hp:p∈Al fp h):p.1∈fp/\h.get? p.1=some p.2:=by
 obtain⟨b,hb,e⟩:=List.mem_filterMap.mp hp;cases q:h.get? b with
 |none=>rw[q] at e;cases e
 |some o=>
  rw[q] at e;have e':(b,o)=p:=JE e;subst e';exact⟨hb,q⟩
theorem Inv.pinned {pins:List (Addr×Obj)} {σ:St} {H:Hp} {s:Shared} {fp:List Addr} (I:Inv X pins σ H s) (hf:∀ b∈fp,uQ X pins H b) (ho:∀ b∈fp,∃ o,s.heap.get? b=some o/\∀ v,o.data≠.cell v):Inv X (pins++Al fp s.heap) σ H s:=
 I.Kc λp hp=>(List.mem_append.mp hp).elim (λz=>I.pin p (qc _ z)) λz=>by
  obtain⟨hb,e⟩:=Vq z;obtain⟨f0,f1,f2,_⟩:=hf p.1 hb;obtain⟨o,e',d⟩:=ho p.1 hb;rw[e] at e';cases e';exact⟨e,f0,f1,f2,d⟩
theorem Inv.uR {pins pl:List (Addr×Obj)} {σ:St} {H:Hp} {s:Shared} (I:Inv X (pins++pl) σ H s):Inv X pins σ H s:=I.Kc λp hp=>I.pin p (qc _ (qv _ hp))
theorem Xp {iter:Expr} {body:List Stmt} {wi:TI} {g:TG} {tb:TS} {pos:Pos} (hp:PassesOwn (model X.prog X.w) X.A X.env X.xe) (hc:X.calm=true) (hi:PI X tg iter wi) (hg:PG X tg g) (hb:Q7 X body tb)
  (hs:∀ x,foldedSetIterable iter X.env x=pure x:=by intro _;rfl):PS X (.For tg iter body [] pos) (aiq wi g tb):=by
 intro pins s σ H D I h;refine wpAny_For (jd (hi pins s σ H _ I h) λv s1 h1=>jd h1 λitv s2 h2=>?_) hs;obtain⟨it,fp,tn,J,H2,e,I2,T,st2,f2,W,⟨m0,w0⟩,turn⟩:=h2;subst e;have stat:∀ {H':Hp},(∀ b∈fp,H' b=none)->∀ b∈fp,uQ X pins H' b:=λhn b hb=>⟨hn b hb,(f2 b hb).2⟩;refine codeAny_forLoop_any (λn s'=>∃ i σ' H',Inv X pins σ' H' s'/\tn i s'.heap/\(∀ b∈fp,H' b=none)/\W i n σ' H') ?_ m0 ⟨0,σ,H2,I2,st2,λb hb=>(f2 b hb).1,w0⟩;rintro n s3 ⟨i,σ3,H3,I3,st3,fr3,w3⟩;rcases turn i n σ3 H3 w3 with⟨stop,qn⟩|⟨go,N,hN,step⟩
 ·refine km hp (jd (T.done X rfl rfl rfl hc i pins s3 σ3 H3 X.xe I3 (stat fr3) st3 stop) λr s4 ⟨hr,I4⟩=>?_);subst hr;exact wpAny_execs_nil ⟨σ3,H3,I4,qn⟩
 ·refine km hp (jd (T.item X rfl rfl rfl hc i pins s3 σ3 H3 X.xe I3 (stat fr3) st3 go) λr s4 ⟨u,hr,h4⟩=>?_);subst hr;refine km hp (jd h4 λ_ s5 ⟨x,H5,I5,r5,y5,st5,fr5⟩=>?_);have I5':=I5.pinned (stat fr5) (T.obj _ _ st5);refine km hp (jd (hg _ s5 σ3 H5 x u _ I5' r5 (step x H5 y5)) λ_ s6 ⟨σ6,H6,I6,q6⟩=>?_);refine km hp (jd (hb _ s6 σ6 H6 _ I6 q6) λf s7 q7=>?_);have again:∀ {σ7:St} {H7:Hp},Inv X (pins++Al fp s5.heap) σ7 H7 s7->N σ7 H7->∃ m,m < n/\∃ i σ' H',Inv X pins σ' H' s7/\tn i s7.heap/\(∀ b∈fp,H' b=none)/\W i m σ' H':=λ{σ7 H7} I7 n7=>by
   obtain⟨m',hm,w7⟩:=hN σ7 H7 n7;refine⟨m',hm,i+1,σ7,H7,I7.uR,T.keep _ _ _ st5 λb hb o e=>(I7.pin (b,o) (qc _ (qc _ (tu hb e)))).1,λb hb=>?_,w7⟩;obtain⟨o,e,d⟩:=T.obj _ _ st5 b hb;exact(I7.pin (b,o) (qc _ (qc _ (tu hb e)))).2.1
  cases f with
  |next=>obtain⟨σ7,H7,I7,n7⟩:=q7;exact again I7 n7
  |cont=>obtain⟨σ7,H7,I7,n7⟩:=q7;exact again I7 n7
  |brk=>obtain⟨σ7,H7,I7,q7⟩:=q7;exact⟨σ7,H7,I7.uR,q7⟩
  |ret v=>obtain⟨x7,σ7,H7,I7,r7,q7⟩:=q7;exact⟨x7,σ7,H7,I7.uR,r7,q7⟩
end
end L2
namespace L2
open PySem PySem.Spec PyProof.Rows
abbrev R2:=V->V->Hp->VK->Prop
def vZ (X:Cx) (f:Value->Value->Sem Value) (r:R2):Prop:=
 ∀ (pins:List (Addr×Obj)) (s:Shared) (σ:St) (H:Hp) (x y:V) (v u:Value) (Q:VK),Inv X pins σ H s->RelV x v->RelV y u->r x y H Q →
  wpAny (model X.prog X.w) X.A (f v u) (EP X pins σ Q) X.xe s
def UnR (X:Cx) (f:Value->Sem Value) (r:V->Hp->VK->Prop):Prop:=
 ∀ (pins:List (Addr×Obj)) (s:Shared) (σ:St) (H:Hp) (x:V) (v:Value) (Q:VK),Inv X pins σ H s->RelV x v->r x H Q →
  wpAny (model X.prog X.w) X.A (f v) (EP X pins σ Q) X.xe s
def fX (X:Cx) (f:Value) (r:List V->Hp->VK->Prop):Prop:=
 ∀ (pins:List (Addr×Obj)) (s:Shared) (σ:St) (H:Hp) (xs:List V) (us:List Value) (Q:VK),Inv X pins σ H s->Vals xs us->r xs H Q →
  wpAny (model X.prog X.w) X.A (call f us) (EP X pins σ Q) X.xe s
def ais (X:Cx) (r:V->Hp->(Bool->Hp->Prop)->Prop):Prop:=
 ∀ (pins:List (Addr×Obj)) (s:Shared) (σ:St) (H:Hp) (x:V) (v:Value) (Q:Bool->Hp->Prop),Inv X pins σ H s->RelV x v->r x H Q →
  wpAny (model X.prog X.w) X.A (truthy v) (TP X pins σ Q) X.xe s
def tOp (r:R2) (ta tb:TE):TE:=λσ H Q=>ta σ H λx H1=>tb σ H1 λy H2=>r x y H2 Q
def tUn (r:V->Hp->VK->Prop) (ta:TE):TE:=λσ H Q=>ta σ H λx H1=>r x H1 Q
def rI (C:Int->Int->Prop) (g:Int->Int->V):R2:=λx y H Q=>∃ i j,x=.int i/\y=.int j/\C i j/\Q (g i j) H
def rI0 (g:Int->Int->V):R2:=λx y H Q=>∃ i j,x=.int i/\y=.int j/\Q (g i j) H
def rU (g:Int->V):V->Hp->VK->Prop:=λx H Q=>∃ i,x=.int i/\Q (g i) H
section
variable {X:Cx} {a b c:Expr} {ta tb tc:TE} {pos:Pos}
theorem ad7 (ha:PE X a ta) (hb:PE X b tb) {pins:List (Addr×Obj)} {s:Shared} {σ:St} {H:Hp} {R:V->V->Hp->Prop} (I:Inv X pins σ H s)
  (h:ta σ H λx H1=>tb σ H1 λy H2=>R x y H2) {Q:VP_} {f:Value->Value->Sem Value}
  (hf:∀ v u s2 x y H2,Inv X pins σ H2 s2->RelV x v->RelV y u->R x y H2->wpAny (model X.prog X.w) X.A (f v u) Q X.xe s2) :
  wpAny (model X.prog X.w) X.A (eval a X.env) (λv s₁=>wpAny (model X.prog X.w) X.A (eval b X.env) (λu s₂=>wpAny (model X.prog X.w) X.A (f v u) Q X.xe s₂) X.xe s₁) X.xe s:=by
 refine jd (ha pins s σ H _ I h) λv s1 ⟨x,H1,I1,r1,q1⟩=>?_;refine jd (hb pins s1 σ H1 _ I1 q1) λu s2 ⟨y,H2,I2,r2,q2⟩=>?_;exact hf v u s2 x y H2 I2 r1 r2 q2
theorem agt {op:Operator} {r:R2} (ho:vZ X (binaryOp op) r) (ha:PE X a ta) (hb:PE X b tb):PE X (.BinOp a op b pos) (tOp r ta tb):=by
 intro pins s σ H Q I h;exact wpAny_BinOp (ad7 ha hb I h λv u s2 x y H2 I2 rx ry q=>ho pins s2 σ H2 x y v u Q I2 rx ry q)
theorem agu {op:UnaryOp} {r:V->Hp->VK->Prop} (ho:UnR X (unaryOp op) r) (ha:PE X a ta):PE X (.UnaryOp op a pos) (tUn r ta):=by
 intro pins s σ H Q I h;exact UnaryOp_ (jd (ha pins s σ H _ I h) λv s1 ⟨x,H1,I1,r1,q1⟩=>ho pins s1 σ H1 x v Q I1 r1 q1)
theorem opI {f:Value->Value->Sem Value} {C:Int->Int->Prop} {g:Int->Int->Int}
  (rule:∀ (i j:Int) (t u:Tok) (s:Shared) (Q:VP_) (E:VP_),C i j->Q (.int (g i j) s.toks) { s with toks:=s.toks+1 }->wpAny (model X.prog X.w) X.A (f (.int i t) (.int j u)) Q E s) :
  vZ X f (rI C λi j=>.int (g i j)):=by
 intro pins s σ H x y v u Q I rx ry h;obtain⟨i,j,rfl,rfl,hc,q⟩:=h;obtain⟨t,rfl⟩:=rx;obtain⟨t',rfl⟩:=ry;exact rule i j t t' s _ _ hc ⟨.int (g i j),H,I.tok _,⟨_,rfl⟩,q⟩
theorem agv {f:Value->Value->Sem Value} {g:Int->Int->Int}
  (rule:∀ (i j:Int) (t u:Tok) (s:Shared) (Q:VP_) (E:VP_),Q (.int (g i j) s.toks) { s with toks:=s.toks+1 }->wpAny (model X.prog X.w) X.A (f (.int i t) (.int j u)) Q E s) :
  vZ X f (rI0 λi j=>.int (g i j)):=by
 intro pins s σ H x y v u Q I rx ry h;obtain⟨i,j,rfl,rfl,q⟩:=h;obtain⟨t,rfl⟩:=rx;obtain⟨t',rfl⟩:=ry;exact rule i j t t' s _ _ ⟨.int (g i j),H,I.tok _,⟨_,rfl⟩,q⟩
theorem aaU {f:Value->Value->Sem Value} {g:Int->Int->Bool}
  (rule:∀ (i j:Int) (t u:Tok) (s:Shared) (Q:VP_) (E:VP_),Q (.bool (g i j)) s->wpAny (model X.prog X.w) X.A (f (.int i t) (.int j u)) Q E s) :
  vZ X f (rI0 λi j=>.bl (g i j)):=by
 intro pins s σ H x y v u Q I rx ry h;obtain⟨i,j,rfl,rfl,q⟩:=h;obtain⟨t,rfl⟩:=rx;obtain⟨t',rfl⟩:=ry;exact rule i j t t' s _ _ ⟨.bl (g i j),H,I,rfl,q⟩
def ait (i j:Int):Prop:=0 < j/\j < 1073741824
def aiu (i j:Int):Prop:=0<=j/\j<=1000000/\i.natAbs < 2 ^ 64
def ad8 (i j:Int):Prop:=(-(2 ^ 64) < i/\i < 2 ^ 64)\/(-(2 ^ 64) < j/\j < 2 ^ 64)
theorem ad8.ok {i j:Int} (h:ad8 i j):IntMulOk i j:=by
 rcases h with⟨h1,h2⟩|⟨h1,h2⟩
 ·exact .of_left (intBits_le_64 h1 h2)
 ·exact .of_right (intBits_le_64 h1 h2)
theorem ad9:vZ X (binaryOp .Add) (rI0 λi j=>.int (i+j)):=agv λ_ _ _ _ _ _ _ q=>add_int q
theorem aea:vZ X (binaryOp .Sub) (rI0 λi j=>.int (i - j)):=agv λ_ _ _ _ _ _ _ q=>sub_int q
theorem aeb:vZ X (binaryOp .Mult) (rI ad8 λi j=>.int (i * j)):=opI λ_ _ _ _ _ _ _ hc q=>mul_int q hc.ok
theorem aaV:vZ X (binaryOp .FloorDiv) (rI ait λi j=>.int (i / j)):=opI λi j _ _ _ _ _ hc q=>by
 have h1:(0:Int) < j:=hc.1;have h2:j < 1073741824:=hc.2;exact floordiv_int (by omega) (by rw[Int.fdiv_eq_ediv_of_nonneg i (by omega)];exact q) (.inl (PyProof.noPylong_small (by omega)))
theorem aec:vZ X (binaryOp .Mod) (rI (λ_ j=>0 < j) λi j=>.int (i % j)):=opI λi j _ _ _ _ _ hc q=>by
 have h1:(0:Int) < j:=hc;exact mod_int' (by omega) (by rw[Int.fmod_eq_emod_of_nonneg i (by omega)];exact q)
theorem aed:vZ X (binaryOp .Pow) (rI aiu λi j=>.int (i ^ j.toNat)):=opI λ_ _ _ _ _ _ _ hc q=>pow_int_small hc.1 hc.2.1 hc.2.2 q
theorem unI {f:Value->Sem Value} {g:Int->Int}
  (rule:∀ (i:Int) (t:Tok) (s:Shared) (Q:VP_) (E:VP_),Q (.int (g i) s.toks) { s with toks:=s.toks+1 }->wpAny (model X.prog X.w) X.A (f (.int i t)) Q E s) :
  UnR X f (rU λi=>.int (g i)):=by
 intro pins s σ H x v Q I rx h;obtain⟨i,rfl,q⟩:=h;obtain⟨t,rfl⟩:=rx;exact rule i t s _ _ ⟨.int (g i),H,I.tok _,⟨_,rfl⟩,q⟩
theorem aee:UnR X (unaryOp .USub) (rU λi=>.int (-i)):=unI λ_ _ _ _ _ q=>neg_int q
theorem Ra {pins:List (Addr×Obj)} {σ:St} {H:Hp} {s:Shared} {Q:VK} {k k':Bool} (I:Inv X pins σ H s) (q:Q (.bl k) H) (e:k=k'):EP X pins σ Q (.bool k') s:=by
 subst e;exact⟨.bl k,H,I,rfl,q⟩
theorem agw:vZ X (compareOp .Lt) (rI0 λi j=>.bl (decide (i < j))):=aaU λ_ _ _ _ _ _ _ q=>lt_int q
theorem agx:vZ X (compareOp .LtE) (rI0 λi j=>.bl (decide (i<=j))):=aaU λ_ _ _ _ _ _ _ q=>le_int q
theorem agy:vZ X (compareOp .Gt) (rI0 λi j=>.bl (decide (j < i))):=aaU λ_ _ _ _ _ _ _ q=>gt_int q
theorem agz:vZ X (compareOp .GtE) (rI0 λi j=>.bl (decide (j<=i))):=aaU λ_ _ _ _ _ _ _ q=>ge_int q
theorem Vr:vZ X (compareOp .In) (λx y H Q=>∃ i j,x=.str i/\y=.str j/\Q (.bl (!(Builtin.Str.occurrences j i 0 j.length 1).isEmpty)) H):=by
 intro pins s σ H x y v u Q I rx ry h;obtain⟨i,j,rfl,rfl,q⟩:=h;obtain⟨t,rfl⟩:=rx;obtain⟨t',rfl⟩:=ry;exact in_str (Ra I q rfl)
theorem aef:vZ X (compareOp .Is) (λx y H Q=>y=.non/\Q (.bl (decide (x=.non))) H):=by
 intro pins s σ H x y v u Q I rx ry h;obtain⟨rfl,q⟩:=h;cases ry;refine is_none_gen (Ra I q ?_);cases x<;>first
  |(cases rx;rfl)
  |(obtain⟨t,rfl⟩:=rx;rfl)
theorem aaW:vZ X (compareOp .IsNot) (λx y H Q=>y=.non/\Q (.bl (!decide (x=.non))) H):=by
 intro pins s σ H x y v u Q I rx ry h;obtain⟨rfl,q⟩:=h;cases ry;refine isnot_none_gen (Ra I q ?_);cases x<;>first
  |(cases rx;rfl)
  |(obtain⟨t,rfl⟩:=rx;rfl)
theorem cG (b:Expr) {op:CmpOp} (h:op≠.In:=by decide) (h2:op≠.NotIn:=by decide):behindInMarks op b=false:=by
 have e1:(op==CmpOp.In)=false:=by cases op<;>first|rfl|exact absurd rfl h
 have e2:(op==CmpOp.NotIn)=false:=by cases op<;>first|rfl|exact absurd rfl h2
 cases b<;>simp[behindInMarks,e1,e2]
theorem aaX {op:CmpOp} {r:R2} (ho:vZ X (compareOp op) r) (ha:PE X a ta) (hb:PE X b tb) (hm:behindInMarks op b=false):PE X (.Compare a [op] [b] pos) (tOp r ta tb):=by
 intro pins s σ H Q I h;exact wpAny_Compare1 (ad7 ha hb I h λv u s2 x y H2 I2 rx ry q=>ho pins s2 σ H2 x y v u Q I2 rx ry q) hm
def agA (t:TE):TT:=λσ H Q=>t σ H λx H'=>∃ k,x=.bl k/\Q k H'
theorem aaY {op:CmpOp} {r:R2} (ho:vZ X (compareOp op) r) (ha:PE X a ta) (hb:PE X b tb) (hm:behindInMarks op b=false):PT X (.Compare a [op] [b] pos) (agA (tOp r ta tb)):=by
 intro pins s σ H Q I h;refine wpAny_isTrue_Compare1 (jd (ha pins s σ H _ I h) λv s1 ⟨x,H1,I1,r1,q1⟩=>jd (hb pins s1 σ H1 _ I1 q1) λu s2 ⟨y,H2,I2,r2,q2⟩=>
  jd (ho pins s2 σ H2 x y v u _ I2 r1 r2 q2) λc s3 ⟨z,H3,I3,r3,k,e,q3⟩=>?_) hm
 subst e;cases r3;exact Q1 ⟨H3,I3,q3⟩
def Xq (r r':R2) (ta tb tc:TE):TE:=λσ H Q=>ta σ H λx H1=>tb σ H1 λy H2=>r x y H2 λz H3=>∃ k,z=.bl k ∧
 (if k=true then tc σ H3 λw' H4=>r' y w' H4 Q else Q (.bl false) H3)
theorem Xr {op op':CmpOp} {r r':R2} (ho:vZ X (compareOp op) r) (ho':vZ X (compareOp op') r') (ha:PE X a ta) (hb:PE X b tb) (hc:PE X c tc)
  (hm:lastMarks [op,op'] [b,c]=false:=by with_unfolding_all rfl):PE X (.Compare a [op,op'] [b,c] pos) (Xq r r' ta tb tc):=by
 intro pins s σ H Q I h;refine Compare_chain (jd (ha pins s σ H _ I h) λv s1 ⟨x,H1,I1,r1,q1⟩=>chain_link (jd (hb pins s1 σ H1 _ I1 q1) λu s2 ⟨y,H2,I2,r2,q2⟩=>
  jd (ho pins s2 σ H2 x y v u _ I2 r1 r2 q2) λd s3 ⟨z,H3,I3,r3,k,e,q3⟩=>?_)) hm
 subst e;cases r3;refine Q1 ?_;cases k with
 |false=>exact ite_ff ⟨.bl false,H3,I3,rfl,q3⟩
 |true=>exact ite_tt (chain_last (jd (hc pins s3 σ H3 _ I3 q3) λw' s4 ⟨z',H4,I4,r4,q4⟩=>ho' pins s4 σ H4 y z' u w' Q I4 r2 r4 q4))
def aeg (K:FG_) (x:V) (H:Hp) (k:Bool):Prop:=
 match x with
 |.non=>k=false
 |.bl b=>k=b
 |.int i=>k=(i != 0)
 |.str y=>y.length<=sizeLine/\k=((y.length:Int) != 0)
 |.byt y=>y.size<=sizeLine/\k=((y.size:Int) != 0)
 |.ref p=>(∃ xs,uN K H p xs/\k=!xs.isEmpty)\/(∃ xs,yH K H p xs/\k=!xs.isEmpty)\/∃ kvs,H p=some (.dK kvs)/\k=!kvs.isEmpty
 |_=>False
theorem Rb {κ:Type} {kvs:List (κ×V)} {vs:List (κ×Value)} (r:KV kvs vs):(!vs.isEmpty)=!kvs.isEmpty:=by
 cases r<;>rfl
theorem Eh {xs:List V} {its:List Value} (r:Vals xs its):(!its.toArray.isEmpty)=!xs.isEmpty:=by
 cases r<;>simp
theorem Am:(sizeLine:Nat) < 2 ^ 63:=by rw[sizeLine_eq];decide
theorem aeh:ais X (λx H Q=>∃ k,aeg X.K x H k/\Q k H):=by
 intro pins s σ H x v Q I rx h;obtain⟨k,e,q⟩:=h;have hl:=Am;have hs:sizeLine=16777216:=sizeLine_eq;cases x with
 |non=>
  cases rx;have e':k=false:=e;subst e';exact truthy_none ⟨H,I,q⟩
 |bl b=>
  cases rx;have e':k=b:=e;subst e';exact Q1 ⟨H,I,q⟩
 |int i=>
  obtain⟨t,rfl⟩:=rx;have e':k=(i != 0):=e;subst e';exact PySem.P.truthy_int ⟨H,I,q⟩
 |str y=>
  obtain⟨t,rfl⟩:=rx;obtain⟨hy,e'⟩:y.length<=sizeLine/\k=((y.length:Int) != 0):=e;subst e';exact PySem.P.truthy_str (by omega) ⟨H,I.tok _,q⟩
 |byt y=>
  obtain⟨t,rfl⟩:=rx;obtain⟨hy,e'⟩:y.size<=sizeLine/\k=((y.size:Int) != 0):=e;subst e';exact PySem.W.truthy_bytes (by omega) ⟨H,I.tok _,q⟩
 |ref p=>
  cases rx;have e':(∃ xs,uN X.K H p xs/\k=!xs.isEmpty)\/(∃ xs,yH X.K H p xs/\k=!xs.isEmpty)\/∃ kvs,H p=some (.dK kvs)/\k=!kvs.isEmpty:=e;rcases e' with⟨xs,hx,e'⟩|⟨xs,hx,e'⟩|⟨kvs,hx,e'⟩
  ·subst e';obtain⟨its,r,pl,hz⟩:=I.list hx;have hlen:=r.length;exact wpAny_truthy_list pl.isList (by simp only[zt];omega) ⟨H,I.tok _,by rw[Eh r];exact q⟩
  ·subst e';obtain⟨its,r,pl,hz⟩:=I.tuple hx;have hlen:=r.length;exact truthy_tuple pl (by simp only[zt];omega) ⟨H,I.tok _,by rw[Eh r];exact q⟩
  ·subst e';obtain⟨hz,hS,vs,r,m⟩:kvs.length<=sizeLine/\(p==sysModules)=false/\∃ vs,KV kvs vs/\s.heap.DictOf (aX X.prog X.w) p vs:=I.hok p _ hx;have hlen:kvs.length=vs.length:=Paired.length r;exact wpAny_truthy_dict hS m (by omega) ⟨H,I.tok _,by rw[Rb r];exact q⟩
 |_=>exact(show False from e).elim
theorem Xu (ha:PE X a ta) (he:∀ whole,isTrue a X.env whole=(do let v <-whole;standAt a.pos;holding [v] (truthy v))) :
  PT X a (λσ H Q=>ta σ H λx H'=>∃ k,aeg X.K x H' k/\Q k H'):=by
 intro pins s σ H Q I h;exact isTrue_plain (jd (ha pins s σ H _ I h) λv s1 ⟨x,H1,I1,r1,q1⟩=>aeh pins s1 σ H1 x v Q I1 r1 q1) (he _)
theorem Rc:vZ X (binaryOp .Add) (λx y H Q=>∃ i j,x=.str i/\y=.str j/\i.length+j.length<=sizeLine/\Q (.str (i++j)) H):=by
 intro pins s σ H x y v u Q I rx ry h;obtain⟨i,j,rfl,rfl,hz,q⟩:=h;obtain⟨t,rfl⟩:=rx;obtain⟨t',rfl⟩:=ry;exact add_str (λt' tk=>⟨.str (i++j),H,I.tok _,⟨_,rfl⟩,q⟩) hz
theorem vals1 {x:V} {us:List Value} (r:Vals [x] us):∃ u,us=[u]/\RelV x u:=by
 cases r with
 |cons r1 r2=>cases r2;exact⟨_,rfl,r1⟩
theorem vals2 {x y:V} {us:List Value} (r:Vals [x,y] us):∃ u w',us=[u,w']/\RelV x u/\RelV y w':=by
 cases r with
 |cons r1 r2=>
  cases r2 with
  |cons r3 r4=>cases r4;exact⟨_,_,rfl,r1,r3⟩
theorem Xv:fX X (.builtin "abs") (λxs H Q=>∃ i,xs=[.int i]/\Q (.int (if i < 0 then -i else i)) H):=by
 intro pins s σ H xs us Q I r h;obtain⟨i,rfl,q⟩:=h;obtain⟨u,rfl,t,rfl⟩:=vals1 r;exact call_abs_int λu tk=>⟨.int (if i < 0 then -i else i),H,I.tok _,⟨_,rfl⟩,q⟩
theorem Vs:fX X (.type "int") (λxs H Q=>(∃ i,xs=[.int i]/\Q (.int i) H)\/∃ k,xs=[.bl k]/\Q (.int (if k then 1 else 0)) H):=by
 intro pins s σ H xs us Q I r h;rcases h with⟨i,rfl,q⟩|⟨k,rfl,q⟩
 ·obtain⟨u,rfl,t,rfl⟩:=vals1 r;exact call_int_int ⟨.int i,H,I,⟨_,rfl⟩,q⟩
 ·obtain⟨u,rfl,r1⟩:=vals1 r;cases r1;exact call_int_bool ⟨.int (if k then 1 else 0),H,I.tok _,⟨_,rfl⟩,q⟩
end
end L2
namespace L2
open PySem PySem.Spec PyProof.Rows
structure aiv (h:Heap) (x dx C:Addr) (mA:Str->Option Value):Prop where
 obj:h.get? x=some (instObj C dx)
 ns:h.Ns1 dx mA
 ne:dx≠x
section
variable {prog:Program} {w:World} {A:Around} {E:VP_} {s:Shared} {K:FG_} {x dx C f:Addr} {mA:Str->Option Value} {name:Str} {v:Value}
end
theorem Ed.some_of {v:V} {o:Option Value} (r:Ed (some v) o):∃ u,o=some u/\RelV v u:=by
 cases o with
 |none=>exact(show False from r).elim
 |some u=>exact⟨u,rfl,r⟩
section
variable {P:Program} {w:World} {H H':Hp} {h h':Heap} {a C dx:Addr} {fs fs':List (Str×V)}
theorem Dp (hok:yF P w H h) (e:H a=some (.ins C dx fs)):∃ mA,aiv h a dx C mA/\(∀ f,Ed (fs.lookup f) (mA f))/\PySem.Within mA (fs.map (·.1))/\fs.length<=1000/\H dx=some (.own a):=by
 obtain⟨d,z,ne,ob,mA,n,r,q⟩:=(show gQ P w H h a (.ins C dx fs) from hok a _ e);exact⟨mA,⟨ob,n,ne⟩,r,q,z,d⟩
end
section
variable {X:Cx} {pins:List (Addr×Obj)} {σ:St} {H:Hp} {s:Shared} {a C dx:Addr} {fs:List (Str×V)} {f:Str} {v:V} {A:Around} {E:VP_}
end
section
variable {X:Cx} {o e value:Expr} {f:Str} {pos pos' tpos:Pos} {ta tv:TE}
end
section
variable {X:Cx} {pins:List (Addr×Obj)} {σ:St} {H:Hp} {s:Shared} {A:Around} {E:VP_} {Q:VP_} {c:Value} {b:Bool}
end
end L2
namespace L2
open PySem PySem.Spec PyProof.Rows
structure nu (k:Nat) (A:Around):Prop where
 hd:A.handled=none
 dp:A.depth+3 * k+5 < recursionLimit
 un:A.units+16 * k+200 < cLine
theorem nu.mono {j k:Nat} {A:Around} (r:nu k A) (h:j<=k):nu j A:=⟨r.hd,by have:=r.dp;omega,by have:=r.un;omega⟩
theorem nu.deeper {k:Nat} {A:Around} (r:nu (k+1) A) (env:Env):nu k (A.deeper env):=
 ⟨r.hd,by have:=r.dp;show A.depth+1+3 * k+5 < _;omega,by have:=r.un;show A.units+3+16 * k+200 < _;omega⟩
theorem nu.depth {k:Nat} {A:Around} (r:nu k A):A.depth < recursionLimit:=by have:=r.dp;omega
def Xw:TA:=λ_ H Q=>Q [] H
def yI (ta:TE) (tr:TA):TA:=λσ H Q=>ta σ H λx H1=>tr σ H1 λxs H2=>Q (x::xs) H2
section
variable {X:Cx} {e:Expr} {es:List Expr} {te:TE} {t:TA} {pos:Pos}
theorem qW:PA X [] Xw:=λ_ _ _ _ H Q I h=>Calls.spliced_nil ⟨[],H,I,.nil,h⟩
theorem gY (ha:PE X e te) (hr:PA X es t) (hs:starEach (e::es) X.env=(false,eval e X.env)::starEach es X.env:=by rfl):PA X (e::es) (yI te t):=by
 intro pos pins s σ H Q I h;rw[hs];show wpAny _ _ (spliced ((false,eval e X.env)::backTo pos (starEach es X.env))) _ _ s;refine Calls.spliced_cons (jd (ha pins s σ H _ I h) λu s1 ⟨x,H1,I1,r1,q1⟩=>?_);exact jd (hr pos pins s1 σ H1 _ I1 q1) λus s2 ⟨xs,H2,I2,r2,q2⟩=>⟨x::xs,H2,I2,.cons r1 r2,q2⟩
def aiw (t:TA):TE:=λσ H Q=>t σ H λxs H1=>xs.length<=sizeLine/\∀ p,H1 p=none->Q (.ref p) (upd H1 p (.tup xs))
def aix (t:TA):TE:=λσ H Q=>t σ H λxs H1=>xs.length<=sizeLine/\∀ p,H1 p=none->Q (.ref p) (upd H1 p (.lst xs))
theorem aei {x1} (h:PA X es t):PE X (.Tuple es x1 pos) (aiw t):=by
 intro pins s σ H Q I hq;refine wpAny_Tuple_spliced (jd (h pos pins s σ H _ I hq) λus s1 ⟨xs,H1,I1,r,z,q⟩=>⟨by rw[<-r.length];exact z,?_⟩);have hf:H1 s1.heap.objs.size=none:=I1.hok.fresh (zi _);refine⟨.ref s1.heap.objs.size,upd H1 s1.heap.objs.size (.tup xs),I1.laid (t':=s1.toks) (λb u e=>zd _ e) (zi _) ?_,rfl,q _ hf⟩;exact⟨z,us,r,⟨_,zv _ rfl,rfl,⟨_,rfl⟩,rfl⟩⟩
theorem aej (h:PA X es t):PE X (.List es pos) (aix t):=by
 intro pins s σ H Q I hq;refine wpAny_List_spliced (jd (h pos pins s σ H _ I hq) λus s1 ⟨xs,H1,I1,r,z,q⟩=>⟨by rw[<-r.length];exact z,?_⟩);have hf:H1 s1.heap.objs.size=none:=I1.hok.fresh (zi _);refine⟨.ref s1.heap.objs.size,upd H1 s1.heap.objs.size (.lst xs),I1.laid (t':=s1.toks) (λb u e=>zd _ e) (zi _) ?_,rfl,q _ hf⟩;exact⟨z,us,0,r,zv _ rfl⟩
end
abbrev Sp:=List V->Hp->VK->XK->Prop
abbrev Xb:=List Env->Hp->Shared->XK->Value->Shared->Prop
structure aaZ (P:Program) (w:World) (K:FG_) (mg:Str->Option Value) (base:Heap) (A:Around) (outer:List Env) (s:Shared) (H:Hp):Prop where
 frames:A.frames=some outer
 mod:Mod K mg base
 bs:∀ b o,base.get? b=some o->s.heap.get? b=some o/\H b=none
 bsz:base.objs.size<=s.heap.objs.size
 Ef:s.heap.FunFrames base outer
 frf:∀ b∈frs outer,H b=none
 hok:yF P w H s.heap
 bare:AllBare s.gens
def CE (outer:List Env) (P:Program) (w:World) (H:Hp) (s:Shared) (Q:VK) (u:Value) (s':Shared):Prop:=
 ∃ v H',s'.os=s.os/\AllBare s'.gens/\Un (frs outer) [] H H' s.heap s'.heap/\yF P w H' s'.heap/\RelV v u/\Q v H'
def CR (CX:Xb) (outer:List Env) (P:Program) (w:World) (H:Hp) (s:Shared) (Q:VK) (E:XK) (r:Result) (s':Shared):Prop:=
 match r with
 |.ok (.ret u)=>CE outer P w H s Q u s'
 |.ok _=>False
 |.error e=>CX outer H s E e s'
structure wM (P:Program) (w:World) (K:FG_) (mg:Str->Option Value) (base:Heap) (CX:Xb) (k:Nat) (f:Addr) (fd:FuncData) (ps:LS_) (sp:Sp):Prop where
 len:∀ vs H Q E,sp vs H Q E->vs.length=ps.length
 run:∀ (A:Around) (outer:List Env) (s:Shared) (H:Hp) (args:Args) (us:List Value) (vs:List V) (Q:VK) (E:XK),nu k A->aaZ P w K mg base A outer s H->BindsTo s fd args (ps.zip us)->Vals vs us->sp vs H Q E →
  codeAny (model P w) A (.call (.ref f) args) (CR CX outer P w H s Q E) s
section
variable {X:Cx} {pins:List (Addr×Obj)} {σ:St} {H:Hp} {s s':Shared}
theorem Inv.env0 (I:Inv X pins σ H s):aaZ X.prog X.w X.K X.mg X.base X.A X.stack s H:=
 ⟨I.ok.frames,I.ok.mod,I.bs,Zs I.ok.bsz I.sz,I.stack,I.Tw,I.hok,I.bare⟩
theorem Inv.after {Q:VK} {u:Value} (I:Inv X pins σ H s) (h:CE X.stack X.prog X.w H s Q u s'):EP X pins σ Q u s':=by
 obtain⟨v,H',os,bare,un,hok,r,q⟩:=h;obtain⟨hh,g,d,t,os'⟩:=s';obtain rfl:os'=s.os:=os;exact⟨v,H',I.call (h':=hh) (g':=g) (d':=d) (t':=t) (ch:=[]) un hok bare (λb z=>absurd z (by simp)),r,q⟩
end
def agB (sp:Sp) (dvs:List V) (E:XK) (t:TA):TE:=λσ H Q=>t σ H λvs H1=>sp (vs++dvs) H1 Q E
def Binds (K:FG_) (fd:FuncData) (ps:LS_) (ds:List Value):Prop:=
 ∀ (s:Shared) (us:List Value),K.In s.heap->(us++ds).length=ps.length->BindsTo s fd ⟨us,[]⟩ (ps.zip (us++ds))
theorem Binds.all {K:FG_} {fd:FuncData} {ps:LS_} (h:∀ us:List Value,us.length=ps.length->bindArgs fd ⟨us,[]⟩=pure (ps.zip us)):Binds K fd ps []:=λs us _ hl=>by
 rw[JP] at hl ⊢;exact .of_eq (h us hl)
def Passes (CX:Xb) (X:Cx) (E:XK):Prop:=∀ (pins:List (Addr×Obj)) (σ:St) (H:Hp) (s:Shared) (e:Value) (s':Shared),Inv X pins σ H s->CX X.stack H s E e s'->X.xe e s'
section
variable {X:Cx} {CX:Xb} {k:Nat} {f C:Addr} {fd:FuncData} {ps:LS_} {sp:Sp} {dvs:List V} {ds:List Value} {E:XK} {x m:Str} {p pos apos:Pos} {e o:Expr} {es:List Expr} {ta:TE} {t:TA}
theorem aek {pins:List (Addr×Obj)} {σ:St} {H:Hp} {s:Shared} {Q:VK} {us:List Value} {vs:List V} (F:wM X.prog X.w X.K X.mg X.base CX k f fd ps sp) (hr:nu k X.A) (hb:Binds X.K fd ps ds) (hd:Vals dvs ds) (hx:Passes CX X E)
  (I:Inv X pins σ H s) (r:Vals vs us) (h:sp (vs++dvs) H Q E):wpAny (model X.prog X.w) X.A (call (.ref f) us) (EP X pins σ Q) X.xe s:=by
 have r2:Vals (vs++dvs) (us++ds):=r.append hd;have hl:(us++ds).length=ps.length:=by rw[<-r2.length];exact F.len _ _ _ _ h
 refine wpAny_call (codeAny_mono (F.run X.A X.stack s H ⟨us,[]⟩ (us++ds) (vs++dvs) Q E hr I.env0 (hb s us I.kIn hl) r2 h) λr s' hq=>?_);cases r with
 |error e=>exact hx pins σ H s e s' I hq
 |ok fl=>
  cases fl with
  |ret u=>exact I.after hq
  |next=>exact False.elim hq
  |brk=>exact False.elim hq
  |cont=>exact False.elim hq
theorem TV (F:wM X.prog X.w X.K X.mg X.base CX k f fd ps sp) (hr:nu k X.A) (hg:Gl X x) (hm:X.mg x=some (.ref f)) (hk:keepIn X.K (.ref f)=true) (hb:Binds X.K fd ps ds) (hd:Vals dvs ds) (hx:Passes CX X E)
  (ha:PA X (e::es) t) (hdb:(x==("__debug__" : Str))=false:=by decide) (he:starEach (e::es) X.env=(false,eval e X.env)::starEach es X.env:=by rfl) (hpl:(backTo pos (starEach es X.env)).any (·.1)=false:=by rfl) :
  PE X (.Call (.Name x p) (e::es) [] pos) (agB sp dvs E t):=by
 intro pins s σ H Q I h;refine wpAny_Call_Name_kw (Tz I hg hm ?_ hdb);refine PySem.W.callWith_K (h₀:=X.base) I.ok.mod.kin hk (jd (ha pos pins s σ H _ I h) λus s1 ⟨vs,H1,I1,r,q⟩=>⟨I1.kIn,?_⟩) he hpl;exact aek F hr hb hd hx I1 r q
end
section
variable {X:Cx} {CX:Xb} {k:Nat} {f C:Addr} {fd:FuncData} {ps ks:LS_} {sp:Sp} {E:XK} {x m:Str} {p pos apos kpos:Pos} {e o:Expr} {es:List Expr} {kws:List Keyword} {te ta:TE} {t tk:TA} {nm:Option Str}
variable {g:List Value->List Value->List Value} {gV:List V->List V->List V}
end
structure bF (N P:LS_) (sc:Scope):Prop where
 kind:sc.kind=.function
 co:sc.isCoroutine=false
 gen:sc.isGenerator=false
 nd:N.Nodup
 pre:N.take P.length=P
 par:∀ x∈P,sc.names.lookup x=some .local\/sc.names.lookup x=some .cell
 ael:∀ y∈sc.names,y.2≠.free
theorem Jh {kindOf:Str->Option NameKind} {x:Str}:∀ {binds:List (Str×Value)} {m:Str->Option Value},(∀ v,(x,v)∉binds)->bindL kindOf binds m x=m x
 |[],_,_=>rfl
 |(n,v)::r,m,h=>by
  unfold bindL;rw[Jh λw hw=>h w (zg _ hw)];split
  ·have:x≠n:=by rintro rfl;exact h v zh
   simp[this]
  ·rfl
theorem Ji {kindOf:Str->Option NameKind} {x:Str}:∀ {binds:List (Str×Value)} {m:Str->Option Value},(∀ v,(x,v)∉binds)->bindC kindOf binds m x=m x
 |[],_,_=>rfl
 |(n,v)::r,m,h=>by
  unfold bindC;rw[Ji λw hw=>h w (zg _ hw)];split
  ·rfl
  ·have:x≠n:=by rintro rfl;exact h v zh
   simp[this]
theorem Jj {kindOf:Str->Option NameKind} {x:Str} {v:Value}:∀ {P:LS_} {vs:List Value} {i:Nat} {m:Str->Option Value},P.Nodup->P[i]?=some x->vs[i]?=some v->kindOf x=some .local →
  bindL kindOf (P.zip vs) m x=some v
 |[],_,_,_,_,h,_,_=>by simp at h
 |_::_,[],_,_,_,_,h,_=>by simp at h
 |p::P,w::vs,0,m,nd,h1,h2,hk=>by
  simp at h1 h2;subst h1;subst h2;show bindL kindOf ((p,w)::P.zip vs) m p=_;unfold bindL;rw[Jh λv hv=>(List.nodup_cons.mp nd).1 (List.of_mem_zip hv).1,zk hk];simp
 |p::P,w::vs,i+1,m,nd,h1,h2,hk=>by
  show bindL kindOf ((p,w)::P.zip vs) m x=_;unfold bindL;exact Jj (i:=i) (List.nodup_cons.mp nd).2 (by simpa using h1) (by simpa using h2) hk
theorem Jk {kindOf:Str->Option NameKind} {x:Str} {v:Value}:∀ {P:LS_} {vs:List Value} {i:Nat} {m:Str->Option Value},P.Nodup->P[i]?=some x->vs[i]?=some v->kindOf x≠some .local →
  bindC kindOf (P.zip vs) m x=some v
 |[],_,_,_,_,h,_,_=>by simp at h
 |_::_,[],_,_,_,_,h,_=>by simp at h
 |p::P,w::vs,0,m,nd,h1,h2,hk=>by
  simp at h1 h2;subst h1;subst h2;show bindC kindOf ((p,w)::P.zip vs) m p=_;unfold bindC;rw[Ji λv hv=>(List.nodup_cons.mp nd).1 (List.of_mem_zip hv).1,zw hk];simp
 |p::P,w::vs,i+1,m,nd,h1,h2,hk=>by
  show bindC kindOf ((p,w)::P.zip vs) m x=_;unfold bindC;exact Jk (i:=i) (List.nodup_cons.mp nd).2 (by simpa using h1) (by simpa using h2) hk
def start (N:LS_) (vs:List V):St:=vs.map some++List.replicate (N.length - vs.length) none
def Ei (CX:Xb) (P:Program) (w:World) (K:FG_) (mg:Str->Option Value) (base:Heap) (N:LS_) (qual:Str) (scope:Scope) (f:Addr) (cd:Value) (A:Around) (outer:List Env) (s:Shared) (H:Hp) (E:XK):Cx where
 prog:=P
 w:=w
 K:=K
 mg:=mg
 base:=base
 A:=A.deeper (envOfC qual scope s.heap.objs.size f cd)
 N:=N
 s₀:=s
 H₀:=H
 env:=envOfC qual scope s.heap.objs.size f cd
 outer:=outer
 stack:=envOfC qual scope s.heap.objs.size f cd::outer
 ex:=[]
 calm:=true
 fn:=λ_=>true
 pn:=[]
 xe:=λe s'=>wpAny (model P w) (A.deeper (envOfC qual scope s.heap.objs.size f cd)) (leaving (envOfC qual scope s.heap.objs.size f cd) e) (λ_ s''=>CX outer H s E e s'') (λe' s''=>CX outer H s E e' s'') s'
theorem Nt {sc:Scope} {n:Nat} {x:Str} (h:sc.names.lookup x=some .cell):∃ c,(cellsFrom n sc.names []).lookup x=some c:=by
 have q:=cellsFrom_some sc.names n [] (.inl h);exact Option.isSome_iff_exists.mp q
theorem Vt {CX:Xb} {P:Program} {w:World} {K:FG_} {mg:Str->Option Value} {base:Heap} {N ps:LS_} {qual:Str} {scope:Scope} {f:Addr} {cd:Value} {A:Around} {outer:List Env} {s s1:Shared} {H:Hp} {E:XK} {us:List Value} {vs:List V}
  (S:bF N ps scope) (hd:A.handled=none) (e0:aaZ P w K mg base A outer s H) (hl:vs.length=ps.length) (r:Vals vs us)
  (x:InCallC s s.heap.objs.size (bindL (envOfC qual scope s.heap.objs.size f cd).kindOf (ps.zip us) λ_=>none) (cellsFrom (s.heap.objs.size+1) scope.names []) (bindC (envOfC qual scope s.heap.objs.size f cd).kindOf (ps.zip us) λ_=>none) s1) :
  Inv (Ei CX P w K mg base N qual scope f cd A outer s H E) [] (start N vs) H s1:=by
 have hpl:ps.length<=N.length:=by have:=congrArg List.length S.pre;rw[ki] at this;omega
 obtain⟨h1,tk,rfl,hk⟩:=x.done;have noA:∀ b:Addr,b∉(Ei CX P w K mg base N qual scope f cd A outer s H E).ex:=λb z=>absurd (show b∈([]:List Addr) from z) (by simp);refine⟨⟨e0.mod,S.kind,rfl,rfl,zi _,λy z c h1 h2=>?_,λy hy=>?_,λy c _ h=>?_,λ_=>hd,Around.frames_deeper e0.frames,.inr ⟨rfl,rfl⟩,λb z=>absurd z (noA b),e0.bs,e0.bsz,λb _ _=>noA b,λb z=>absurd z (noA b),e0.Ef,e0.frf⟩,
  rfl,e0.bare,Un.kept hk,⟨_,x.toInCall.ns,λi y v h1 h2 h3=>?_⟩,λy c h=>⟨_,x.cell y c h⟩,e0.hok.fresh (zi _),λy c h=>?_,λp hp=>absurd (show p∈([]:List (Addr×Obj)) from hp) (by simp),e0.hok.kept hk,?_⟩
 ·exact name_of_addr x.apart (ke h1) (ke h2)
 ·have hy:scope.names.lookup y=some .cell\/scope.names.lookup y=some .free:=hy;rcases hy with hy|hy
  ·exact Nt hy
  ·exact absurd rfl (S.ael _ (ke hy))
 ·exact Q3 (x.above y c (ke h))
 ·have hi:i < vs.length:=by
   unfold start at h2;by_cases hi:i < vs.length
   ·exact hi
   ·rw[qi (by simpa using hi)] at h2;rw[QE] at h2;split at h2<;>cases h2
  have ha:vs[i]?=some v:=by
   unfold start at h2;rw[ZI (by simpa using hi),Zl] at h2;cases e:vs[i]? with
   |none=>rw[e] at h2;cases h2
   |some a=>rw[e] at h2;cases h2;rfl
  obtain⟨u,hu,rv⟩:=r.get ha;have hp:ps[i]?=some y:=by
   rw[<-S.pre,List.getElem?_take_of_lt (by omega)];exact h1
  have ndP:ps.Nodup:=by rw[<-S.pre];exact S.nd.sublist (List.take_sublist _ _)
  refine⟨u,rv,?_⟩;rcases S.par y (Z3 hp) with k|k
  ·exact .inl ⟨k,Jj ndP hp hu k⟩
  ·obtain⟨c,e⟩:=Nt (n:=s.heap.objs.size+1) k;refine .inr ⟨.inl k,c,e,?_⟩;have q:=x.cell y c e;rw[Jk ndP hp hu (by show scope.names.lookup y≠_;rw[k];decide)] at q;exact q
 ·exact e0.hok.fresh (Q3 (x.above y c (ke h)))
 ·unfold start;show _=N.length;rw[zS,zo,List.length_replicate];omega
theorem agD {CX:Xb} {P:Program} {w:World} {K:FG_} {mg:Str->Option Value} {base:Heap} {k:Nat} {f:Addr} {name qual:Str} {params:Arguments} {body:List Stmt} {scope:Scope} {dV kV doc pm cdv ct oc:Value} {an od:Option Addr}
  {osl:Array (Option Value)} {N ps:LS_} {sp:Sp} (lk:K.lookup f=some ⟨oc,od,.func (fnOf name qual params body scope dV kV doc pm an cdv ct),osl⟩) (hcd:codeIn K cdv qual=true) (S:bF N ps scope)
  (len:∀ vs H Q E,sp vs H Q E->vs.length=ps.length)
  (hbody:∀ (A:Around) (outer:List Env) (s:Shared) (H:Hp) (vs:List V) (Q:VK) (E:XK),nu k (A.deeper (envOfC qual scope s.heap.objs.size f cdv))->sp vs H Q E →
   ∃ t,Q7 (Ei CX P w K mg base N qual scope f cdv A outer s H E) body t/\t { nx:=λ_ H'=>Q .non H',rt:=Q } (start N vs) H) :
  wM P w K mg base CX (k+1) f (fnOf name qual params body scope dV kV doc pm an cdv ct) ps sp:=by
 refine⟨len,λA outer s H args us vs Q E hr e0 hb r hsp=>?_⟩;have hl:=len _ _ _ _ hsp;have KX:K.In s.heap:=e0.mod.kin.keeps λb o e=>(e0.bs b o e).1;have lim:s.heap.NoLimit:=e0.mod.nolimit.keeps λb o e=>(e0.bs b o e).1;have hkind:∀ y∈ps.zip us,scope.names.lookup y.1=some .local\/(scope.names.lookup y.1=some .cell/\((cellsFrom (s.heap.objs.size+1) scope.names []).lookup y.1).isSome=true):=λ⟨n,v⟩ hy=>by
  rcases S.par n (List.of_mem_zip hy).1 with q|q
  ·exact .inl q
  ·exact .inr ⟨q,cellsFrom_some _ _ _ (.inl q)⟩
 refine codeAny_call_function hr.depth (KX _ _ lk) rfl S.co S.gen rfl (PySem.W.codeRec_of KX hcd) (hb _ _ _ _ ?_);refine wpAny_newFunctionEnv_cells S.kind hkind λenv he s1 x=>?_;subst he;refine⟨lim.keeps x.toInCall.keep,codeAny_func ?_⟩;obtain⟨t,ht,hq⟩:=hbody A outer s H vs Q E (hr.deeper _) hsp;have I:Inv (Ei CX P w K mg base N qual scope f cdv A outer s H E) [] (start N vs) H s1:=Vt S hr.hd e0 hl r x;refine qS (ht [] s1 (start N vs) H _ I hq) (λfl s' hs=>?_) λe s' hs=>hs;have fin:∀ {σ':St} {H':Hp} {v:V} {u:Value},Inv (Ei CX P w K mg base N qual scope f cdv A outer s H E) [] σ' H' s'->RelV v u->Q v H'->CE outer P w H s Q u s':=
  λ{σ' H' v u} J rv q=>⟨v,H',J.os,J.bare,J.base,J.hok,rv,q⟩
 cases fl with
 |ret u=>
  obtain⟨v,σ',H',J,rv,q⟩:=hs;exact fin J rv q
 |next=>
  obtain⟨σ',H',J,q⟩:=hs;exact fin (v:=V.non) (u:=Value.none) J rfl q
 |brk=>
  obtain⟨_,_,_,q⟩:=hs;exact False.elim q
 |cont=>
  obtain⟨_,_,_,q⟩:=hs;exact False.elim q
end L2
namespace L2
open PySem PySem.Spec PyProof.Rows
section
variable {X:Cx} {x:Str} {p pos:Pos} {e:Expr} {es:List Expr} {t:TA} {id T:String} {r:List V->Hp->VK->Prop}
def tCB (r:List V->Hp->VK->Prop) (t:TA):TE:=λσ H Q=>t σ H λvs H1=>r vs H1 Q
theorem rK (hc:fX X (.builtin id) r) (hg:Gl X x) (hm:X.mg x=none) (hv:bootBuiltins x=some (.builtin id)) (ha:PA X (e::es) t) (hn:x ≠ "__name__" := by decide) (hdb:(x==("__debug__" : Str))=false:=by decide)
  (he:starEach (e::es) X.env=(false,eval e X.env)::starEach es X.env:=by rfl) (hpl:(backTo pos (starEach es X.env)).any (·.1)=false:=by rfl):PE X (.Call (.Name x p) (e::es) [] pos) (tCB r t):=by
 intro pins s σ H Q I h;refine wpAny_Call_Name_kw (Kd I hg hm hv ?_ hn hdb);exact PyProof.Rows.callWith_builtin1 (jd (ha pos pins s σ H _ I h) λus s1 ⟨vs,H1,I1,r1,q1⟩=>hc pins s1 σ H1 vs us Q I1 r1 q1) he hpl
theorem Jl (hc:fX X (.type T) r) (hg:Gl X x) (hm:X.mg x=none) (hv:bootBuiltins x=some (.type T)) (ha:PA X (e::es) t) (hn:x ≠ "__name__" := by decide) (hdb:(x==("__debug__" : Str))=false:=by decide)
  (he:starEach (e::es) X.env=(false,eval e X.env)::starEach es X.env:=by rfl) (hpl:(backTo pos (starEach es X.env)).any (·.1)=false:=by rfl):PE X (.Call (.Name x p) (e::es) [] pos) (tCB r t):=by
 intro pins s σ H Q I h;refine wpAny_Call_Name_kw (Kd I hg hm hv ?_ hn hdb);exact PyProof.Rows.callWith_type1 (jd (ha pos pins s σ H _ I h) λus s1 ⟨vs,H1,I1,r1,q1⟩=>hc pins s1 σ H1 vs us Q I1 r1 q1) he hpl
end
end L2
namespace HT
open PySem PyProof.Rows
section
open PySem.SeqAt
open PySem.AutoSeq1 (wpAny_loadPart')
open PySem.MeetsSeq PySem.MeetsSeq2 PySem.MeetsSeq3
end
section
variable {prog:Program} {w:World} {A:Around} {E:VP_} {s:Shared}
theorem aa0 {t b:Addr} {vs ws:List Value} {Q:VP_} (ht:IsTup s.heap t vs.toArray) (hb:IsTup s.heap b ws.toArray) (hv:vs≠[])
  (h1:ws=[]->Q (.ref t) s) (h2:ws≠[]->Q (.ref s.heap.objs.size) { s with heap:=s.heap.push { cls:=.type "tuple", data:=.seq (vs++ws).toArray } })
  (hsz:vs.length+ws.length<=sizeLine):wpAny (model prog w) A (binaryOp .Add (.ref t) (.ref b)) Q E s:=by
 obtain⟨⟨cls,dd,data,sl⟩,ho,hc,n,hd⟩:=id ht;obtain⟨⟨cls2,dd2,data2,sl2⟩,ho2,hc2,n2,hd2⟩:=id hb;simp only at hc hd hc2 hd2;subst hc hd hc2 hd2;have e:vs.toArray++ws.toArray=(vs++ws).toArray:=by simp
 by_cases hw:ws=[]
 ·exact concat_meets ⟨_,ho,rfl⟩ ⟨_,ho2,rfl⟩ noFill_tuple_add seq_tuple_add PySem.F.slot_tuple_add yv (yf _ _)
   (tuple_addW1 t b vs.toArray ws.toArray n n2 dd dd2 sl sl2 (by simpa using hv) (by simp[hw])) ⟨ho,ho2,h1 hw⟩
 ·refine concat_meets ⟨_,ho,rfl⟩ ⟨_,ho2,rfl⟩ noFill_tuple_add seq_tuple_add PySem.F.slot_tuple_add yv (yf _ _)
   (tuple_addW2 t b vs.toArray ws.toArray n n2 dd dd2 sl sl2 (by simpa using hv) (by simpa using hw) (by rw[zt,zt];exact hsz)) ⟨ho,ho2,?_⟩
  rw[e];exact h2 hw
def jx (n d:Nat):Option Int->Nat
 |none=>d
 |some v=>if v < 0 then(v+(n:Int)).toNat else min v.toNat n
theorem aem (n d:Nat) (hd:d<=n) (o:Option Int):jx n d o<=n:=by
 cases o with
 |none=>exact hd
 |some v=>
  show(if v < 0 then(v+(n:Int)).toNat else min v.toNat n)<=n;by_cases hv:v < 0
  ·rw[zk hv];omega
  ·rw[zw hv];exact Nat.min_le_right _ _
theorem TX (v:Int) (n d:Nat):(if v < 0 then max (v+(n:Int)) 0 else min v (n:Int))=((jx n d (some v):Nat):Int):=by
 show(if v < 0 then max (v+(n:Int)) 0 else min v (n:Int))=(((if v < 0 then(v+(n:Int)).toNat else min v.toNat n):Nat):Int);by_cases hv:v < 0
 ·simp only[zk hv];omega
 ·simp only[zw hv];omega
theorem Rf (lo hi:Option Int) (n:Nat):Builtin.Slice.sliceAdjust lo hi 1 (n:Int)=(((jx n 0 lo:Nat):Int),((jx n n hi:Nat):Int)):=by
 have h1:¬ ((1:Int) < 0):=by omega
 unfold Builtin.Slice.sliceAdjust;simp only[h1,ZO];refine Prod.ext ?_ ?_
 ·cases lo with
  |none=>rfl
  |some v=>exact TX v n 0
 ·cases hi with
  |none=>rfl
  |some v=>exact TX v n n
theorem Rh (i j:Nat):Builtin.Slice.slicePlaces (i:Int) (j:Int) 1=j - i:=by
 unfold Builtin.Slice.slicePlaces;have h1:(1:Int) > 0:=by omega
 simp only[h1,qA,Int.ediv_one];split<;>omega
theorem Ej {v:Value} {o:Option Int} {Q:Option Int->Shared->Prop} (p:IsPart v o) (h:Q o s):wpAny (model prog w) A (Builtin.Slice.slicePartIndex v) Q E s:=by
 cases p with
 |none=>exact slicePart_none h
 |int i t=>exact slicePart_int h
theorem rM {sl:Addr} {vl vu:Value} {lo hi:Option Int} {n:Nat} {Q:Int×Int×Nat->Shared->Prop} (hs:s.heap.IsSliceOf sl vl vu .none) (pl:IsPart vl lo) (pu:IsPart vu hi)
  (h:Q (((jx n 0 lo:Nat):Int),1,jx n n hi - jx n 0 lo) s):wpAny (model prog w) A (Builtin.Slice.sliceApplied (.ref sl) (pure (n:Int))) Q E s:=by
 obtain⟨os,hos,hcs,hds⟩:=id hs;unfold Builtin.Slice.sliceApplied Builtin.Slice.sliceFields;refine zb (zb (wpAny_field hos hds (x:=vl) rfl (zb (wpAny_field hos hds (x:=vu) rfl (zb (wpAny_field hos hds (x:=.none) rfl (ze ?_)))))));refine zb (slicePart_none ?_);show wpAny _ _ (if((1:Int)==0)=true then _ else _) _ _ s;rw[zw (by decide)];refine zb (Ej pl (zb (Ej pu (zb (ze ?_)))));show wpAny _ _ (match Builtin.Slice.sliceAdjust lo hi 1 (n:Int) with|(lo,hi)=>pure (lo,(1:Int),Builtin.Slice.slicePlaces lo hi 1)) _ _ s;rw[Rf lo hi n];show wpAny _ _ (pure (((jx n 0 lo:Nat):Int),(1:Int),Builtin.Slice.slicePlaces ((jx n 0 lo:Nat):Int) ((jx n n hi:Nat):Int) 1)) _ _ s;rw[Rh];exact ze h
theorem Xx (xs:Array Value) (i k:Nat):((List.range k).filterMap λ(m:Nat)=>xs[((i:Int)+(m:Int) * 1).toNat]?).toArray=((xs.toList.drop i).take k).toArray:=by
 have e:(λ(m:Nat)=>xs[((i:Int)+(m:Int) * 1).toNat]?)=λm=>xs[i+m]?:=by
  funext m;have:((i:Int)+(m:Int) * 1).toNat=i+m:=by omega
  rw[this]
 rw[e];have:=pick_run xs i k;rw[List.filterMap_map] at this;have e2:((λx=>xs[x]?) ∘ λx=>i+x)=λm=>xs[i+m]?:=rfl;rw[e2] at this;rw[this]
theorem yJ {t sl:Addr} {items:Array Value} {vl vu:Value} {lo hi:Option Int} {Q:VP_} (ht:IsTup s.heap t items) (hs:s.heap.IsSliceOf sl vl vu .none) (pl:IsPart vl lo) (pu:IsPart vu hi)
  (hw:¬ (jx items.size 0 lo=0/\jx items.size items.size hi=items.size))
  (h:Q (.ref s.heap.objs.size) { s with heap:=s.heap.push { cls:=.type "tuple", data:=.seq ((items.toList.drop (jx items.size 0 lo)).take (jx items.size items.size hi - jx items.size 0 lo)).toArray } })
  (hsz:items.size<=sizeLine):wpAny (model prog w) A (getItem (.ref t) (.ref sl)) Q E s:=by
 have TY:sizeOk (.seq ((items.toList.drop (jx items.size 0 lo)).take (jx items.size items.size hi - jx items.size 0 lo)).toArray):=by
  show((items.toList.drop (jx items.size 0 lo)).take (jx items.size items.size hi - jx items.size 0 lo)).toArray.size<=sizeLine;rw[zt,ki,kB,ZZ];omega
 have hj:jx items.size items.size hi<=items.size:=aem _ _ (zi _) hi;obtain⟨os,hos,hcs,hds⟩:=id hs;have hTs:s.TypeIs (.ref sl) "slice" := ⟨os,hos,hcs⟩;unfold getItem
 try with_reducible refine QN ?_
 first|refine zb (ze ?_)|skip
 refine zb (wpAny_sequenceKey ht.typeIs (by decide) ?_);refine zb (yn (name:=Str.ofString "__getitem__") ht.typeIs PyProof.Rows.slot_tuple_getitem
  (kg PyProof.Rows.slot_tuple_getitem ht.typeIs entry_tuple_getitem ?_ (args_tuple_getitem _ _)))
 show wpAny _ _ (Builtin.Tuple.tupleItemsOf (.ref t) >>= _) _ _ s;refine zb (tupleItemsOf_ ht ?_);refine zb (QP hTs ?_);rw[zk (by decide)];refine zb (rM hs pl pu ?_);have hno:¬ ((((jx items.size 0 lo:Nat):Int)==0&&(1:Int)==1&&(jx items.size items.size hi - jx items.size 0 lo)==items.size)=true):=by
  intro q;rw[ZA,ZA] at q;have q1:((jx items.size 0 lo:Nat):Int)=0:=eq_of_beq q.1.1;have q2:jx items.size items.size hi - jx items.size 0 lo=items.size:=eq_of_beq q.2;exact hw ⟨by omega,by omega⟩
 show wpAny _ _ (if(((jx items.size 0 lo:Nat):Int)==0&&(1:Int)==1&&(jx items.size items.size hi - jx items.size 0 lo)==items.size)=true then _ else _) _ _ s;rw[zw hno,Xx]
 first
  |exact zb (m:=Builtin.Tuple.tupleExact _) (qq (ze ⟨_,rfl,ze h⟩) TY)
  |exact zb (m:=Builtin.Tuple.tupleExact _) (qq (zb (ze (ze ⟨_,rfl,ze h⟩))) TY)
  |exact zb (zb (m:=Builtin.Tuple.tupleExact _) (qq (ze (ze ⟨_,rfl,ze h⟩)) TY))
  |exact zb (zb (m:=Builtin.Tuple.tupleExact _) (qq (ze ⟨_,rfl,ze h⟩) TY))
end
end HT
namespace L2
open PySem PySem.Spec PyProof.Rows
abbrev TO:=St->Hp->(Option Int->Hp->Prop)->Prop
def PO (X:Cx) (e:Option Expr) (t:TO):Prop:=
 ∀ (pins:List (Addr×Obj)) (s:Shared) (σ:St) (H:Hp) (Q:Option Int->Hp->Prop),Inv X pins σ H s->t σ H Q →
  wpAny (model X.prog X.w) X.A (evalPart e X.env) (λu s'=>∃ o H',Inv X pins σ H' s'/\IsPart u o/\Q o H') X.xe s
def aa1:TO:=λ_ H Q=>Q none H
def agE (t:TE):TO:=λσ H Q=>t σ H λx H1=>∃ i,x=.int i/\Q (some i) H1
section
variable {X:Cx} {e:Expr} {te:TE} {lo hi:Option Expr} {tl th:TO} {pos p2:Pos}
theorem aa2:PO X none aa1:=by
 intro pins s σ H Q I h;rw[evalPart_none];exact ze ⟨none,H,I,.none,h⟩
theorem aa3 (h:PE X e te):PO X (some e) (agE te):=by
 intro pins s σ H Q I hw;rw[evalPart_some];refine jd (h pins s σ H _ I hw) λu s1 ⟨x,H1,I1,r1,q1⟩=>?_;obtain⟨i,rfl,q⟩:=q1;obtain⟨t,rfl⟩:=r1;exact⟨some i,H1,I1,.int i t,q⟩
def SlR (X:Cx) (r:V->Option Int->Option Int->Hp->VK->Prop):Prop:=
 ∀ (pins:List (Addr×Obj)) (s:Shared) (σ:St) (H:Hp) (x:V) (v vl vu:Value) (lo hi:Option Int) (sl:Addr) (Q:VK),Inv X pins σ H s->RelV x v->s.heap.IsSliceOf sl vl vu .none->IsPart vl lo->IsPart vu hi->r x lo hi H Q →
  ∃ T id,typeLookup (.type T) "__getitem__" = pure (some (.builtin id))/\s.TypeIs v T/\wpAny (model X.prog X.w) X.A (getItem v (.ref sl)) (EP X pins σ Q) X.xe s
def tSl (r:V->Option Int->Option Int->Hp->VK->Prop) (te:TE) (tl th:TO):TE:=λσ H Q=>te σ H λx H1=>tl σ H1 λl H2=>th σ H2 λu H3=>r x l u H3 Q
theorem Xy {r:V->Option Int->Option Int->Hp->VK->Prop} (hr:SlR X r) (he:PE X e te) (hl:PO X lo tl) (hu:PO X hi th):PE X (.Subscript e (.Slice lo hi none p2) pos) (tSl r te tl th):=by
 intro pins s σ H Q I h;refine Subscript_ (jd (he pins s σ H _ I h) λv s1 ⟨x,H1,I1,r1,q1⟩=>?_);refine wpAny_Slice (jd (hl pins s1 σ H1 _ I1 q1) λvl s2 ⟨l,H2,I2,pl,q2⟩=>jd (hu pins s2 σ H2 _ I2 q2) λvu s3 ⟨u,H3,I3,pu,q3⟩=>?_);rw[evalPart_none];refine ze ?_;have I4:Inv X pins σ H3 { s3 with heap:=s3.heap.push { cls:=.type "slice", data:=.fields #[vl,vu,.none] } }:=I3.kept (t':=s3.toks) λb ob q=>zd _ q;obtain⟨T,id,hT,ht,hg⟩:=hr pins { s3 with heap:=s3.heap.push { cls:=.type "slice", data:=.fields #[vl,vu,.none] } } σ H3 x v vl vu l u s3.heap.objs.size Q I4 r1 (Heap.IsSliceOf.new ..) pl pu q3;show wpAny (model X.prog X.w) X.A (subscriptTail e (.Slice lo hi none p2) v (.ref s3.heap.objs.size)) (EP X pins σ Q) X.xe { s3 with heap:=s3.heap.push { cls:=.type "slice", data:=.fields #[vl,vu,.none] } };exact tail_any (ops:=[.ref s3.heap.objs.size,v]) ht hT hg (by with_unfolding_all rfl)
def Nu (xs:List V) (lo hi:Option Int):List V:=(xs.drop (HT.jx xs.length 0 lo)).take (HT.jx xs.length xs.length hi - HT.jx xs.length 0 lo)
theorem BL (xs:List V) (lo hi:Option Int):(Nu xs lo hi).length<=xs.length:=by
 unfold Nu;rw[ki,kB];omega
def aiz (K:FG_):V->Option Int->Option Int->Hp->VK->Prop:=λx lo hi H Q=>∃ a xs,x=.ref a/\yH K H a xs ∧
 ¬ (HT.jx xs.length 0 lo=0/\HT.jx xs.length xs.length hi=xs.length)/\∀ p,H p=none->Q (.ref p) (upd H p (.tup (Nu xs lo hi)))
theorem aen:SlR X (aiz X.K):=by
 intro pins s σ H x v vl vu lo hi sl Q I rx hs pl pu h;obtain⟨a,xs,rfl,hx,hw,q⟩:=h;cases rx;obtain⟨its,r,ht,hz⟩:=I.tuple hx;have hlen:its.toArray.size=xs.length:=by rw[zt];exact r.length.symm
 refine⟨"tuple", _,PyProof.Rows.slot_tuple_getitem.lookup,ht.typeIs,?_⟩;refine HT.yJ ht hs pl pu (by rw[hlen];exact hw) ?_ (by rw[hlen];exact hz);rw[hlen];refine⟨.ref s.heap.objs.size,_,I.laid (t':=s.toks) (o:=.tup (Nu xs lo hi)) (λb ob q=>zd _ q) (zi _) ?_,rfl,q _ (I.hok.fresh (zi _))⟩;exact⟨Zs (BL xs lo hi) hz,_,(r.drop (HT.jx xs.length 0 lo)).take (HT.jx xs.length xs.length hi - HT.jx xs.length 0 lo),uO.new _ _⟩
def agF (K:FG_):R2:=λx y H Q=>∃ a b xs ys,x=.ref a/\y=.ref b/\yH K H a xs/\yH K H b ys/\xs≠[]/\xs.length+ys.length<=sizeLine ∧
 (ys=[]->Q (.ref a) H)/\(ys≠[]->∀ p,H p=none->Q (.ref p) (upd H p (.tup (xs++ys))))
theorem Vals.Dq {xs:List V} {us:List Value} (r:Vals xs us):us=[]↔xs=[]:=by
 cases r with
 |nil=>simp
 |cons _ _=>simp
theorem aa4:vZ X (binaryOp .Add) (agF X.K):=by
 intro pins s σ H x y v u Q I rx ry h;obtain⟨a,b,xs,ys,rfl,rfl,ha,hb,hx,hz,q1,q2⟩:=h;cases rx;cases ry;obtain⟨its,r1,p1,_⟩:=I.tuple ha;obtain⟨its2,r2,p2,_⟩:=I.tuple hb;refine HT.aa0 p1 p2 (λz=>hx (r1.Dq.mp z)) (λz=>⟨.ref a,H,I,rfl,q1 (r2.Dq.mp z)⟩) (λz=>?_) (by rw[<-r1.length,<-r2.length];exact hz);refine⟨.ref s.heap.objs.size,_,I.laid (t':=s.toks) (o:=.tup (xs++ys)) (λb ob q=>zd _ q) (zi _) ?_,rfl,q2 (λw=>z (r2.Dq.mpr w)) _ (I.hok.fresh (zi _))⟩;exact⟨by rw[zS];exact hz,_,r1.append r2,uO.new _ _⟩
end
end L2
namespace L2
open PySem PySem.Spec PyProof.Rows
def ixN (n:Nat) (i:Int):Option Nat:=if 0<=i then(if i < n then some i.toNat else none) else if -(n:Int)<=i then some (i+n).toNat else none
def Ek {α:Type} (xs:List α) (i:Int):Option α:=(ixN xs.length i).bind λj=>xs[j]?
theorem aa5 {n:Nat} {i:Int} {j:Nat} (h:ixN n i=some j):seqIndex? i n=some j/\j < n ∧ -(n:Int)<=i/\i < n:=by
 unfold ixN at h;by_cases h0:0<=i
 ·rw[zk h0] at h;by_cases h1:i < n
  ·rw[zk h1] at h;have e:i.toNat=j:=JE h;exact⟨by rw[seqIndex_of h0 h1,e],by omega,by omega,h1⟩
  ·rw[zw h1] at h;cases h
 ·rw[zw h0] at h;by_cases h1 : -(n:Int)<=i
  ·rw[zk h1] at h;have e:(i+n).toNat=j:=JE h;exact⟨by rw[seqIndex_neg (by omega) h1,e],by omega,h1,by omega⟩
  ·rw[zw h1] at h;cases h
theorem Ke {α:Type} {xs:List α} {i:Int} {v:α} (h:Ek xs i=some v):∃ j,seqIndex? i xs.length=some j/\xs[j]?=some v/\j < xs.length ∧ -(xs.length:Int)<=i/\i < xs.length:=by
 unfold Ek at h;cases e:ixN xs.length i with
 |none=>rw[e] at h;cases h
 |some j=>
  rw[e] at h;obtain⟨h1,h2,h3,h4⟩:=aa5 e;exact⟨j,h1,h,h2,h3,h4⟩
def T3 (b:Expr):Prop:=∀ o i,subscripted b false o i=operate [o,i] (getItem o i)
def IxR (X:Cx) (r:R2):Prop:=
 ∀ (value slice:Expr) (pins:List (Addr×Obj)) (s:Shared) (σ:St) (H:Hp) (x y:V) (v u:Value) (Q:VK),Inv X pins σ H s->RelV x v->RelV y u->r x y H Q →
  subscripted slice false v u=operate [v,u] (getItem v u)->wpAny (model X.prog X.w) X.A (subscriptTail value slice v u) (EP X pins σ Q) X.xe s
def MtR (X:Cx) (id:String) (r:V->List V->Hp->VK->Prop):Prop:=
 ∀ (pins:List (Addr×Obj)) (s:Shared) (σ:St) (H:Hp) (x:V) (xs:List V) (v:Value) (us:List Value) (Q:VK),Inv X pins σ H s->RelV x v->Vals xs us->r x xs H Q →
  wpAny (model X.prog X.w) X.A (call (.builtin id) (v::us)) (EP X pins σ Q) X.xe s
section
variable {X:Cx} {a b:Expr} {ta tb:TE} {pos:Pos}
theorem IxR.or {r r':R2} (h:IxR X r) (h':IxR X r'):IxR X (λx y H Q=>r x y H Q\/r' x y H Q):=by
 intro value slice pins s σ H x y v u Q I rx ry q hs;rcases q with q|q
 ·exact h value slice pins s σ H x y v u Q I rx ry q hs
 ·exact h' value slice pins s σ H x y v u Q I rx ry q hs
theorem agG {r:R2} (hr:IxR X r) (ha:PE X a ta) (hb:PE X b tb) (hs:T3 b):PE X (.Subscript a b pos) (tOp r ta tb):=by
 intro pins s σ H Q I h;exact Subscript_ (ad7 ha hb I h λv u s2 x y H2 I2 rx ry q=>hr a b pins s2 σ H2 x y v u Q I2 rx ry q (hs _ _))
def agH (K:FG_):R2:=λx y H Q=>∃ p xs i v,x=.ref p/\y=.int i/\uN K H p xs/\Ek xs i=some v/\Q v H
def agI (K:FG_):R2:=λx y H Q=>∃ p xs i v,x=.ref p/\y=.int i/\yH K H p xs/\Ek xs i=some v/\Q v H
def agJ:R2:=λx y H Q=>∃ z i c,x=.str z/\y=.int i/\z.length<=sizeLine/\Ek z.cps.toList i=some c/\Q (.str ⟨#[c]⟩) H
theorem aa7:IxR X (agH X.K):=by
 intro value slice pins s σ H x y v u Q I rx ry h hs;obtain⟨p,xs,i,z,rfl,rfl,hq,he,q⟩:=h;cases rx;obtain⟨t,rfl⟩:=ry;obtain⟨its,r,pl,hz⟩:=I.list hq;obtain⟨j,h1,h2,h3,h4,h5⟩:=Ke he;obtain⟨w,ew,QZ⟩:=r.get h2;have hl:=r.length;have hn:=Am;have fin:EP X pins σ Q w s:=⟨z,H,I,QZ,q⟩;by_cases h0:0<=i
 ·have hj:i.toNat=j:=by
   rw[seqIndex_of h0 h5] at h1;exact JE h1
  exact item_listR pl.isList h0 (by omega) (by rw[hj];simpa using ew) fin hs
 ·have hj:(i+(its.toArray.size:Int)).toNat=j:=by
   rw[seqIndex_neg (by omega) h4] at h1;rw[zt,<-hl];exact JE h1
  exact subscriptTail_builtinR (x:=w) pl.isList.typeIs slot_list_getitem.lookup
   (wpAny_getItem_list_neg (Q:=λr s'=>r=w/\EP X pins σ Q r s') pl.isList (by omega) (by rw[zt]<;>omega) (by omega) (by rw[hj];simpa using ew) ⟨rfl,fin⟩) hs
theorem aep:IxR X (agI X.K):=by
 intro value slice pins s σ H x y v u Q I rx ry h hs;obtain⟨p,xs,i,z,rfl,rfl,hq,he,q⟩:=h;cases rx;obtain⟨t,rfl⟩:=ry;obtain⟨its,r,pl,hz⟩:=I.tuple hq;obtain⟨j,h1,h2,h3,h4,h5⟩:=Ke he;obtain⟨w,ew,QZ⟩:=r.get h2;have hl:=r.length;have hn:=Am;have fin:EP X pins σ Q w s:=⟨z,H,I,QZ,q⟩;exact subscriptTail_builtinR (x:=w) pl.typeIs slot_tuple_getitem.lookup
  (getItem_tuple (j:=j) (Q:=λr s'=>r=w/\EP X pins σ Q r s') pl (by omega) (by omega) (by rw[zt,<-hl];exact h1) (by simpa using ew) ⟨rfl,fin⟩) hs
theorem aer:IxR X agJ:=by
 intro value slice pins s σ H x y v u Q I rx ry h hs;obtain⟨z,i,c,rfl,rfl,hz,he,q⟩:=h;obtain⟨t,rfl⟩:=rx;obtain⟨t',rfl⟩:=ry;obtain⟨j,h1,h2,h3,h4,h5⟩:=Ke he;have hl:z.cps.toList.length=z.length:=by simp[Str.length]
 rw[hl] at h1 h4 h5;have hn:=Am;exact tail_any (typeIs_str s z t) slot_str_getitem.lookup (getItem_str (c:=c) (by
  have e1:decide (i < -(2 ^ 63:Int))=false:=ZE (by omega);have e2:decide (i>=2 ^ 63)=false:=ZE (by omega);rw[e1,e2,Bool.or_false]) (by rw[h1];simpa using h2) ⟨.str ⟨#[c]⟩,H,I.tok _,⟨_,rfl⟩,q⟩) hs
def rIx (K:FG_):R2:=λx y H Q=>agH K x y H Q\/agI K x y H Q\/agJ x y H Q
theorem aes:IxR X (rIx X.K):=aa7.or (aep.or aer)
theorem Inv.lst {pins:List (Addr×Obj)} {σ:St} {H:Hp} {s:Shared} {p:Addr} {xs:List V} (I:Inv X pins σ H s) (h:H p=some (.lst xs)) :
  ∃ (its:List Value) (n:Nat),Vals xs its/\s.heap.get? p=some { cls:=.type "list", data:=.seq its.toArray n }/\xs.length<=sizeLine:=by
 obtain⟨z,its,n,r,e⟩:=I.hok p _ h;exact⟨its,n,r,e,z⟩
theorem Kf (lo hi:Option Int) (n:Nat):(sliceBounds lo hi none n).1=((HT.jx n 0 lo:Nat):Int)/\(sliceBounds lo hi none n).2.1=((HT.jx n n hi:Nat):Int)/\(sliceBounds lo hi none n).2.2=1:=by
 refine⟨?_,?_,rfl⟩
 ·cases lo with
  |none=>simp[sliceBounds,HT.jx]
  |some i=>
   simp only[sliceBounds,HT.jx,Option.getD_none,show(1:Int) > 0 by decide,qA];by_cases h:i < 0
   ·simp only[h,qA]<;>omega
   ·simp only[h,ZO]<;>omega
 ·cases hi with
  |none=>simp[sliceBounds,HT.jx]
  |some i=>
   simp only[sliceBounds,HT.jx,Option.getD_none,show(1:Int) > 0 by decide,qA];by_cases h:i < 0
   ·simp only[h,qA]<;>omega
   ·simp only[h,ZO]<;>omega
theorem Hv (its:List Value) (lo hi:Option Int):slicePick its.toArray lo hi none=((its.drop (HT.jx its.length 0 lo)).take (HT.jx its.length its.length hi - HT.jx its.length 0 lo)).toArray:=by
 obtain⟨h1,h2,h3⟩:=Kf lo hi its.toArray.size;unfold slicePick;rw[h1,h2,h3];simp only[sliceRange_one,pick_run,zt]<;>rfl
def aiA (K:FG_):V->Option Int->Option Int->Hp->VK->Prop:=λx lo hi H Q=>∃ a xs,x=.ref a/\uN K H a xs/\∀ p,H p=none->Q (.ref p) (upd H p (.lst (Nu xs lo hi)))
theorem aa8:SlR X (aiA X.K):=by
 intro pins s σ H x v vl vu lo hi sl Q I rx hs pl pu h;obtain⟨a,xs,rfl,hx,q⟩:=h;cases rx;obtain⟨its,r,ht,hz⟩:=I.list hx;have hlen:=r.length;refine⟨"list", _,slot_list_getitem.lookup,ht.isList.typeIs,?_⟩;refine wpAny_getItem_list_slice ht.isList hs pl pu .none (by simp) ?_ (by rw[zt]<;>omega);rw[Hv,<-hlen];refine⟨.ref s.heap.objs.size,_,I.laid (t':=s.toks) (o:=.lst (Nu xs lo hi)) (λb ob q=>zd _ q) (zi _) ?_,rfl,q _ (I.hok.fresh (zi _))⟩;exact⟨Zs (BL xs lo hi) hz,_,0,(r.drop (HT.jx xs.length 0 lo)).take (HT.jx xs.length xs.length hi - HT.jx xs.length 0 lo),zv _ rfl⟩
def uz:V->Bool
 |.non=>true
 |.bl _=>true
 |.int _=>true
 |.str _=>true
 |_=>false
def eqV:V->V->Bool
 |.non,.non=>true
 |.bl a,.bl b=>a==b
 |.bl a,.int b=>(if a then 1 else 0)==b
 |.int a,.bl b=>a==(if b then 1 else 0)
 |.int a,.int b=>a==b
 |.str a,.str b=>a==b
 |_,_=>false
theorem aeu {A:Around} {s:Shared} {y x:V} {u v:Value} (ry:RelV y u) (rx:RelV x v) (fy:uz y=true) (fx:uz x=true):SeqAt.EqAt A s u v (eqV y x):=by
 cases y with
 |non=>
  cases ry;cases x with
  |non=>cases rx;exact SeqAt.EqAt.same _
  |bl b=>cases rx;exact SeqAt.EqAt.none_bool b
  |int b=>obtain⟨t,rfl⟩:=rx;exact SeqAt.EqAt.none_int b t
  |str b=>obtain⟨t,rfl⟩:=rx;exact SeqAt.EqAt.none_str b t
  |_=>exact absurd (show false=true from fx) zI
 |bl a=>
  cases ry;cases x with
  |non=>cases rx;exact SeqAt.EqAt.bool_none a
  |bl b=>cases rx;exact SeqAt.EqAt.bool_bool a b
  |int b=>obtain⟨t,rfl⟩:=rx;exact SeqAt.EqAt.bool_int a b t
  |str b=>obtain⟨t,rfl⟩:=rx;exact SeqAt.EqAt.bool_str a b t
  |_=>exact absurd (show false=true from fx) zI
 |int a=>
  obtain⟨t',rfl⟩:=ry;cases x with
  |non=>cases rx;exact SeqAt.EqAt.int_none a t'
  |bl b=>cases rx;exact SeqAt.EqAt.int_bool a t' b
  |int b=>obtain⟨t,rfl⟩:=rx;exact SeqAt.EqAt.int_int a t' b t
  |str b=>obtain⟨t,rfl⟩:=rx;exact SeqAt.EqAt.int_str a t' b t
  |_=>exact absurd (show false=true from fx) zI
 |str a=>
  obtain⟨t',rfl⟩:=ry;cases x with
  |non=>cases rx;exact SeqAt.EqAt.str_none a t'
  |bl b=>cases rx;exact SeqAt.EqAt.str_bool a t' b
  |int b=>obtain⟨t,rfl⟩:=rx;exact SeqAt.EqAt.str_int a t' b t
  |str b=>obtain⟨t,rfl⟩:=rx;exact SeqAt.EqAt.str_str a t' b t
  |_=>exact absurd (show false=true from fx) zI
 |_=>exact absurd (show false=true from fy) zI
def Ri (x:V) (u:Value):Bool:=match u with
 |.none=>eqV .non x
 |.bool b=>eqV (.bl b) x
 |.int i _=>eqV (.int i) x
 |.str z _=>eqV (.str z) x
 |_=>false
theorem Xz {x y:V} {u:Value} (r:RelV y u) (f:uz y=true):Ri x u=eqV y x:=by
 cases y with
 |non=>cases r;rfl
 |bl b=>cases r;rfl
 |int i=>obtain⟨t,rfl⟩:=r;rfl
 |str z=>obtain⟨t,rfl⟩:=r;rfl
 |_=>exact absurd (show false=true from f) zI
theorem yK {x:V}:∀ {xs:List V} {us:List Value},Vals xs us->xs.all uz=true->us.any (Ri x)=xs.any λy=>eqV y x
 |_,_,.nil,_=>rfl
 |y::xs,u::us,.cons r t,f=>by
  rw[kq,ZA] at f;rw[kb,kb,Xz r f.1,yK t f.2]
theorem uT {A:Around} {s:Shared} {x:V} {v:Value} (rx:RelV x v) (fx:uz x=true):∀ {xs:List V} {us:List Value},Vals xs us->xs.all uz=true->∀ u∈us,SeqAt.EqAt A s u v (Ri x u)
 |_,_,.nil,_=>λu hu=>by cases hu
 |y::xs,u::us,.cons r t,f=>λu' hu=>by
  rw[kq,ZA] at f;rcases List.mem_cons.mp hu with rfl|hu
  ·rw[Xz r f.1];exact aeu r rx f.1 fx
  ·exact uT rx fx t f.2 u' hu
def inV (x:V) (xs:List V):Bool:=xs.any λy=>eqV y x
def rIn (K:FG_) (neg:Bool):R2:=λx y H Q=>∃ p xs,y=.ref p/\(uN K H p xs\/yH K H p xs)/\uz x=true/\xs.all uz=true/\Q (.bl (if neg then !inV x xs else inV x xs)) H
theorem Vu:vZ X (compareOp .In) (rIn X.K false):=by
 intro pins s σ H x y v u Q I rx ry h;obtain⟨p,xs,rfl,hq,fx,fs,q⟩:=h;cases ry;rcases hq with hq|hq
 ·obtain⟨its,r,pl,hz⟩:=I.list hq;refine SeqAt.in_listAt (Ri x) pl.isList (λw hw=>uT rx fx r fs w (by simpa using hw)) ⟨.bl _,H,I,rfl,?_⟩;rw[show its.toArray.any (Ri x)=its.any (Ri x) by simp,yK r fs];exact q
 ·obtain⟨its,r,pl,hz⟩:=I.tuple hq;refine SeqAt.in_tupleAt (Ri x) pl (λw hw=>uT rx fx r fs w (by simpa using hw)) ⟨.bl _,H,I,rfl,?_⟩;rw[show its.toArray.any (Ri x)=its.any (Ri x) by simp,yK r fs];exact q
theorem Kg:vZ X (compareOp .NotIn) (rIn X.K true):=by
 intro pins s σ H x y v u Q I rx ry h;obtain⟨p,xs,rfl,hq,fx,fs,q⟩:=h;cases ry;rcases hq with hq|hq
 ·obtain⟨its,r,pl,hz⟩:=I.list hq;refine SeqAt.notIn_listAt (Ri x) pl.isList (λw hw=>uT rx fx r fs w (by simpa using hw)) ⟨.bl _,H,I,rfl,?_⟩;rw[show its.toArray.any (Ri x)=its.any (Ri x) by simp,yK r fs];exact q
 ·obtain⟨its,r,pl,hz⟩:=I.tuple hq;refine SeqAt.notIn_tupleAt (Ri x) pl (λw hw=>uT rx fx r fs w (by simpa using hw)) ⟨.bl _,H,I,rfl,?_⟩;rw[show its.toArray.any (Ri x)=its.any (Ri x) by simp,yK r fs];exact q
theorem Kh:vZ X (compareOp .NotIn) (λx y H Q=>∃ i j,x=.str i/\y=.str j/\Q (.bl (!(!(Builtin.Str.occurrences j i 0 j.length 1).isEmpty))) H):=by
 intro pins s σ H x y v u Q I rx ry h;obtain⟨i,j,rfl,rfl,q⟩:=h;obtain⟨t,rfl⟩:=rx;obtain⟨t',rfl⟩:=ry;exact notIn_str ⟨.bl _,H,I,rfl,q⟩
theorem Kl:fX X (.builtin "len") (λxs H Q=>∃ p ys,xs=[.ref p]/\(uN X.K H p ys\/yH X.K H p ys)/\Q (.int ys.length) H):=by
 intro pins s σ H xs us Q I r h;obtain⟨p,ys,rfl,hq,q⟩:=h;obtain⟨u,rfl,rx⟩:=vals1 r;cases rx;have hn:=Am;rcases hq with hq|hq
 ·obtain⟨its,r',pl,hz⟩:=I.list hq;have hlen:=r'.length;exact Calls.call_len_list pl.isList (by simp only[zt]<;>omega) ⟨.int ys.length,H,I.tok _,⟨s.toks+1,by rw[zt,hlen]⟩,q⟩
 ·obtain⟨its,r',pl,hz⟩:=I.tuple hq;have hlen:=r'.length;exact len_tuple pl (by simp only[zt]<;>omega) ⟨.int ys.length,H,I.tok _,⟨s.toks+1,by rw[zt,hlen]⟩,q⟩
theorem Km:fX X (.builtin "len") (λxs H Q=>∃ z,xs=[.str z]/\z.length<=sizeLine/\Q (.int z.length) H):=by
 intro pins s σ H xs us Q I r h;obtain⟨z,rfl,hz,q⟩:=h;obtain⟨u,rfl,t,rfl⟩:=vals1 r;have hn:=Am;exact len_str (by omega) ⟨.int z.length,H,I.tok _,⟨_,rfl⟩,q⟩
theorem fX.or {f:Value} {r r':List V->Hp->VK->Prop} (h:fX X f r) (h':fX X f r'):fX X f (λxs H Q=>r xs H Q\/r' xs H Q):=by
 intro pins s σ H xs us Q I rs q;rcases q with q|q
 ·exact h pins s σ H xs us Q I rs q
 ·exact h' pins s σ H xs us Q I rs q
theorem Ko:fX X (.type "list") (λxs H Q=>∃ p ys,xs=[.ref p]/\(uN X.K H p ys\/yH X.K H p ys)/\∀ l,H l=none->Q (.ref l) (upd H l (.lst ys))):=by
 intro pins s σ H xs us Q I r h;obtain⟨p,ys,rfl,hq,q⟩:=h;obtain⟨u,rfl,rx⟩:=vals1 r;cases rx;have fin:∀ (its:List Value),Vals ys its->ys.length<=sizeLine->∀ (h':Heap) (c':Nat),(∀ b o',s.heap.get? b=some o'->h'.get? b=some o') →
   h'.get? s.heap.objs.size=some { cls:=.type "list", dict:=none,data:=.seq its.toArray c',slots:=#[] }->EP X pins σ Q (.ref s.heap.objs.size) { s with heap:=h' }:=λits r' hz h' c' kp e=>
  ⟨.ref s.heap.objs.size,_,I.laid (t':=s.toks) kp (zi _) (show gQ X.prog X.w _ h' _ (.lst ys) from⟨hz,its,c',r',e⟩),rfl,q _ (I.hok.fresh (zi _))⟩
 rcases hq with hq|hq
 ·obtain⟨its,r',pl,hz⟩:=I.list hq;have hlen:=r'.length;obtain⟨o,ho,hc,n,hd⟩:=pl.isList;exact call_list_seq p (.inl rfl) ho hc hd (λh' c' kp e=>fin its r' hz h' c' kp e) (by simp only[zt]<;>omega)
 ·obtain⟨its,r',pl,hz⟩:=I.tuple hq;have hlen:=r'.length;obtain⟨o,ho,hc,n,hd⟩:=pl;exact call_list_seq p (.inr rfl) ho hc hd (λh' c' kp e=>fin its r' hz h' c' kp e) (by simp only[zt]<;>omega)
theorem Hw:fX X (.type "tuple") (λxs H Q=>∃ p ys,xs=[.ref p]/\((uN X.K H p ys/\∀ l,H l=none->Q (.ref l) (upd H l (.tup ys)))\/(yH X.K H p ys/\Q (.ref p) H))):=by
 intro pins s σ H xs us Q I r h;obtain⟨p,ys,rfl,h⟩:=h;obtain⟨u,rfl,rx⟩:=vals1 r;cases rx;rcases h with⟨hq,q⟩|⟨hq,q⟩
 ·obtain⟨its,r',pl,hz⟩:=I.list hq;have hlen:=r'.length;refine call_tuple_list pl.isList (λh' kp=>?_) (by simp only[zt]<;>omega);have I1:Inv X pins σ H { s with heap:=h' }:=I.kept (t':=s.toks) kp;have I2:Inv X pins σ (upd H h'.objs.size (.tup ys)) { s with heap:=h'.push { cls:=.type "tuple", data:=.seq its.toArray } }:=
   I1.laid (t':=s.toks) (λb o e=>zd _ e) (zi _) (show gQ X.prog X.w _ _ _ (.tup ys) from⟨hz,its,r',uO.new _ _⟩)
  exact⟨.ref h'.objs.size,_,I2,rfl,q _ (I1.hok.fresh (zi _))⟩
 ·obtain⟨its,r',pl,hz⟩:=I.tuple hq;exact call_tuple_same pl ⟨.ref p,H,I,rfl,q⟩
def tyV (K:FG_) (T:String) (x:V) (H:Hp):Prop:=match x with
 |.str _=>T = "str"
 |.int _=>T = "int"
 |.ref p=>(T = "list" ∧ ∃ xs,uN K H p xs)\/(T = "tuple" ∧ ∃ o,K.lookup p=some o/\o.cls=.type "tuple" ∧ o.dict=none) ∨
   (T = "dict" ∧ ((∃ kvs,H p=some (.dK kvs))\/∃ kvs,H p=some (.dT kvs)))\/(T = "set" ∧ ∃ S n,H p=some (.set S n))
 |_=>False
theorem aev {pins:List (Addr×Obj)} {σ:St} {H:Hp} {s:Shared} {T:String} {x:V} {v:Value} (I:Inv X pins σ H s) (r:RelV x v) (ty:tyV X.K T x H) :
  s.TypeIs v T/\∀ a,v=.ref a->∃ ob,s.heap.get? a=some ob/\ob.dict=none:=by
 cases x with
 |str z=>
  obtain⟨t,rfl⟩:=r;cases(show T = "str" from ty);exact⟨typeIs_str s z t,λ_ e=>nomatch e⟩
 |int i=>
  obtain⟨t,rfl⟩:=r;cases(show T = "int" from ty);exact⟨typeIs_int s i t,λ_ e=>nomatch e⟩
 |ref p=>
  cases r;rcases ty with⟨rfl,xs,hq⟩|⟨rfl,o,hk,hc,hd⟩|⟨rfl,hk⟩|⟨rfl,S,n,hk⟩
  ·obtain⟨its,_,pl,_⟩:=I.list hq;refine⟨pl.isList.typeIs,λa e=>?_⟩;cases e;obtain⟨o,n,e,c,hd,_⟩:=pl;exact⟨o,e,hd⟩
  ·refine⟨⟨o,I.kIn p o hk,hc⟩,λa e=>?_⟩;cases e;exact⟨o,I.kIn _ o hk,hd⟩
  ·have z:∃ o,s.heap.get? p=some o/\o.ExactDict:=by
    rcases hk with⟨kvs,hk⟩|⟨kvs,hk⟩
    ·obtain⟨_,_,_,_,o,_,_,e,ex,_⟩:=I.hok p _ hk;exact⟨o,e,ex⟩
    ·obtain⟨_,_,_,_,o,_,_,e,ex,_⟩:=I.hok p _ hk;exact⟨o,e,ex⟩
   obtain⟨o,e,ex⟩:=z;refine⟨⟨o,e,ex.1⟩,λa e2=>?_⟩;cases e2;exact⟨o,e,ex.2.1⟩
  ·obtain⟨o,_,_,_,e,ex,_⟩:=I.hok p _ hk;refine⟨⟨o,e,ex.1⟩,λa e2=>?_⟩;cases e2;exact⟨o,e,ex.2.1⟩
 |_=>exact False.elim ty
def tBM (K:FG_) (T:String) (r:V->List V->Hp->VK->Prop) (to:TE) (t:TA):TE:=λσ H Q=>to σ H λx H1=>tyV K T x H1/\t σ H1 λxs H2=>r x xs H2 Q
variable {o e:Expr} {es:List Expr} {to:TE} {t:TA} {name:Str} {apos cpos:Pos} {T id:String} {r:V->List V->Hp->VK->Prop}
theorem T4 (pa:PlainAttrs T) (slot:Slot T name id) (hty:typeOf (.builtin id)=pure (.type "method_descriptor")) (hm:MtR X id r) (ho:PE X o to) (ha:PA X (e::es) t)
  (hbase:attributeBase o name X.env (eval o X.env)=eval o X.env:=by rfl)
  (hfew:((backTo cpos (starEach (e::es) X.env)).all (λx=>!x.1)&&(backToKw cpos (keywordEach [] X.env)).all (λx=>x.1.isSome)
   && decide ((e::es).length+([]:List Keyword).length+(if([]:List Keyword).isEmpty then 0 else 1) < 30))=true:=by rfl)
  (hline:(apos.endLine==cpos.line)=true:=by rfl) (hs:starEach (e::es) X.env=(false,eval e X.env)::starEach es X.env:=by rfl) (hplain:(backTo cpos (starEach es X.env)).any (·.1)=false:=by rfl) :
  PE X (.Call (.Attribute o name apos) (e::es) [] cpos) (tBM X.K T r to t):=by
 intro pins s σ H Q I h;refine wpAny_Call_method_late hbase hfew hline rfl (jd (ho pins s σ H _ I h) λv s1 ⟨x,H1,I1,r1,ty,q1⟩=>?_);obtain⟨h1,h2⟩:=aev I1 r1 ty;refine⟨T,id,pa,slot,hty,h1,h2,?_⟩;have hA:=ha cpos pins s1 σ H1 _ I1 q1;rw[hs] at hA ⊢;refine Calls.callWith_builtin (by show(false||(backTo cpos (starEach es X.env)).any (·.1))=false;rw[hplain]<;>rfl) (Calls.evalArgs_plain ?_);exact jd hA λus s2 ⟨vs,H2,I2,r2,q2⟩=>hm pins s2 σ H2 x vs v us Q I2 r1 r2 q2
end
end L2
namespace L2
open PySem PySem.Spec PyProof.Rows
def MtM (X:Cx) (id:String) (r:V->List V->Hp->VK->Prop):Prop:=
 ∀ (pins:List (Addr×Obj)) (s:Shared) (σ:St) (H:Hp) (x:V) (xs:List V) (v:Value) (us:List Value) (Q:VK),Inv X pins σ H s->RelV x v->Vals xs us->r x xs H Q →
  wpAny (model X.prog X.w) X.A (call (.builtin id) (v::us)) (EP X pins σ Q) X.xe s
theorem Vals.one:∀ {x:V} {us:List Value},Vals [x] us->∃ u,us=[u]/\RelV x u
 |_,_,.cons r .nil=>⟨_,rfl,r⟩
theorem Vals.two:∀ {x y:V} {us:List Value},Vals [x,y] us->∃ u v,us=[u,v]/\RelV x u/\RelV y v
 |_,_,_,.cons r (.cons q .nil)=>⟨_,_,rfl,r,q⟩
theorem Vals.eraseIdx:∀ {xs:List V} {us:List Value} (i:Nat),Vals xs us->Vals (xs.eraseIdx i) (us.eraseIdx i)
 |_,_,_,.nil=>.nil
 |_,_,0,.cons _ t=>t
 |_,_,i+1,.cons r t=>.cons r (Vals.eraseIdx i t)
theorem Vals.reverse {xs:List V} {us:List Value} (h:Vals xs us):Vals xs.reverse us.reverse:=by
 induction h with
 |nil=>exact .nil
 |cons r t ih=>rw[kQ,kQ];exact Vals.append ih (.cons r .nil)
theorem Jm {α:Type}:∀ (l:List α) (i:Nat),(l.eraseIdx i).length<=l.length
 |[],_=>zi _
 |_::_,0=>Kj _
 |_::r,i+1=>Nat.succ_le_succ (Jm r i)
section
variable {X:Cx} {pins:List (Addr×Obj)} {σ:St} {H:Hp} {s:Shared} {l b:Addr} {xs ys zs:List V}
theorem Inv.Rj {its its':List Value} {n:Nat} {f:Array Value->Array Value} {t':Nat} (I:Inv X pins σ H s) (hH:H l=some (.lst xs))
  (e:s.heap.get? l=some { cls:=.type "list", data:=.seq its.toArray n }) (hf:f its.toArray=its'.toArray) (hv:Vals ys its') (hz:ys.length<=sizeLine) :
  Inv X pins σ (upd H l (.lst ys)) { s with heap:=s.heap.update l (Obj.mapSeq f),toks:=t' }:=by
 have q:=PySem.IsL.update e f;rw[hf] at q;refine I.write (x:=l) (e:=l) (by rw[hH];exact trivial) (.inl rfl) (λb' u hb hu=>(Heap.get?_update_other s.heap (Obj.mapSeq f) (K0 hb)).trans hu) ⟨_,q⟩ ?_;exact⟨hz,its',_,hv,q⟩
theorem Inv.abb (I:Inv X pins σ H s) (hH:H l=some (.lst xs)):xs.length<=sizeLine/\∃ (its:List Value) (n:Nat),Vals xs its/\xs.length=its.length/\s.heap.get? l=some { cls:=.type "list", data:=.seq its.toArray n }:=by
 obtain⟨z,its,n,r,e⟩:=I.hok l _ hH;exact⟨z,its,n,r,r.length,e⟩
theorem XC {n:Nat} (h:n<=sizeLine):Builtin.List.listTooLong n=false:=by
 unfold Builtin.List.listTooLong;exact ZE (by omega)
end
section
variable {X:Cx}
def abd:V->List V->Hp->VK->Prop:=λx vs H Q=>∃ l xs y,x=.ref l/\vs=[y]/\H l=some (.lst xs)/\xs.length < sizeLine/\Q .non (upd H l (.lst (xs++[y])))
theorem Jo:MtM X "list.append" abd:=by
 intro pins s σ H x vs v us Q I rx rv h;obtain⟨l,xs,y,rfl,rfl,hH,hz,q⟩:=h;cases rx;obtain⟨u,rfl,ru⟩:=rv.one;obtain⟨z,its,n,r,hl,e⟩:=I.abb hH;refine call_meets F.slot_list_append ⟨_,e,rfl⟩ F.entry_list_append (F.args_list_append_2 _ _) (PySem.list_append l its.toArray n u (by rw[zt];omega)) ⟨e,?_⟩;refine⟨.non,_,I.Rj (its':=its++[u]) hH e (by simp) (r.append (.cons ru .nil)) ?_,rfl,q⟩;rw[zS,ky];omega
def abe:V->List V->Hp->VK->Prop:=λx vs H Q=>∃ l b xs zs,x=.ref l/\vs=[.ref b]/\H l=some (.lst xs)/\H b=some (.lst zs)/\xs.length+zs.length<=sizeLine/\Q .non (upd H l (.lst (xs++zs)))
theorem Vv:MtM X "list.extend" abe:=by
 intro pins s σ H x vs v us Q I rx rv h;obtain⟨l,b,xs,zs,rfl,rfl,hH,hB,hz,q⟩:=h;cases rx;obtain⟨u,rfl,ru⟩:=rv.one;cases ru;obtain⟨z,its,n,r,hl,e⟩:=I.abb hH;obtain⟨z2,its2,n2,r2,hl2,e2⟩:=I.abb hB;have hsz:its.toArray.size+its2.toArray.size<=sizeLine:=by rw[zt,zt];omega
 have agK:¬ (!its.toArray.isEmpty&&Builtin.List.listTooLong (its.toArray.size+its2.toArray.size))=true:=by
  rw[XC hsz,KP];exact zI
 refine call_meets F.slot_list_extend ⟨_,e,rfl⟩ F.entry_list_extend (F.args_list_extend_2 _ _)
  (AutoSeq1.list_extend_list_list_0 l its.toArray n b its2.toArray n2 agK (by rw[zt];omega) (by omega)) ⟨e,e2,?_⟩
 refine⟨.non,_,I.Rj (its':=its++its2) hH e (by simp) (r.append r2) ?_,rfl,q⟩;rw[zS];omega
def aew:V->List V->Hp->VK->Prop:=λx vs H Q=>∃ l xs i k y,x=.ref l/\vs=[.int i]/\H l=some (.lst xs) ∧ -(2 ^ 63)<=i/\i < 2 ^ 63/\seqIndex? i xs.length=some k/\xs[k]?=some y/\Q y (upd H l (.lst (xs.eraseIdx k)))
theorem XD:MtM X "list.pop" aew:=by
 intro pins s σ H x vs v us Q I rx rv h;obtain⟨l,xs,i,k,y,rfl,rfl,hH,h1,h2,hk,hy,q⟩:=h;cases rx;obtain⟨u,rfl,ru⟩:=rv.one;obtain⟨t,rfl⟩:=ru;obtain⟨z,its,n,r,hl,e⟩:=I.abb hH;obtain⟨w,hw,QZ⟩:=r.get hy;refine call_meets F.slot_list_pop ⟨_,e,rfl⟩ F.entry_list_pop (F.args_list_pop_2 _ _)
  (MeetsSeq.list_pop_at l its.toArray n i t k w (fitsIndex_both h1 h2) (by rw[zt,<-hl];exact hk) (by rw[<-qk];exact hw) (by rw[zt];omega)) ⟨e,?_⟩
 refine⟨y,_,I.Rj (its':=its.eraseIdx k) hH e ?_ (r.eraseIdx k) ?_,QZ,q⟩
 ·show its.toArray.eraseIdxIfInBounds k=(its.eraseIdx k).toArray;rw[List.eraseIdxIfInBounds_toArray]
 ·have:=Jm xs k;omega
end
section
variable {prog:Program} {w:World} {A:Around} {E:VP_} {s:Shared}
end
section
variable {X:Cx}
end
end L2
namespace L2
open PySem PySem.Spec PyProof.Rows
section
variable {κ:Type} [DecidableEq κ]
def Ao (kvs:List (κ×V)) (k:κ):Option V:=(kvs.find? λkv=>decide (kv.1=k)).map (·.2)
def putK (kvs:List (κ×V)) (k:κ) (v:V):List (κ×V):=
 if(kvs.any λkv=>decide (kv.1=k))=true then kvs.map (λkv=>if kv.1=k then(kv.1,v) else kv) else kvs++[(k,v)]
theorem yL {p:κ×V} {r:List (κ×V)} {k:κ} (e:p.1=k):Ao (p::r) k=some p.2:=by simp[Ao,Qb,e]
theorem yM {p:κ×V} {r:List (κ×V)} {k:κ} (e:¬ p.1=k):Ao (p::r) k=Ao r k:=by simp[Ao,Qb,e]
theorem Nv (k:κ):∀ kvs:List (κ×V),(kvs.any λkv=>decide (kv.1=k))=(Ao kvs k).isSome
 |[]=>rfl
 |p::r=>by
  rw[kb];by_cases e:p.1=k
  ·simp only[yL e,Zp e,Bool.true_or,KS]
  ·rw[yM e,ZE e,Bool.false_or];exact Nv k r
theorem nA (kvs:List (κ×V)) (k:κ) (v:V):(putK kvs k v).length<=kvs.length+1:=by
 unfold putK;split
 ·rw[zo];omega
 ·rw[zS,ZH,List.length_nil];omega
theorem Ed.Aq {o:Option V} {u:Option Value} (r:Ed o u):o.isSome=u.isSome:=by
 cases o with
 |none=>cases u with
  |none=>rfl
  |some _=>exact(show False from r).elim
 |some _=>cases u with
  |none=>exact(show False from r).elim
  |some _=>rfl
theorem KV.val {kvs:List (κ×V)} {vs:List (κ×Value)} (r:KV kvs vs) (k:κ):Ed (Ao kvs k) (valueAt vs k):=by
 unfold KV at r
 induction r with
 |nil=>exact True.intro
 |@cons p q ps qs h t ih=>
  obtain⟨h1,h2⟩:=h;by_cases e:p.1=k
  ·have e':q.1=k:=h1.symm.trans e;have b:valueAt (q::qs) k=some q.2:=by simp[valueAt,Qb,e']
   rw[yL e,b];exact h2
  ·have e':¬ q.1=k:=λz=>e (h1.trans z);have b:valueAt (q::qs) k=valueAt qs k:=by simp[valueAt,Qb,e']
   rw[yM e,b];exact ih
theorem KV.any {kvs:List (κ×V)} {vs:List (κ×Value)} (r:KV kvs vs) (k:κ):(kvs.any λkv=>decide (kv.1=k))=vs.any λkv=>decide (kv.1=k):=by
 unfold KV at r
 induction r with
 |nil=>rfl
 |cons h t ih=>rw[kb,kb,ih,h.1]
theorem KV.repl {kvs:List (κ×V)} {vs:List (κ×Value)} (r:KV kvs vs) (k:κ) {y:V} {u:Value} (ry:RelV y u) :
  KV (kvs.map λkv=>if kv.1=k then(kv.1,y) else kv) (vs.map λkv=>if kv.1=k then(kv.1,u) else kv):=by
 unfold KV at r ⊢
 induction r with
 |nil=>exact .nil
 |@cons p q ps qs h t ih=>
  rw[zr,zr];refine .cons ?_ ih;obtain⟨h1,h2⟩:=h;by_cases e:p.1=k
  ·rw[zk e,zk (h1.symm.trans e)];exact⟨h1,ry⟩
  ·rw[zw e,zw (λz=>e (h1.trans z))];exact⟨h1,h2⟩
theorem KV.put {kvs:List (κ×V)} {vs:List (κ×Value)} (r:KV kvs vs) (k:κ) {y:V} {u:Value} (ry:RelV y u):KV (putK kvs k y) (stored vs k u):=by
 unfold putK stored;rw[r.any k];by_cases e:(vs.any λkv=>decide (kv.1=k))=true
 ·rw[zk e,zk e];exact r.repl k ry
 ·rw[zw e,zw e];exact Paired.snoc r ⟨rfl,ry⟩
theorem KV.length {kvs:List (κ×V)} {vs:List (κ×Value)} (r:KV kvs vs):kvs.length=vs.length:=Paired.length r
end
theorem El {P:Program} {w:World} {k:Key} {u:Value} (r:RelV (kV k) u):(aX P w).is k u=true:=by
 cases k with
 |inl i=>obtain⟨t,e⟩:=(show ∃ t,u=Value.int i t from r);subst e;exact Nk P w i t
 |inr x=>obtain⟨t,e⟩:=(show ∃ t,u=Value.str x t from r);subst e;exact Np P w x t
theorem Jp {P:Program} {w:World}:∀ {ks:List Key} {us:List Value},Vals (ks.map kV) us->ItemsAre (aX P w) ks us
 |[],_,r=>by rw[ka] at r;cases r;exact .nil
 |k::ks,_,r=>by
  rw[zr] at r;cases r with
  |cons h t=>exact .cons (El h) (Jp t)
abbrev KT (H:Hp):List (List Key×V)->List (List Key×Addr×Value)->Prop:=Paired λp q=>p.1=q.1/\H q.2.1=some (.tup (p.1.map kV))/\RelV p.2 q.2.2
theorem KT.val {H:Hp} {kvs:List (List Key×V)} {xs:List (List Key×Addr×Value)} (r:KT H kvs xs) (k:List Key):Ed (Ao kvs k) ((atKey xs k).map (·.2)):=by
 induction r with
 |nil=>exact True.intro
 |@cons p q ps qs h t ih=>
  obtain⟨h1,_,h2⟩:=h;by_cases e:p.1=k
  ·have e':q.1=k:=h1.symm.trans e;have b:atKey (q::qs) k=some q.2:=by simp[atKey,Qb,e']
   rw[yL e,b];exact h2
  ·have e':¬ q.1=k:=λz=>e (h1.trans z);have b:atKey (q::qs) k=atKey qs k:=by simp[atKey,Qb,e']
   rw[yM e,b];exact ih
theorem KT.repl {H:Hp} {kvs:List (List Key×V)} {xs:List (List Key×Addr×Value)} (r:KT H kvs xs) (k:List Key) {y:V} {u:Value} (ry:RelV y u) :
  KT H (kvs.map λkv=>if kv.1=k then(kv.1,y) else kv) (xs.map (putAt k u)):=by
 induction r with
 |nil=>exact .nil
 |@cons p q ps qs h t ih=>
  rw[zr,zr];refine .cons ?_ ih;obtain⟨h1,h2,h3⟩:=h;unfold putAt;by_cases e:p.1=k
  ·rw[zk e,zk (h1.symm.trans e)];exact⟨h1,h2,ry⟩
  ·rw[zw e,zw (λz=>e (h1.trans z))];exact⟨h1,h2,h3⟩
theorem KT.put {H:Hp} {kvs:List (List Key×V)} {xs:List (List Key×Addr×Value)} (r:KT H kvs xs) (k:List Key) {b:Addr} {y:V} {u:Value} (hb:H b=some (.tup (k.map kV))) (ry:RelV y u) :
  KT H (putK kvs k y) (storedH xs k b u):=by
 have e:(kvs.any λkv=>decide (kv.1=k))=(atKey xs k).isSome:=by
  rw[Nv,(r.val k).Aq,Option.isSome_map]
 unfold putK storedH;rw[e];by_cases q:(atKey xs k).isSome=true
 ·rw[zk q,zk q];exact r.repl k ry
 ·rw[zw q,zw q];exact Paired.snoc r ⟨rfl,hb,ry⟩
theorem KT.keeps {H H':Hp} {kvs:List (List Key×V)} {xs:List (List Key×Addr×Value)} (r:KT H kvs xs) (ht:∀ b ys,H b=some (.tup ys)->H' b=some (.tup ys)):KT H' kvs xs:=
 Paired.aaM r λ_ _ z=>⟨z.1,ht _ _ z.2.1,z.2.2⟩
section
variable {P:Program} {w:World} {H:Hp} {h:Heap} {a:Addr}
theorem adb {u:HO} (ok:yF P w H h) (e:Rd H a u):gQ P w H h a u:=e.ok ok
theorem uD {kvs:List (Key×V)} (ok:yF P w H h) (e:Rd H a (.dK kvs)):kvs.length<=sizeLine/\(a==sysModules)=false/\∃ vs,KV kvs vs/\h.DictOf (aX P w) a vs:=
 show gQ P w H h a (.dK kvs) from adb ok e
theorem XF {kvs:List (Key×V)} (ok:yF P w H h) (e:H a=some (.dK kvs)):kvs.length<=sizeLine/\(a==sysModules)=false/\∃ vs,KV kvs vs/\h.DictOf (aX P w) a vs:=uD ok (.inl e)
theorem Kq {ks:List Key} (ok:yF P w H h) (e:H a=some (.tup (ks.map kV))):(tupleKind (aX P w)).is h ks a:=by
 obtain⟨_,its,r,o,h1,h2,⟨n,h3⟩,_⟩:=(show gQ P w H h a (.tup (ks.map kV)) from ok a _ e);exact⟨o,its.toArray,n,h1,h2,h3,by simpa using Jp r⟩
theorem T5 {kvs:List (List Key×V)} (ok:yF P w H h) (e:Rd H a (.dT kvs)):kvs.length<=sizeLine/\(a==sysModules)=false ∧
  ∃ xs,KT H kvs xs/\h.DictOfH (tupleKind (aX P w)) a xs:=by
 obtain⟨z,y,xs,r,o,es,ep,h1,h2,h3,h4,h5⟩:=(show gQ P w H h a (.dT kvs) from adb ok e);refine⟨z,y,xs,r,o,es,ep,h1,h2,h3,h4,λx hx=>?_,h5⟩;have all:∀ {l:List (List Key×V)} {m:List (List Key×Addr×Value)},KT H l m->∀ x∈m,(tupleKind (aX P w)).is h x.1 x.2.1:=by
  intro l m q
  induction q with
  |nil=>intro x hx;exact nomatch hx
  |@cons p q ps qs hq t ih=>
   intro x hx;rcases List.mem_cons.mp hx with e|hx
   ·subst e;exact Kq ok (by rw[<-hq.1];exact hq.2.1)
   ·exact ih x hx
 exact all r x hx
theorem agL {kvs:List (List Key×V)} (ok:yF P w H h) (e:H a=some (.dT kvs)):kvs.length<=sizeLine/\(a==sysModules)=false ∧
  ∃ xs,KT H kvs xs/\h.DictOfH (tupleKind (aX P w)) a xs:=T5 ok (.inl e)
end
def XH (H:Hp) (a:Addr) (y:V) (r:Option V):Prop:=
 (∃ kvs k,Rd H a (.dK kvs)/\y=kV k/\r=Ao kvs k)\/∃ kvs k b,Rd H a (.dT kvs)/\y=.ref b/\H b=some (.tup (k.map kV))/\r=Ao kvs k
def XJ (H:Hp) (a:Addr) (y v:V) (H':Hp):Prop:=
 (∃ kvs k,H a=some (.dK kvs)/\y=kV k/\kvs.length < sizeLine/\H'=upd H a (.dK (putK kvs k v))) ∨
 ∃ kvs k b,H a=some (.dT kvs)/\y=.ref b/\H b=some (.tup (k.map kV))/\kvs.length < sizeLine/\H'=upd H a (.dT (putK kvs k v))
theorem XJ.k {H:Hp} {a:Addr} {kvs:List (Key×V)} {k:Key} {v:V} (e:H a=some (.dK kvs)) (hl:kvs.length < sizeLine):XJ H a (kV k) v (upd H a (.dK (putK kvs k v))):=.inl ⟨kvs,k,e,rfl,hl,rfl⟩
section
variable {X:Cx} {pins:List (Addr×Obj)} {σ:St} {H:Hp} {s:Shared} {a:Addr} {y v:V} {u r:Value} {o:Option V} {A:Around} {E:VP_}
theorem Inv.big (I:Inv X pins σ H s):sysModules < s.heap.objs.size:=by
 have h:mainGlobals < s.heap.objs.size:=(I.mod.glob.keeps I.bk).lt;exact Nat.lt_trans (by decide) h
theorem Vw {Q:VP_} (hu:A.units+1 < cLine) (I:Inv X pins σ H s) (g:XH H a y (some v)) (ry:RelV y u) (h:∀ w' s',Inv X pins σ H s'->RelV v w'->Q w' s') :
  wpAny (model X.prog X.w) A (getItem (.ref a) u) Q E s:=by
 rcases g with⟨kvs,k,e,ey,l⟩|⟨kvs,k,b,e,ey,eb,l⟩
 ·subst ey;obtain⟨z,hd,vs,rel,dd⟩:=uD I.hok e;obtain⟨w',hw,QZ⟩:=Ed.some_of (v:=v) (o:=valueAt vs k) (by rw[l];exact rel.val k);exact wpAny_getItem_of (El ry) dd.mapOf hw (h w' _ (I.tok _) QZ)
 ·subst ey;cases(show u=Value.ref b from ry);obtain⟨z,hd,xs,rel,dd⟩:=T5 I.hok e;obtain⟨w',hw,QZ⟩:=Ed.some_of (v:=v) (o:=(atKey xs k).map (·.2)) (by rw[l];exact rel.val k);obtain⟨p,hp,hp2⟩:=Option.map_eq_some_iff.mp hw;refine wpAny_getItem_heap (tupleKind_room_in1 hu) (Kq I.hok eb) dd hp ?_;rw[hp2];exact h w' _ (I.tok _) QZ
theorem abf {Q:VP_} (hu:A.units+1 < cLine) (I:Inv X pins σ H s) (g:XH H a y o) (ry:RelV y u) (h:∀ s',Inv X pins σ H s'->Q (.bool (!o.isSome)) s') :
  wpAny (model X.prog X.w) A (compareOp .NotIn u (.ref a)) Q E s:=by
 rcases g with⟨kvs,k,e,ey,l⟩|⟨kvs,k,b,e,ey,eb,l⟩
 ·subst ey;obtain⟨z,hd,vs,rel,dd⟩:=uD I.hok e;refine wpAny_notIn_of (El ry) hd dd.mapOf ?_;rw[<-(rel.val k).Aq,<-l];exact h _ (I.tok _)
 ·subst ey;cases(show u=Value.ref b from ry);obtain⟨z,hd,xs,rel,dd⟩:=T5 I.hok e;refine wpAny_notIn_heap (tupleKind_room_in1 hu) (Kq I.hok eb) hd dd ?_;have q:=(rel.val k).Aq;rw[Option.isSome_map] at q;rw[<-q,<-l];exact h _ (I.tok _)
theorem Dr {h':Heap} {t':Nat} {ob:HO} (I:Inv X pins σ H s) (mu:Mut (H a)) (hs:Heap.SameBut a s.heap h') (he:∃ q,h'.get? a=some q) (new:gQ X.prog X.w (upd H a ob) h' a ob) :
  Inv X pins σ (upd H a ob) { s with heap:=h',toks:=t' }:=
 I.write (x:=a) (e:=a) mu (.inl rfl) (λb q hb z=>(hs.2 b hb).trans z) he new
theorem Rk {P:Program} {w:World} {H':Hp} {h':Heap} {kvs:List (Key×V)} {vs:List (Key×Value)} (z:kvs.length<=sizeLine) (hd:(a==sysModules)=false) (rel:KV kvs vs) (dd:h'.DictOf (aX P w) a vs) :
  gQ P w H' h' a (.dK kvs):=⟨z,hd,vs,rel,dd⟩
theorem Vx {H':Hp} {Q:Unit->Shared->Prop} (hu:A.units+1 < cLine) (I:Inv X pins σ H s) (g:XJ H a y v H') (ry:RelV y u) (rv:RelV v r) (h:∀ s',Inv X pins σ H' s'->Q () s') :
  wpAny (model X.prog X.w) A (setItem (.ref a) u r) Q E s:=by
 rcases g with⟨kvs,k,e,ey,l,eH⟩|⟨kvs,k,b,e,ey,eb,l,eH⟩
 ·subst ey eH;obtain⟨z,hd,vs,rel,dd⟩:=XF I.hok e;have hz:vs.length<=sizeLine:=by rw[<-rel.length];exact z
  have hl:(putK kvs k v).length<=sizeLine:=by have:=nA kvs k v;omega
  refine wpAny_setItem_pairs (hsz:=hz) (El ry) dd λh' dd' hs=>h _ ?_;have he:∃ q,h'.get? a=some q:=let ⟨q,_,_,hq,_⟩:=dd';⟨q,hq⟩;exact Dr I (by rw[e];exact True.intro) hs he (Rk hl hd (rel.put k rv) dd')
 ·subst ey eH;cases(show u=Value.ref b from ry);obtain⟨z,hd,xs,rel,dd⟩:=agL I.hok e;have hz:xs.length<=sizeLine:=by rw[<-Paired.length rel];exact z
  have hl:(putK kvs k v).length<=sizeLine:=by have:=nA kvs k v;omega
  refine wpAny_setItem_heap (hsz:=hz) (tupleKind_room_in1 hu) (Kq I.hok eb) dd λh' dd' hs=>h _ ?_;obtain⟨q,es,ep,hq,h2,h3,h4,_,h5⟩:=dd';refine Dr I (by rw[e];exact True.intro) hs ⟨q,hq⟩ ⟨hl,hd,_,(rel.put k eb rv).keeps λc ys ec=>?_,q,es,ep,hq,h2,h3,h4,h5⟩;rw[aR (oH ec e (λz=>nomatch z))];exact ec
end
section
variable {X:Cx} {pins:List (Addr×Obj)} {σ:St} {H:Hp} {s:Shared} {a:Addr} {kvs:List (Key×V)} {k:Key} {u:Value} {A:Around} {E:VP_}
end
def aex (i:Expr):Prop:=∀ ov iv,subscripted i false ov iv=operate [ov,iv] (getItem ov iv)
theorem abg {prog:Program} {w:World} {A:Around} {E:VP_} {s:Shared} {env:Env} {value slice:Expr} {pos:Pos} {T id:String} {Q:VP_}
  (hl:typeLookup (.type T) "__getitem__" = pure (some (.builtin id))) (hs:aex slice)
  (h:wpAny (model prog w) A (eval value env) (λo s₁=>wpAny (model prog w) A (eval slice env) (λi s₂=>s₂.TypeIs o T/\wpAny (model prog w) A (getItem o i) Q E s₂) E s₁) E s) :
  wpAny (model prog w) A (eval (.Subscript value slice pos) env) Q E s:=by
 refine Subscript_ (qS h (λo s₁ h₁=>qS h₁ (λi s₂ h₂=>?_) λ_ _ x=>x) λ_ _ x=>x);obtain⟨hT,h₂⟩:=h₂;unfold subscriptTail;refine zb ?_;rw[getitemInPython_of_ne hT.not_modules];refine zb (wpAny_specialOf hT hl ?_);have fin:wpAny (model prog w) A (subscripted slice false o i) (λr s₃=>wpAny (model prog w) A (letTemporaryGo value o r >>= λ_=>pure r) Q E s₃) E s₂:=by
  rw[hs o i];exact wpAny_operating (qS h₂ (λr s₃ h₃=>zb (wpAny_letTemporaryGo (ze h₃))) λ_ _ x=>x)
 first
  |exact ze (zb fin)
  |exact zb (ze (zb fin))
  |exact zb fin
theorem Nx {X:Cx} {pins:List (Addr×Obj)} {σ:St} {H:Hp} {s:Shared} {a:Addr} {y:V} {o:Option V} (I:Inv X pins σ H s) (g:XH H a y o):s.TypeIs (.ref a) "dict" := by
 rcases g with⟨kvs,k,e,_,_⟩|⟨kvs,k,b,e,_,_,_⟩
 ·obtain⟨_,_,vs,_,dd⟩:=uD I.hok e;exact dd.typeIs
 ·obtain⟨_,_,xs,_,dd⟩:=T5 I.hok e;exact dd.typeIs
def agM (td ty:TE):TE:=λσ H Q=>td σ H λx H1=>ty σ H1 λy H2=>∃ a v,x=.ref a/\XH H2 a y (some v)/\Q v H2
def agN (td ty tv:TE):TS:=λD σ H=>tv σ H λv H1=>td σ H1 λx H2=>ty σ H2 λy H3=>∃ a H4,x=.ref a/\XJ H3 a y v H4/\D.nx σ H4
section
variable {X:Cx} {o i e value:Expr} {pos pos' tpos:Pos} {td ty tv:TE}
theorem abh (hu:X.A.units+1 < cLine) (ho:PE X o td) (hi:PE X i ty) (hs:aex i):PE X (.Subscript o i pos) (agM td ty):=by
 intro pins s σ H Q I h;refine abg PySem.F.slot_dict_getitem.lookup hs (jd (ho pins s σ H _ I h) λu s1 ⟨x,H1,I1,rx,q1⟩=>jd (hi pins s1 σ H1 _ I1 q1) λiv s2 ⟨y,H2,I2,ry,a,v,ex,g,q2⟩=>?_);subst ex;obtain rfl:u=Value.ref a:=rx;exact⟨Nx I2 g,Vw hu I2 g ry λw' s3 I3 QZ=>⟨v,H2,I3,QZ,q2⟩⟩
theorem abj (hu:X.A.units+1 < cLine) (ho:PE X o td) (hi:PE X i ty) (hv:PE X value tv) (hs:swapsWith value (some (.Subscript o i pos')) pos.line X.env=pure false) :
  PS X (.Assign [.Subscript o i pos'] value pos) (agN td ty tv):=by
 intro pins s σ H D I h;refine wpAny_Assign_Subscript (jd (hv pins s σ H _ I h) λr s1 ⟨v,H1,I1,rv,q1⟩=>jd (ho pins s1 σ H1 _ I1 q1) λu s2 ⟨x,H2,I2,rx,q2⟩=>jd (hi pins s2 σ H2 _ I2 q2) λiv s3 ⟨y,H3,I3,ry,a,H4,ex,g,q3⟩=>?_) hs;subst ex;obtain rfl:u=Value.ref a:=rx;exact Vx hu I3 g ry rv λs4 I4=>⟨σ,H4,I4,q3⟩
end
theorem Ny {P:Program} {w:World} {H:Hp} (h:Heap) (hb:sysModules < h.objs.size):gQ P w H (h.push { cls:=.type "dict", data:=.dict #[] }) h.objs.size (.dK []):=
 ⟨QI _,beq_eq_false_iff_ne.mpr (K0 (zD hb)),[],.nil,Heap.DictOf.new h⟩
section
variable {X:Cx} {pos:Pos}
end
def Rm:List (TE×TE)->St->Hp->(List (V×V)->Hp->Prop)->Prop
 |[],_,H,Q=>Q [] H
 |(tk,tv)::r,σ,H,Q=>tk σ H λx H1=>tv σ H1 λy H2=>Rm r σ H2 λps H3=>Q ((x,y)::ps) H3
abbrev VV:List (V×V)->List (Value×Value)->Prop:=Paired λp q=>RelV p.1 q.1/\RelV p.2 q.2
def PPs (X:Cx) (pos:Pos) (keys:List (Option Expr)) (values:List Expr) (trs:List (TE×TE)):Prop:=
 ∀ (pins:List (Addr×Obj)) (s:Shared) (σ:St) (H:Hp) (Q:List (V×V)->Hp->Prop),Inv X pins σ H s->Rm trs σ H Q →
  wpAny (model X.prog X.w) X.A (evalPairs (pairTrees keys values X.env pos)) (λvs s'=>∃ ps H',Inv X pins σ H' s'/\VV ps vs/\Q ps H') X.xe s
theorem abl {X:Cx} {pos:Pos}:PPs X pos [] [] []:=λpins s σ H Q I h=>pairTrees_nil_walk ⟨[],H,I,.nil,h⟩
theorem XM {X:Cx} {pos:Pos} {k v:Expr} {ks:List (Option Expr)} {vs:List Expr} {tk tv:TE} {trs:List (TE×TE)} (hk:PE X k tk) (hv:PE X v tv) (hr:PPs X pos ks vs trs) :
  PPs X pos (some k::ks) (v::vs) ((tk,tv)::trs):=λpins s σ H Q I h=>
 pairTrees_cons_walk (jd (hk pins s σ H _ I h) λu s1 ⟨x,H1,I1,rx,q1⟩=>jd (hv pins s1 σ H1 _ I1 q1) λw2 s2 ⟨y,H2,I2,ry,q2⟩=>
  jd (hr pins s2 σ H2 _ I2 q2) λws s3 ⟨ps,H3,I3,rel,q3⟩=>⟨(x,y)::ps,H3,I3,.cons ⟨rx,ry⟩ rel,q3⟩)
def Ar (kvs more:List (Key×V)):List (Key×V):=more.foldl (λacc kv=>putK acc kv.1 kv.2) kvs
theorem KV.merge:∀ {more:List (Key×V)} {rs:List (Key×Value)} {kvs:List (Key×V)} {vs:List (Key×Value)},KV more rs->KV kvs vs->KV (Ar kvs more) (merged vs rs):=by
 intro more rs kvs vs r;unfold KV at r
 induction r generalizing kvs vs with
 |nil=>intro q;exact q
 |@cons p q ps qs h t ih=>
  intro r0;have e:KV (putK kvs p.1 p.2) (stored vs q.1 q.2):=by
   have:=r0.put p.1 h.2;rw[<-h.1];exact this
  exact ih e
theorem wW:∀ (more kvs:List (Key×V)),(Ar kvs more).length<=kvs.length+more.length
 |[],kvs=>by show kvs.length<=kvs.length+0;omega
 |p::r,kvs=>by
  have h1:=wW r (putK kvs p.1 p.2);have h2:=nA kvs p.1 p.2;show(Ar (putK kvs p.1 p.2) r).length<=_;rw[ZH];omega
theorem Em {P:Program} {w:World}:∀ {kvs:List (Key×V)} {ws:List (Value×Value)},VV (kvs.map λkv=>(kV kv.1,kv.2)) ws->∃ rs,Carries (aX P w) ws rs/\KV kvs rs
 |[],_,r=>by rw[ka] at r;cases r;exact⟨[],True.intro,.nil⟩
 |p::kvs,_,r=>by
  rw[zr] at r;cases r with
  |@cons a b as bs h t=>
   obtain⟨rs,c,q⟩:=Em (P:=P) (w:=w) t;obtain⟨b1,b2⟩:=b;exact⟨(p.1,b2)::rs,⟨El h.1,rfl,c⟩,.cons ⟨rfl,h.2⟩ q⟩
def agO (trs:List (TE×TE)):TE:=λσ H Q=>∀ p,H p=none->Rm trs σ (upd H p (.dK [])) λps H2=>H2 p=some (.dK [])/\∃ kvs:List (Key×V),ps=kvs.map (λkv=>(kV kv.1,kv.2))/\kvs.length<=15/\Q (.ref p) (upd H2 p (.dK (Ar [] kvs)))
theorem abm {X:Cx} {pos:Pos} {keys:List (Option Expr)} {values:List Expr} {trs:List (TE×TE)} (h:PPs X pos keys values trs) (hall:keys.all (·.isSome)=true) (hl:keys.length=values.length) (h0:keys≠[])
  (h15:keys.length<=15):PE X (.Dict keys values pos) (agO trs):=by
 intro pins s σ H Q I q;have hn:=I.hok.fresh (zi s.heap.objs.size);have I1:=I.laid (a:=s.heap.objs.size) (o:=.dK []) (h':=s.heap.push { cls:=.type "dict", data:=.dict #[] }) (t':=s.toks) (λ_ _ q=>zd _ q) (zi _) (Ny s.heap I.big);refine wpAny_Dict_walk (knd:=aX X.prog X.w) hall hl h0 h15 (jd (h pins _ σ _ _ I1 (q _ hn)) λws s2 ⟨ps,H2,I2,rel,e,kvs,ep,lk,q2⟩=>?_);subst ep;obtain⟨rs,c,rk⟩:=Em (P:=X.prog) (w:=X.w) rel;obtain⟨z,hd,vs0,r0,dd⟩:=XF I2.hok e;cases r0;refine⟨rs,c,dd,λh' dd' hs=>⟨.ref s.heap.objs.size,_,?_,rfl,q2⟩⟩;have hz:(Ar [] kvs).length<=sizeLine:=by
  have h1:=wW kvs [];rw[List.length_nil] at h1;rw[sizeLine_eq];omega
 have he:∃ q,h'.get? s.heap.objs.size=some q:=let ⟨q,_,_,hq,_⟩:=dd';⟨q,hq⟩;exact Dr I2 (by rw[e];exact True.intro) hs he (Rk hz hd (rk.merge .nil) dd')
structure M1 (X:Cx) (o:Expr) (m:Str) (apos:Pos) (e:Expr) (cpos:Pos):Prop where
 base:attributeBase o m X.env (eval o X.env)=eval o X.env
 few:((backTo cpos (starEach [e] X.env)).all (λx=>!x.1)&&(backToKw cpos (keywordEach [] X.env)).all (λx=>x.1.isSome)
  && decide (([e]:List Expr).length+([]:List Keyword).length+(if([]:List Keyword).isEmpty then 0 else 1) < 30))=true
 line:(apos.endLine==cpos.line)=true
 trees:backTo cpos (starEach [e] X.env)=[(false,eval e X.env)]
structure M2 (X:Cx) (o:Expr) (m:Str) (apos:Pos) (e f:Expr) (cpos:Pos):Prop where
 base:attributeBase o m X.env (eval o X.env)=eval o X.env
 few:((backTo cpos (starEach [e,f] X.env)).all (λx=>!x.1)&&(backToKw cpos (keywordEach [] X.env)).all (λx=>x.1.isSome)
  && decide (([e,f]:List Expr).length+([]:List Keyword).length+(if([]:List Keyword).isEmpty then 0 else 1) < 30))=true
 line:(apos.endLine==cpos.line)=true
 trees:backTo cpos (starEach [e,f] X.env)=[(false,eval e X.env),(false,eval f X.env)]
section
variable {X:Cx} {pins:List (Addr×Obj)} {σ:St} {H:Hp} {s:Shared} {a:Addr} {y d:V} {u r:Value} {o:Option V} {A:Around} {E:VP_}
end
section
variable {X:Cx} {o e f:Expr} {apos cpos:Pos} {td ty tx:TE}
end
section
variable {X:Cx} {pins:List (Addr×Obj)} {σ:St} {H:Hp} {s:Shared} {a:Addr} {kvs:List (Key×V)} {A:Around} {E:VP_}
end
section
variable {X:Cx} {pins:List (Addr×Obj)} {σ:St} {H:Hp} {s:Shared} {a:Addr} {y:V} {u:Value} {A:Around} {E:VP_}
end
end L2
namespace Att
open PySem PySem.W PySem.Calls PyProof.Rows
theorem CG {P:Params} {h:Heap}:∀ (ns:List Int) (vs:List Value),WellAll P h vs (ns.map WData.int)->IntsAre vs ns:=by
 intro ns
 induction ns with
 |nil=>
  intro vs w;rw[ka] at w;cases w;exact .nil
 |cons n ns ih=>
  intro vs w;rw[zr] at w;cases w with
  |cons a b=>
   cases a;exact .cons _ _ (ih _ b)
theorem Vy {l:OpenLaw} {n:Nat} (hn:l.most=some n) {P:Params} {h:Heap} {args:List WData} {vals:List Value}
  (hpre:l.row.toRowW.claim.pre args=true) (hwl:WellAll P h vals args) :
  ∃ a vs ns,vals=[Value.ref a]/\args=[WData.list (ns.map WData.int)]/\h.get? a=some { cls:=.type "list", data:=.seq vs.toArray }/\IntsAre vs ns/\ns.length<=n:=by
 have hsh:WShape.hasAll [] args [.list .int]=true:=(pre_splitW hpre).1;have hc:l.pre.holds [] { args:=args }=true:=(pre_splitW hpre).2;obtain⟨d,r,rfl,h1,h2⟩:=hasAllW_cons hsh;obtain rfl:=hasAllW_nil h2;obtain⟨xs,rfl,h3⟩:=hasW_list h1;obtain⟨ns,rfl⟩:=items_int h3;have hlen:ns.length<=n:=by
  unfold OpenLaw.pre at hc;have h4:(WTm.not (.lt (.lit (.int (n:Int))) (.len (.arg 0)))).holds [] { args:=[.list (ns.map .int)] }=true:=by
   have h4:=(holds_andW hc).1;rw[hn] at h4;exact h4
  have h5:=condW_of h4 (w_not (w_lt w_lit (w_len_list (w_arg rfl))));rw[zo] at h5;refine Nat.le_of_not_lt λq=>?_;have q':(n:Int) < ((ns.length:Nat):Int):=by omega
  first
   |(rw[Zp q'] at h5;exact absurd h5 (by decide))
   |(simp at h5;omega)
 cases hwl with
 |cons w1 w2=>
  cases w2;cases w1 with
  |list ho hall=>exact⟨_,_,ns,rfl,rfl,ho,CG ns _ hall,hlen⟩
theorem Vz (l:OpenLaw) (args:List WData):l.row.toRowW.claim.post args (.bool true) args=true:=
 postW_of (r:=l.row.toRowW) (X:=(true==true))
  (show WShape.has [] (.bool true) .bool=true by first|rfl|decide|simp[WShape.has,WShape.arms,WShape.armsAll])
  (show(WTm.eq .res (.lit (.bool true))).value [] { args:=args,res:=some (.bool true),after:=args }=some (.bool (true==true)) from w_eq_bool (w_res rfl) w_lit) rfl
theorem Nz {l:OpenLaw} {n:Nat} {q:Program} {loose:LS_} {XP:(Str->Option Value)->Heap->Prop} {YP:World->Heap->Prop} {d:DefRec}
  (hn:l.most=some n) (hdf:d.params.defaults=[])
  (call:∀ (w:World) (s₀ s₁:Shared) (mg mb:Str->Option Value) (fa:Addr) (o:Obj) (pm cd doc:Value) (a:Addr) (vs:List Value) (ns:List Int),
   Ground q loose [] XP w s₀ mg mb s₁.heap->YP w s₁.heap →
   s₁.heap.get? fa=some o->o.data=.func (docDef d.name d.params d.body d.scope pm cd doc)->s₁.heap.CodeRec cd d.name->mg d.name=some (.ref fa) →
   s₁.heap.get? a=some { cls:=.type "list", data:=.seq vs.toArray }->IntsAre vs ns->ns.length<=n->s₁.gens=#[] →
   codeAny (model l.prog w) callerA (.call (.ref fa) ⟨[.ref a],[]⟩) (λr s'=>r=.ok (.ret (.bool true))/\OldK s₁.heap s'.heap/\s'.os=s₁.os/\AllBare s'.gens) s₁) :
  WalkO q loose XP YP l.row.toRowW d [] (λf vs=>PySem.call f vs):=by
 intro w s₀ s₁ mg mb G Y fa o pm cd doc dV kV ho hd hcd hD hmg hg args vals as hpre hlay hrd hwl hlo;obtain rfl:dV=.none:=Dflts.none hD hdf;obtain rfl:kV=.none:=Dflts.noKw hD;obtain⟨a,vs,ns,rfl,rfl,hobj,hints,hlen⟩:=Vy hn hpre hwl;refine enter_call (codeAny_mono (call w s₀ s₁ mg mb fa o pm cd doc a vs ns G Y ho (fd_plain hd) hcd hmg hobj hints hlen hg) λr s' hq=>?_);obtain⟨rfl,h2,h3,h4⟩:=hq;exact⟨.inl ⟨.bool true,.bool true,[],rfl,λ_=>rfl,.bool true,Vz l _,λ_=>⟨List.Pairwise.nil,λ_ hm=>(nomatch hm)⟩⟩,h2,h3,h4⟩
section
variable {prog:Program} {w:World} {A:Around} {E:VP_} {s:Shared} {K:Frag}
end
end Att
namespace L2
open PySem PySem.Spec PyProof.Rows
theorem wg:∀ {vs:List Value} {ns:List Int},IntsAre vs ns->Vals (ns.map V.int) vs
 |_,_,.nil=>.nil
 |_,_,.cons n t h=>.cons ⟨t,rfl⟩ (wg h)
def Only (H:Hp):Prop:=∀ b,H b=none\/∃ o xs,H b=some (.sY o (.lst xs))
theorem XQ {P:Program} {w:World} {K:FG_} {mg mb:Str->Option Value} {CX:Xb} {k:Nat} {fa a:Addr} {fd:FuncData} {x:Str} {sp:Sp} {s₁:Shared} {vs:List Value} {ns:List Int}
  (KX:K.In s₁.heap) (hns:s₁.heap.Ns mainGlobals mg) (hb:s₁.heap.Ns builtinsNs mb) (hbb:∀ x:Str,x ≠ "__name__" → mb x=bootBuiltins x) (hlim:s₁.heap.NoLimit) (hg:s₁.gens=#[])
  (ha:s₁.heap.get? a=some { cls:=.type "list", data:=.seq vs.toArray }) (hi:IntsAre vs ns) (hl:ns.length<=sizeLine) (hr:nu k callerA)
  (F:∀ base:Heap,K.In base->base.Ns mainGlobals mg->wM P w K mg base CX k fa fd [x] sp) (hbind:∀ (s:Shared) (u:Value),BindsTo s fd ⟨[u],[]⟩ [(x,u)])
  (hsp:∀ H:Hp,Only H->uN K H a (ns.map V.int)->sp [.ref a] H (λv _=>v=.bl true) λ_ _ _=>False)
  (hCX:∀ H e s',CX [] H s₁ (λ_ _ _=>False) e s'->False) :
  codeAny (model P w) callerA (.call (.ref fa) ⟨[.ref a],[]⟩) (λr s'=>r=.ok (.ret (.bool true))/\OldK s₁.heap s'.heap/\s'.os=s₁.os/\AllBare s'.gens) s₁:=by
 have rv:=wg hi;have lenV:=hi.length;have core:∀ H:Hp,Only H->uN K H a (ns.map V.int)->yF P w H s₁.heap->(∀ b,H b≠none->b=a)->(H a≠none->K.lookup a=none) →
   codeAny (model P w) callerA (.call (.ref fa) ⟨[.ref a],[]⟩) (λr s'=>r=.ok (.ret (.bool true))/\OldK s₁.heap s'.heap/\s'.os=s₁.os/\AllBare s'.gens) s₁:=by
  intro H hO hS hok hA hK;have T6:∀ {b:Addr} {o:Obj},s₁.heap.get? b=some o->H b=none->(J9 s₁.heap H).get? b=some o:=λe n=>Xg e n;have noA:∀ {b:Addr} {o:Obj} {es:Array DictEntry} {ep:Nat},s₁.heap.get? b=some o->o.data=.dict es ep->H b=none:=λ{b o es ep} e d=>by
   cases q:H b with
   |none=>rfl
   |some u=>
    have e':b=a:=hA b (by rw[q];simp);subst e';rw[ha] at e;cases e;have d':Data.seq vs.toArray _=Data.dict es ep:=d;cases d'
  have nsK:∀ {b:Addr} {m:Str->Option Value},s₁.heap.Ns b m->(J9 s₁.heap H).Ns b m:=λ{b m} ⟨o,es,ep,e,d,r⟩=>⟨o,es,ep,T6 e (noA e d),d,r⟩;have hKb:K.In (J9 s₁.heap H):=λb o e=>T6 (KX b o e) (by
   cases q:H b with
   |none=>rfl
   |some u=>
    have e':b=a:=hA b (by rw[q];simp);subst e';rw[hK (by rw[q];simp)] at e;cases e)
  have hM:Mod K mg (J9 s₁.heap H):=⟨hKb,nsK hns,⟨mb,nsK hb,hbb⟩,let ⟨mc,h1,h2⟩:=hlim;⟨mc,nsK h1,h2⟩⟩;have e0:aaZ P w K mg (J9 s₁.heap H) callerA [] s₁ H:=⟨rfl,hM,λb o e=>aaN e,Nat.le_of_eq (Vm _ _),trivial,λb hb=>absurd (show b∈([]:List Addr) from hb) (by simp),hok,.of_eq hg⟩;refine codeAny_mono ((F _ hKb (nsK hns)).run callerA [] s₁ H ⟨[.ref a],[]⟩ [.ref a] [.ref a] _ _ hr e0 (hbind s₁ (.ref a)) (.cons rfl .nil) (hsp H hO hS)) λr s' h=>?_;cases r with
  |error e=>exact(hCX H e s' h).elim
  |ok fl=>
   cases fl with
   |next=>exact False.elim h
   |brk=>exact False.elim h
   |cont=>exact False.elim h
   |ret u=>
    obtain⟨v,H',os,bare,un,hok',r',q⟩:=h;have q':v=.bl true:=q;subst q';obtain rfl:u=Value.bool true:=r';refine⟨rfl,OldK.of_keep λb o e=>?_,os,bare⟩;cases q:H b with
    |none=>exact un.keep b o e q (by intro z;exact absurd (show b∈([]:List Addr) from z) (by simp)) (by simp)
    |some u=>
     rcases hO b with z|⟨ob,xs,z⟩
     ·rw[q] at z;cases z
     ·have z2:=un.Cz b ob _ z;obtain⟨e1,_⟩:=hok b _ z;obtain⟨e2,_⟩:=hok' b _ z2;rw[e] at e1;cases e1;exact e2
 cases hk:K.lookup a with
 |some o=>
  have e:=KX a o hk;rw[ha] at e;cases e;refine core (λ_=>none) (λ_=>.inl rfl) (.inr ⟨_,vs.toArray,_,hk,rfl,rfl,rfl,by rw[zt,lenV];exact hl,by simpa using rv⟩) (λb u z=>by have z':(none:Option HO)=some u:=z;cases z') (λb z=>absurd rfl z) λz=>absurd rfl z
 |none=>
  refine core (λb=>if b=a then some (.sY { cls:=.type "list", data:=.seq vs.toArray } (.lst (ns.map V.int))) else none) (λb=>?_) (.inl (.inr ⟨{ cls:=.type "list", data:=.seq vs.toArray },zk rfl⟩)) (λb u z=>?_) (λb z=>?_) λ_=>hk
  ·by_cases hb:b=a
   ·exact .inr ⟨_,_,zk hb⟩
   ·exact .inl (zw hb)
  ·by_cases hb:b=a
   ·have z':=(zk hb).symm.trans z;cases z';subst hb;exact⟨ha,by rw[zo];exact hl,vs,_,rv,ha⟩
   ·have z':=(zw hb).symm.trans z;cases z'
  ·by_cases hb:b=a
   ·exact hb
   ·exact absurd (zw hb) z
end L2
namespace L2
open PySem PySem.Spec PyProof.Rows
theorem abn {l:PySem.W.OpenLaw} {n k:Nat} {q:Program} {loose:LS_} {XP:(Str->Option Value)->Heap->Prop} {YP:World->Heap->Prop} {d:DefRec} {K:Params->FG_} {CX:World->Xb} {sp:World->Sp} {x:Str}
  (hn:l.most=some n) (hn2:n<=sizeLine) (hdf:d.params.defaults=[]) (hr:nu k callerA)
  (hY:∀ (w:World) (h:Heap),YP w h->(K w.params).In h)
  (F:∀ (w:World) (mg:Str->Option Value) (fa:Addr) (h:Heap),(K w.params).In h->h.Ns mainGlobals mg->mg d.name=some (.ref fa) →
   ∃ fd:FuncData,(∀ (s:Shared) (u:Value),BindsTo s fd ⟨[u],[]⟩ [(x,u)]) ∧
    ∀ base:Heap,(K w.params).In base->base.Ns mainGlobals mg->wM l.prog w (K w.params) mg base (CX w) k fa fd [x] (sp w))
  (hsp:∀ (w:World) (H:Hp) (a:Addr) (ns:List Int),ns.length<=n->Only H->uN (K w.params) H a (ns.map V.int)->sp w [.ref a] H (λv _=>v=.bl true) λ_ _ _=>False)
  (hCX:∀ (w:World) (H:Hp) (s:Shared) (e:Value) (s':Shared),CX w [] H s (λ_ _ _=>False) e s'->False) :
  PySem.W.WalkO q loose XP YP l.row.toRowW d [] (λf vs=>PySem.call f vs):=by
 refine Att.Nz hn hdf λw s₀ s₁ mg mb fa o pm cd doc a vs ns G Y ho hd hcd hmg hobj hints hlen hg=>?_;have KX:=hY w _ Y;obtain⟨fd,hb,hF⟩:=F w mg fa _ KX G.T.g hmg;exact XQ KX G.T.g G.T.b G.T.builtins G.T.nolimit hg hobj hints (Zs hlen hn2) hr hF hb (λH hO hS=>hsp w H a ns hlen hO hS) λH e s'=>hCX w H s₁ e s'
theorem XR {l:PySem.W.OpenLaw} {n k:Nat} {q:Program} {loose:LS_} {XP:(Str->Option Value)->Heap->Prop} {YP:World->Heap->Prop} {d:DefRec} {K:Params->FG_} {CX:Xb} {sp:FG_->Sp} {x:Str}
  (hn:l.most=some n) (hn2:n<=sizeLine) (hdf:d.params.defaults=[]) (hr:nu k callerA)
  (hY:∀ (w:World) (h:Heap),YP w h->(K w.params).In h)
  (F:∀ (w:World) (mg:Str->Option Value) (fa:Addr) (h:Heap),(K w.params).In h->h.Ns mainGlobals mg->mg d.name=some (.ref fa) →
   ∃ fd:FuncData,(∀ (s:Shared) (u:Value),BindsTo s fd ⟨[u],[]⟩ [(x,u)]) ∧
    ∀ base:Heap,(K w.params).In base->base.Ns mainGlobals mg->wM l.prog w (K w.params) mg base CX k fa fd [x] (sp (K w.params)))
  (hsp:∀ (K:FG_) (H:Hp) (a:Addr) (ns:List Int),ns.length<=n->Only H->uN K H a (ns.map V.int)->sp K [.ref a] H (λv _=>v=.bl true) λ_ _ _=>False)
  (hCX:∀ (H:Hp) (s:Shared) (e:Value) (s':Shared),CX [] H s (λ_ _ _=>False) e s'->False) :
  PySem.W.WalkO q loose XP YP l.row.toRowW d [] (λf vs=>PySem.call f vs):=
 abn (K:=K) (CX:=λ_=>CX) (sp:=λw=>sp (K w.params)) hn hn2 hdf hr hY F (λw H a ns h1 h2 h3=>hsp (K w.params) H a ns h1 h2 h3) λ_ H s e s'=>hCX H s e s'
end L2
namespace L2
open PySem PySem.Spec PyProof.Rows
def tB (s:Stmt):Arguments:=match s with
 |.FunctionDef _ a _ _ _ _ _ _ _ _=>a
 |_=>{ posonlyargs:=[],args:=[],vararg:=none,kwonlyargs:=[],kw_defaults:=[],kwarg:=none,defaults:=[] }
def jy (s:Stmt):List Stmt:=match s with
 |.FunctionDef _ _ b _ _ _ _ _ _ _=>b
 |_=>[]
def aO (s:Stmt):Scope:=match s with
 |.FunctionDef _ _ _ _ _ _ sc _ _ _=>sc
 |_=>{ kind:=.function,names:=[],isGenerator:=false,isCoroutine:=false }
abbrev Ng:Xb:=λ_ _ _ _ _ _=>False
abbrev E0:XK:=λ_ _ _=>False
theorem ade {X:Cx}:Passes Ng X E0:=λ_ _ _ _ _ _ _ h=>h.elim
structure Fun (K:FG_) (x qual:Str) (st:Stmt) (f:Addr) (fd:FuncData):Prop where
 ex:∃ (oc:Value) (od:Option Addr) (kV doc pm:Value) (an:Option Addr) (cdv ct:Value) (osl:Array (Option Value)),
  fd=fnOf x qual (tB st) (jy st) (aO st) .none kV doc pm an cdv ct/\K.lookup f=some ⟨oc,od,.func fd,osl⟩/\codeIn K cdv qual=true
 kp:keepIn K (.ref f)=true
section
variable {P:Program} {w:World} {K:FG_} {mg:Str->Option Value} {base:Heap}
theorem Fun.ok {x qual:Str} {st:Stmt} {f:Addr} {fd:FuncData} {N ps:LS_} {k:Nat} {sp:Sp} (F:Fun K x qual st f fd) (S:bF N ps (aO st)) (len:∀ vs H Q E,sp vs H Q E->vs.length=ps.length)
  (hbody:∀ (cdv:Value) (A:Around) (outer:List Env) (s:Shared) (H:Hp) (vs:List V) (Q:VK) (E:XK),nu k (A.deeper (envOfC qual (aO st) s.heap.objs.size f cdv))->sp vs H Q E →
   ∃ t,Q7 (Ei Ng P w K mg base N qual (aO st) f cdv A outer s H E).nox (jy st) t/\t { nx:=λ_ H'=>Q .non H',rt:=Q } (start N vs) H):wM P w K mg base Ng (k+1) f fd ps sp:=by
 obtain⟨oc,od,kV,doc,pm,an,cdv,ct,osl,rfl,lk,hcd⟩:=F.ex;refine agD lk hcd S len λA outer s H vs Q E hr hsp=>?_;obtain⟨t,h,q⟩:=hbody cdv A outer s H vs Q E hr hsp;exact⟨t,h.nox,q⟩
theorem Fun.binds {x qual:Str} {st:Stmt} {f:Addr} {fd:FuncData} {ps:LS_} (F:Fun K x qual st f fd)
  (h:∀ (kV doc pm:Value) (an:Option Addr) (cdv ct:Value) (us:List Value),us.length=ps.length->bindArgs (fnOf x qual (tB st) (jy st) (aO st) .none kV doc pm an cdv ct) ⟨us,[]⟩=pure (ps.zip us)):Binds K fd ps []:=by
 obtain⟨oc,od,kV,doc,pm,an,cdv,ct,osl,rfl,lk,hcd⟩:=F.ex;exact .all (h kV doc pm an cdv ct)
theorem XS {x qual:Str} {st:Stmt} {f:Addr} {oc:Value} {od an:Option Addr} {osl:Array (Option Value)} {kV doc pm cdv ct:Value} (l:K.lookup f=some ⟨oc,od,.func (fnOf x qual (tB st) (jy st) (aO st) .none kV doc pm an cdv ct),osl⟩)
  (c:codeIn K cdv qual=true) (k:keepIn K (.ref f)=true):Fun K x qual st f (fnOf x qual (tB st) (jy st) (aO st) .none kV doc pm an cdv ct):=⟨⟨oc,od,kV,doc,pm,an,cdv,ct,osl,rfl,l,c⟩,k⟩
end
section
variable {X:Cx}
theorem pv (i:Nat) {x:Str} {pos:Pos} (hN:X.N[i]?=some x:=by rfl) (hv:Tv X.env.scope x:=by first|exact ja rfl|exact QA (ja rfl)|exact QA (QA rfl)) (hd:(x==("__debug__" : Str))=false:=by decide)
  (hcd:(x==("__classdict__" : Str))=false:=by decide):PE X (.Name x pos) (agf i):=sZ hN hv hd hcd
end
def Same (H H':Hp):Prop:=∀ b o,H b=some o->H' b=some o
theorem Same.refl (H:Hp):Same H H:=λ_ _ h=>h
theorem Same.trans {H H1 H2:Hp} (a:Same H H1) (b:Same H1 H2):Same H H2:=λc o h=>b c o (a c o h)
theorem Same.free {H H':Hp} (e:Same H H') {l:Addr} (h:H' l=Option.none):H l=Option.none:=by
 cases q:H l with
 |none=>rfl
 |some o=>
  rw[e l o q] at h;cases h
theorem Same.seq {K:FG_} {H H':Hp} {a:Addr} {xs:List V} (e:Same H H') (h:uN K H a xs):uN K H' a xs:=by
 rcases h with (h|⟨o,h⟩)|h
 ·exact .inl (.inl (e _ _ h))
 ·exact .inl (.inr ⟨o,e _ _ h⟩)
 ·exact .inr h
end L2
end
section
namespace P1
open PySem PySem.Spec PyProof.Rows L2
inductive Dt where
 |non|bl (b:Bool)|int (i:Int)|str (x:Str)|tup (xs:List Dt)|lst (xs:List Dt)|emp
inductive Bx where
 |z (d:Dt)|l (ds:List Dt)|o (ds:List Dt)|n (kvs:List (Key×Dt))|m (kvs:List (Key×Dt)) (w:Option Addr)
abbrev Ev:=List (Option Bx)
def FzL (K:FG_) (H:Hp) (a:Addr) (xs:List V):Prop:=
 (∃ o,H a=some (.sY o (.lst xs))) ∨
  ∃ (o:Obj) (its:Array Value) (n:Nat),K.lookup a=some o/\o.cls=.type "list" ∧ o.dict=none/\o.data=.seq its n/\its.size<=sizeLine/\Vals xs its.toList
theorem FzL.sq {K:FG_} {H:Hp} {a:Addr} {xs:List V} (h:FzL K H a xs):uN K H a xs:=by
 rcases h with h|h
 ·exact .inl (.inr h)
 ·exact .inr h
mutual
def Rep (K:FG_) (H:Hp):Dt->V->Prop
 |.non,v=>v=.non
 |.bl b,v=>v=.bl b
 |.int i,v=>v=.int i
 |.str x,v=>v=.str x/\x.length<=sizeLine
 |.tup ds,v=>∃ a vs,v=.ref a/\yH K H a vs/\aK K H ds vs
 |.lst ds,v=>∃ a vs,v=.ref a/\FzL K H a vs/\aK K H ds vs
 |.emp,v=>∃ a o,v=.ref a/\H a=some (.sY o (.dK []))
def aK (K:FG_) (H:Hp):List Dt->List V->Prop
 |[],vs=>vs=[]
 |d::ds,vs=>∃ v r,vs=v::r/\Rep K H d v/\aK K H ds r
end
structure Kp (H H':Hp):Prop where
 t:∀ a xs,H a=some (.tup xs)->H' a=some (.tup xs)
 f:∀ a o u,H a=some (.sY o u)->H' a=some (.sY o u)
theorem Kp.of {H H':Hp} (s:Same H H'):Kp H H':=⟨λa _ h=>s a _ h,λa _ _ h=>s a _ h⟩
theorem Kp.sqT {K:FG_} {H H':Hp} {a:Addr} {xs:List V} (k:Kp H H') (h:yH K H a xs):yH K H' a xs:=by
 rcases h with (h|⟨o,h⟩)|h
 ·exact .inl (.inl (k.t _ _ h))
 ·exact .inl (.inr ⟨o,k.f _ _ _ h⟩)
 ·exact .inr h
theorem Kp.fzL {K:FG_} {H H':Hp} {a:Addr} {xs:List V} (k:Kp H H') (h:FzL K H a xs):FzL K H' a xs:=by
 rcases h with⟨o,h⟩|h
 ·exact .inl ⟨o,k.f _ _ _ h⟩
 ·exact .inr h
theorem Kp.lst {H:Hp} {a:Addr} {xs:List V} {o:HO} (h:H a=some (.lst xs)):Kp H (upd H a o):=by
 refine⟨λb ys e=>?_,λb ob u e=>?_⟩
 ·rw[aR (oH e h (by intro z;cases z))];exact e
 ·rw[aR (oH e h (by intro z;cases z))];exact e
theorem Kp.dk {H:Hp} {a:Addr} {xs:List (Key×V)} {o:HO} (h:H a=some (.dK xs)):Kp H (upd H a o):=by
 refine⟨λb ys e=>?_,λb ob u e=>?_⟩
 ·rw[aR (oH e h (by intro z;cases z))];exact e
 ·rw[aR (oH e h (by intro z;cases z))];exact e
mutual
theorem Rep.kp {K:FG_} {H H':Hp} (k:Kp H H'):∀ {d:Dt} {v:V},Rep K H d v->Rep K H' d v
 |.non,_,h=>by simpa only[Rep] using h
 |.bl _,_,h=>by simpa only[Rep] using h
 |.int _,_,h=>by simpa only[Rep] using h
 |.str _,_,h=>by simpa only[Rep] using h
 |.tup ds,_,h=>by
  simp only[Rep] at h ⊢;obtain⟨a,vs,e,q,r⟩:=h;exact⟨a,vs,e,k.sqT q,aK.kp k r⟩
 |.lst ds,_,h=>by
  simp only[Rep] at h ⊢;obtain⟨a,vs,e,q,r⟩:=h;exact⟨a,vs,e,k.fzL q,aK.kp k r⟩
 |.emp,_,h=>by
  simp only[Rep] at h ⊢;obtain⟨a,o,e,q⟩:=h;exact⟨a,o,e,k.f _ _ _ q⟩
theorem aK.kp {K:FG_} {H H':Hp} (k:Kp H H'):∀ {ds:List Dt} {vs:List V},aK K H ds vs->aK K H' ds vs
 |[],_,h=>by simpa only[aK] using h
 |d::ds,_,h=>by
  simp only[aK] at h ⊢;obtain⟨v,r,e,q,t⟩:=h;exact⟨v,r,e,Rep.kp k q,aK.kp k t⟩
end
theorem aK.length {K:FG_} {H:Hp}:∀ {ds:List Dt} {vs:List V},aK K H ds vs->vs.length=ds.length
 |[],_,h=>by simp only[aK] at h;subst h;rfl
 |d::ds,_,h=>by
  simp only[aK] at h;obtain⟨v,r,rfl,_,t⟩:=h;simp[aK.length t]
theorem aK.nil {K:FG_} {H:Hp}:aK K H [] []:=by simp only[aK]
theorem aK.cons {K:FG_} {H:Hp} {d:Dt} {v:V} {ds:List Dt} {vs:List V} (h:Rep K H d v) (t:aK K H ds vs):aK K H (d::ds) (v::vs):=by
 simp only[aK];exact⟨v,vs,rfl,h,t⟩
theorem aK.append {K:FG_} {H:Hp}:∀ {ds es:List Dt} {vs us:List V},aK K H ds vs->aK K H es us->aK K H (ds++es) (vs++us)
 |[],_,_,_,h,t=>by simp only[aK] at h;subst h;exact t
 |d::ds,_,_,_,h,t=>by
  simp only[aK] at h;obtain⟨v,r,rfl,q,h⟩:=h;exact aK.cons q (aK.append h t)
theorem aK.drop {K:FG_} {H:Hp}:∀ (n:Nat) {ds:List Dt} {vs:List V},aK K H ds vs->aK K H (ds.drop n) (vs.drop n)
 |0,_,_,h=>h
 |n+1,[],_,h=>by simp only[aK] at h;subst h;exact aK.nil
 |n+1,d::ds,_,h=>by
  simp only[aK] at h;obtain⟨v,r,rfl,q,h⟩:=h;exact aK.drop n h
theorem aK.take {K:FG_} {H:Hp}:∀ (n:Nat) {ds:List Dt} {vs:List V},aK K H ds vs->aK K H (ds.take n) (vs.take n)
 |0,_,_,_=>aK.nil
 |n+1,[],_,h=>by simp only[aK] at h;subst h;exact aK.nil
 |n+1,d::ds,_,h=>by
  simp only[aK] at h;obtain⟨v,r,rfl,q,h⟩:=h;exact aK.cons q (aK.take n h)
theorem aK.get {K:FG_} {H:Hp}:∀ {ds:List Dt} {vs:List V} {i:Nat} {d:Dt},aK K H ds vs->ds[i]?=some d->∃ v,vs[i]?=some v/\Rep K H d v
 |[],_,_,_,_,e=>by simp at e
 |d::ds,_,0,_,h,e=>by
  simp only[aK] at h;obtain⟨v,r,rfl,q,h⟩:=h;simp at e;subst e;exact⟨v,rfl,q⟩
 |d::ds,_,i+1,_,h,e=>by
  simp only[aK] at h;obtain⟨v,r,rfl,q,h⟩:=h;obtain⟨u,e1,e2⟩:=aK.get h (i:=i) (by simpa using e);exact⟨u,by simpa using e1,e2⟩
def okK:Key->Prop
 |.inl _=>True
 |.inr x=>x.length<=sizeLine
def fM (K:FG_) (H:Hp) (kvs:List (Key×Dt)) (ks:List (Key×V)):Prop:=ks.map (·.1)=kvs.map (·.1)/\aK K H (kvs.map (·.2)) (ks.map (·.2))/\∀ p∈kvs,okK p.1
theorem fM.kp {K:FG_} {H H':Hp} {kvs:List (Key×Dt)} {ks:List (Key×V)} (h:fM K H kvs ks) (k:Kp H H'):fM K H' kvs ks:=⟨h.1,h.2.1.kp k,h.2.2⟩
def aU (K:FG_) (H:Hp):Bx->V->Prop
 |.z d,v=>Rep K H d v
 |.l ds,v=>∃ a vs,v=.ref a/\Rd H a (.lst vs)/\aK K H ds vs
 |.o ds,v=>∃ a vs,v=.ref a/\H a=some (.lst vs)/\aK K H ds vs
 |.n kvs,v=>∃ a ks,v=.ref a/\Rd H a (.dK ks)/\fM K H kvs ks
 |.m kvs w,v=>∃ a ks,v=.ref a/\H a=some (.dK ks)/\fM K H kvs ks/\∀ b,w=some b->b=a
theorem aU.same {K:FG_} {H H':Hp} (s:Same H H') {b:Bx} {v:V} (h:aU K H b v):aU K H' b v:=by
 cases b with
 |z d=>exact Rep.kp (.of s) h
 |l ds=>
  obtain⟨a,vs,e,q,r⟩:=h;refine⟨a,vs,e,?_,r.kp (.of s)⟩;rcases q with q|⟨o,q⟩
  ·exact .inl (s _ _ q)
  ·exact .inr ⟨o,s _ _ q⟩
 |o ds=>
  obtain⟨a,vs,e,q,r⟩:=h;exact⟨a,vs,e,s _ _ q,r.kp (.of s)⟩
 |n kvs=>
  obtain⟨a,vs,e,q,r⟩:=h;refine⟨a,vs,e,?_,r.kp (.of s)⟩;rcases q with q|⟨o,q⟩
  ·exact .inl (s _ _ q)
  ·exact .inr ⟨o,s _ _ q⟩
 |m kvs _=>
  obtain⟨a,vs,e,q,r⟩:=h;exact⟨a,vs,e,s _ _ q,r.1.kp (.of s),r.2⟩
def qj:Bx->Option (List Dt)
 |.z (.lst ds)=>some ds
 |.l ds=>some ds
 |.o ds=>some ds
 |_=>none
theorem aU.Hx {K:FG_} {H:Hp} {b:Bx} {v:V} {ds:List Dt} (h:aU K H b v) (e:qj b=some ds):∃ a vs,v=.ref a/\uN K H a vs/\aK K H ds vs:=by
 cases b with
 |z d=>
  cases d<;>first|(cases e;done)|skip;cases e;simp only[aU,Rep] at h;obtain⟨a,vs,e,q,r⟩:=h;exact⟨a,vs,e,q.sq,r⟩
 |l ds'=>
  cases e;obtain⟨a,vs,e,q,r⟩:=h;exact⟨a,vs,e,.inl q,r⟩
 |o ds'=>
  cases e;obtain⟨a,vs,e,q,r⟩:=h;exact⟨a,vs,e,.inl (.inl q),r⟩
 |n _=>cases e
 |m _ _=>cases e
abbrev rN (K:FG_) (H:Hp):List Bx->List V->Prop:=Paired (aU K H)
def Nw (H:Hp):Bx->V->Prop
 |.o _,v=>∀ a,v=.ref a->H a=none
 |.m _ _,v=>∀ a,v=.ref a->H a=none
 |_,_=>True
theorem Nw.old {H H1:Hp} (s:Same H H1) {b:Bx} {v:V} (h:Nw H1 b v):Nw H b v:=by
 cases b with
 |o ds=>exact λa e=>s.free (h a e)
 |m ds _=>exact λa e=>s.free (h a e)
 |_=>trivial
def loose:Bx->Bool
 |.z _=>false
 |_=>true
def uL:Bx->Bool
 |.o _=>true
 |.m _ _=>true
 |_=>false
structure bN (K:FG_) (H0 H:Hp) (σ:L2.St) (ρ:Ev):Prop where
 len:σ.length=ρ.length
 val:∀ (i:Nat) b,ρ[i]?=some (some b)->∃ v,σ[i]?=some (some v)/\aU K H b v
 own:∀ (i j:Nat) c a b,ρ[i]?=some (some c)->uL c=true->σ[i]?=some (some (.ref a))->ρ[j]?=some (some b)->loose b=true->σ[j]?=some (some (.ref a))->i=j
 base:Same H0 H
 new:∀ (i:Nat) c a,ρ[i]?=some (some c)->uL c=true->σ[i]?=some (some (.ref a))->H0 a=none
theorem bN.grow {K:FG_} {H0 H H':Hp} {σ:L2.St} {ρ:Ev} (r:bN K H0 H σ ρ) (s:Same H H'):bN K H0 H' σ ρ:=
 ⟨r.len,λi b e=>let ⟨v,e1,h⟩:=r.val i b e;⟨v,e1,h.same s⟩,r.own,r.base.trans s,r.new⟩
def tF (K:FG_) (f:Ev->Option Bx):TE:=λσ H Q=>∃ H0 ρ b,bN K H0 H σ ρ/\f ρ=some b/\∀ v H',Same H H'->Nw H b v->aU K H' b v->Q v H'
def tFA (K:FG_) (f:Ev->Option (List Bx)):TA:=λσ H Q=>∃ H0 ρ bs,bN K H0 H σ ρ/\f ρ=some bs/\∀ vs H',Same H H'->rN K H' bs vs->Q vs H'
def tFT (K:FG_) (f:Ev->Option Bool):TT:=λσ H Q=>∃ H0 ρ b,bN K H0 H σ ρ/\f ρ=some b/\∀ H',Same H H'->Q b H'
def PV (X:Cx) (e:Expr) (f:Ev->Option Bx):Prop:=PE X e (tF X.K f)
structure QV (X:Cx) (e:Expr) (f:Ev->Option Bx):Prop where
 run:PV X e f
def PVs (X:Cx) (es:List Expr) (f:Ev->Option (List Bx)):Prop:=PA X es (tFA X.K f)
structure Xc (X:Cx) (es:List Expr) (f:Ev->Option (List Bx)):Prop where
 run:PVs X es f
def PB (X:Cx) (e:Expr) (f:Ev->Option Bool):Prop:=PT X e (tFT X.K f)
structure QB (X:Cx) (e:Expr) (f:Ev->Option Bool):Prop where
 run:PB X e f
theorem Ds {X:Cx} {e:Expr} {t t':TE} (h:PE X e t) (m:∀ σ H Q,t' σ H Q->t σ H Q):PE X e t':=λpins s σ H Q I q=>h pins s σ H Q I (m σ H Q q)
theorem paM {X:Cx} {e:List Expr} {t t':TA} (h:PA X e t) (m:∀ σ H Q,t' σ H Q->t σ H Q):PA X e t':=λpos pins s σ H Q I q=>h pos pins s σ H Q I (m σ H Q q)
theorem ptM {X:Cx} {e:Expr} {t t':TT} (h:PT X e t) (m:∀ σ H Q,t' σ H Q->t σ H Q):PT X e t':=λpins s σ H Q I q=>h pins s σ H Q I (m σ H Q q)
theorem pwM {X:Cx} {e:Expr} {t t':TT} (h:PW X e t) (m:∀ σ H Q,t' σ H Q->t σ H Q):PW X e t':=λwh pins s σ H Q I q=>h wh pins s σ H Q I (m σ H Q q)
theorem Rn {X:Cx} {e:Stmt} {t t':TS} (h:PS X e t) (m:∀ D σ H,t' D σ H->t D σ H):PS X e t':=λpins s σ H D I q=>h pins s σ H D I (m D σ H q)
theorem aey {X:Cx} {e:List Stmt} {t t':TS} (h:Q7 X e t) (m:∀ D σ H,t' D σ H->t D σ H):Q7 X e t':=λpins s σ H D I q=>h pins s σ H D I (m D σ H q)
def rF (K:FG_) (g:Bx->Bx->Option Bx):R2:=λx y H Q=>∃ a b c,aU K H a x/\aU K H b y/\g a b=some c/\∀ w H',Same H H'->Nw H c w->aU K H' c w->Q w H'
def rF1 (K:FG_) (g:Bx->Option Bx):V->Hp->VK->Prop:=λx H Q=>∃ a c,aU K H a x/\g a=some c/\∀ w H',Same H H'->Nw H c w->aU K H' c w->Q w H'
def rFs (K:FG_) (g:List Bx->Option Bx):List V->Hp->VK->Prop:=λxs H Q=>∃ bs c,rN K H bs xs/\g bs=some c/\∀ w H',Same H H'->Nw H c w->aU K H' c w->Q w H'
abbrev CJ (X:Cx) (f:Value->Value->Sem Value) (g:Bx->Bx->Option Bx):Prop:=vZ X f (rF X.K g)
abbrev UnF (X:Cx) (f:Value->Sem Value) (g:Bx->Option Bx):Prop:=UnR X f (rF1 X.K g)
abbrev qp (X:Cx) (f:Value) (g:List Bx->Option Bx):Prop:=fX X f (rFs X.K g)
theorem vZ.imp {X:Cx} {f:Value->Value->Sem Value} {r r':R2} (h:vZ X f r) (m:∀ x y H Q,r' x y H Q->r x y H Q):vZ X f r':=λpins s σ H x y v u Q I rx ry q=>h pins s σ H x y v u Q I rx ry (m x y H Q q)
theorem UnR.imp {X:Cx} {f:Value->Sem Value} {r r':V->Hp->VK->Prop} (h:UnR X f r) (m:∀ x H Q,r' x H Q->r x H Q):UnR X f r':=λpins s σ H x v Q I rx q=>h pins s σ H x v Q I rx (m x H Q q)
theorem fX.imp {X:Cx} {f:Value} {r r':List V->Hp->VK->Prop} (h:fX X f r) (m:∀ x H Q,r' x H Q->r x H Q):fX X f r':=λpins s σ H xs us Q I rx q=>h pins s σ H xs us Q I rx (m xs H Q q)
def b2 (g:Bx->Bx->Option Bx) (fa fb:Ev->Option Bx):Ev->Option Bx:=λρ=>(fa ρ).bind λx=>(fb ρ).bind λy=>g x y
def b1 (g:Bx->Option Bx) (fa:Ev->Option Bx):Ev->Option Bx:=λρ=>(fa ρ).bind g
def c7 (g:List Bx->Option Bx) (fs:Ev->Option (List Bx)):Ev->Option Bx:=λρ=>(fs ρ).bind g
theorem bind_some {α β:Type} {o:Option α} {f:α->Option β} {b:β} (h:o.bind f=some b):∃ a,o=some a/\f a=some b:=by
 cases o with
 |none=>cases h
 |some a=>exact⟨a,rfl,h⟩
theorem X3 {K:FG_} {g:Bx->Bx->Option Bx} {fa fb:Ev->Option Bx} (σ:L2.St) (H:Hp) (Q:VK) (h:tF K (b2 g fa fb) σ H Q):tOp (rF K g) (tF K fa) (tF K fb) σ H Q:=by
 obtain⟨H0,ρ,c,E,e,q⟩:=h;obtain⟨a,ea,e⟩:=bind_some e;obtain⟨b,eb,e⟩:=bind_some e;refine⟨H0,ρ,a,E,ea,λv H1 s1 n1 r1=>⟨H0,ρ,b,E.grow s1,eb,λu H2 s2 n2 r2=>?_⟩⟩;exact⟨a,b,c,r1.same s2,r2,e,λw H3 s3 n3 r3=>q w H3 ((s1.trans s2).trans s3) (n3.old (s1.trans s2)) r3⟩
theorem agR {K:FG_} {g:Bx->Option Bx} {fa:Ev->Option Bx} (σ:L2.St) (H:Hp) (Q:VK) (h:tF K (b1 g fa) σ H Q):tUn (rF1 K g) (tF K fa) σ H Q:=by
 obtain⟨H0,ρ,c,E,e,q⟩:=h;obtain⟨a,ea,e⟩:=bind_some e;exact⟨H0,ρ,a,E,ea,λv H1 s1 n1 r1=>⟨a,c,r1,e,λw H3 s3 n3 r3=>q w H3 (s1.trans s3) (n3.old s1) r3⟩⟩
theorem convs {K:FG_} {g:List Bx->Option Bx} {fs:Ev->Option (List Bx)} (σ:L2.St) (H:Hp) (Q:VK) (h:tF K (c7 g fs) σ H Q):tCB (rFs K g) (tFA K fs) σ H Q:=by
 obtain⟨H0,ρ,c,E,e,q⟩:=h;obtain⟨a,ea,e⟩:=bind_some e;exact⟨H0,ρ,a,E,ea,λv H1 s1 r1=>⟨a,c,r1,e,λw H3 s3 n3 r3=>q w H3 (s1.trans s3) (n3.old s1) r3⟩⟩
section
variable {X:Cx} {a b c e:Expr} {es:List Expr} {fa fb fc f:Ev->Option Bx} {fs:Ev->Option (List Bx)} {pos:Pos}
theorem bH {op:Operator} {g:Bx->Bx->Option Bx} (ho:CJ X (binaryOp op) g) (ha:QV X a fa) (hb:QV X b fb):QV X (.BinOp a op b pos) (b2 g fa fb):=⟨have ha:=ha.run;have hb:=hb.run;Ds (agt ho ha hb) X3⟩
theorem agS {op:UnaryOp} {g:Bx->Option Bx} (ho:UnF X (unaryOp op) g) (ha:QV X a fa):QV X (.UnaryOp op a pos) (b1 g fa):=⟨have ha:=ha.run;Ds (agu ho ha) agR⟩
theorem nW {op:CmpOp} {g:Bx->Bx->Option Bx} (ho:CJ X (compareOp op) g) (ha:QV X a fa) (hb:QV X b fb) (hm:behindInMarks op b=false):QV X (.Compare a [op] [b] pos) (b2 g fa fb):=⟨have ha:=ha.run;have hb:=hb.run;Ds (aaX ho ha hb hm) X3⟩
def Eo:Bx->Option Bool
 |.z (.bl b)=>some b
 |_=>none
theorem yN {K:FG_} {H:Hp} {b:Bx} {v:V} {k:Bool} (h:aU K H b v) (e:Eo b=some k):v=.bl k:=by
 cases b with
 |z d=>
  cases d<;>first|(cases e;done)|skip;cases e;simpa only[aU,Rep] using h
 |_=>cases e
theorem agT {K:FG_} {f:Ev->Option Bx} (σ:L2.St) (H:Hp) (Q:Bool->Hp->Prop) (h:tFT K (λρ=>(f ρ).bind Eo) σ H Q):tF K f σ H (λx H'=>∃ k,x=.bl k/\Q k H'):=by
 obtain⟨H0,ρ,k,E,e,q⟩:=h;obtain⟨b,eb,e⟩:=bind_some e;exact⟨H0,ρ,b,E,eb,λv H1 s1 n1 r1=>⟨k,yN r1 e,q H1 s1⟩⟩
theorem bM {op:CmpOp} {g:Bx->Bx->Option Bx} (ho:CJ X (compareOp op) g) (ha:QV X a fa) (hb:QV X b fb) (hm:behindInMarks op b=false):QB X (.Compare a [op] [b] pos) (λρ=>(b2 g fa fb ρ).bind Eo):=⟨have ha:=ha.run;have hb:=hb.run;ptM (aaY ho ha hb hm) λσ H Q h=>X3 σ H _ (agT σ H Q h)⟩
def ch3 (g g':Bx->Bx->Option Bx) (fa fb fc:Ev->Option Bx):Ev->Option Bx:=λρ=>(fa ρ).bind λx=>(fb ρ).bind λy=>(g x y).bind λr=>(Eo r).bind λk=>if k=true then(fc ρ).bind λw=>g' y w else some (.z (.bl false))
theorem agU {K:FG_} {g g':Bx->Bx->Option Bx} {fa fb fc:Ev->Option Bx} (σ:L2.St) (H:Hp) (Q:VK) (h:tF K (ch3 g g' fa fb fc) σ H Q):Xq (rF K g) (rF K g') (tF K fa) (tF K fb) (tF K fc) σ H Q:=by
 obtain⟨H0,ρ,d,E,e,q⟩:=h;obtain⟨a,ea,e⟩:=bind_some e;obtain⟨b,eb,e⟩:=bind_some e;obtain⟨r,er,e⟩:=bind_some e;obtain⟨k,ek,e⟩:=bind_some e;refine⟨H0,ρ,a,E,ea,λv H1 s1 n1 r1=>⟨H0,ρ,b,E.grow s1,eb,λu H2 s2 n2 r2=>?_⟩⟩;refine⟨a,b,r,r1.same s2,r2,er,λw H3 s3 n3 r3=>⟨k,yN r3 ek,?_⟩⟩;have s03:=(s1.trans s2).trans s3;cases k with
 |false=>
  rw[zw zI] at e ⊢;cases e;exact q _ H3 s03 trivial (by simp only[aU,Rep])
 |true=>
  rw[zk rfl] at e ⊢;obtain⟨w',ew,e⟩:=bind_some e;refine⟨H0,ρ,w',E.grow s03,ew,λx H4 s4 n4 r4=>?_⟩;exact⟨b,w',d,(r2.same s3).same s4,r4,e,λy H5 s5 n5 r5=>q y H5 ((s03.trans s4).trans s5) (n5.old (s03.trans s4)) r5⟩
theorem NK {op op':CmpOp} {g g':Bx->Bx->Option Bx} (ho:CJ X (compareOp op) g) (ho':CJ X (compareOp op') g') (ha:QV X a fa) (hb:QV X b fb) (hc:QV X c fc) (hm:lastMarks [op,op'] [b,c]=false:=by with_unfolding_all rfl):QV X (.Compare a [op,op'] [b,c] pos) (ch3 g g' fa fb fc):=⟨have ha:=ha.run;have hb:=hb.run;have hc:=hc.run;Ds (Xr ho ho' ha hb hc hm) agU⟩
def Av (ρ:Ev) (i:Nat):Option Bx:=match ρ[i]? with
 |some (some (.o ds))=>some (.l ds)
 |some (some (.m kvs _))=>some (.n kvs)
 |some (some b)=>some b
 |_=>none
theorem NP {K:FG_} {H0 H:Hp} {σ:L2.St} {ρ:Ev} {i:Nat} {b:Bx} (E:bN K H0 H σ ρ) (e:Av ρ i=some b):∃ v,σ[i]?=some (some v)/\aU K H b v:=by
 unfold Av at e;split at e
 ·rename_i ds h;cases e;obtain⟨v,e1,a,vs,e2,q,r⟩:=E.val i _ h;exact⟨v,e1,a,vs,e2,.inl q,r⟩
 ·rename_i ds h;cases e;obtain⟨v,e1,a,vs,e2,q,r⟩:=E.val i _ h;exact⟨v,e1,a,vs,e2,.inl q,r.1⟩
 ·rename_i b' h;cases e;exact E.val i _ h
 ·cases e
theorem yO {ρ:Ev} {i:Nat} {b:Bx} (e:Av ρ i=some b):uL b=false:=by
 unfold Av at e;split at e
 ·cases e;rfl
 ·cases e;rfl
 ·rename_i b' h1 h2 h3;cases e;cases b with
  |o ds=>exact absurd rfl (h1 ds)
  |m ds _=>exact absurd rfl (h2 ds _)
  |_=>rfl
 ·cases e
theorem aj (i:Nat) {x:Str} (hN:X.N[i]?=some x:=by rfl) (hv:Tv X.env.scope x:=by first|exact ja rfl|exact QA (ja rfl)|exact QA (QA rfl)) (hd:(x==("__debug__" : Str))=false:=by decide) (hcd:(x==("__classdict__" : Str))=false:=by decide):QV X (.Name x pos) (λρ=>Av ρ i):=⟨Ds (sZ hN hv hd hcd) λσ H Q h=>by
 obtain⟨H0,ρ,b,E,e,q⟩:=h;obtain⟨v,e1,r⟩:=NP E e;refine⟨v,e1,q v H (Same.refl H) ?_ r⟩;cases b with
 |o ds=>have:=yO e;cases this
 |m ds _=>have:=yO e;cases this
 |_=>trivial⟩
def cB (d:Dt):Ev->Option Bx:=λ_=>some (.z d)
theorem VB {v:V} {d:Dt} (h:PE X e (tC v)) (r:∀ H,Rep X.K H d v):PV X e (cB d):=Ds h λσ H Q q=>by
 obtain⟨H0,ρ,b,E,e,q⟩:=q;cases e;exact q v H (Same.refl H) trivial (r H)
theorem aD {i j}:QV X (.Constant (.int i) j pos) (cB (.int i)):=⟨VB adS λH=>by simp only[Rep]⟩
theorem wX {i j}:QV X (.Constant (.bool i) j pos) (cB (.bl i)):=⟨VB agg λH=>by simp only[Rep]⟩
theorem uU {j}:QV X (.Constant .none j pos) (cB .non):=⟨VB adT λH=>by simp only[Rep]⟩
theorem X4 {x:Str} {j} (hx:x.length<=sizeLine:=by decide):PV X (.Constant (.str x) j pos) (cB (.str x)):=VB adU λH=>by unfold Rep;exact⟨rfl,hx⟩
theorem NQ {x:Str} {i:Int} {t:Tok} (hg:Gl X x) (hm:X.mg x=some (.int i t)) (hd:(x==("__debug__" : Str))=false:=by decide):QV X (.Name x pos) (cB (.int i)):=⟨VB (TF hg hm (v:=.int i) ⟨t,rfl⟩ hd) λH=>by simp only[Rep]⟩
theorem X5 {x:Str} {y:Str} {t:Tok} (hg:Gl X x) (hm:X.mg x=some (.str y t)) (hy:y.length<=sizeLine:=by decide) (hd:(x==("__debug__" : Str))=false:=by decide):QV X (.Name x pos) (cB (.str y)):=⟨VB (TF hg hm (v:=.str y) ⟨t,rfl⟩ hd) λH=>by unfold Rep;exact⟨rfl,hy⟩⟩
def X6:Bx->Option Bool
 |.z .non=>some false
 |.z (.bl b)=>some b
 |.z (.int i)=>some (i != 0)
 |.z (.str x)=>some ((x.length:Int) != 0)
 |.z (.tup ds)=>some (!ds.isEmpty)
 |.z (.lst ds)=>some (!ds.isEmpty)
 |.l ds=>some (!ds.isEmpty)
 |.o ds=>some (!ds.isEmpty)
 |.z .emp=>none
 |.n _=>none
 |.m _ _=>none
theorem aK.isEmpty {K:FG_} {H:Hp} {ds:List Dt} {vs:List V} (h:aK K H ds vs):(!ds.isEmpty)=!vs.isEmpty:=by
 have:=h.length;cases ds<;>cases vs<;>simp_all
theorem abp {K:FG_} {H:Hp} {b:Bx} {v:V} {k:Bool} (r:aU K H b v) (e:X6 b=some k):aeg K v H k:=by
 cases b with
 |z d=>
  cases d with
  |non=>cases e;simp only[aU,Rep] at r;subst r;rfl
  |bl b=>cases e;simp only[aU,Rep] at r;subst r;rfl
  |int b=>cases e;simp only[aU,Rep] at r;subst r;rfl
  |str x=>cases e;simp only[aU,Rep] at r;obtain⟨rfl,h⟩:=r;exact⟨h,rfl⟩
  |tup ds=>
   cases e;simp only[aU,Rep] at r;obtain⟨a,vs,rfl,q,r⟩:=r;exact .inr (.inl ⟨vs,q,r.isEmpty⟩)
  |lst ds=>
   cases e;obtain⟨a,vs,rfl,q,r⟩:=r.Hx rfl;exact .inl ⟨vs,q,r.isEmpty⟩
  |emp=>cases e
 |l ds=>
  cases e;obtain⟨a,vs,rfl,q,r⟩:=r.Hx rfl;exact .inl ⟨vs,q,r.isEmpty⟩
 |o ds=>
  cases e;obtain⟨a,vs,rfl,q,r⟩:=r.Hx rfl;exact .inl ⟨vs,q,r.isEmpty⟩
 |n _=>cases e
 |m _ _=>cases e
theorem xM (h:QV X e f) (he:∀ whole,isTrue e X.env whole=(do let v <-whole;standAt e.pos;holding [v] (truthy v)):=by intro _;rfl):QB X e (λρ=>(f ρ).bind X6):=⟨have h:=h.run;ptM (Xu h he) λσ H Q q=>by
 obtain⟨H0,ρ,k,E,e,q⟩:=q;obtain⟨b,eb,e⟩:=bind_some e;exact⟨H0,ρ,b,E,eb,λv H1 s1 n1 r1=>⟨k,abp r1 e,q H1 s1⟩⟩⟩
def Hy (p q:Ev->Option Bool):Ev->Option Bool:=λρ=>(p ρ).bind λc=>if c=true then q ρ else some false
def orT (p q:Ev->Option Bool):Ev->Option Bool:=λρ=>(p ρ).bind λc=>if c=true then some true else q ρ
def NT (p:Ev->Option Bool):Ev->Option Bool:=λρ=>(p ρ).bind λc=>some (!c)
def PBW (X:Cx) (e:Expr) (f:Ev->Option Bool):Prop:=PW X e (tFT X.K f)
structure QBW (X:Cx) (e:Expr) (f:Ev->Option Bool):Prop where
 run:PBW X e f
variable {p q:Ev->Option Bool} {rest:List Expr}
theorem rO (ha:QB X a p):QBW X (.BoolOp .And [a] pos) p:=⟨have ha:=ha.run;aaQ ha⟩
theorem wj (ha:QB X a p):QBW X (.BoolOp .Or [a] pos) p:=⟨have ha:=ha.run;adV ha⟩
theorem abq {K:FG_} (σ:L2.St) (H:Hp) (Q:Bool->Hp->Prop) (h:tFT K (Hy p q) σ H Q):agh (tFT K p) (tFT K q) σ H Q:=by
 obtain⟨H0,ρ,k,E,e,w⟩:=h;obtain⟨c,ec,e⟩:=bind_some e;refine⟨H0,ρ,c,E,ec,λH1 s1=>?_⟩;cases c with
 |true=>rw[zk rfl] at e ⊢;exact⟨H0,ρ,k,E.grow s1,e,λH2 s2=>w H2 (s1.trans s2)⟩
 |false=>rw[zw zI] at e ⊢;cases e;exact w H1 s1
theorem aeA {K:FG_} (σ:L2.St) (H:Hp) (Q:Bool->Hp->Prop) (h:tFT K (orT p q) σ H Q):tOr (tFT K p) (tFT K q) σ H Q:=by
 obtain⟨H0,ρ,k,E,e,w⟩:=h;obtain⟨c,ec,e⟩:=bind_some e;refine⟨H0,ρ,c,E,ec,λH1 s1=>?_⟩;cases c with
 |true=>rw[zk rfl] at e ⊢;cases e;exact w H1 s1
 |false=>rw[zw zI] at e ⊢;exact⟨H0,ρ,k,E.grow s1,e,λH2 s2=>w H2 (s1.trans s2)⟩
theorem wz (ha:QB X a p) (hb:QBW X (.BoolOp .And (b::rest) pos) q):QBW X (.BoolOp .And (a::b::rest) pos) (Hy p q):=⟨have ha:=ha.run;have hb:=hb.run;pwM (adW ha hb) abq⟩
theorem Aw (ha:QB X a p) (hb:QBW X (.BoolOp .Or (b::rest) pos) q):QBW X (.BoolOp .Or (a::b::rest) pos) (orT p q):=⟨have ha:=ha.run;have hb:=hb.run;pwM (agi ha hb) aeA⟩
theorem CK (h:QBW X e p):QB X e p:=⟨have h:=h.run;h.pt⟩
theorem Ep (ha:QB X a p):QB X (.UnaryOp .Not a pos) (NT p):=⟨have ha:=ha.run;ptM (adX ha) λσ H Q h=>by
 obtain⟨H0,ρ,k,E,e,w⟩:=h;obtain⟨c,ec,e⟩:=bind_some e;cases e;exact⟨H0,ρ,c,E,ec,λH1 s1=>w H1 s1⟩⟩
def xO (fa fb:Ev->Option Bx):Ev->Option Bx:=λρ=>((fa ρ).bind Eo).bind λc=>if c=true then fb ρ else some (.z (.bl false))
def abr (fa:Ev->Option Bx):Ev->Option Bx:=λρ=>((fa ρ).bind Eo).bind λc=>some (.z (.bl (!c)))
theorem xP {op} (h:QV X a fa):QV X (.BoolOp op [a] pos) fa:=⟨have h:=h.run;adY h⟩
theorem nY (ha:QV X a fa) (hb:QV X (.BoolOp .And (b::rest) pos) fb):QV X (.BoolOp .And (a::b::rest) pos) (xO fa fb):=⟨have ha:=ha.run;have hb:=hb.run;Ds (adZ ha hb) λσ H Q h=>by
 obtain⟨H0,ρ,k,E,e,w⟩:=h;obtain⟨c,ec,e⟩:=bind_some e;obtain⟨x,ex,ec⟩:=bind_some ec;refine⟨H0,ρ,x,E,ex,λv H1 s1 n1 r1=>⟨c,yN r1 ec,?_⟩⟩;cases c with
 |true=>rw[zk rfl] at e ⊢;exact⟨H0,ρ,k,E.grow s1,e,λv H2 s2 n2 r2=>w v H2 (s1.trans s2) (n2.old s1) r2⟩
 |false=>rw[zw zI] at e ⊢;cases e;exact w _ H1 s1 trivial (by simp only[aU,Rep])⟩
theorem aeB (ha:QV X a fa):QV X (.UnaryOp .Not a pos) (abr fa):=⟨have ha:=ha.run;Ds (ad0 ha) λσ H Q h=>by
 obtain⟨H0,ρ,k,E,e,w⟩:=h;obtain⟨c,ec,e⟩:=bind_some e;obtain⟨x,ex,ec⟩:=bind_some ec;cases e;exact⟨H0,ρ,x,E,ex,λv H1 s1 n1 r1=>⟨c,yN r1 ec,w _ H1 s1 trivial (by simp only[aU,Rep])⟩⟩⟩
theorem T7:PVs X [] (λ_=>some []):=paM qW λσ H Q h=>by
 obtain⟨H0,ρ,bs,E,e,q⟩:=h;cases e;exact q [] H (Same.refl H) .nil
def aq (f:Ev->Option Bx) (fs:Ev->Option (List Bx)):Ev->Option (List Bx):=λρ=>(f ρ).bind λb=>(fs ρ).bind λbs=>some (b::bs)
theorem NZ (h1:PV X e f) (h2:PVs X es fs) (hs:starEach (e::es) X.env=(false,eval e X.env)::starEach es X.env:=by rfl):PVs X (e::es) (aq f fs):=paM (gY h1 h2 hs) λσ H Q h=>by
 obtain⟨H0,ρ,bs,E,e,q⟩:=h;obtain⟨b,eb,e⟩:=bind_some e;obtain⟨bs',ebs,e⟩:=bind_some e;cases e;refine⟨H0,ρ,b,E,eb,λv H1 s1 n1 r1=>⟨H0,ρ,bs',E.grow s1,ebs,λvs H2 s2 r2=>?_⟩⟩;exact q (v::vs) H2 (s1.trans s2) (.cons (r1.same s2) r2)
def Du:Bx->Option Bx
 |.z d=>some (.z d)
 |.o ds=>some (.z (.lst ds))
 |.l _=>none
 |.n _=>none
 |.m _ _=>none
theorem Er {pins:List (Addr×Obj)} {σ:L2.St} {H:Hp} {s:Shared} {a:Addr} {vs:List V} (I:L2.Inv X pins σ H s) (h:H a=some (.lst vs)):∃ o,L2.Inv X pins σ (upd H a (.sY o (.lst vs))) s:=by
 obtain⟨z,its,n,r,e⟩:=I.hok a _ h;refine⟨{ cls:=.type "list", data:=.seq its.toArray n },⟨I.ok,I.os,I.bare,⟨I.base.keep,I.base.slot,λb ob q1 q2 q3=>?_,I.base.there,λb xs q=>?_,λb ob u q=>?_,λb ps q=>?_⟩,I.loc,I.cell,?_,λx c q=>?_,λp hp=>?_,?_,I.len⟩⟩
 ·have:=I.base.free b ob q1 q2 q3;rw[aR (dR h this).symm];exact this
 ·have:=I.base.tups b xs q;rw[aR (oH this h (by intro z;cases z))];exact this
 ·have:=I.base.Cz b ob u q;rw[aR (oH this h (by intro z;cases z))];exact this
 ·obtain⟨m,this⟩:=I.base.Hu b ps q;rw[aR (oH this h (by intro z;cases z))];exact⟨m,this⟩
 ·rw[aR (dR h I.free).symm];exact I.free
 ·rw[aR (dR h (I.qm x c q)).symm];exact I.qm x c q
 ·obtain⟨q1,q2,q3⟩:=I.pin p hp;refine⟨q1,?_,q3⟩;rw[aR (dR h q2).symm];exact q2
 ·intro b u q;by_cases hb:b=a
  ·subst hb;rw[bG] at q;cases q;exact⟨e,z,its,n,r,e⟩
  ·rw[aR hb] at q;refine(I.hok b u q).stay (λc v _ w=>w) (λc w=>?_) λc xs w=>?_
   ·rw[aR (oH w h (by intro z;cases z))];exact w
   ·rw[aR (oH w h (by intro z;cases z))];exact w
theorem kJ (h:QV X e f):QV X e (b1 Du f):=⟨by
 have h:=h.run;intro pins s σ H Q I q;obtain⟨H0,ρ,b,E,e,q⟩:=q;obtain⟨x,ex,e⟩:=bind_some e;cases x with
 |z d=>
  cases e;exact h pins s σ H Q I ⟨H0,ρ,_,E,ex,λv H' s' n' r'=>q v H' s' trivial r'⟩
 |l ds=>cases e
 |n ds=>cases e
 |m ds _=>cases e
 |o ds=>
  cases e;refine jd (h pins s σ H (λv H'=>Same H H'/\Nw H (.o ds) v/\aU X.K H' (.o ds) v) I ⟨H0,ρ,_,E,ex,λv H' s' n' r'=>⟨s',n',r'⟩⟩) λu s1 hq=>?_;obtain⟨v,H1,I1,rv,s',n',r'⟩:=hq;obtain⟨a,vs,rfl,ha,rs⟩:=r';obtain⟨o,I2⟩:=Er I1 ha;refine⟨.ref a,_,I2,rv,q _ _ (λc ob hc=>?_) trivial ?_⟩
  ·rw[aR (dR hc (n' a rfl))];exact s' c ob hc
  ·simp only[aU,Rep];exact⟨a,vs,rfl,.inl ⟨o,bG⟩,rs.kp (.lst ha)⟩⟩
def Kr:List Bx->Option (List Dt)
 |[]=>some []
 |.z d::r=>(Kr r).bind λds=>some (d::ds)
 |_=>none
theorem Es {K:FG_} {H:Hp}:∀ {bs:List Bx} {vs:List V} {ds:List Dt},rN K H bs vs->Kr bs=some ds->aK K H ds vs
 |_,_,_,.nil,e=>by cases e;exact aK.nil
 |b::bs,_,_,.cons h t,e=>by
  cases b with
  |z d=>
   simp only[Kr] at e;obtain⟨ds',e1,e2⟩:=bind_some e;cases e2;exact aK.cons h (Es t e1)
  |_=>cases e
theorem Et:∀ {bs:List Bx} {ds:List Dt},Kr bs=some ds->ds.length=bs.length
 |[],_,e=>by cases e;rfl
 |.z d::r,_,e=>by
  simp only[Kr] at e;obtain⟨ds',e1,e2⟩:=bind_some e;cases e2;simp[Et e1]
 |.l _::_,_,e=>by cases e
 |.o _::_,_,e=>by cases e
 |.n _::_,_,e=>by cases e
 |.m _ _::_,_,e=>by cases e
def kO (bs:List Bx):Option Bx:=if bs.length<=1000 then(Kr bs).bind λds=>some (.z (.tup ds)) else none
def nC (bs:List Bx):Option Bx:=if bs.length<=1000 then(Kr bs).bind λds=>some (.o ds) else none
theorem bQ {H:Hp} {p:Addr} {o:HO} (h:H p=none):Same H (upd H p o):=λb u e=>by rw[aR (dR e h)];exact e
theorem adg {n:Nat} (h:n<=1000):n<=sizeLine:=Zs h (by decide)
theorem gZ {x1} (h:Xc X es fs):QV X (.Tuple es x1 pos) (c7 kO fs):=⟨have h:=h.run;Ds (aei h) λσ H Q q=>by
 obtain⟨H0,ρ,c,E,e,q⟩:=q;obtain⟨bs,ebs,e⟩:=bind_some e;refine⟨H0,ρ,bs,E,ebs,λvs H1 s1 r1=>?_⟩;unfold kO at e;split at e
 ·rename_i hl;obtain⟨ds,e1,e⟩:=bind_some e;cases e;have r2:=Es r1 e1;refine⟨adg (by rw[r2.length,Et e1];exact hl),λp hp=>q _ _ (s1.trans (bQ hp)) trivial ?_⟩;simp only[aU,Rep];exact⟨p,vs,rfl,.inl (.inl bG),r2.kp (.of (bQ hp))⟩
 ·cases e⟩
theorem g8 (h:Xc X es fs):QV X (.List es pos) (c7 nC fs):=⟨have h:=h.run;Ds (aej h) λσ H Q q=>by
 obtain⟨H0,ρ,c,E,e,q⟩:=q;obtain⟨bs,ebs,e⟩:=bind_some e;refine⟨H0,ρ,bs,E,ebs,λvs H1 s1 r1=>?_⟩;unfold nC at e;split at e
 ·rename_i hl;obtain⟨ds,e1,e⟩:=bind_some e;cases e;have r2:=Es r1 e1;refine⟨adg (by rw[r2.length,Et e1];exact hl),λp hp=>q _ _ (s1.trans (bQ hp)) (λa ea=>by cases ea;exact s1.free hp) ?_⟩;exact⟨p,vs,rfl,bG,r2.kp (.of (bQ hp))⟩
 ·cases e⟩
theorem bT {x:Str} {id:String} {g:List Bx->Option Bx} {p:Pos} (hc:qp X (.builtin id) g) (hg:Gl X x) (hm:X.mg x=none) (hv:bootBuiltins x=some (.builtin id)) (ha:Xc X (e::es) fs) (hn:x ≠ "__name__" := by decide) (hdb:(x==("__debug__" : Str))=false:=by decide) (he:starEach (e::es) X.env=(false,eval e X.env)::starEach es X.env:=by rfl) (hpl:(backTo pos (starEach es X.env)).any (·.1)=false:=by rfl):QV X (.Call (.Name x p) (e::es) [] pos) (c7 g fs):=⟨have ha:=ha.run;Ds (rK hc hg hm hv ha hn hdb he hpl) convs⟩
theorem fu {x:Str} {T:String} {g:List Bx->Option Bx} {p:Pos} (hc:qp X (.type T) g) (hg:Gl X x) (hm:X.mg x=none) (hv:bootBuiltins x=some (.type T)) (ha:Xc X (e::es) fs) (hn:x ≠ "__name__" := by decide) (hdb:(x==("__debug__" : Str))=false:=by decide) (he:starEach (e::es) X.env=(false,eval e X.env)::starEach es X.env:=by rfl) (hpl:(backTo pos (starEach es X.env)).any (·.1)=false:=by rfl):QV X (.Call (.Name x p) (e::es) [] pos) (c7 g fs):=⟨have ha:=ha.run;Ds (Jl hc hg hm hv ha hn hdb he hpl) convs⟩
end
inductive Out where
 |nx (ρ:Ev)|rt (b:Bx)|bk (ρ:Ev)|ct (ρ:Ev)
def Ro (K:FG_) (H0:Hp) (D:Ends):Out->Prop
 |.nx ρ=>∀ σ H,bN K H0 H σ ρ->D.nx σ H
 |.rt b=>∀ v H,Same H0 H->Nw H0 b v->aU K H b v->D.rt v H
 |.bk ρ=>∀ σ H,bN K H0 H σ ρ->D.bk σ H
 |.ct ρ=>∀ σ H,bN K H0 H σ ρ->D.ct σ H
def tG (K:FG_) (g:Ev->Option Out):TS:=λD σ H=>∃ H0 ρ r,bN K H0 H σ ρ/\g ρ=some r/\Ro K H0 D r
def PG1 (X:Cx) (st:Stmt) (g:Ev->Option Out):Prop:=PS X st (tG X.K g)
structure Nh (X:Cx) (st:Stmt) (g:Ev->Option Out):Prop where
 run:PG1 X st g
def TJ (X:Cx) (st:List Stmt) (g:Ev->Option Out):Prop:=Q7 X st (tG X.K g)
structure Rp (X:Cx) (st:List Stmt) (g:Ev->Option Out):Prop where
 run:TJ X st g
def aC (g1 g2:Ev->Option Out):Ev->Option Out:=λρ=>(g1 ρ).bind λr=>match r with
 |.nx ρ'=>g2 ρ'
 |r=>some r
section
variable {X:Cx} {a b c e:Expr} {es:List Expr} {fa fb fc f:Ev->Option Bx} {fs:Ev->Option (List Bx)} {pos:Pos} {st:Stmt} {rest:List Stmt} {g g1 g2:Ev->Option Out}
theorem aH  : Rp X [] (λρ=>some (.nx ρ)):=⟨aey aaS λD σ H h=>by
 obtain⟨H0,ρ,r,E,e,q⟩:=h;cases e;exact q σ H E⟩
theorem au (h1:Nh X st g1) (h2:Rp X rest g2):Rp X (st::rest) (aC g1 g2):=⟨have h1:=h1.run;have h2:=h2.run;aey (Xi h1 h2) λD σ H h=>by
 obtain⟨H0,ρ,r,E,e,q⟩:=h;obtain⟨r1,e1,e⟩:=bind_some e;refine⟨H0,ρ,r1,E,e1,?_⟩;cases r1 with
 |nx ρ'=>exact λσ' H' E'=>⟨H0,ρ',r,E',e,q⟩
 |rt b=>cases e;exact q
 |bk ρ'=>cases e;exact q
 |ct ρ'=>cases e;exact q⟩
def X7:Bx->Option Out
 |.l _=>none
 |.n _=>none
 |b=>some (.rt b)
theorem bU (h:QV X e f):Nh X (.Return (some e) pos) (λρ=>(f ρ).bind X7):=⟨have h:=h.run;Rn (Xj h) λD σ H h=>by
 obtain⟨H0,ρ,r,E,e,q⟩:=h;obtain⟨b,eb,e⟩:=bind_some e;refine⟨H0,ρ,b,E,eb,λv H1 s1 n1 r1=>?_⟩;cases b with
 |l ds=>cases e
 |z d=>cases e;exact q v H1 (E.base.trans s1) trivial r1
 |o ds=>cases e;exact q v H1 (E.base.trans s1) (n1.old E.base) r1
 |n ds=>cases e
 |m ds _=>cases e;exact q v H1 (E.base.trans s1) (n1.old E.base) r1⟩
def Hz (i:Nat) (ρ:Ev):Option Out:=match ρ[i]? with
 |some (some b)=>X7 b
 |_=>none
theorem Ku (i:Nat) {x:Str} {p:Pos} (hN:X.N[i]?=some x:=by rfl) (hv:Tv X.env.scope x:=by first|exact ja rfl|exact QA (ja rfl)|exact QA (QA rfl)) (hd:(x==("__debug__" : Str))=false:=by decide) (hcd:(x==("__classdict__" : Str))=false:=by decide):Nh X (.Return (some (.Name x p)) pos) (Hz i):=⟨Rn (Xj (sZ hN hv hd hcd)) λD σ H h=>by
 obtain⟨H0,ρ,r,E,e,q⟩:=h;unfold Hz at e;split at e
 ·rename_i b hb;obtain⟨v,e1,r1⟩:=E.val i b hb;refine⟨v,e1,?_⟩;cases b with
  |l ds=>cases e
  |z d=>cases e;exact q v H E.base trivial r1
  |o ds=>cases e;exact q v H E.base (λa ea=>E.new i _ a hb rfl (by rw[e1,ea])) r1
  |n ds=>cases e
  |m ds _=>cases e;exact q v H E.base (λa ea=>E.new i _ a hb rfl (by rw[e1,ea])) r1
 ·cases e⟩
def wN (p:Ev->Option Bool) (g1 g2:Ev->Option Out):Ev->Option Out:=λρ=>(p ρ).bind λk=>if k=true then g1 ρ else g2 ρ
theorem gM {p:Ev->Option Bool} {u v:List Stmt} (hc:QB X c p) (ha:Rp X u g1) (hb:Rp X v g2):Nh X (.If c u v pos) (wN p g1 g2):=⟨have hc:=hc.run;have ha:=ha.run;have hb:=hb.run;Rn (agn hc ha hb) λD σ H h=>by
 obtain⟨H0,ρ,r,E,e,q⟩:=h;obtain⟨k,ek,e⟩:=bind_some e;refine⟨H0,ρ,k,E,ek,λH1 s1=>?_⟩;cases k with
 |true=>rw[zk rfl] at e ⊢;exact⟨H0,ρ,r,E.grow s1,e,q⟩
 |false=>rw[zw zI] at e ⊢;exact⟨H0,ρ,r,E.grow s1,e,q⟩⟩
theorem getset {α:Type} {l:List α} {i j:Nat} {x y:α} (h:(l.set i x)[j]?=some y):(j=i/\y=x/\i < l.length)\/(j≠i/\l[j]?=some y):=by
 rw[K2] at h;by_cases e:i=j
 ·subst e;rw[zk rfl] at h;split at h
  ·cases h;exact .inl ⟨rfl,rfl,by assumption⟩
  ·cases h
 ·rw[zw e] at h;exact .inr ⟨λz=>e z.symm,h⟩
theorem Eu {α:Type} {l:List α} {i:Nat} (x:α) (h:i < l.length):(l.set i x)[i]?=some x:=by
 rw[K2,zk rfl,zk h]
theorem Ew {α:Type} {l:List α} {i j:Nat} (x:α) (h:j≠i):(l.set i x)[j]?=l[j]?:=by
 rw[K2,zw (K0 h)]
theorem bN.set {K:FG_} {H0 H H1:Hp} {σ:L2.St} {ρ:Ev} {i:Nat} {b:Bx} {v:V} (E:bN K H0 H σ ρ) (s:Same H H1) (r:aU K H1 b v) (hl:uL b=true\/loose b=false) (n:Nw H b v):bN K H0 H1 (σ.set i (some v)) (ρ.set i (some b)):=by
 have E1:=E.grow s;have apart:∀ (j:Nat) (b':Bx) (a:Addr),ρ[j]?=some (some b')->loose b'=true->σ[j]?=some (some (.ref a))->H a≠none:=λj b' a e1 e2 e3 z=>by
  obtain⟨v',e4,r'⟩:=E.val j b' e1;rw[e3] at e4;cases e4;cases b' with
  |z d=>cases e2
  |l ds=>
   obtain⟨a',vs,e5,q,_⟩:=r';cases e5;rcases q with q|⟨o,q⟩<;>(rw[z] at q;cases q)
  |o ds=>
   obtain⟨a',vs,e5,q,_⟩:=r';cases e5;rw[z] at q;cases q
  |n ds=>
   obtain⟨a',vs,e5,q,_⟩:=r';cases e5;rcases q with q|⟨o,q⟩<;>(rw[z] at q;cases q)
  |m ds _=>
   obtain⟨a',vs,e5,q,_⟩:=r';cases e5;rw[z] at q;cases q
 have nw:uL b=true->∀ a,v=.ref a->H a=none:=λho=>by
  cases b with
  |o ds=>exact n
  |m ds _=>exact n
  |_=>cases ho
 refine⟨by rw[ko,ko];exact E.len,λj b' e=>?_,λj k c a b' e1 ec e2 e3 e4 e5=>?_,E1.base,λj c a e1 ec e2=>?_⟩
 ·rcases getset e with⟨rfl,e',hi⟩|⟨hne,e'⟩
  ·cases e';exact⟨v,Eu _ (by rw[E.len];exact hi),r⟩
  ·rw[Ew _ hne];exact E1.val j b' e'
 ·rcases getset e1 with⟨rfl,e',hi⟩|⟨hne,e'⟩
  ·cases e';rw[Eu _ (by rw[E.len];exact hi)] at e2;cases e2;rcases getset e3 with⟨rfl,e3',_⟩|⟨abt,e3'⟩
   ·rfl
   ·rw[Ew _ abt] at e5;exact absurd (nw ec a rfl) (apart k b' a e3' e4 e5)
  ·rw[Ew _ hne] at e2;rcases getset e3 with⟨rfl,e3',hi⟩|⟨abt,e3'⟩
   ·cases e3';rw[Eu _ (by rw[E.len];exact hi)] at e5;cases e5;have hlo:loose c=true:=by cases c<;>first|rfl|cases ec
    rcases hl with hl|hl
    ·exact absurd (nw hl a rfl) (apart j _ a e' hlo e2)
    ·rw[hl] at e4;cases e4
   ·rw[Ew _ abt] at e5;exact E.own j k c a b' e' ec e2 e3' e4 e5
 ·rcases getset e1 with⟨rfl,e',hi⟩|⟨hne,e'⟩
  ·cases e';rw[Eu _ (by rw[E.len];exact hi)] at e2;cases e2;exact E.base.free (nw ec a rfl)
  ·rw[Ew _ hne] at e2;exact E.new j c a e' ec e2
def VD (ρ:Ev) (i:Nat):Bx->Option Ev
 |.l _=>none
 |.n _=>none
 |b=>some (ρ.set i (some b))
theorem T8 {K:FG_} {H0 H H1:Hp} {σ:L2.St} {ρ ρ':Ev} {i:Nat} {b:Bx} {v:V} (E:bN K H0 H σ ρ) (s:Same H H1) (r:aU K H1 b v) (n:Nw H b v) (e:VD ρ i b=some ρ'):bN K H0 H1 (σ.set i (some v)) ρ':=by
 cases b with
 |l ds=>cases e
 |z d=>cases e;exact E.set s r (.inr rfl) n
 |o d=>cases e;exact E.set s r (.inl rfl) n
 |n ds=>cases e
 |m d _=>cases e;exact E.set s r (.inl rfl) n
theorem bC (i:Nat) {x:Str} {p:Pos} (hN:X.N.Nodup) (he:QV X e f) (hi:X.N[i]?=some x:=by rfl) (hx:Loc X.env.scope x:=by first|exact ja rfl|exact QA rfl) (hs:swapsWith e (some (.Name x p)) pos.line X.env=pure false:=by rfl) (hf:X.fn x=true\/X.env.scope.names.lookup x=some .local:=by first|exact .inl rfl|exact .inr rfl):Nh X (.Assign [.Name x p] e pos) (λρ=>(f ρ).bind λb=>(VD ρ i b).bind λρ'=>some (.nx ρ')):=⟨have he:=he.run;Rn (Xl hN hi hx he hs hf) λD σ H h=>by
 obtain⟨H0,ρ,r,E,e,q⟩:=h;obtain⟨b,eb,e⟩:=bind_some e;obtain⟨ρ',eρ,e⟩:=bind_some e;cases e;exact⟨H0,ρ,b,E,eb,λv H1 s1 n1 r1=>q _ _ (T8 E s1 r1 n1 eρ)⟩⟩
def Lo (σ:L2.St) (ρ:Ev) (σ':L2.St) (ρ':Ev):Prop:=∀ (j:Nat) b,loose b=true->ρ'[j]?=some (some b)->ρ[j]?=some (some b)/\σ'[j]?=σ[j]?
theorem Lo.refl {σ:L2.St} {ρ:Ev}:Lo σ ρ σ ρ:=λ_ _ _ e=>⟨e,rfl⟩
theorem Lo.trans {σ σ1 σ2:L2.St} {ρ ρ1 ρ2:Ev} (a:Lo σ ρ σ1 ρ1) (b:Lo σ1 ρ1 σ2 ρ2):Lo σ ρ σ2 ρ2:=λj c l e=>by
 obtain⟨e1,e2⟩:=b j c l e;obtain⟨e3,e4⟩:=a j c l e1;exact⟨e3,e2.trans e4⟩
theorem Lo.set {σ:L2.St} {ρ:Ev} (i:Nat) (v:V) (d:Dt):Lo σ ρ (σ.set i (some v)) (ρ.set i (some (.z d))):=λj b l e=>by
 rcases getset e with⟨rfl,e',_⟩|⟨hne,e'⟩
 ·cases e';cases l
 ·exact⟨e',Ew _ hne⟩
def tgF (K:FG_) (g:Dt->Ev->Option Ev):TG:=λv σ H Q=>∃ H0 ρ d ρ',bN K H0 H σ ρ/\Rep K H d v/\g d ρ=some ρ'/\∀ σ',bN K H0 H σ' ρ'->Lo σ ρ σ' ρ'->Q σ' H
def PTg (X:Cx) (t:Expr) (g:Dt->Ev->Option Ev):Prop:=PG X t (tgF X.K g)
structure QTg (X:Cx) (t:Expr) (g:Dt->Ev->Option Ev):Prop where
 run:PTg X t g
theorem aP (i:Nat) {x:Str} (hN:X.N.Nodup) (hi:X.N[i]?=some x:=by rfl) (hx:Loc X.env.scope x:=by first|exact ja rfl|exact QA rfl) (hf:X.fn x=true\/X.env.scope.names.lookup x=some .local:=by first|exact .inl rfl|exact .inr rfl):QTg X (.Name x pos) (λd ρ=>some (ρ.set i (some (.z d)))):=⟨λpins s σ H v u Q I r h=>by
 obtain⟨H0,ρ,d,ρ',E,rd,e,q⟩:=h;cases e;exact TQ hN hi hx hf pins s σ H v u Q I r (q _ (E.set (b:=.z d) (Same.refl H) rd (.inr rfl) trivial) (Lo.set i v d))⟩
def aiD (K:FG_) (g:List Dt->Ev->Option Ev):TGs:=λvs σ H Q=>∃ H0 ρ ds ρ',bN K H0 H σ ρ/\aK K H ds vs/\g ds ρ=some ρ'/\∀ σ',bN K H0 H σ' ρ'->Lo σ ρ σ' ρ'->Q σ' H
def aiE (X:Cx) (t:List Expr) (g:List Dt->Ev->Option Ev):Prop:=L2.TJ X t (aiD X.K g)
structure abu (X:Cx) (t:List Expr) (g:List Dt->Ev->Option Ev):Prop where
 run:aiE X t g
def rP:List Dt->Ev->Option Ev
 |[],ρ=>some ρ
 |_,_=>none
def bZ (g:Dt->Ev->Option Ev) (gs:List Dt->Ev->Option Ev):List Dt->Ev->Option Ev
 |d::ds,ρ=>(g d ρ).bind (gs ds)
 |_,_=>none
theorem mJ  : abu X [] rP:=⟨λpins s σ H vs us Q I r h=>by
 obtain⟨H0,ρ,ds,ρ',E,rd,e,q⟩:=h;cases ds with
 |nil=>cases e;unfold aK at rd;exact aaT pins s σ H vs us Q I r ⟨rd,q _ E Lo.refl⟩
 |cons d ds=>cases e⟩
theorem bI {t:Expr} {ts:List Expr} {gt:Dt->Ev->Option Ev} {gs:List Dt->Ev->Option Ev} (h1:QTg X t gt) (h2:abu X ts gs) (hs:(assignEach (t::ts) X.env).map (·.2)=assign t X.env::(assignEach ts X.env).map (·.2):=by rfl):abu X (t::ts) (bZ gt gs):=⟨have h1:=h1.run;have h2:=h2.run;λpins s σ H vs us Q I r h=>by
 obtain⟨H0,ρ,ds,ρ',E,rd,e,q⟩:=h;cases ds with
 |nil=>cases e
 |cons d ds=>
  unfold aK at rd;obtain⟨v,vr,rfl,r1,r2⟩:=rd;simp only[bZ] at e;obtain⟨ρ1,e1,e⟩:=bind_some e;exact Xk h1 h2 hs pins s σ H _ us Q I r ⟨v,vr,rfl,H0,ρ,d,ρ1,E,r1,e1,λσ1 E1 L1=>⟨H0,ρ1,ds,ρ',E1,r2,e,λσ2 E2 L2=>q σ2 E2 (L1.trans L2)⟩⟩⟩
def pR (n:Nat) (gs:List Dt->Ev->Option Ev):Dt->Ev->Option Ev
 |.tup ds,ρ=>if ds.length=n then gs ds ρ else none
 |_,_=>none
theorem qX {ts:List Expr} {k n:Nat} {gs:List Dt->Ev->Option Ev} (hc:X.calm=true) (h:abu X ts gs) (hn:(assignEach ts X.env).length=n:=by rfl) (hst:(assignEach ts X.env).findIdx? (·.1)=none:=by rfl):QTg X (.Tuple ts k pos) (pR n gs):=⟨have h:=h.run;λpins s σ H v u Q I r hw=>by
 obtain⟨H0,ρ,d,ρ',E,rd,e,q⟩:=hw;cases d with
 |tup ds=>
  simp only[pR] at e;split at e
  ·rename_i hl;unfold Rep at rd;obtain⟨a,vs,rfl,hq,rs⟩:=rd;exact ad2 hc h hn hst pins s σ H _ u Q I r ⟨a,vs,rfl,hq,by rw[rs.length];exact hl,H0,ρ,ds,ρ',E,rs,e,q⟩
  ·cases e
 |_=>cases e⟩
theorem xQ {tg:Expr} {gt:Dt->Ev->Option Ev} (he:QV X e f) (hg:QTg X tg gt) (hs:swapsWithSole [tg] e pos.line X.env=pure false:=by rfl) (hw:swappedStores [tg] e X.env=pure none:=by rfl) (h1:(assignEach [tg] X.env).map (·.2)=[assign tg X.env]:=by rfl):Nh X (.Assign [tg] e pos) (λρ=>(f ρ).bind λb=>match b with|.z d=>(gt d ρ).bind λρ'=>some (.nx ρ')|_=>none):=⟨have he:=he.run;have hg:=hg.run;Rn (ad3 he hg hs hw h1) λD σ H h=>by
 obtain⟨H0,ρ,r,E,e,q⟩:=h;obtain⟨b,eb,e⟩:=bind_some e;refine⟨H0,ρ,b,E,eb,λv H1 s1 n1 r1=>?_⟩;cases b with
 |z d=>
  obtain⟨ρ',eρ,e⟩:=bind_some e;cases e;exact⟨H0,ρ,d,ρ',E.grow s1,r1,eρ,λσ' E' _=>q _ _ E'⟩
 |_=>cases e⟩
def abv (i j:Nat) (ρ:Ev):List Bx->Option Out
 |[.z d,.z d']=>some (.nx ((ρ.set i (some (.z d))).set j (some (.z d'))))
 |_=>none
theorem X8 (i j:Nat) {x y:Str} {px py pt:Pos} {kt k2 pt2} (hc:X.calm=true) (hN:X.N.Nodup) (ha:Xc X [a,b] fs) (hi:X.N[i]?=some x:=by rfl) (hj:X.N[j]?=some y:=by rfl) (hij:i≠j:=by decide) (hx:X.env.scope.names.lookup x=some .local:=by rfl) (hy:X.env.scope.names.lookup y=some .local:=by rfl) (hw:swappedStores [.Tuple [.Name x px,.Name y py] kt pt] (.Tuple [a,b] k2 pt2) X.env=pure (some [x,y]):=by rfl) (hs:swapsWithSole [.Tuple [.Name x px,.Name y py] kt pt] (.Tuple [a,b] k2 pt2) pos.line X.env=pure false:=by rfl):Nh X (.Assign [.Tuple [.Name x px,.Name y py] kt pt] (.Tuple [a,b] k2 pt2) pos) (λρ=>(fs ρ).bind (abv i j ρ)):=⟨have ha:=ha.run;Rn (ad4 hc hN hi hj hij hx hy ha hw hs) λD σ H h=>by
 obtain⟨H0,ρ,r,E,e,q⟩:=h;obtain⟨bs,eb,e⟩:=bind_some e;refine⟨H0,ρ,bs,E,eb,λvs H1 s1 r1=>?_⟩;unfold abv at e;split at e
 ·rename_i d d';cases e;cases r1 with
  |cons p t=>
   cases t with
   |cons p' t'=>
    cases t';refine⟨_,_,rfl,q _ _ ?_⟩;exact((E.grow s1).set (b:=.z d) (Same.refl H1) p (.inr rfl) trivial).set (b:=.z d') (Same.refl H1) p' (.inr rfl) trivial
 ·cases e⟩
def abw (ρ:Ev) (i:Nat):Bx->Option Out
 |.z d=>match ρ[i]? with
  |some (some (.o ds))=>if ds.length < sizeLine then some (.nx (ρ.set i (some (.o (ds++[d]))))) else none
  |_=>none
 |_=>none
theorem bN.aeC {K:FG_} {H0 H:Hp} {σ:L2.St} {ρ:Ev} {i:Nat} {c0 c1:Bx} {a:Addr} {u:HO} (E:bN K H0 H σ ρ) (h:ρ[i]?=some (some c0)) (ho:uL c0=true) (hs:σ[i]?=some (some (.ref a))) (k:Kp H (upd H a u)) (r:aU K (upd H a u) c1 (.ref a)) :
  bN K H0 (upd H a u) σ (ρ.set i (some c1)):=by
 have hi:i < ρ.length:=(List.getElem?_eq_some_iff.mp h).1;have hb:H0 a=none:=E.new i c0 a h ho hs;have lo:∀ c,uL c=true->loose c=true:=λc hc=>by cases c<;>first|rfl|cases hc
 refine⟨by rw[ko];exact E.len,λj b' e=>?_,λj k' c a' b' e1 ec e2 e3 e4 e5=>?_,λc o e=>?_,λj c a' e1 ec e2=>?_⟩
 ·rcases getset e with⟨rfl,e',_⟩|⟨hne,e'⟩
  ·cases e';exact⟨_,hs,r⟩
  ·obtain⟨v,e1,r'⟩:=E.val j b' e';refine⟨v,e1,?_⟩;have away:∀ a',v=.ref a'->loose b'=true->a'≠a:=λa' ev hl z=>by
    subst z;exact hne (E.own i j c0 _ _ h ho hs e' hl (by rw[e1,ev])).symm
   cases b' with
   |z d=>exact Rep.kp k r'
   |l ds'=>
    obtain⟨a',vs',rfl,q,rr⟩:=r';refine⟨a',vs',rfl,?_,rr.kp k⟩;have hn:=away a' rfl rfl;rcases q with q|⟨o,q⟩
    ·exact .inl (by rw[aR hn];exact q)
    ·exact .inr ⟨o,by rw[aR hn];exact q⟩
   |o ds'=>
    obtain⟨a',vs',rfl,q,rr⟩:=r';have hn:=away a' rfl rfl;exact⟨a',vs',rfl,by rw[aR hn];exact q,rr.kp k⟩
   |n ds'=>
    obtain⟨a',vs',rfl,q,rr⟩:=r';refine⟨a',vs',rfl,?_,rr.kp k⟩;have hn:=away a' rfl rfl;rcases q with q|⟨o,q⟩
    ·exact .inl (by rw[aR hn];exact q)
    ·exact .inr ⟨o,by rw[aR hn];exact q⟩
   |m ds'=>
    obtain⟨a',vs',rfl,q,rr⟩:=r';have hn:=away a' rfl rfl;exact⟨a',vs',rfl,by rw[aR hn];exact q,rr.1.kp k,rr.2⟩
 ·have back:∀ (m:Nat) (b:Bx),(ρ.set i (some c1))[m]?=some (some b)->loose b=true->∃ b0,ρ[m]?=some (some b0)/\loose b0=true/\(uL b=true->uL b0=true):=λm b e l=>by
   rcases getset e with⟨rfl,e',_⟩|⟨hne,e'⟩
   ·exact⟨_,h,lo _ ho,λ_=>ho⟩
   ·exact⟨b,e',l,λz=>z⟩
  obtain⟨b0,q1,q2,q3⟩:=back j _ e1 (lo _ ec);obtain⟨b1,q4,q5,_⟩:=back k' _ e3 e4;exact E.own j k' b0 a' b1 q1 (q3 ec) e2 q4 q5 e5
 ·rw[aR (dR e hb)];exact E.base c o e
 ·rcases getset e1 with⟨rfl,e',_⟩|⟨hne,e'⟩
  ·exact E.new _ c0 a' h ho e2
  ·exact E.new j c a' e' ec e2
theorem bN.Rj {K:FG_} {H0 H:Hp} {σ:L2.St} {ρ:Ev} {i:Nat} {ds es:List Dt} {a:Addr} {vs us:List V} (E:bN K H0 H σ ρ) (h:ρ[i]?=some (some (.o ds))) (hs:σ[i]?=some (some (.ref a))) (ha:H a=some (.lst vs)) (r:aK K H es us) :
  bN K H0 (upd H a (.lst us)) σ (ρ.set i (some (.o es))):=E.aeC h rfl hs (.lst ha) ⟨a,us,rfl,bG,r.kp (.lst ha)⟩
theorem uV (i:Nat) {x:Str} {p apos cpos:Pos} (he:QV X e f) (hN:X.N[i]?=some x:=by rfl) (hv:Tv X.env.scope x:=by first|exact ja rfl|exact QA (ja rfl)|exact QA (QA rfl)) (hd:(x==("__debug__" : Str))=false:=by decide) (hcd:(x==("__classdict__" : Str))=false:=by decide) (hst:starEach [e] X.env=[(false,eval e X.env)]:=by rfl) (hbase:attributeBase (.Name x p) "append" X.env (eval (.Name x p) X.env)=eval (.Name x p) X.env:=by rfl) (hfew:((backTo cpos (starEach [e] X.env)).all (λx=>!x.1)&&(backToKw cpos (keywordEach [] X.env)).all (λx=>x.1.isSome)&&decide ([e].length+([]:List Keyword).length+(if([]:List Keyword).isEmpty then 0 else 1) < 30))=true:=by rfl) (hline:(apos.endLine==cpos.line)=true:=by rfl) (hs:swapsWith (.Call (.Attribute (.Name x p) "append" apos) [e] [] cpos) none pos.line X.env=pure false:=by rfl):Nh X (.Expr (.Call (.Attribute (.Name x p) "append" apos) [e] [] cpos) pos) (λρ=>(f ρ).bind (abw ρ i)):=⟨have he:=he.run;Rn (Dm (T4 yo PySem.F.slot_list_append PySem.F.type_list_append Jo (sZ (i:=i) hN hv hd hcd) (gY he qW (by rw[hst]<;>rfl)) hbase hfew hline (by rw[hst]<;>rfl) rfl) hs) λD σ H h=>by
  obtain⟨H0,ρ,r,E,e,q⟩:=h;obtain⟨b,eb,e⟩:=bind_some e;cases b with
  |z d=>
   simp only[abw] at e;split at e
   ·rename_i ds hρ;split at e
    ·rename_i hl;cases e;obtain⟨v,e1,a,vs,rfl,ha,rs⟩:=E.val i _ hρ;refine⟨_,e1,.inl ⟨rfl,vs,.inl (.inl ha)⟩,H0,ρ,_,E,eb,λu H1 s1 n1 r1=>?_⟩;have E1:=E.grow s1;refine⟨a,vs,u,rfl,rfl,s1 _ _ ha,by rw[rs.length];exact hl,q _ _ ?_⟩;exact E1.Rj hρ e1 (s1 _ _ ha) ((rs.kp (.of s1)).append (aK.cons r1 aK.nil))
    ·cases e
   ·cases e
  |_=>cases e⟩
end
def Its (x:Str):It:=⟨λi _=>i < x.cps.size,λi H v H'=>H'=H/\∃ c,x.cps[i]?=some c/\v=.str ⟨#[c]⟩,λi _=>x.cps.size<=i⟩
def aiF (h:Heap) (it:Addr) (x:Str) (i:Nat):Prop:=∃ t,h.IsStrIter it "str_ascii_iterator" x t i\/h.IsStrIter it "str_iterator" x t i
theorem N5 {P:Program} {w:World} {K:FG_} {tg:Expr} (it:Addr) (x:Str):Turn P w K tg (Its x) [it] it (λi h=>aiF h it x i) where
 mem:=by simp
 obj:=λi h st b hb=>by
  have e:b=it:=by simpa using hb
  subst e;obtain⟨t,⟨o,e,c,d⟩|⟨o,e,c,d⟩⟩:=st
  ·exact⟨o,e,λv z=>by rw[d] at z;cases z⟩
  ·exact⟨o,e,λv z=>by rw[d] at z;cases z⟩
 keep:=λi h h' st k=>by
  obtain⟨t,⟨o,e,c⟩|⟨o,e,c⟩⟩:=st
  ·exact⟨t,.inl ⟨o,k it (by simp) o e,c⟩⟩
  ·exact⟨t,.inr ⟨o,k it (by simp) o e,c⟩⟩
 item:=by
  intro X hP hw hK hc i pins s σ H E I hf st hg;subst hP hw hK;obtain⟨f0,f1,f2,f3,f4,f5⟩:=hf it (by simp);have hi:i < x.cps.size:=hg;have hx:x.cps[i]?=some x.cps[i]:=by simp[hi]
  obtain⟨t,st|st⟩:=st
  ·refine wpAny_pyNext_ascii_item st hx λh' st' sb=>?_;have I1:L2.Inv X pins σ H { s with heap:=h',toks:=s.toks+1 }:=I.turned (λb o hb e=>(sb.2 b hb).trans e) f0 f1 f3 f4 f5;obtain⟨o,e,c,d⟩:=id st';exact⟨_,rfl,Jg (s:={ s with heap:=h',toks:=s.toks+1 }) e c d (by decide) ⟨.str ⟨#[x.cps[i]]⟩,H,I1,⟨_,rfl⟩,⟨rfl,_,hx,rfl⟩,⟨t,.inl st'⟩,λb hb=>(hf b hb).1⟩⟩
  ·refine wpAny_pyNext_wide_item st hx λh' st' sb=>?_;have I1:L2.Inv X pins σ H { s with heap:=h',toks:=s.toks+1 }:=I.turned (λb o hb e=>(sb.2 b hb).trans e) f0 f1 f3 f4 f5;obtain⟨o,e,c,d⟩:=id st';exact⟨_,rfl,Jg (s:={ s with heap:=h',toks:=s.toks+1 }) e c d (by decide) ⟨.str ⟨#[x.cps[i]]⟩,H,I1,⟨_,rfl⟩,⟨rfl,_,hx,rfl⟩,⟨t,.inr st'⟩,λb hb=>(hf b hb).1⟩⟩
 done:=by
  intro X hP hw hK hc i pins s σ H E I hf st hg;subst hP hw hK;obtain⟨f0,f1,f2,f3,f4,f5⟩:=hf it (by simp);have hx:x.cps[i]?=none:=by have:x.cps.size<=i:=hg;simp[this]
  obtain⟨t,st|st⟩:=st
  ·exact wpAny_pyNext_ascii_end (I.ok.hd hc) st hx λh' eb=>⟨rfl,I.turned (t':=s.toks) (λb o hb e=>eb b o hb e) f0 f1 f3 f4 f5⟩
  ·exact wpAny_pyNext_wide_end (I.ok.hd hc) st hx λh' eb=>⟨rfl,I.turned (t':=s.toks) (λb o hb e=>eb b o hb e) f0 f1 f3 f4 f5⟩
 self:=λ_ _ _ _ _ st h=>by
  obtain⟨t,st|st⟩:=st
  ·exact wpAny_pyIter_striter_ascii st h
  ·exact wpAny_pyIter_striter_wide st h
section
variable {X:Cx} {tg:Expr}
def aiG (K:FG_) (tl:TE):TI:=λσ H R=>tl σ H λx H1=>(∃ a,x=.ref a/\(∃ xs,uN K H1 a xs)/\R (Itl K a) H1)\/(∃ a,x=.ref a/\(∃ xs,yH K H1 a xs)/\R (Itt K a) H1)\/∃ y,x=.str y/\R (Its y) H1
theorem Rq {l:Expr} {tl:TE} (hl:PE X l tl):PI X tg l (aiG X.K tl):=by
 intro pins s σ H R I h;refine jd (hl pins s σ H _ I h) λv s1 ⟨x,H1,I1,r1,q1⟩=>?_;have fp1:∀ (o:Obj) (b:Addr),b∈[s1.heap.objs.size]->uQ X pins H1 b:=λo b hb=>by
  have e:b=s1.heap.objs.size:=by simpa using hb
  subst e;exact I1.Xn (zi _) (I1.hok.fresh (zi _))
 rcases q1 with⟨a,e,⟨xs,hq⟩,q⟩|⟨a,e,⟨xs,hq⟩,q⟩|⟨y,e,q⟩
 ·subst e;cases r1;obtain⟨its,rv,p,hz⟩:=I1.list hq;refine wpAny_pyIter_list p.isList ?_;exact⟨s1.heap.objs.size,[s1.heap.objs.size],_,_,H1,rfl,I1.kept (t':=s1.toks) λb o e=>zd _ e,Vo a _,⟨_,zv _ rfl,rfl,rfl⟩,fp1 default,q⟩
 ·subst e;cases r1;obtain⟨its,rv,p,hz⟩:=I1.tuple hq;refine wpAny_pyIter_tuple (show s1.heap.IsTuple a its.toArray from p) ?_;exact⟨s1.heap.objs.size,[s1.heap.objs.size],_,_,H1,rfl,I1.kept (t':=s1.toks) λb o e=>zd _ e,Q8 a _,⟨_,zv _ rfl,rfl,rfl⟩,fp1 default,q⟩
 ·subst e;obtain⟨t,rfl⟩:=r1;cases ha:y.cps.all (· < 128) with
  |true=>
   refine wpAny_pyIter_ascii ha ?_;exact⟨s1.heap.objs.size,[s1.heap.objs.size],_,_,H1,rfl,I1.kept (t':=s1.toks) λb o e=>zd _ e,N5 _ y,⟨t,.inl ⟨_,zv _ rfl,rfl,rfl⟩⟩,fp1 default,q⟩
  |false=>
   refine wpAny_pyIter_wide ha ?_;exact⟨s1.heap.objs.size,[s1.heap.objs.size],_,_,H1,rfl,I1.kept (t':=s1.toks) λb o e=>zd _ e,N5 _ y,⟨t,.inr ⟨_,zv _ rfl,rfl,rfl⟩⟩,fp1 default,q⟩
end
def Yields (K:FG_) (J:It) (ds:List Dt) (Hs:Hp):Prop:=∀ (i:Nat) (H:Hp),Same Hs H →
 (∀ d,ds[i]?=some d->J.go i H/\∀ x H',J.yld i H x H'->Same H H'/\Rep K H' d x)/\(ds.length<=i->J.stop i H)
theorem Yields.of {K:FG_} {J:It} {ds:List Dt} {Hs:Hp} (h:∀ (i:Nat) (H:Hp),Same Hs H →
  (∀ d,ds[i]?=some d->J.go i H/\∀ x H',J.yld i H x H'->H'=H/\Rep K H d x)/\(ds.length<=i->J.stop i H)):Yields K J ds Hs:=λi H s=>
 ⟨λd e=>⟨((h i H s).1 d e).1,λx H' y=>by
  obtain⟨rfl,r⟩:=((h i H s).1 d e).2 x H' y;exact⟨Same.refl _,r⟩⟩,(h i H s).2⟩
def signs (x:Str):List Dt:=x.cps.toList.map λc=>.str ⟨#[c]⟩
theorem Yields.list {K:FG_} {Hs:Hp} {a:Addr} {vs:List V} {ds:List Dt} (h:uN K Hs a vs) (r:aK K Hs ds vs):Yields K (Itl K a) ds Hs:=.of λi H s=>by
 have h':=s.seq h;have r':=r.kp (.of s);refine⟨λd e=>?_,λe=>⟨vs,h',by rw[r.length];exact e⟩⟩;obtain⟨v,ev,rv⟩:=r'.get e;refine⟨⟨vs,v,h',ev⟩,λx H' y=>?_⟩;obtain⟨y1,y2⟩:=y;have:=y2 vs h';rw[ev] at this;cases this;exact⟨y1,rv⟩
theorem Yields.tup {K:FG_} {Hs:Hp} {a:Addr} {vs:List V} {ds:List Dt} (h:yH K Hs a vs) (r:aK K Hs ds vs):Yields K (Itt K a) ds Hs:=.of λi H s=>by
 have h':=(Kp.of s).sqT h;have r':=r.kp (.of s);refine⟨λd e=>?_,λe=>⟨vs,h',by rw[r.length];exact e⟩⟩;obtain⟨v,ev,rv⟩:=r'.get e;refine⟨⟨vs,v,h',ev⟩,λx H' y=>?_⟩;obtain⟨y1,y2⟩:=y;have:=y2 vs h';rw[ev] at this;cases this;exact⟨y1,rv⟩
theorem Yields.str {K:FG_} {Hs:Hp} (x:Str):Yields K (Its x) (signs x) Hs:=.of λi H s=>by
 refine⟨λd e=>?_,λe=>?_⟩
 ·unfold signs at e;rw[Zl] at e;cases h:x.cps.toList[i]? with
  |none=>rw[h] at e;cases e
  |some c=>
   rw[h] at e;cases e;have hc:x.cps[i]?=some c:=by simpa using h
   have hi:i < x.cps.size:=by
    have:=(List.getElem?_eq_some_iff.mp h).1;simpa using this
   refine⟨hi,λv H' y=>?_⟩;obtain⟨y1,c',hc',rfl⟩:=y;rw[hc] at hc';cases hc';refine⟨y1,?_⟩;unfold Rep;exact⟨rfl,by show(1:Nat)<=sizeLine;decide⟩
 ·have:(signs x).length=x.cps.size:=by simp[signs]
  show x.cps.size<=i;omega
def N6 (lo:Int) (n:Nat):List Dt:=(List.range n).map λk=>.int (lo+(k:Nat))
theorem Yields.rng {K:FG_} {Hs:Hp} (lo:Int) (n:Nat):Yields K (Itr lo n) (N6 lo n) Hs:=.of λi H s=>by
 refine⟨λd e=>?_,λe=>?_⟩
 ·unfold N6 at e;rw[Zl] at e;by_cases hi:i < n
  ·rw[List.getElem?_range hi] at e;cases e;refine⟨hi,λv H' y=>?_⟩;obtain⟨y1,y2⟩:=y;refine⟨y1,?_⟩;unfold Rep;exact y2
  ·rw[qB (by simp;omega)] at e;cases e
 ·have:(N6 lo n).length=n:=by simp[N6]
  show n<=i;omega
def iF (K:FG_) (f:Ev->Option (List Dt)):TI:=λσ H R=>∃ H0 ρ ds,bN K H0 H σ ρ/\f ρ=some ds/\∀ J H',Same H H' →
 (∀ Hs,Same Hs H'->(∀ a,H a=none->Hs a=H' a)->(∀ a o u,H' a=some (.sY o u)->Hs a=H' a)->(∀ a vs,H' a=some (.tup vs)->Hs a=H' a)->Yields K J ds Hs)->R J H'
def PIF (X:Cx) (tg iter:Expr) (f:Ev->Option (List Dt)):Prop:=PI X tg iter (iF X.K f)
structure QIF (X:Cx) (tg iter:Expr) (f:Ev->Option (List Dt)):Prop where
 run:PIF X tg iter f
def VF:Bx->Option (List Dt)
 |.z (.lst ds)=>some ds
 |.z (.tup ds)=>some ds
 |.z (.str x)=>some (signs x)
 |.o ds=>some ds
 |_=>none
section
variable {X:Cx} {tg e:Expr} {es:List Expr} {f:Ev->Option Bx} {fs:Ev->Option (List Bx)}
mutual
theorem Rep.part {K:FG_} {H Hs:Hp} (hf:∀ a o u,H a=some (.sY o u)->Hs a=H a) (ht:∀ a vs,H a=some (.tup vs)->Hs a=H a):∀ {d:Dt} {v:V},Rep K H d v->Rep K Hs d v
 |.non,_,h=>by simpa only[Rep] using h
 |.bl _,_,h=>by simpa only[Rep] using h
 |.int _,_,h=>by simpa only[Rep] using h
 |.str _,_,h=>by simpa only[Rep] using h
 |.tup ds,_,h=>by
  simp only[Rep] at h ⊢;obtain⟨a,vs,e,q,r⟩:=h;refine⟨a,vs,e,?_,aK.part hf ht r⟩;rcases q with (q|⟨o,q⟩)|q
  ·exact .inl (.inl ((ht _ _ q).trans q))
  ·exact .inl (.inr ⟨o,(hf _ _ _ q).trans q⟩)
  ·exact .inr q
 |.lst ds,_,h=>by
  simp only[Rep] at h ⊢;obtain⟨a,vs,e,q,r⟩:=h;refine⟨a,vs,e,?_,aK.part hf ht r⟩;rcases q with⟨o,q⟩|q
  ·exact .inl ⟨o,(hf _ _ _ q).trans q⟩
  ·exact .inr q
 |.emp,_,h=>by
  simp only[Rep] at h ⊢;obtain⟨a,o,e,q⟩:=h;exact⟨a,o,e,(hf _ _ _ q).trans q⟩
theorem aK.part {K:FG_} {H Hs:Hp} (hf:∀ a o u,H a=some (.sY o u)->Hs a=H a) (ht:∀ a vs,H a=some (.tup vs)->Hs a=H a):∀ {ds:List Dt} {vs:List V},aK K H ds vs->aK K Hs ds vs
 |[],_,h=>by simpa only[aK] using h
 |d::ds,_,h=>by
  simp only[aK] at h ⊢;obtain⟨v,r,e,q,t⟩:=h;exact⟨v,r,e,Rep.part hf ht q,aK.part hf ht t⟩
end
theorem Dv (h:QV X e f):QIF X tg e (λρ=>(f ρ).bind VF):=⟨have h:=h.run;λpins s σ H R I q=>by
 refine Rq h pins s σ H R I ?_;obtain⟨H0,ρ,ds,E,e,q⟩:=q;obtain⟨b,eb,e⟩:=bind_some e;refine⟨H0,ρ,b,E,eb,λv H1 s1 n1 r1=>?_⟩;cases b with
 |z d=>
  cases d with
  |tup ds'=>
   cases e;simp only[aU,Rep] at r1;obtain⟨a,vs,rfl,hq,rs⟩:=r1;refine .inr (.inl ⟨a,rfl,⟨vs,hq⟩,q _ _ s1 λHs hs hn hf ht=>.tup ?_ (rs.part hf ht)⟩);rcases hq with (hq|⟨o,hq⟩)|hq
   ·exact .inl (.inl ((ht _ _ hq).trans hq))
   ·exact .inl (.inr ⟨o,(hf _ _ _ hq).trans hq⟩)
   ·exact .inr hq
  |lst ds'=>
   cases e;simp only[aU,Rep] at r1;obtain⟨a,vs,rfl,hq,rs⟩:=r1;refine .inl ⟨a,rfl,⟨vs,hq.sq⟩,q _ _ s1 λHs hs hn hf ht=>.list ?_ (rs.part hf ht)⟩;rcases hq with⟨o,hq⟩|hq
   ·exact .inl (.inr ⟨o,(hf _ _ _ hq).trans hq⟩)
   ·exact .inr hq
  |str x=>
   cases e;simp only[aU,Rep] at r1;obtain⟨rfl,_⟩:=r1;exact .inr (.inr ⟨x,rfl,q _ _ s1 λHs hs hn hf ht=>.str x⟩)
  |_=>cases e
 |l ds'=>cases e
 |n ds'=>cases e
 |m ds'=>cases e
 |o ds'=>
  cases e;obtain⟨a,vs,rfl,hq,rs⟩:=r1;refine .inl ⟨a,rfl,⟨vs,.inl (.inl hq)⟩,q _ _ s1 λHs hs hn hf ht=>.list (.inl (.inl ((hn a (n1 a rfl)).trans hq))) (rs.part hf ht)⟩⟩
def aeD:List Bx->Option (List Dt)
 |[.z (.int j)]=>if -(2 ^ 62)<=j/\j < 2 ^ 62 then some (N6 0 j.toNat) else none
 |_=>none
theorem uW {p pos:Pos} (hg:Gl X "range") (hm:X.mg "range" = none) (ha:Xc X [e] fs) (hs:starEach [e] X.env=[(false,eval e X.env)]:=by rfl):QIF X tg (.Call (.Name "range" p) [e] [] pos) (λρ=>(fs ρ).bind aeD):=⟨have ha:=ha.run;λpins s σ H R I q=>by
 refine Vp hg hm ha hs pins s σ H R I ?_;obtain⟨H0,ρ,ds,E,e,q⟩:=q;obtain⟨bs,eb,e⟩:=bind_some e;refine⟨H0,ρ,bs,E,eb,λvs H1 s1 r1=>?_⟩;unfold aeD at e;split at e
 ·rename_i j;split at e
  ·rename_i hj;cases e;cases r1 with
   |cons p t=>
    cases t;simp only[aU,Rep] at p;subst p;exact⟨j,rfl,hj.1,hj.2,q _ _ s1 λHs _ _ _ _=>.rng 0 _⟩
  ·cases e
 ·cases e⟩
def qY (gt:Dt->Ev->Option Ev) (gb:Ev->Option Out):List Dt->Ev->Option Out
 |[],ρ=>some (.nx ρ)
 |d::ds,ρ=>(gt d ρ).bind λρ1=>(gb ρ1).bind λr=>match r with
  |.nx ρ2=>qY gt gb ds ρ2
  |.ct ρ2=>qY gt gb ds ρ2
  |.bk ρ2=>some (.nx ρ2)
  |.rt b=>some (.rt b)
noncomputable def gJ (H:Hp) (σ:L2.St) (ρ:Ev):Hp:=λa=>@ite _ (∃ (i:Nat) (c:Bx),ρ[i]?=some (some c)/\uL c=true/\σ[i]?=some (some (.ref a))) (Classical.propDecidable _) none (H a)
theorem yP {H:Hp} {σ:L2.St} {ρ:Ev}:Same (gJ H σ ρ) H:=λa o e=>by
 unfold gJ at e;split at e
 ·cases e
 ·exact e
theorem bN.rebase {K:FG_} {H0 Hs H:Hp} {σ:L2.St} {ρ:Ev} (E:bN K Hs H σ ρ) (s:Same H0 Hs):bN K H0 H σ ρ:=⟨E.len,E.val,E.own,s.trans E.base,λi c a e1 ec e2=>s.free (E.new i c a e1 ec e2)⟩
theorem bN.sans {K:FG_} {H0 H:Hp} {σ:L2.St} {ρ:Ev} (E:bN K H0 H σ ρ):bN K (gJ H σ ρ) H σ ρ:=⟨E.len,E.val,E.own,yP,λi c a e1 ec e2=>by
 unfold gJ;rw[zk ⟨i,c,e1,ec,e2⟩]⟩
theorem bN.sub {K:FG_} {H0 H:Hp} {σ:L2.St} {ρ:Ev} (E:bN K H0 H σ ρ):Same H0 (gJ H σ ρ):=λa o e=>by
 unfold gJ;split
 ·rename_i h;obtain⟨i,c,e1,ec,e2⟩:=h;rw[E.new i c a e1 ec e2] at e;cases e
 ·exact E.base a o e
theorem jz {K:FG_} {H0 H:Hp} {σ:L2.St} {ρ:Ev} (E:bN K H0 H σ ρ) {a:Addr} (h:∀ vs,H a≠some (.lst vs)) (h2:∀ vs,H a≠some (.dK vs)):gJ H σ ρ a=H a:=by
 unfold gJ;split
 ·rename_i hh;obtain⟨i,c,e1,ec,e2⟩:=hh;obtain⟨v,e3,rc⟩:=E.val i _ e1;rw[e2] at e3;cases e3;cases c with
  |o ds=>obtain⟨a',vs,e4,q,_⟩:=rc;cases e4;exact absurd q (h vs)
  |m ds _=>obtain⟨a',vs,e4,q,_⟩:=rc;cases e4;exact absurd q (h2 vs)
  |_=>cases ec
 ·rfl
theorem Ro.rebase {K:FG_} {H0 Hs:Hp} {D:Ends} {r:Out} (s:Same H0 Hs) (h:Ro K H0 D r):Ro K Hs D r:=by
 cases r with
 |nx ρ=>exact λσ H E=>h σ H (E.rebase s)
 |bk ρ=>exact λσ H E=>h σ H (E.rebase s)
 |ct ρ=>exact λσ H E=>h σ H (E.rebase s)
 |rt b=>exact λv H s' n r=>h v H (s.trans s') (n.old s) r
theorem rQ {gt:Dt->Ev->Option Ev} {gb:Ev->Option Out} {J:It} {ds:List Dt} {H0 H1:Hp} {σ:L2.St} {ρ:Ev} {D:Ends} {r:Out} (E1:bN X.K H0 H1 σ ρ) (Y:Yields X.K J ds (gJ H1 σ ρ)) (e:qY gt gb ds ρ=some r) (q:Ro X.K H0 D r) :
  ∃ W:Nat->Nat->L2.St->Hp->Prop,(∃ m,W 0 m σ H1)/\∀ i m σ H,W i m σ H →
   (J.stop i H/\D.nx σ H)\/(J.go i H/\∃ N:L2.St->Hp->Prop,(∀ σ' H',N σ' H'->∃ m',m' < m/\W (i+1) m' σ' H')/\∀ x H',J.yld i H x H'->tgF X.K gt x σ H' λσ2 H2=>tG X.K gb { D with nx:=N,ct:=N,bk:=D.nx } σ2 H2):=by
 have E2:=E1.sans;have q2:=q.rebase E1.sub;generalize gJ H1 σ ρ=Hs at Y E2 q2;refine⟨λi m σ' H'=>m=ds.length - i/\i<=ds.length/\∃ ρ',bN X.K Hs H' σ' ρ'/\qY gt gb (ds.drop i) ρ'=some r,⟨ds.length,by simp,QI _,ρ,E2,by simpa using e⟩,?_⟩;rintro i m σ' H' ⟨rfl,hi',ρ',E',e'⟩;obtain⟨y1,y2⟩:=Y i H' E'.base;by_cases hlt:i < ds.length
 ·right;have hd:ds[i]?=some ds[i]:=by simp[hlt]
  obtain⟨go,yl⟩:=y1 _ hd;rw[List.drop_eq_getElem_cons hlt] at e';simp only[qY] at e';obtain⟨ρ1,e1,e'⟩:=bind_some e';obtain⟨r1,e2,e'⟩:=bind_some e';refine⟨go,λσ2 H2=>∃ ρ2,bN X.K Hs H2 σ2 ρ2/\qY gt gb (ds.drop (i+1)) ρ2=some r,λσ2 H2 ⟨ρ2,E3,e3⟩=>⟨ds.length - (i+1),by omega,rfl,hlt,ρ2,E3,e3⟩,λx H2 yy=>?_⟩;obtain⟨sm,rx⟩:=yl x H2 yy;refine⟨Hs,ρ',ds[i],ρ1,E'.grow sm,rx,e1,λσ1 E3 _=>⟨Hs,ρ1,r1,E3,e2,?_⟩⟩;cases r1 with
  |nx ρ2=>exact λσ2 H3 E4=>⟨ρ2,E4,e'⟩
  |ct ρ2=>exact λσ2 H3 E4=>⟨ρ2,E4,e'⟩
  |bk ρ2=>cases e';exact q2
  |rt b=>cases e';exact q2
 ·left;have hge:ds.length<=i:=by omega
  refine⟨y2 hge,?_⟩;rw[List.drop_eq_nil_of_le hge] at e';cases e';exact q2 σ' H' E'
theorem uX {iter:Expr} {body:List Stmt} {fi:Ev->Option (List Dt)} {gt:Dt->Ev->Option Ev} {gb:Ev->Option Out} {pos:Pos} (hp:PassesOwn (model X.prog X.w) X.A X.env X.xe) (hc:X.calm=true) (hi:QIF X tg iter fi) (hg:QTg X tg gt) (hb:Rp X body gb) (hs:∀ x,foldedSetIterable iter X.env x=pure x:=by intro _;rfl):Nh X (.For tg iter body [] pos) (λρ=>(fi ρ).bind λds=>qY gt gb ds ρ):=⟨have hi:=hi.run;have hg:=hg.run;have hb:=hb.run;Rn (Xp hp hc hi hg hb hs) λD σ H h=>by
 obtain⟨H0,ρ,r,E,e,q⟩:=h;obtain⟨ds,ed,e⟩:=bind_some e;refine⟨H0,ρ,ds,E,ed,λJ H1 s1 y=>?_⟩;have E1:=E.grow s1;refine rQ E1 ?_ e q;refine y _ yP (λa ha=>?_) (λa o u ha=>jz E1 (λvs z=>by rw[ha] at z;cases z) (λvs z=>by rw[ha] at z;cases z)) λa vs ha=>jz E1 (λvs z=>by rw[ha] at z;cases z) (λvs z=>by rw[ha] at z;cases z);unfold gJ;split
 ·rename_i hh;obtain⟨i,c,e1,ec,e2⟩:=hh;obtain⟨v,e3,rc⟩:=E.val i _ e1;rw[e2] at e3;cases e3;cases c with
  |o ds=>obtain⟨a',vs,e4,q,_⟩:=rc;cases e4;rw[ha] at q;cases q
  |m ds _=>obtain⟨a',vs,e4,q,_⟩:=rc;cases e4;rw[ha] at q;cases q
  |_=>cases ec
 ·rfl⟩
theorem bN.lend {K:FG_} {H0 H:Hp} {σ:L2.St} {ρ:Ev} {i:Nat} {ds:List Dt} (E:bN K H0 H σ ρ) (h:ρ[i]?=some (some (.o ds))):bN K H0 H σ (ρ.set i (some (.l ds))):=by
 have back:∀ (j:Nat) (b:Bx),(ρ.set i (some (.l ds)))[j]?=some (some b)->(j=i/\b=.l ds)\/(j≠i/\ρ[j]?=some (some b)):=λj b e=>by
  rcases getset e with⟨rfl,e',_⟩|⟨hne,e'⟩
  ·cases e';exact .inl ⟨rfl,rfl⟩
  ·exact .inr ⟨hne,e'⟩
 refine⟨by rw[ko];exact E.len,λj b e=>?_,λj k c a b e1 ec e2 e3 e4 e5=>?_,E.base,λj c a e1 ec e2=>?_⟩
 ·rcases back j b e with⟨rfl,rfl⟩|⟨hne,e'⟩
  ·obtain⟨v,e1,a,vs,e2,q,r⟩:=E.val _ _ h;exact⟨v,e1,a,vs,e2,.inl q,r⟩
  ·exact E.val j b e'
 ·rcases back j _ e1 with⟨rfl,z⟩|⟨hne,e'⟩
  ·subst z;cases ec
  ·rcases back k _ e3 with⟨rfl,z⟩|⟨abt,e3'⟩
   ·exact E.own j _ c a _ e' ec e2 h rfl e5
   ·exact E.own j k c a b e' ec e2 e3' e4 e5
 ·rcases back j _ e1 with⟨rfl,z⟩|⟨hne,e'⟩
  ·subst z;cases ec
  ·exact E.new j c a e' ec e2
def ql (i:Nat) (gt:Dt->Ev->Option Ev) (gb:Ev->Option Out) (ρ:Ev):Option Out:=match ρ[i]? with
 |some (some (.o ds))=>qY gt gb ds (ρ.set i (some (.l ds)))
 |some (some (.l ds))=>qY gt gb ds ρ
 |some (some b)=>(VF b).bind λds=>qY gt gb ds ρ
 |_=>none
theorem Yb {H0 H:Hp} {σ:L2.St} {ρ:Ev} {i:Nat} {ds:List Dt} (E:bN X.K H0 H σ ρ) (h:ρ[i]?=some (some (.l ds))):∃ a vs,σ[i]?=some (some (.ref a))/\uN X.K H a vs/\Yields X.K (Itl X.K a) ds (gJ H σ ρ):=by
 obtain⟨v,e1,a,vs,rfl,q,r⟩:=E.val i _ h;have hk:gJ H σ ρ a=H a:=by
  unfold gJ;split
  ·rename_i hh;obtain⟨j,c,e2,ec,e3⟩:=hh;have:=E.own j i c a _ e2 ec e3 h rfl e1;subst this;rw[h] at e2;cases e2;cases ec
  ·rfl
 refine⟨a,vs,e1,.inl q,.list (.inl ?_) (r.part (λb o u hb=>jz E (λvs z=>by rw[hb] at z;cases z) (λvs z=>by rw[hb] at z;cases z)) λb ws hb=>jz E (λvs z=>by rw[hb] at z;cases z) (λvs z=>by rw[hb] at z;cases z))⟩;rcases q with q|⟨o,q⟩
 ·exact .inl (hk.trans q)
 ·exact .inr ⟨o,hk.trans q⟩
theorem tD (i:Nat) {x:Str} {p:Pos} {body:List Stmt} {gt:Dt->Ev->Option Ev} {gb:Ev->Option Out} {pos:Pos} (hp:PassesOwn (model X.prog X.w) X.A X.env X.xe) (hc:X.calm=true) (hg:QTg X tg gt) (hb:Rp X body gb) (hN:X.N[i]?=some x:=by rfl) (hv:Tv X.env.scope x:=by first|exact ja rfl|exact QA (ja rfl)|exact QA (QA rfl)) (hd:(x==("__debug__" : Str))=false:=by decide) (hcd:(x==("__classdict__" : Str))=false:=by decide) (hs:∀ y,foldedSetIterable (.Name x p) X.env y=pure y:=by intro _;rfl):Nh X (.For tg (.Name x p) body [] pos) (ql i gt gb):=⟨have hg:=hg.run;have hb:=hb.run;Rn (Xp hp hc (Rq (sZ (i:=i) hN hv hd hcd)) hg hb hs) λD σ H h=>by
 obtain⟨H0,ρ,r,E,e,q⟩:=h;unfold ql at e;split at e
 ·rename_i ds hρ;have E1:=E.lend hρ;have hi:i < ρ.length:=(List.getElem?_eq_some_iff.mp hρ).1;obtain⟨a,vs,e1,sq,Y⟩:=Yb E1 (Eu _ hi);exact⟨_,e1,.inl ⟨a,rfl,⟨vs,sq⟩,rQ E1 Y e q⟩⟩
 ·rename_i ds hρ;obtain⟨a,vs,e1,sq,Y⟩:=Yb E hρ;exact⟨_,e1,.inl ⟨a,rfl,⟨vs,sq⟩,rQ E Y e q⟩⟩
 ·rename_i b n1 n2 hρ;obtain⟨ds,ed,e⟩:=bind_some e;obtain⟨v,e1,rb⟩:=E.val i _ hρ;have hf:∀ b o u,H b=some (.sY o u)->gJ H σ ρ b=H b:=λb o u hb=>jz E (λvs z=>by rw[hb] at z;cases z) (λvs z=>by rw[hb] at z;cases z);have ht:∀ b ws,H b=some (.tup ws)->gJ H σ ρ b=H b:=λb ws hb=>jz E (λvs z=>by rw[hb] at z;cases z) (λvs z=>by rw[hb] at z;cases z);cases b with
  |z d=>
   cases d with
   |tup ds'=>
    cases ed;simp only[aU,Rep] at rb;obtain⟨a,vs,rfl,hq,rs⟩:=rb;refine⟨_,e1,.inr (.inl ⟨a,rfl,⟨vs,hq⟩,rQ E (.tup ?_ (rs.part hf ht)) e q⟩)⟩;rcases hq with (hq|⟨o,hq⟩)|hq
    ·exact .inl (.inl ((ht _ _ hq).trans hq))
    ·exact .inl (.inr ⟨o,(hf _ _ _ hq).trans hq⟩)
    ·exact .inr hq
   |lst ds'=>
    cases ed;simp only[aU,Rep] at rb;obtain⟨a,vs,rfl,hq,rs⟩:=rb;refine⟨_,e1,.inl ⟨a,rfl,⟨vs,hq.sq⟩,rQ E (.list ?_ (rs.part hf ht)) e q⟩⟩;rcases hq with⟨o,hq⟩|hq
    ·exact .inl (.inr ⟨o,(hf _ _ _ hq).trans hq⟩)
    ·exact .inr hq
   |str x=>
    cases ed;simp only[aU,Rep] at rb;obtain⟨rfl,_⟩:=rb;exact⟨_,e1,.inr (.inr ⟨x,rfl,rQ E (.str x) e q⟩)⟩
   |_=>cases ed
  |l ds'=>cases ed
  |o ds'=>exact absurd rfl (n1 ds')
  |n ds'=>cases ed
  |m ds'=>cases ed
 ·cases e⟩
end
def SubL (cells:List (Str×Addr)):List (Str×Addr)->Prop
 |[]=>True
 |(n,c)::r=>cells.lookup n=some c/\SubL cells r
theorem SubL.get {cells:List (Str×Addr)}:∀ {cl:List (Str×Addr)},SubL cells cl->∀ {x:Str} {c:Addr},cl.lookup x=some c->cells.lookup x=some c
 |[],_,_,_,e=>by cases e
 |(n,d)::r,h,x,c,e=>by
  rw[List.lookup_cons] at e;by_cases hx:x==n
  ·simp only[hx] at e;cases e;have:x=n:=by simpa using hx
   rw[this];exact h.1
  ·have hx:(x==n)=false:=by simpa using hx
   simp only[hx] at e;exact SubL.get h.2 e
structure Cap (X:Cx) (scope:Scope) (cl:List (Str×Addr)) (x:Str) (i:Nat):Prop where
 n:X.N[i]?=some x
 k:X.env.kindOf x=some .cell\/X.env.kindOf x=some .free
 k':(relabel scope X.env).names.lookup x=some .cell\/(relabel scope X.env).names.lookup x=some .free
 c:∃ c,cl.lookup x=some c
def HB (X:Cx) (scope:Scope) (cl:List (Str×Addr)):LS_->List Nat->Prop
 |[],[]=>True
 |x::xs,i::is=>Cap X scope cl x i/\HB X scope cl xs is
 |_,_=>False
theorem HB.get {X:Cx} {scope:Scope} {cl:List (Str×Addr)}:∀ {xs:LS_} {is:List Nat},HB X scope cl xs is->xs.length=is.length/\∀ (j:Nat) (x:Str),xs[j]?=some x->∃ i,is[j]?=some i/\Cap X scope cl x i
 |[],[],_=>⟨rfl,λj x e=>by simp at e⟩
 |x::xs,i::is,h=>by
  obtain⟨h1,h2⟩:=h;obtain⟨l,g⟩:=HB.get h2;refine⟨by simp[l],λj y e=>?_⟩;cases j with
  |zero=>simp at e;subst e;exact⟨i,rfl,h1⟩
  |succ j=>obtain⟨k,e1,e2⟩:=g j y (by simpa using e);exact⟨k,by simpa using e1,e2⟩
 |[],_::_,h=>h.elim
 |_::_,[],h=>h.elim
def aeE (names:List (Str×NameKind)) (x:Str):Bool:=match names.lookup x with
 |some .cell=>true
 |_=>false
def Hr (X:Cx) (N':LS_) (scope:Scope) (cl:List (Str×Addr)) (C:Addr) (s₀:Shared) (H₀:Hp) (fp:List Addr):Cx:=
 { X with N:=N',s₀:=s₀,H₀:=H₀,env:=compEnvC scope (cellsFrom (C+1) scope.names cl) C X.env,outer:=X.stack,ex:=fp,fn:=aeE scope.names,pn:=[],xe:=λ_ _=>False }
structure aeF (h:Heap) (cs:List (Str×Addr)):Prop where
 inj:∀ x y c,cs.lookup x=some c->cs.lookup y=some c->x=y
 cell:∀ x c,cs.lookup x=some c->∃ v,h.IsCell c v
theorem jX {α:Type} {x n:Str} {a:α} {l:List (Str×α)} (h:x≠n):((n,a)::l).lookup x=l.lookup x:=by
 rw[List.lookup_cons,beq_eq_false_iff_ne.mpr h]
theorem Yc:∀ (names:List (Str×NameKind)) (h:Heap) (acc:List (Str×Addr)),aeF h acc->aeF (pushCells h names) (cellsFrom h.objs.size names acc)
 |[],_,_,x=>x
 |(n,k)::r,h,acc,x=>by
  unfold pushCells cellsFrom;split
  ·have hlt:∀ y c,acc.lookup y=some c->c≠h.objs.size:=λy c e=>let ⟨_,q⟩:=x.cell y c e;zD q.lt;have:=Yc r (h.push { cls:=.type "cell", data:=.cell none }) ((n,h.objs.size)::acc) ⟨λy z c e1 e2=>?_,λy c e=>?_⟩
   ·rwa [qh] at this
   ·by_cases hy:y=n<;>by_cases hz:z=n
    ·rw[hy,hz]
    ·subst hy;rw[ku] at e1;rw[jX hz] at e2;cases e1;exact absurd rfl (hlt _ _ e2)
    ·subst hz;rw[ku] at e2;rw[jX hy] at e1;cases e2;exact absurd rfl (hlt _ _ e1)
    ·rw[jX hy] at e1;rw[jX hz] at e2;exact x.inj y z c e1 e2
   ·by_cases hy:y=n
    ·subst hy;rw[ku] at e;cases e;exact⟨none,_,zv _ rfl,rfl⟩
    ·rw[jX hy] at e;obtain⟨v,q⟩:=x.cell y c e;exact⟨v,q.keeps λb o e=>zd _ e⟩
  ·exact Yc r h acc x
theorem yQ:∀ (names:List (Str×NameKind)) (n:Nat) (acc:List (Str×Addr)) (x:Str) (c:Addr),(cellsFrom n names acc).lookup x=some c->acc.lookup x=some c\/n<=c
 |[],_,_,_,_,e=>.inl e
 |(m,k)::r,n,acc,x,c,e=>by
  unfold cellsFrom at e;split at e
  ·rcases yQ r _ _ x c e with h|h
   ·by_cases hx:x=m
    ·subst hx;rw[ku] at h;cases h;exact .inr (zi _)
    ·rw[jX hx] at h;exact .inl h
   ·exact .inr (by omega)
  ·exact yQ r _ _ x c e
theorem Kv:∀ (names:List (Str×NameKind)) (n:Nat) (acc:List (Str×Addr)) (x:Str),(x,NameKind.cell)∉names->(cellsFrom n names acc).lookup x=acc.lookup x
 |[],_,_,_,_=>rfl
 |(m,k)::r,n,acc,x,h=>by
  unfold cellsFrom;have hr:(x,NameKind.cell)∉r:=λz=>h (zg _ z);split
  ·rename_i hk;rw[Kv r _ _ x hr,jX λz=>h (by rw[z,<-beq_iff_eq.mp hk];exact zh ..)]
  ·exact Kv r _ _ x hr
theorem Rr:∀ (names:List (Str×NameKind)) (n:Nat) (acc:List (Str×Addr)) (x:Str),((x,NameKind.cell)∈names\/∃ c,acc.lookup x=some c)->∃ c,(cellsFrom n names acc).lookup x=some c
 |[],_,_,_,h=>h.elim (λz=>by simp at z) λz=>z
 |(m,k)::r,n,acc,x,h=>by
  unfold cellsFrom;split
  ·refine Rr r _ _ x ?_;by_cases hx:x=m
   ·exact .inr ⟨n,by rw[hx,ku]⟩
   ·rw[jX hx];exact h.imp_left λz=>(List.mem_cons.mp z).elim (λz=>absurd (congrArg Prod.fst z) hx) λz=>z
  ·rename_i hk;exact Rr r _ _ x (h.imp_left λz=>(List.mem_cons.mp z).elim (λz=>by cases z;exact absurd rfl hk) λz=>z)
theorem VG {M:Model} {A:Around} {E:VP_} {s:Shared} {scope:Scope} {g:Addr} {cl:List (Str×Addr)} {qual:Str} {env:Env} {Q:Env->Shared->Prop}
  (h:Q (newEnv scope s.heap.objs.size g (cellsFrom (s.heap.objs.size+1) scope.names cl) qual none .none (some env) builtinsNs) { s with heap:=pushCells (s.heap.push { cls:=.type "dict", data:=.dict #[] }) scope.names }) :
  wpAny M A (newFunctionEnv scope g cl [] qual none .none (some env)) Q E s:=by
 simp only[newFunctionEnv,KS,qA];refine zb (wpAny_alloc ?_);refine zb (wpAny_layCells _ (λname kind cells=>by cases kind==NameKind.cell<;>simp) _ _ _ _ ?_);rw[show({ s with heap:=s.heap.push { cls:=.type "dict", data:=.dict #[] } }:Shared).heap.objs.size=s.heap.objs.size+1 from qh ..];rw[List.forIn_nil];exact zb (ze (ze h))
structure tH (X:Cx) (scope:Scope) (cl:List (Str×Addr)) (xs:LS_) (is:List Nat):Prop where
 clos:closureFor scope X.env=pure cl
 kind:scope.kind=.function
 cell:∀ y∈scope.names,y.2=.cell->cl.lookup y.1=none
 names:∀ y∈scope.names,y.2=.local->scope.names.lookup y.1=some .local
 sub:SubL X.env.cells cl
 has:∀ x,((relabel scope X.env).names.lookup x=some .cell\/(relabel scope X.env).names.lookup x=some .free)->(x,NameKind.cell)∈scope.names\/∃ c,cl.lookup x=some c
 cap:HB X scope cl xs is
def xR (is:List Nat) (σ:L2.St):L2.St:=is.map λi=>(σ[i]?).bind λv=>v
def jQ (is:List Nat) (ρ:Ev):Ev:=is.map λi=>Av ρ i
def TgK (n m:Nat) (g:Dt->Ev->Option Ev):Prop:=∀ d ρ ρ',g d ρ=some ρ'->ρ'.length=ρ.length/\∀ j,j < n\/m<=j->ρ'[j]?=ρ[j]?
def abx (n m:Nat) (g:List Dt->Ev->Option Ev):Prop:=∀ d ρ ρ',g d ρ=some ρ'->ρ'.length=ρ.length/\∀ j,j < n\/m<=j->ρ'[j]?=ρ[j]?
theorem dF {n i m:Nat} (h:n<=i:=by decide) (h':i < m:=by decide):TgK n m (λd ρ=>some (ρ.set i (some (.z d)))):=λd ρ ρ' e=>by
 cases e;exact⟨by rw[ko],λj hj=>Ew _ (by omega)⟩
theorem aby {n m:Nat}:abx n m rP:=λd ρ ρ' e=>by
 cases d with
 |nil=>cases e;exact⟨rfl,λ_ _=>rfl⟩
 |cons=>cases e
theorem yR {n m:Nat} {g:Dt->Ev->Option Ev} {gs:List Dt->Ev->Option Ev} (h:TgK n m g) (hs:abx n m gs):abx n m (bZ g gs):=λd ρ ρ' e=>by
 cases d with
 |nil=>cases e
 |cons d ds=>
  simp only[bZ] at e;obtain⟨ρ1,e1,e⟩:=bind_some e;obtain⟨a,b⟩:=h _ _ _ e1;obtain⟨a',b'⟩:=hs _ _ _ e;exact⟨a'.trans a,λj hj=>(b' j hj).trans (b j hj)⟩
theorem aeG {n m k:Nat} {gs:List Dt->Ev->Option Ev} (hs:abx n m gs):TgK n m (pR k gs):=λd ρ ρ' e=>by
 cases d with
 |tup ds=>
  simp only[pR] at e;split at e
  ·exact hs _ _ _ e
  ·cases e
 |_=>cases e
def CN (gt:Dt->Ev->Option Ev) (p:Ev->Option Bool) (fs:Ev->Option (List Dt)) (ρ:Ev):List Dt->Option (List Dt)
 |[]=>some []
 |d::ds=>(gt d ρ).bind λρ1=>(p ρ1).bind λk=>if k=true then(fs ρ1).bind λys=>(CN gt p fs ρ ds).bind λzs=>some (ys++zs) else CN gt p fs ρ ds
def aeH:Bx->Option (List Dt)
 |.z y=>some [y]
 |_=>none
def BP (gt:Dt->Ev->Option Ev) (p:Ev->Option Bool) (fe:Ev->Option Bx) (ρ:Ev):List Dt->Option (List Dt):=CN gt p (λρ=>(fe ρ).bind aeH) ρ
theorem Ax {b:Bx} {ys:List Dt} (h:aeH b=some ys):∃ y,b=.z y/\ys=[y]:=by
 cases b<;>cases h;exact⟨_,rfl,rfl⟩
theorem wA {gt:Dt->Ev->Option Ev} {p:Ev->Option Bool} {fe:Ev->Option Bx} {ρ:Ev}:∀ {ds out:List Dt},BP gt p fe ρ ds=some out->out.length<=ds.length
 |[],_,e=>by cases e;exact zi _
 |d::ds,out,e=>by
  simp only[BP,CN] at e;obtain⟨ρ1,_,e⟩:=bind_some e;obtain⟨k,_,e⟩:=bind_some e;cases k with
  |false=>
   rw[zw zI] at e;exact Zs (wA (gt:=gt) (p:=p) (fe:=fe) e) (by simp)
  |true=>
   rw[zk rfl] at e;obtain⟨ys,ey,e⟩:=bind_some e;obtain⟨zs,ez,e⟩:=bind_some e;obtain⟨b,_,ey⟩:=bind_some ey;obtain⟨y,_,rfl⟩:=Ax ey;cases e;simpa using wA (gt:=gt) (p:=p) (fe:=fe) ez
def Tests (X:Cx) (ifs:List Expr) (p:Ev->Option Bool):Prop:=(ifs=[]/\p=λ_=>some true)\/∃ c,ifs=[c]/\PB X c p
structure Ay (X:Cx) (ifs:List Expr) (p:Ev->Option Bool):Prop where
 run:Tests X ifs p
section
variable {X:Cx} {elt tgt iter:Expr} {ifs:List Expr} {scope:Scope} {cl:List (Str×Addr)} {pos:Pos} {xs ts:LS_} {is:List Nat} {gt:Dt->Ev->Option Ev} {p:Ev->Option Bool} {fe:Ev->Option Bx} {fi:Ev->Option (List Dt)}
theorem Yd {pins:List (Addr×Obj)} {σ:L2.St} {H3:Hp} {s3:Shared} {fp:List Addr} (I3:L2.Inv X pins σ H3 s3) (O:tH X scope cl xs is)
  (hf:∀ b∈fp,uQ X pins H3 b) (hfl:∀ b∈fp,b < s3.heap.objs.size) :
  L2.Inv (Hr X (xs++ts) scope cl s3.heap.objs.size s3 H3 fp) [] (xR is σ++List.replicate ts.length none) H3 { s3 with heap:=pushCells (s3.heap.push { cls:=.type "dict", data:=.dict #[] }) scope.names }:=by
 obtain⟨hl,hc⟩:=O.cap.get;have hsub:=O.sub;have hsz:(s3.heap.push { cls:=.type "dict", data:=.dict #[] }).objs.size=s3.heap.objs.size+1:=qh ..;have hk:∀ b o,s3.heap.get? b=some o->(pushCells (s3.heap.push { cls:=.type "dict", data:=.dict #[] }) scope.names).get? b=some o:=λb o e=>pushCells_keeps _ _ b o (zd _ e);have cf:aeF (pushCells (s3.heap.push { cls:=.type "dict", data:=.dict #[] }) scope.names) (cellsFrom (s3.heap.objs.size+1) scope.names cl):=by
  rw[<-hsz];refine Yc _ _ _ ⟨λx y c e1 e2=>I3.ok.inj x y c (hsub.get e1) (hsub.get e2),λx c e=>?_⟩;obtain⟨v,q⟩:=I3.cell x c (hsub.get e);exact⟨v,q.keeps λb o e=>zd _ e⟩
 have from':∀ x c,(cellsFrom (s3.heap.objs.size+1) scope.names cl).lookup x=some c->X.env.cells.lookup x=some c\/s3.heap.objs.size < c:=λx c e=>(yQ _ _ _ x c e).imp_left hsub.get;refine⟨⟨I3.ok.mod,O.kind,I3.ok.glob,I3.ok.blt,zi _,cf.inj,λx hx=>Rr _ _ _ x (O.has x hx),λx c hx e=>?_,I3.ok.hd,I3.ok.frames,.inl rfl,λb hb=>⟨zD (hfl b hb),λx c e=>?_⟩,I3.bs,Zs I3.ok.bsz I3.sz,λb o e hb=>?_,λb hb hb'=>?_,I3.stack,I3.Tw⟩,
  rfl,I3.bare,Un.kept hk,⟨_,(Heap.Ns.new s3.heap (.type "dict")).keeps (pushCells_keeps _ _),λj x v e1 e2 _=>?_⟩,cf.cell,I3.hok.fresh (zi _),λx c e=>(from' x c e).elim (I3.qm x c) λh=>I3.hok.fresh (Q3 h),λq hq=>absurd (show q∈([]:List (Addr×Obj)) from hq) (by simp),I3.hok.kept hk,?_⟩
 ·refine(yQ _ _ _ x c e).elim (λh=>?_) λh=>Q3 h;have hx:(x,NameKind.cell)∈scope.names:=by
   have hx:aeE scope.names x=true:=hx;unfold aeE at hx;split at hx
   ·rename_i q;exact mem_of_lookup q
   ·cases hx
  rw[O.cell _ hx rfl] at h;cases h
 ·rcases from' x c e with h|h
  ·exact(hf b hb).2.2.2.2.1 x c h
  ·exact KB (Nat.lt_trans (hfl b hb) h)
 ·obtain⟨_,_,_,z,_⟩:=hf b hb;rcases z with z|z
  ·exact I3.ok.Xh b o e z
  ·exact absurd (ZN (zz e) (Zs I3.ok.bsz z)) (jS _)
 ·obtain⟨_,n1,n2,_⟩:=hf b hb;rcases List.mem_cons.mp (I3.Ka b hb') with z|z
  ·exact n1 z
  ·exact n2 z
 ·have hj:j < is.length:=by
   by_cases hj:j < is.length
   ·exact hj
   ·rw[qi (by simp[xR];omega)] at e2;rw[QE] at e2;split at e2<;>cases e2
  have e1':xs[j]?=some x:=by
   have e1:(xs++ts)[j]?=some x:=e1;rw[ZI (by omega)] at e1;exact e1
  obtain⟨i,ei,hcp⟩:=hc j x e1';have e3:σ[i]?=some (some v):=by
   rw[ZI (by simp[xR];omega)] at e2;unfold xR at e2;rw[Zl,ei] at e2;cases q:σ[i]? with
   |none=>rw[Option.map_some,q] at e2;cases e2
   |some o=>
    rw[Option.map_some,q] at e2;have:o=some v:=by simpa using e2
    rw[this]
  have vis:Tv X.env.scope x:=by
   rcases hcp.k with k|k
   ·exact .inr (.inl k)
   ·exact .inr (.inr k)
  obtain⟨m',hn',hlk⟩:=I3.loc;obtain⟨u,r,l⟩:=hlk i x v hcp.n e3 vis;refine⟨u,r,?_⟩;rcases l with⟨k,_⟩|⟨k,c,ec,ic⟩
  ·rcases hcp.k with k'|k'<;>(rw[k] at k';cases k')
  ·obtain⟨c',ec'⟩:=hcp.c;have:=hsub.get ec';rw[ec] at this;cases this;refine .inr ⟨hcp.k',c,(Kv _ _ _ x λz=>by rw[O.cell _ z rfl] at ec';cases ec').trans ec',?_⟩;obtain⟨o,ho,hd⟩:=ic;exact⟨o,hk c o ho,hd⟩
 ·show(xR is σ++List.replicate ts.length none).length=(xs++ts).length;simp[xR,hl]
theorem bN.caps {K:FG_} {H0 H:Hp} {σ:L2.St} {ρ:Ev} (E:bN K H0 H σ ρ) (is:List Nat) (n:Nat):bN K H H (xR is σ++List.replicate n none) (jQ is ρ++List.replicate n none):=by
 have noO:∀ (j:Nat) c,(jQ is ρ++List.replicate n none)[j]?=some (some c)->uL c=false:=λj c e=>by
  by_cases hj:j < is.length
  ·rw[ZI (by simp[jQ];omega)] at e;unfold jQ at e;rw[Zl] at e;cases q:is[j]? with
   |none=>rw[q] at e;cases e
   |some i=>
    rw[q] at e;have:Av ρ i=some c:=by simpa using e
    exact yO this
  ·rw[qi (by simp[jQ];omega),QE] at e;split at e<;>cases e
 refine⟨by simp[xR,jQ],λj b e=>?_,λj k c a b e ec=>absurd ec (by rw[noO j c e];exact zI),Same.refl H,λj c a e ec=>absurd ec (by rw[noO j c e];exact zI)⟩;by_cases hj:j < is.length
 ·rw[ZI (by simp[jQ];omega)] at e;rw[ZI (by simp[xR];omega)];unfold jQ at e;unfold xR;rw[Zl] at e ⊢;cases q:is[j]? with
  |none=>rw[q] at e;cases e
  |some i=>
   rw[q] at e;have:Av ρ i=some b:=by simpa using e
   obtain⟨v,e1,r⟩:=NP E this;exact⟨v,by simp[e1],r⟩
 ·rw[qi (by simp[jQ];omega),QE] at e;split at e<;>cases e
theorem bN.forget {K:FG_} {H0 H:Hp} {σ:L2.St} {ρ ρ':Ev} (E:bN K H0 H σ ρ') (hl:ρ'.length=ρ.length) (h:∀ (j:Nat) b,ρ[j]?=some (some b)->ρ'[j]?=some (some b)):bN K H0 H σ ρ:=
 ⟨E.len.trans hl,λj b e=>E.val j b (h j b e),λi j c a b e1 ec e2 e3 e4 e5=>E.own i j c a b (h _ _ e1) ec e2 (h _ _ e3) e4 e5,E.base,λi c a e1 ec e2=>E.new i c a (h _ _ e1) ec e2⟩
structure Apt (Hb:Hp) (σ:L2.St) (ρ:Ev) (n:Nat):Prop where
 own:∀ (j:Nat) c,ρ[j]?=some (some c)->uL c=false
 lt:∀ (j:Nat) b,ρ[j]?=some (some b)->j < n
 old:∀ (j:Nat) c a,ρ[j]?=some (some c)->loose c=true->σ[j]?=some (some (.ref a))->Hb a≠none
def Fx (σ σ':L2.St) (ρ:Ev):Prop:=∀ (j:Nat) c,loose c=true->ρ[j]?=some (some c)->σ'[j]?=σ[j]?
theorem Apt.fx {Hb:Hp} {σ σ':L2.St} {ρ:Ev} {n:Nat} (P:Apt Hb σ ρ n) (f:Fx σ σ' ρ):Apt Hb σ' ρ n:=⟨P.own,P.lt,λj c a e hl ea=>P.old j c a e hl (by rw[<-f j c hl e];exact ea)⟩
theorem known {K:FG_} {H0 H:Hp} {σ:L2.St} {ρ:Ev} (E:bN K H0 H σ ρ) (j:Nat) (c:Bx) (a:Addr) (e:ρ[j]?=some (some c)) (hl:loose c=true) (ea:σ[j]?=some (some (.ref a))):H a≠none:=λz=>by
 obtain⟨v,e1,rc⟩:=E.val j _ e;rw[ea] at e1;cases e1;cases c with
 |z d=>cases hl
 |l dz=>
  obtain⟨a',vs,e2,q,_⟩:=rc;cases e2;rcases q with q|⟨o,q⟩<;>(rw[z] at q;cases q)
 |n dz=>
  obtain⟨a',vs,e2,q,_⟩:=rc;cases e2;rcases q with q|⟨o,q⟩<;>(rw[z] at q;cases q)
 |o dz=>
  obtain⟨a',vs,e2,q,_⟩:=rc;cases e2;rw[z] at q;cases q
 |m dz _=>
  obtain⟨a',vs,e2,q,_⟩:=rc;cases e2;rw[z] at q;cases q
theorem bN.grown {K:FG_} {Hb H:Hp} {σ:L2.St} {ρ:Ev} {n:Nat} {D:Addr} {o:HO} (E:bN K Hb H σ ρ) (P:Apt Hb σ ρ n) (hD:Hb D=none) (kp:Kp H (upd H D o)):bN K Hb (upd H D o) σ ρ:=by
 refine⟨E.len,λj b e=>?_,λj k c a b e ec=>absurd ec (by rw[P.own j c e];exact zI),λc o e=>?_,λj c a e ec=>absurd ec (by rw[P.own j c e];exact zI)⟩
 ·obtain⟨v,ev,rb⟩:=E.val j b e;refine⟨v,ev,?_⟩;cases b with
  |z d=>exact Rep.kp kp rb
  |o dz=>have:=P.own j _ e;cases this
  |m dz _=>have:=P.own j _ e;cases this
  |n dz=>
   obtain⟨a,vs,rfl,q,rr⟩:=rb;refine⟨a,vs,rfl,?_,rr.kp kp⟩;have ha:a≠D:=λz=>P.old j _ _ e rfl ev (by rw[z];exact hD);exact q.imp (λq=>by rw[aR ha];exact q) λ⟨o,q⟩=>⟨o,by rw[aR ha];exact q⟩
  |l dz=>
   obtain⟨a,vs,rfl,q,rr⟩:=rb;refine⟨a,vs,rfl,?_,rr.kp kp⟩;have ha:a≠D:=λz=>P.old j _ _ e rfl ev (by rw[z];exact hD);exact q.imp (λq=>by rw[aR ha];exact q) λ⟨o,q⟩=>⟨o,by rw[aR ha];exact q⟩
 ·rw[aR (dR e hD)];exact E.base c o e
def Ye (X:Cx) (el:Addr->Env->Sem Unit) (fs:Ev->Option (List Dt)) (Ac:Addr->Hp->List Dt->HO->Prop) (N n:Nat):Prop:=∀ (pins:List (Addr×Obj)) (s:Shared) (σ:L2.St) (H Hb:Hp) (ρ:Ev) (D:Addr) (o:HO) (o1 ys:List Dt),L2.Inv X pins σ H s->bN X.K Hb H σ ρ->Apt Hb σ ρ n->Hb D=none->fs ρ=some ys->H D=some o->Ac D H o1 o->o1.length+ys.length<=N →
 wpAny (model X.prog X.w) X.A (el D X.env) (λ_ s'=>∃ σ' H' o',L2.Inv X pins σ' H' s'/\bN X.K Hb H' σ' ρ/\Fx σ σ' ρ/\H' D=some o'/\Ac D H' (o1++ys) o') X.xe s
theorem Yg {el:Addr->Env->Sem Unit} {fs:Ev->Option (List Dt)} {Ac:Addr->Hp->List Dt->HO->Prop} {N n:Nat} (h:∀ (pins:List (Addr×Obj)) (s:Shared) (σ:L2.St) (H Hb:Hp) (ρ:Ev) (D:Addr) (o:HO) (o1 ys:List Dt),L2.Inv X pins σ H s->bN X.K Hb H σ ρ->fs ρ=some ys->H D=some o->Ac D H o1 o->o1.length+ys.length<=N →
  wpAny (model X.prog X.w) X.A (el D X.env) (λ_ s'=>∃ H9 o',L2.Inv X pins σ (upd H9 D o') s'/\Same H H9/\Kp H9 (upd H9 D o')/\Ac D (upd H9 D o') (o1++ys) o') X.xe s):Ye X el fs Ac N n:=λpins s σ H Hb ρ D o o1 ys I E P hD e1 e2 a1 l=>by
 refine qS (h pins s σ H Hb ρ D o o1 ys I E e1 e2 a1 l) (λ_ s' ⟨H9,o',I',s9,kp,a'⟩=>?_) λ_ _ z=>z;exact⟨σ,_,o',I',(E.grow s9).grown P hD kp,λ_ _ _ _=>rfl,bG,a'⟩
theorem VH {comp:Expr} {d:Nat} {ipos:Pos} {Ac:Addr->Hp->List Dt->HO->Prop} {el:Addr->Env->Sem Unit} {fs:Ev->Option (List Dt)} {N n m:Nat} {pins:List (Addr×Obj)} {σ:L2.St} {H Hb:Hp} {s:Shared} {it D:Addr} {fp:List Addr} {tn:Nat->Heap->Prop} {J:It} {ds o0 out:List Dt} {o:HO} {ρ:Ev} {R:Result->Shared->Prop}
  (hcalm:X.calm=true) (hx:X.xe=λ_ _=>False) (Ni:PTg X tgt gt) (hif:Tests X ifs p) (hel:Ye X el fs Ac N m) (htk:TgK n m gt) (hnm:n<=m)
  (I:L2.Inv X pins σ H s) (E:bN X.K Hb H σ ρ) (P:Apt Hb σ ρ n) (hD:Hb D=none) (hHD:H D=some o) (hA:Ac D H o0 o)
  (T:Turn X.prog X.w X.K tgt J fp it tn) (st:tn 0 s.heap) (hf:∀ b∈fp,uQ X pins H b) (Y:Yields X.K J ds Hb)
  (hout:CN gt p fs ρ ds=some out) (hN:o0.length+out.length<=N)
  (hAk:∀ {D:Addr} {H H':Hp} {o1:List Dt} {o:HO},Kp H H'->Ac D H o1 o->Ac D H' o1 o)
  (hturn:∀ (it:Value) (D:Addr) (env:Env),compTurn comp d it (.ref D) env=(standAt ipos >>= λ_=>pyNext it >>= λr=>match r with
   |none=>pure (.done .next)
   |some v=>letOwnedTupleGo tgt it v >>= λ_=>assign tgt env v >>= λ_=>(forIn ifs true λc r=>if r=true then isTrue c env (eval c env) >>= λok=>pure (ForInStep.yield ok) else pure (ForInStep.yield r)) >>= λok=>if ok=true then el D env >>= λ_=>again (.compLoop comp d it (.ref D) env) else again (.compLoop comp d it (.ref D) env)))
  (hsh:∀ {it acc:Value} {env:Env} {Q:Fin->Shared->Prop} {E:VP_} {s:Shared},wpAny (model X.prog X.w) X.A ((compTurn comp d it acc env).onRaise (λx=>noteFrame x env >>= λ_=>theTreesLotGoes x)) Q E s->wpAny (model X.prog X.w) (X.A.under (.compLoop comp d it acc env)) ((model X.prog X.w).den (.compLoop comp d it acc env)) Q E s)
  (hR:∀ s' σ' H' o',L2.Inv X pins σ' H' s'->bN X.K Hb H' σ' ρ->Fx σ σ' ρ->H' D=some o'->Ac D H' (o0++out) o'->R (.ok .next) s') :
  codeAny (model X.prog X.w) X.A (.compLoop comp d (.ref it) (.ref D) X.env) R s:=by
 have hfC:∀ {H':Hp},(∀ b∈fp,H' b=none)->∀ b∈fp,uQ X pins H' b:=λ{H'} hn b hb=>⟨hn b hb,(hf b hb).2⟩;refine codeAny_loop rfl (λk s'=>∃ (i:Nat) (σ':L2.St) (H':Hp) (o1 o2:List Dt) (o:HO),k=ds.length - i/\i<=ds.length/\L2.Inv X pins σ' H' s'/\tn i s'.heap/\(∀ b∈fp,H' b=none)/\bN X.K Hb H' σ' ρ/\Fx σ σ' ρ/\H' D=some o/\Ac D H' o1 o/\CN gt p fs ρ (ds.drop i)=some o2/\o1++o2=o0++out) ?_ ds.length
  ⟨0,σ,H,o0,out,o,by simp,QI _,I,st,λb hb=>(hf b hb).1,E,λ_ _ _ _=>rfl,hHD,hA,by simpa using hout,rfl⟩
 rintro k s4 ⟨i,σ4,H4,o1,o2,o,rfl,hi,I4,st4,fr4,E4,F4,hD4,r4,e4,ho⟩;have P4:=P.fx F4;refine hsh (wpAny_noted ?_);rw[hturn];obtain⟨y1,y2⟩:=Y i H4 E4.base;by_cases hlt:i < ds.length
 ·have hd:ds[i]?=some ds[i]:=by simp[hlt]
  obtain⟨go,yl⟩:=y1 _ hd;rw[List.drop_eq_getElem_cons hlt] at e4;simp only[CN] at e4;obtain⟨ρ1,e1,e4⟩:=bind_some e4;obtain⟨k,ek,e4⟩:=bind_some e4;obtain⟨hl1,hk1⟩:=htk _ _ _ e1;have back:∀ {σ5:L2.St} {H5:Hp},bN X.K Hb H5 σ5 ρ1->bN X.K Hb H5 σ5 ρ:=λE5=>E5.forget hl1 λj b e=>by rw[hk1 j (.inl (P.lt j b e))];exact e
  refine zb (yb (zb ?_));refine jd (T.item X rfl rfl rfl hcalm i pins s4 σ4 H4 _ I4 (hfC fr4) st4 go) λr s5 ⟨u,hr,h5⟩=>?_;subst hr;refine zb (jd h5 λ_ s6 ⟨x,H6,I6,r6,y6,st6,fr6⟩=>?_);obtain⟨sm,rx⟩:=yl x H6 y6;have E4:=E4.grow sm;have hD4:=sm _ _ hD4;have r4:=hAk (.of sm) r4;have I6':=I6.pinned (hfC fr6) (T.obj _ _ st6);have ha:=Ni _ s6 σ4 H6 x u (λσ' H'=>H'=H6/\bN X.K Hb H6 σ' ρ1/\Lo σ4 ρ σ' ρ1) I6' r6 ⟨Hb,ρ,ds[i],ρ1,E4,rx,e1,λσ' E' L'=>⟨rfl,E',L'⟩⟩;rw[hx] at ha;refine zb (qS ha (λ_ s7 h7=>?_) λ_ _ z=>z.elim);obtain⟨σ7,H7,I7,rfl,E7,L7⟩:=h7;have P7:Apt Hb σ7 ρ1 m:=by
   refine⟨λj c e=>?_,λj c e=>?_,λj c a e hl ea=>?_⟩
   ·cases c with
    |o ds=>exact P.own j _ (L7 j _ rfl e).1
    |m ds _=>exact P.own j _ (L7 j _ rfl e).1
    |_=>rfl
   ·refine Nat.lt_of_not_le λh=>?_;rw[hk1 j (.inr h)] at e;exact absurd (ZN (P.lt j c e) hnm) (Nat.not_lt.mpr h)
   ·obtain⟨e',ee⟩:=L7 j c hl e;exact P4.old j c a e' hl (by rw[<-ee];exact ea)
  have adi:∀ {σ5:L2.St},Fx σ7 σ5 ρ1->Fx σ σ5 ρ:=λf j c hl e=>by
   have e':ρ1[j]?=some (some c):=by rw[hk1 j (.inl (P.lt j c e))];exact e
   exact(f j c hl e').trans ((L7 j c hl e').2.trans (F4 j c hl e))
  have ht:wpAny (model X.prog X.w) X.A (forIn ifs true λc r=>if r=true then do let ok <-isTrue c X.env (eval c X.env);pure (ForInStep.yield ok) else pure (ForInStep.yield r))
    (λok s8=>ok=k/\∃ H8,L2.Inv X (pins++Al fp s6.heap) σ7 H8 s8/\Same H7 H8) (notedBy (model X.prog X.w) X.A X.env λe s'=>R (.error e) s') s7:=by
   rcases hif with⟨rfl,rfl⟩|⟨c,rfl,hc⟩
   ·cases ek;exact wpAny_tests_nil ⟨rfl,H7,I7,Same.refl H7⟩
   ·refine wpAny_tests_one ?_;have:=hc _ s7 σ7 H7 (λb H8=>b=k/\Same H7 H8) I7 ⟨Hb,ρ1,k,E7,ek,λH8 s8=>⟨rfl,s8⟩⟩;rw[hx] at this;exact qS this (λb s8 ⟨H8,I8,eb,s8'⟩=>⟨eb,H8,I8,s8'⟩) λ_ _ z=>z.elim
  refine zb (qS ht (λok s8 h8=>?_) λ_ _ z=>z);obtain⟨rfl,H8,I8,s78⟩:=h8;have Yh:∀ {σ9:L2.St} {H9:Hp} {s9:Shared},L2.Inv X (pins++Al fp s6.heap) σ9 H9 s9->L2.Inv X pins σ9 H9 s9/\tn (i+1) s9.heap/\∀ b∈fp,H9 b=none:=λ{σ9 H9 s9} I9=>by
   refine⟨I9.uR,T.keep _ _ _ st6 λb hb o e=>(I9.pin (b,o) (qc _ (qc _ (tu hb e)))).1,λb hb=>?_⟩;obtain⟨o,e,d⟩:=T.obj _ _ st6 b hb;exact(I9.pin (b,o) (qc _ (qc _ (tu hb e)))).2.1
  cases ok with
  |false=>
   rw[zw zI] at e4;obtain⟨I9,st9,fr9⟩:=Yh I8;exact ze ⟨rfl,ds.length - (i+1),by omega,i+1,σ7,H8,o1,o2,o,rfl,hlt,I9,st9,fr9,back (E7.grow s78),adi (λ_ _ _ _=>rfl),s78 _ _ hD4,hAk (.of s78) r4,e4,ho⟩
  |true=>
   rw[zk rfl] at e4;obtain⟨ys,eb,e4⟩:=bind_some e4;obtain⟨zs,e5,e4⟩:=bind_some e4;cases e4;have hl:=congrArg List.length ho;simp only[zS] at hl;have he:=hel _ s8 σ7 H8 Hb ρ1 D o o1 ys I8 (E7.grow s78) P7 hD eb (s78 _ _ hD4) (hAk (.of s78) r4) (by omega);rw[hx] at he;refine zb (qS he (λ_ s10 h10=>?_) λ_ _ z=>z.elim);obtain⟨σ9,H9,o',I10,E9,F9,hD9,a5⟩:=h10;obtain⟨I11,aiI,aiJ⟩:=Yh I10;exact ze ⟨rfl,ds.length - (i+1),by omega,i+1,σ9,H9,o1++ys,zs,o',rfl,hlt,I11,aiI,aiJ,back E9,adi F9,hD9,a5,e5,by rw[Q4];exact ho⟩
 ·have hge:ds.length<=i:=by omega
  rw[List.drop_eq_nil_of_le hge] at e4;cases e4;refine zb (yb (zb ?_));refine jd (T.done X rfl rfl rfl hcalm i pins s4 σ4 H4 _ I4 (hfC fr4) st4 (y2 hge)) λr s5 ⟨hr,I5⟩=>?_;subst hr;rw[JP] at ho;exact ze (hR s5 σ4 H4 o I5 E4 F4 hD4 (by rw[<-ho];exact r4))
theorem Jq {comp:Expr} {mk:Sem Value} {o0:Obj} {O0:HO} {Ac:Addr->Hp->List Dt->HO->Prop} {el:Addr->Env->Sem Unit} {fs:Ev->Option (List Dt)} {N m:Nat} {pins:List (Addr×Obj)} {σ:L2.St} {H2:Hp} {s2:Shared} {it:Addr} {fp:List Addr} {tn:Nat->Heap->Prop} {J:It} {ds out:List Dt} {ρ:Ev} {RR:Value->Addr->Result->Shared->Prop} {E:VP_}
  (O:tH X scope cl xs is) (hcalm:X.calm=true)
  (Ni:∀ C s₀ H₀ fp,PTg (Hr X (xs++ts) scope cl C s₀ H₀ fp) tgt gt) (hif:∀ C s₀ H₀ fp,Tests (Hr X (xs++ts) scope cl C s₀ H₀ fp) ifs p) (helt:∀ C s₀ H₀ fp,Ye (Hr X (xs++ts) scope cl C s₀ H₀ fp) el fs Ac N m) (htk:TgK is.length m gt) (hnm:is.length<=m)
  (I2:L2.Inv X pins σ H2 s2) (Ec:bN X.K H2 H2 (xR is σ++List.replicate ts.length none) (jQ is ρ++List.replicate ts.length none)) (T:Turn X.prog X.w X.K tgt J fp it tn) (st:tn 0 s2.heap) (hf:∀ b∈fp,uQ X pins H2 b) (Y:Yields X.K J ds H2)
  (hout:CN gt p fs (jQ is ρ++List.replicate ts.length none) ds=some out) (hlen:out.length<=N)
  (hRR:∀ (D C:Addr) (s':Shared) (H':Hp) (o:HO),H2 D=none->L2.Inv X pins σ H' s'->uQ X pins H' C->(∃ m,s'.heap.Ns C m)->Same H2 H'->H' D=some o->Ac D H' out o->RR (.ref D) C (.ok .next) s')
  (hmk:∀ {Q:VP_},Q (.ref s2.heap.objs.size) { s2 with heap:=s2.heap.push o0 }->wpAny (model X.prog X.w) X.A mk Q E s2) (hO0:∀ H,gQ X.prog X.w H (s2.heap.push o0) s2.heap.objs.size O0) (hA0:∀ H,Ac s2.heap.objs.size H [] O0)
  (hAk:∀ {D:Addr} {H H':Hp} {o1:List Dt} {o:HO},Kp H H'->Ac D H o1 o->Ac D H' o1 o)
  (hturn:∀ (it:Value) (D:Addr) (env:Env),compTurn comp 0 it (.ref D) env=(standAt iter.pos >>= λ_=>pyNext it >>= λr=>match r with
   |none=>pure (.done .next)
   |some v=>letOwnedTupleGo tgt it v >>= λ_=>assign tgt env v >>= λ_=>(forIn ifs true λc r=>if r=true then isTrue c env (eval c env) >>= λok=>pure (ForInStep.yield ok) else pure (ForInStep.yield r)) >>= λok=>if ok=true then el D env >>= λ_=>again (.compLoop comp 0 it (.ref D) env) else again (.compLoop comp 0 it (.ref D) env)))
  (hstart:∀ {it acc:Value} {env:Env} {R:Result->Shared->Prop} {s:Shared},codeAny (model X.prog X.w) X.A (.compLoop comp 0 it acc env) R s->wpAny (model X.prog X.w) X.A (pyIter it) (λit' s'=>codeAny (model X.prog X.w) X.A (.compLoop comp 0 it' acc env) R s') (notedBy (model X.prog X.w) X.A env λx s'=>R (.error x) s') s->codeAny (model X.prog X.w) X.A (.compStart comp 0 it acc env) R s)
  (hsh:∀ {it acc:Value} {env:Env} {Q:Fin->Shared->Prop} {E:VP_} {s:Shared},wpAny (model X.prog X.w) X.A ((compTurn comp 0 it acc env).onRaise (λx=>noteFrame x env >>= λ_=>theTreesLotGoes x)) Q E s->wpAny (model X.prog X.w) (X.A.under (.compLoop comp 0 it acc env)) ((model X.prog X.w).den (.compLoop comp 0 it acc env)) Q E s) :
  wpAny (model X.prog X.w) X.A mk (λacc s₃=>wpAny (model X.prog X.w) X.A (newFunctionEnv scope X.env.globals cl [] X.env.qual none .none (some X.env)) (λcenv s₄=>
   codeAny (model X.prog X.w) X.A (.compStart comp 0 (.ref it) acc { cenv with scope:=relabel scope X.env }) (RR acc cenv.locals) s₄) E s₃) E s2:=by
 refine hmk (VG ?_);have hD:H2 s2.heap.objs.size=none:=I2.hok.fresh (zi _);have I3:L2.Inv X pins σ (upd H2 s2.heap.objs.size O0) { s2 with heap:=s2.heap.push o0 }:=
  I2.laid (t':=s2.toks) (λb o e=>zd _ e) (zi _) (hO0 _)
 have ag0:∀ b∈fp,b < s2.heap.objs.size:=λb hb=>let ⟨o,e,_⟩:=T.obj 0 _ st b hb;zz e;have hf3:∀ b∈fp,uQ X pins (upd H2 s2.heap.objs.size O0) b:=λb hb=>⟨by rw[aR (zD (ag0 b hb))];exact(hf b hb).1,(hf b hb).2⟩;have st3:tn 0 (s2.heap.push o0):=T.keep 0 _ _ st λb hb o e=>zd _ e;have abz:∀ b∈fp,b < (s2.heap.push o0).objs.size:=λb hb=>by rw[qh];exact qE (ag0 b hb)
 generalize hs3:({ s2 with heap:=s2.heap.push o0 }:Shared)=s3 at *
 have aiL:s3.heap=s2.heap.push o0:=by rw[<-hs3]
 rw[<-aiL] at st3 abz;have IC:=Yd (ts:=ts) I3 O hf3 abz;have st1:tn 0 (pushCells (s3.heap.push { cls:=.type "dict", data:=.dict #[] }) scope.names):=T.keep 0 _ _ st3 λb hb o e=>pushCells_keeps _ _ b o (zd _ e);have hfC:∀ b∈fp,uQ (Hr X (xs++ts) scope cl s3.heap.objs.size s3 (upd H2 s2.heap.objs.size O0) fp) [] (upd H2 s2.heap.objs.size O0) b:=λb hb=>by
  obtain⟨f0,f1,f2,f3,f4,f5⟩:=hf3 b hb;refine⟨f0,zD (abz b hb),λz=>?_,.inl hb,λx c e z=>?_,λq hq=>absurd (show q∈([]:List (Addr×Obj)) from hq) (by simp)⟩
  ·rcases List.mem_cons.mp (I3.Ka b z) with q|q
   ·exact f1 q
   ·exact f2 q
  ·rcases yQ _ _ _ x c e with h|h
   ·exact f4 x c (O.sub.get h) z
   ·rw[z] at h;exact absurd (ZN (abz b hb) (Nat.le_of_succ_le h)) (jS _)
 have P0:Apt H2 (xR is σ++List.replicate ts.length none) (jQ is ρ++List.replicate ts.length none) is.length:=by
  have g:∀ (j:Nat) c,(jQ is ρ++List.replicate ts.length none)[j]?=some (some c)->j < is.length/\uL c=false:=λj c e=>by
   by_cases hj:j < is.length
   ·refine⟨hj,?_⟩;rw[ZI (by simp[jQ];omega)] at e;unfold jQ at e;rw[Zl] at e;cases q:is[j]? with
    |none=>rw[q] at e;cases e
    |some i=>rw[q] at e;exact yO (by simpa using e)
   ·rw[qi (by simp[jQ];omega),QE] at e;split at e<;>cases e
  exact⟨λj c e=>(g j c e).2,λj c e=>(g j c e).1,known Ec⟩
 have h:=VH (X:=Hr X (xs++ts) scope cl s3.heap.objs.size s3 (upd H2 s2.heap.objs.size O0) fp) (R:=RR (.ref s2.heap.objs.size) s3.heap.objs.size) (o0:=[]) hcalm rfl (Ni _ _ _ _) (hif _ _ _ _) (helt _ _ _ _) htk hnm IC (Ec.grow (bQ hD)) P0 hD bG (hA0 _) T st1 hfC Y hout (by simpa using hlen) hAk hturn hsh λs5 σ5 H5 o5 I5 E5 _ hD5 a5=>by
  have IB:L2.Inv X pins σ H5 s5:=I3.call' (ch:=fp) I5.os I5.base I5.hok I5.bare λb hb=>by
   obtain⟨f0,f1,f2,f3,f4,f5⟩:=hf3 b hb;exact⟨f3,f1,f4,f5⟩
  obtain⟨m,hn,_⟩:=I5.loc;exact hRR _ _ s5 H5 o5 hD IB (I3.Xn (zi _) I5.free) ⟨m,hn⟩ E5.base hD5 a5
 exact hstart h (T.self _ 0 _ _ _ st1 h)
def AcL (K:FG_) (_:Addr) (H:Hp) (o1:List Dt) (o:HO):Prop:=∃ us,o=.lst us/\aK K H o1 us
theorem AcL.kp {K:FG_} {D:Addr} {H H':Hp} {o1:List Dt} {o:HO} (k:Kp H H'):AcL K D H o1 o->AcL K D H' o1 o:=λ⟨us,e,r⟩=>⟨us,e,r.kp k⟩
def ag1 (fe:Ev->Option Bx):Ev->Option (List Dt):=λρ=>(fe ρ).bind aeH
theorem abA {n:Nat} (h:PV X elt fe):Ye X (λD env=>do let _ <-call (.builtin "list.append") [.ref D,<-eval elt env]) (ag1 fe) (AcL X.K) 100000 n:=by
 refine Yg λpins s σ H Hb ρ D o o1 ys I En ee hD ⟨us,e,r4⟩ hl=>?_;subst e;obtain⟨b,eb,ee⟩:=bind_some ee;obtain⟨y,rfl,rfl⟩:=Ax ee;refine zb (qS (h pins s σ H (λv H9=>Same H H9/\Rep X.K H9 y v) I ⟨Hb,ρ,_,En,eb,λv H9 s9 _ r9=>⟨s9,r9⟩⟩) (λv s9 h9=>?_) λ_ _ z=>z);obtain⟨v',H9,I9,rv,s89,r9⟩:=h9;have hD9:=s89 _ _ hD;refine zb (qS ((Jo (X:=X)) _ s9 σ H9 (.ref D) [v'] (.ref D) [v] (λw H10=>H10=upd H9 D (.lst (us++[v']))) I9 rfl (.cons rv .nil) ⟨_,us,v',rfl,rfl,hD9,by rw[r4.length];have h0:(100000:Nat) < sizeLine:=(by decide);simp at hl;omega,rfl⟩) (λw s10 h10=>?_) λ_ _ z=>z);obtain⟨w',H10,I10,_,rfl⟩:=h10;have kp:Kp H9 (upd H9 D (.lst (us++[v']))):=.lst hD9;exact ze ⟨H9,_,I10,s89,kp,us++[v'],rfl,((r4.kp (.of s89)).append (aK.cons r9 aK.nil)).kp kp⟩
theorem yU {pins:List (Addr×Obj)} {σ:L2.St} {H2:Hp} {s2:Shared} {it:Addr} {fp:List Addr} {tn:Nat->Heap->Prop} {J:It} {ds out:List Dt} {ρ:Ev} {RR:Value->Addr->Result->Shared->Prop} {E:VP_}
  (O:tH X scope cl xs is) (hcalm:X.calm=true)
  (Ni:∀ C s₀ H₀ fp,PTg (Hr X (xs++ts) scope cl C s₀ H₀ fp) tgt gt) (hif:∀ C s₀ H₀ fp,Tests (Hr X (xs++ts) scope cl C s₀ H₀ fp) ifs p) (helt:∀ C s₀ H₀ fp,PV (Hr X (xs++ts) scope cl C s₀ H₀ fp) elt fe) (htk:TgK is.length (is.length+ts.length) gt)
  (I2:L2.Inv X pins σ H2 s2) (Ec:bN X.K H2 H2 (xR is σ++List.replicate ts.length none) (jQ is ρ++List.replicate ts.length none)) (T:Turn X.prog X.w X.K tgt J fp it tn) (st:tn 0 s2.heap) (hf:∀ b∈fp,uQ X pins H2 b) (Y:Yields X.K J ds H2)
  (hlen:ds.length<=100000) (hout:BP gt p fe (jQ is ρ++List.replicate ts.length none) ds=some out)
  (hRR:∀ (D C:Addr) (s':Shared) (H':Hp) (us:List V),H2 D=none->L2.Inv X pins σ H' s'->uQ X pins H' C->(∃ m,s'.heap.Ns C m)->Same H2 H'->H' D=some (.lst us)->aK X.K H' out us->RR (.ref D) C (.ok .next) s') :
  wpAny (model X.prog X.w) X.A (newList []) (λacc s₃=>wpAny (model X.prog X.w) X.A (newFunctionEnv scope X.env.globals cl [] X.env.qual none .none (some X.env)) (λcenv s₄=>
   codeAny (model X.prog X.w) X.A (.compStart (.ListComp elt [⟨tgt,iter,ifs,0⟩] scope pos) 0 (.ref it) acc { cenv with scope:=relabel scope X.env }) (RR acc cenv.locals) s₄) E s₃) E s2:=
 Jq (Ac:=AcL X.K) (O0:=.lst []) (N:=100000) O hcalm Ni hif (λC s₀ H₀ fp=>abA (helt C s₀ H₀ fp)) htk (Nat.le_add_right ..) I2 Ec T st hf Y hout (Zs (wA hout) hlen) (λD C s' H' o a b c d e f g=>by obtain⟨us,rfl,r⟩:=g;exact hRR D C s' H' us a b c d e f r)
  qq (λ_=>⟨QI _,[],0,.nil,zv _ rfl⟩) (λ_=>⟨[],rfl,aK.nil⟩) AcL.kp (λ_ _ _=>rfl) codeAny_compStart_list λh=>h
end
def iC (K:FG_) (f:Ev->Option (List Dt)):TI:=λσ H R=>∃ H0 ρ ds,bN K H0 H σ ρ/\f ρ=some ds/\∀ J H',Same H H'->Yields K J ds H'->R J H'
def PIC (X:Cx) (tg iter:Expr) (f:Ev->Option (List Dt)):Prop:=PI X tg iter (iC X.K f)
structure QIC (X:Cx) (tg iter:Expr) (f:Ev->Option (List Dt)):Prop where
 run:PIC X tg iter f
def Yi:Bx->Option (List Dt)
 |.z (.lst ds)=>some ds
 |.z (.tup ds)=>some ds
 |.z (.str x)=>some (signs x)
 |.o ds=>some ds
 |.l ds=>some ds
 |_=>none
section
variable {X:Cx} {e elt tgt iter:Expr} {es ifs:List Expr} {f:Ev->Option Bx} {fs:Ev->Option (List Bx)} {scope:Scope} {cl:List (Str×Addr)} {pos:Pos} {xs ts:LS_} {is:List Nat} {gt:Dt->Ev->Option Ev} {p:Ev->Option Bool} {fe:Ev->Option Bx} {fi:Ev->Option (List Dt)}
theorem aeK (h:QIF X tgt iter fi):QIC X tgt iter fi:=⟨have h:=h.run;λpins s σ H R I q=>by
 obtain⟨H0,ρ,ds,E,e,q⟩:=q;exact h pins s σ H R I ⟨H0,ρ,ds,E,e,λJ H' s' y=>q J H' s' (y H' (Same.refl H') (λ_ _=>rfl) (λ_ _ _ _=>rfl) λ_ _ _=>rfl)⟩⟩
theorem fY (h:QV X e f):QIC X tgt e (λρ=>(f ρ).bind Yi):=⟨have h:=h.run;λpins s σ H R I q=>by
 refine Rq h pins s σ H R I ?_;obtain⟨H0,ρ,ds,E,e,q⟩:=q;obtain⟨b,eb,e⟩:=bind_some e;refine⟨H0,ρ,b,E,eb,λv H1 s1 n1 r1=>?_⟩;cases b with
 |z d=>
  cases d with
  |tup ds'=>
   cases e;simp only[aU,Rep] at r1;obtain⟨a,vs,rfl,hq,rs⟩:=r1;exact .inr (.inl ⟨a,rfl,⟨vs,hq⟩,q _ _ s1 (.tup hq rs)⟩)
  |lst ds'=>
   cases e;obtain⟨a,vs,rfl,hq,rs⟩:=r1.Hx rfl;exact .inl ⟨a,rfl,⟨vs,hq⟩,q _ _ s1 (.list hq rs)⟩
  |str x=>
   cases e;simp only[aU,Rep] at r1;obtain⟨rfl,_⟩:=r1;exact .inr (.inr ⟨x,rfl,q _ _ s1 (.str x)⟩)
  |_=>cases e
 |l ds'=>
  cases e;obtain⟨a,vs,rfl,hq,rs⟩:=r1.Hx rfl;exact .inl ⟨a,rfl,⟨vs,hq⟩,q _ _ s1 (.list hq rs)⟩
 |o ds'=>
  cases e;obtain⟨a,vs,rfl,hq,rs⟩:=r1.Hx rfl;exact .inl ⟨a,rfl,⟨vs,hq⟩,q _ _ s1 (.list hq rs)⟩
 |n _=>cases e
 |m _ _=>cases e⟩
def eE (fi:Ev->Option (List Dt)) (gt:Dt->Ev->Option Ev) (p:Ev->Option Bool) (fe:Ev->Option Bx) (is:List Nat) (n:Nat):Ev->Option Bx:=λρ=>(fi ρ).bind λds=>
 if ds.length<=100000 then(BP gt p fe (jQ is ρ++List.replicate n none) ds).bind λout=>some (.o out) else none
theorem iQ (ts:LS_) (O:tH X scope cl xs is) (hcalm:X.calm=true) (hi:QIC X tgt iter fi) (Ni:∀ C s₀ H₀ fp,QTg (Hr X (xs++ts) scope cl C s₀ H₀ fp) tgt gt) (hif:∀ C s₀ H₀ fp,Ay (Hr X (xs++ts) scope cl C s₀ H₀ fp) ifs p) (helt:∀ C s₀ H₀ fp,QV (Hr X (xs++ts) scope cl C s₀ H₀ fp) elt fe) (htk:TgK is.length (is.length+ts.length) gt) (hs:∀ x,foldedSetIterable iter X.env x=pure x:=by intro _;rfl):QV X (.ListComp elt [⟨tgt,iter,ifs,0⟩] scope pos) (eE fi gt p fe is ts.length):=⟨have hi:=hi.run;have Ni:=λC s₀ H₀ fp=>(Ni C s₀ H₀ fp).run;have hif:=λC s₀ H₀ fp=>(hif C s₀ H₀ fp).run;have helt:=λC s₀ H₀ fp=>(helt C s₀ H₀ fp).run;λpins s σ H Q I h=>by
 obtain⟨H0,ρ,b,E,e,q⟩:=h;obtain⟨ds,ed,e⟩:=bind_some e;split at e
 ·rename_i hlen;obtain⟨out,eo,e⟩:=bind_some e;cases e;rw[eval_ListComp];refine kF (use:=none) rfl hs O.clos O.kind O.names ?_;refine jd (hi pins s σ H (λJ H'=>Same H H'/\Yields X.K J ds H') I ⟨H0,ρ,ds,E,ed,λJ H' s' y=>⟨s',y⟩⟩) λv s1 h1=>jd h1 λitv s2 h2=>?_;obtain⟨it,fp,tn,J,H2,rfl,I2,T,st,hf,s12,Y⟩:=h2;refine yU (RR:=λacc C=>compPost (model X.prog X.w) X.A X.xe none (EP X pins σ Q) acc C) (ts:=ts) (xs:=xs) O hcalm Ni hif helt htk I2 ((E.grow s12).caps is ts.length) T st hf Y hlen eo ?_;intro D C s' H' us hD I' fC ⟨m,hn⟩ s2' hD' r';refine⟨m,hn,λh' sb=>⟨.ref D,H',?_,rfl,q _ _ (s12.trans s2') (λa ea=>by cases ea;exact s12.free hD) ⟨D,us,rfl,hD',r'⟩⟩⟩;obtain⟨f0,f1,f2,f3,f4,f5⟩:=fC;exact I'.turned (t':=s'.toks) (λb o hb e=>(sb.2 b hb).trans e) f0 f1 f3 f4 f5
 ·cases e⟩
theorem Kw (i:Nat) {y:Str} {py spos:Pos} (ts:LS_) (O:tH X scope cl xs is) (hcalm:X.calm=true) (hN:X.N.Nodup) (hi:QIC X tgt iter fi) (Ni:∀ C s₀ H₀ fp,QTg (Hr X (xs++ts) scope cl C s₀ H₀ fp) tgt gt) (hif:∀ C s₀ H₀ fp,Ay (Hr X (xs++ts) scope cl C s₀ H₀ fp) ifs p) (helt:∀ C s₀ H₀ fp,QV (Hr X (xs++ts) scope cl C s₀ H₀ fp) elt fe) (htk:TgK is.length (is.length+ts.length) gt) (hsw:swapsWith (.ListComp elt [⟨tgt,iter,ifs,0⟩] scope pos) (some (.Name y py)) spos.line X.env=pure true:=by with_unfolding_all rfl) (hy:X.N[i]?=some y:=by rfl) (hx:Loc X.env.scope y:=by first|exact ja rfl|exact QA rfl) (hf:X.fn y=true\/X.env.scope.names.lookup y=some .local:=by first|exact .inl rfl|exact .inr rfl) (hs:∀ x,foldedSetIterable iter X.env x=pure x:=by intro _;rfl):Nh X (.Assign [.Name y py] (.ListComp elt [⟨tgt,iter,ifs,0⟩] scope pos) spos) (λρ=>(eE fi gt p fe is ts.length ρ).bind λb=>(VD ρ i b).bind λρ'=>some (.nx ρ')):=⟨have hi:=hi.run;have Ni:=λC s₀ H₀ fp=>(Ni C s₀ H₀ fp).run;have hif:=λC s₀ H₀ fp=>(hif C s₀ H₀ fp).run;have helt:=λC s₀ H₀ fp=>(helt C s₀ H₀ fp).run;λpins s σ H D I h=>by
 obtain⟨H0,ρ,r,E,e,q⟩:=h;obtain⟨b,eb,e⟩:=bind_some e;obtain⟨ds,ed,eb⟩:=bind_some eb;split at eb
 ·rename_i hlen;obtain⟨out,eo,eb⟩:=bind_some eb;cases eb;cases e;rw[exec_Assign_Name_used _ _ _ _ hsw];refine zb (yb (zb ?_));show wpAny _ X.A (do let _ <-comprehension (.ListComp elt [⟨tgt,iter,ifs,0⟩] scope pos) scope X.env _ (newList []) false (eval iter X.env) (some (assign (.Name y py) X.env))) _ _ s;refine zb (qS (kF (use:=some (assign (.Name y py) X.env)) (Q:=λ_ s'=>SP X pins D .next s') rfl hs O.clos O.kind O.names ?_) (λ_ s' hq=>ze (ze hq)) λ_ _ e=>e);refine jd (hi pins s σ H (λJ H'=>Same H H'/\Yields X.K J ds H') I ⟨H0,ρ,ds,E,ed,λJ H' s' y=>⟨s',y⟩⟩) λv s1 h1=>jd h1 λitv s2 h2=>?_;obtain⟨it,fp,tn,J,H2,rfl,I2,T,st,hf',s12,Y⟩:=h2;refine yU (RR:=λacc C=>compPost (model X.prog X.w) X.A X.xe (some (assign (.Name y py) X.env)) (λ_ s'=>SP X pins D .next s') acc C) (ts:=ts) (xs:=xs) O hcalm Ni hif helt htk I2 ((E.grow s12).caps is ts.length) T st hf' Y hlen eo ?_;intro Da C s' H' us hD I' fC ⟨m,hn⟩ s2' hD' r';show wpAny _ X.A (assign (.Name y py) X.env (.ref Da)) _ _ s';obtain⟨f0,f1,f2,f3,f4,f5⟩:=fC;obtain⟨oC,es',ep,hoC,hdC,hrest⟩:=id hn;have I'':L2.Inv X (pins++[(C,oC)]) σ H' s':=I'.Kc λpp hp=>by
   rcases List.mem_append.mp hp with z|z
   ·exact I'.pin pp (qc _ z)
   ·have:pp=(C,oC):=by simpa using z
    subst this;exact⟨hoC,f0,f1,f2,λv z=>by rw[hdC] at z;cases z⟩
  refine jd (L2.TQ hN hy hx hf (pins++[(C,oC)]) s' σ H' (.ref Da) (.ref Da) (λσ' H''=>σ'=σ.set i (some (.ref Da))/\H''=H') I'' rfl ⟨rfl,rfl⟩) λ_ s'' ⟨σ',H'',J',e1,e2⟩=>?_;subst e1 e2;have hC':=(J'.pin (C,oC) (by simp)).1;refine⟨m,⟨oC,es',ep,hC',hdC,hrest⟩,λh' sb=>?_⟩;refine⟨σ.set i (some (.ref Da)),H'',J'.uR.turned (t':=s''.toks) (λb o hb e=>(sb.2 b hb).trans e) f0 f1 f3 f4 f5,q _ _ ?_⟩;exact E.set (s12.trans s2') (b:=.o out) ⟨Da,us,rfl,hD',r'⟩ (.inl rfl) λa ea=>by cases ea;exact s12.free hD
 ·cases eb⟩
def lend:Bx->Bx
 |.o ds=>.l ds
 |.m ds _=>.n ds
 |b=>b
def isO:Bx->Bool
 |.o _=>true
 |.m _ _=>true
 |_=>false
def spF (K:FG_) (n:Nat) (F:List Bx->Option Bx):Sp:=λvs H Q _=>vs.length=n/\∃ bs r,rN K H bs vs/\bs.all (λb=>!isO b)=true/\F bs=some r/\∀ v H',Same H H'->Nw H r v->aU K H' r v->Q v H'
def dN (n:Nat) (g:Ev->Option Out):List Bx->Option Bx:=λbs=>(g (bs.map some++List.replicate (n - bs.length) none)).bind λr=>match r with
 |.rt b=>some b
 |.nx _=>some (.z .non)
 |_=>none
theorem bN.start {K:FG_} {H:Hp} {N:LS_} {bs:List Bx} {vs:List V} (r:rN K H bs vs) (ho:bs.all (λb=>!isO b)=true):bN K H H (L2.start N vs) (bs.map some++List.replicate (N.length - bs.length) none):=by
 have hl:bs.length=vs.length:=Paired.length r;have get:∀ (i:Nat) b,(bs.map some++List.replicate (N.length - bs.length) none)[i]?=some (some b)->bs[i]?=some b:=λi b e=>by
  by_cases hi:i < bs.length
  ·rw[ZI (by simpa using hi),Zl] at e;cases q:bs[i]? with
   |none=>rw[q] at e;cases e
   |some b'=>rw[q] at e;simpa using e
  ·rw[qi (by simp;omega),QE] at e;split at e<;>cases e
 have noO:∀ (i:Nat) c,(bs.map some++List.replicate (N.length - bs.length) none)[i]?=some (some c)->uL c=true->False:=λi c e ec=>by
  have:=List.all_eq_true.mp ho _ (Z3 (get i _ e));cases c with
  |o ds=>cases this
  |m ds _=>cases this
  |_=>cases ec
 refine⟨?_,λi b e=>?_,λi j c a b e ec=>(noO i c e ec).elim,Same.refl H,λi c a e ec=>(noO i c e ec).elim⟩
 ·unfold L2.start;simp[hl]
 ·have e':=get i b e;have hi:i < bs.length:=(List.getElem?_eq_some_iff.mp e').1;have:∀ {bs:List Bx} {vs:List V} {i:Nat} {b:Bx},Paired (aU K H) bs vs->bs[i]?=some b->∃ v,vs[i]?=some v/\aU K H b v:=by
   intro bs vs i b r
   induction r generalizing i with
   |nil=>intro e;simp at e
   |cons p t ih=>
    intro e;cases i with
    |zero=>simp at e;subst e;exact⟨_,rfl,p⟩
    |succ i=>obtain⟨v,e1,e2⟩:=ih (i:=i) (by simpa using e);exact⟨v,by simpa using e1,e2⟩
  obtain⟨v,e1,e2⟩:=this r e';refine⟨v,?_,e2⟩;unfold L2.start;rw[ZI (by simp;omega),Zl,e1];rfl
end
section
variable {P:Program} {w:World} {K:FG_} {mg:Str->Option Value} {base:Heap}
theorem aiO {x qual:Str} {st:Stmt} {f:Addr} {fd:FuncData} {N ps:LS_} {k:Nat} {g:Ev->Option Out} (F:Fun K x qual st f fd) (S:bF N ps (aO st))
  (hbody:∀ (cdv:Value) (A:Around) (outer:List Env) (s:Shared) (H:Hp) (E:XK),nu k (A.deeper (envOfC qual (aO st) s.heap.objs.size f cdv))->TJ (Ei Ng P w K mg base N qual (aO st) f cdv A outer s H E).nox (jy st) g) :
  wM P w K mg base Ng (k+1) f fd ps (spF K ps.length (dN N.length g)):=by
 refine F.ok S (λvs H Q E h=>h.1) λcdv A outer s H vs Q E hr h=>?_;obtain⟨hl,bs,r,rb,ho,e,q⟩:=h;refine⟨_,hbody cdv A outer s H E hr,?_⟩;obtain⟨r',er,e⟩:=bind_some e;refine⟨H,_,r',bN.start rb ho,er,?_⟩;cases r' with
 |rt b=>cases e;exact λv H' s' n' r'=>q v H' s' n' r'
 |nx ρ=>cases e;exact λσ H' E'=>q _ H' E'.base trivial (by unfold aU Rep;rfl)
 |bk ρ=>cases e
 |ct ρ=>cases e
end
section
variable {X:Cx} {k:Nat} {f:Addr} {fd:FuncData} {ps:LS_} {F:List Bx->Option Bx} {x:Str} {p pos:Pos} {e:Expr} {es:List Expr} {fs:Ev->Option (List Bx)} {n:Nat}
theorem N7 {K:FG_} {H:Hp}:∀ {bs:List Bx} {vs:List V},rN K H bs vs->rN K H (bs.map lend) vs
 |_,_,.nil=>.nil
 |b::bs,_,.cons h t=>by
  refine .cons ?_ (N7 t);cases b with
  |z d=>exact h
  |l ds=>exact h
  |o ds=>obtain⟨a,vs,e,q,r⟩:=h;exact⟨a,vs,e,.inl q,r⟩
  |n ds=>exact h
  |m ds _=>obtain⟨a,vs,e,q,r⟩:=h;exact⟨a,vs,e,.inl q,r.1⟩
theorem T9:∀ bs:List Bx,(bs.map lend).all (λb=>!isO b)=true
 |[]=>rfl
 |b::bs=>by
  rw[zr,kq,T9 bs];cases b<;>rfl
def bV (n:Nat) (F:List Bx->Option Bx) (fs:Ev->Option (List Bx)):Ev->Option Bx:=λρ=>(fs ρ).bind λbs=>if bs.length=n then F (bs.map lend) else none
theorem abB (G:wM X.prog X.w X.K X.mg X.base Ng k f fd ps (spF X.K n F)) (hr:nu k X.A) (hg:Gl X x) (hm:X.mg x=some (.ref f)) (hk:keepIn X.K (.ref f)=true) (hb:Binds X.K fd ps []) (ha:Xc X (e::es) fs) (hdb:(x==("__debug__" : Str))=false:=by decide) (he:starEach (e::es) X.env=(false,eval e X.env)::starEach es X.env:=by rfl) (hpl:(backTo pos (starEach es X.env)).any (·.1)=false:=by rfl):QV X (.Call (.Name x p) (e::es) [] pos) (bV n F fs):=⟨have ha:=ha.run;Ds (TV G hr hg hm hk hb .nil (ade) ha hdb he hpl) λσ H Q h=>by
 obtain⟨H0,ρ,r,E,e,q⟩:=h;obtain⟨bs,eb,e⟩:=bind_some e;refine⟨H0,ρ,bs,E,eb,λvs H1 s1 r1=>?_⟩;split at e
 ·rename_i hn;rw[JP];exact⟨by rw[<-Paired.length r1];exact hn,_,r,N7 r1,T9 bs,e,λv H2 s2 n2 r2=>q v H2 (s1.trans s2) (n2.old s1) r2⟩
 ·cases e⟩
end
end P1
end
section
namespace P1
open PySem PySem.Spec PyProof.Rows L2 SeqAt
open AutoSeq1 (wpAny_loadPart')
def HD (h:Heap) (a:Addr):Prop:=∃ o ep,h.get? a=some o/\o.ExactDict/\o.data=.dict #[] ep
section
variable {A:Around} {s:Shared} {a b:Addr}
theorem yV {P:Program} {w:World} {kvs:List (Key×V)} {h:Heap} {vs:List (Key×Value)} (q:kvs=[]) (r:KV kvs vs) (d:h.DictOf (aX P w) a vs):HD h a:=by
 subst q;cases r;obtain⟨o,es,ep,h1,h2,h3,_,h5,_⟩:=d;have:es=#[]:=by
  have:=h5.length;apply Array.eq_empty_of_size_eq_zero;simpa using this
 subst this;exact⟨o,ep,h1,h2,h3⟩
theorem HD.dict (P:Program) (w:World) {h:Heap} (x:HD h a):h.DictOf (strKind P w) a []:=by
 obtain⟨o,ep,h1,h2,h3⟩:=x;exact⟨o,#[],ep,h1,h2,h3,λe he=>by simp at he,.nil,KI⟩
theorem adk (ha:(a==sysModules)=false) (hb:(b==sysModules)=false) (da:HD s.heap a) (db:HD s.heap b) (hu:A.units < cLine):RcAt A s (.ref a) (.ref b) true:=λprog w E Q h=>
 PySem.W.keq_eq (knd:=strKind prog w) ha hb (da.dict prog w) (db.dict prog w) hu (λ_=>.nil) h
theorem ag3 (ha:(a==sysModules)=false) (hb:(b==sysModules)=false) (da:HD s.heap a) (db:HD s.heap b) (hu:A.units < cLine):RcNeAt A s (.ref a) (.ref b) false:=λprog w E Q h=>
 PySem.W.keq_ne (r:=true) (knd:=strKind prog w) ha hb (da.dict prog w) (db.dict prog w) hu (λ_=>.nil) h
theorem N8 (o:Obj) (b:Str) (u:Tok):Meets (Builtin.«dict.__eq__» ⟨[.ref a,.str b u],[]⟩) (λ_ R s=>(s.heap.get? a=some o/\o.cls=.type "dict")/\R (.ok (.ret .notImplemented)) s):=
 .of_wp λprog w A R s h=>by
  have ht:s.TypeIs (.ref a) "dict" := ⟨o,h.1.1,h.1.2⟩;show wpAny _ _ (Builtin.Dict.dictSlotArgs "__eq__" ⟨[.ref a,.str b u],[]⟩ >>= _) _ _ s;refine zb ?_;unfold Builtin.Dict.dictSlotArgs;refine zb (wpAny_notOrdered_dict ht ?_);show wpAny _ _ (pure (Value.ref a,Value.str b u)) _ _ s;refine ze ?_;refine zb (kf (T := "str") (typeIs_str s b u) PySem.F.sub_str_dict ?_);simp only[kz,qA];refine zb (k9 ?_);exact ze ⟨_,rfl,h.2⟩
theorem Oa (b:Str) (u:Tok) (es:Array DictEntry) (ep:Nat) (dd:Option Addr) (sl:Array (Option Value)):Meets (Builtin.«str.__eq__» ⟨[.str b u,.ref a],[]⟩) (λ_ R s=>s.heap.get? a=some { cls:=.type "dict", dict:=dd,data:=.dict es ep,slots:=sl }/\R (.ok (.ret .notImplemented)) s):=
 .of_wp λprog w A R s h=>by obtain⟨hp,g,d,tk,os⟩:=s;obtain⟨hl,h⟩:=h;wp_walk using wpAny_loadPart' hl,KG hl;exact⟨_,rfl,h⟩
theorem Jr (x:Str) (t:Tok) (d:HD s.heap a) (hu:A.units < cLine):RcAt A s (.str x t) (.ref a) false:=λprog w E Q h=>by
 obtain⟨⟨cls,dd,data,sl⟩,ep,ho,⟨hc,hd,hs⟩,he⟩:=d;simp only at hc he;subst hc he;exact rc_eq_decline_or (k:=false) (typeIs_str s x t) ⟨_,ho,rfl⟩ (by decide) PySem.F.sub_dict_str PySem.F.slot_str_eq PySem.F.slot_dict_eq_refl
  (λ_ hq=>call_meets PySem.F.slot_str_eq (typeIs_str s x t) PySem.F.entry_str_eq (PySem.F.args_str_eq_2 _ _) (Oa x t #[] ep dd sl) ⟨ho,hq⟩)
  (λ_ hq=>call_meets PySem.F.slot_dict_eq_refl ⟨_,ho,rfl⟩ PySem.F.entry_dict_eq (PySem.F.args_dict_eq_2 _ _) (N8 _ x t) ⟨⟨ho,rfl⟩,hq⟩)
  (λ_ hq=>wpAny_of_eq (rfl:isSame (.str x t) (.ref a)=pure false) hq) (.inr hu) h
theorem Ob (o:Obj) (b:Str) (u:Tok):Meets (Builtin.«dict.__ne__» ⟨[.ref a,.str b u],[]⟩) (λ_ R s=>(s.heap.get? a=some o/\o.cls=.type "dict")/\R (.ok (.ret .notImplemented)) s):=
 .of_wp λprog w A R s h=>by
  have ht:s.TypeIs (.ref a) "dict" := ⟨o,h.1.1,h.1.2⟩;show wpAny _ _ (Builtin.Dict.dictSlotArgs "__ne__" ⟨[.ref a,.str b u],[]⟩ >>= _) _ _ s;refine zb ?_;unfold Builtin.Dict.dictSlotArgs;refine zb (wpAny_notOrdered_dict ht ?_);show wpAny _ _ (pure (Value.ref a,Value.str b u)) _ _ s;refine ze ?_;refine zb (kf (T := "str") (typeIs_str s b u) PySem.F.sub_str_dict ?_);simp only[kz,qA];refine zb (k9 ?_);exact ze ⟨_,rfl,h.2⟩
theorem Oc (b:Str) (u:Tok) (es:Array DictEntry) (ep:Nat) (dd:Option Addr) (sl:Array (Option Value)):Meets (Builtin.«str.__ne__» ⟨[.str b u,.ref a],[]⟩) (λ_ R s=>s.heap.get? a=some { cls:=.type "dict", dict:=dd,data:=.dict es ep,slots:=sl }/\R (.ok (.ret .notImplemented)) s):=
 .of_wp λprog w A R s h=>by obtain⟨hp,g,d,tk,os⟩:=s;obtain⟨hl,h⟩:=h;wp_walk using wpAny_loadPart' hl,KG hl;exact⟨_,rfl,h⟩
theorem VJ (x:Str) (t:Tok) (d:HD s.heap a) (hu:A.units < cLine):RcNeAt A s (.str x t) (.ref a) true:=λprog w E Q h=>by
 obtain⟨⟨cls,dd,data,sl⟩,ep,ho,⟨hc,hd,hs⟩,he⟩:=d;simp only at hc he;subst hc he;exact rc_ne_decline_or (k:=false) (typeIs_str s x t) ⟨_,ho,rfl⟩ (by decide) PySem.F.sub_dict_str PySem.F.slot_str_ne PySem.F.slot_dict_ne_refl
  (λ_ hq=>call_meets PySem.F.slot_str_ne (typeIs_str s x t) PySem.F.entry_str_ne (PySem.F.args_str_ne_2 _ _) (Oc x t #[] ep dd sl) ⟨ho,hq⟩)
  (λ_ hq=>call_meets PySem.F.slot_dict_ne_refl ⟨_,ho,rfl⟩ PySem.F.entry_dict_ne (PySem.F.args_dict_ne_2 _ _) (Ob _ x t) ⟨⟨ho,rfl⟩,hq⟩)
  (λ_ hq=>wpAny_of_eq (rfl:isSame (.str x t) (.ref a)=pure false) hq) (.inr hu) h
theorem VL (x:Str) (t:Tok) (d:HD s.heap a) (hu:A.units < cLine):EqAt A s (.str x t) (.ref a) false:=λprog w E Q h=>by
 unfold eqBool;refine QN ?_;refine wpAny_ite_split (λhab=>absurd (eq_of_beq hab) nofun) (λ_=>?_);exact zb (Jr x t d hu prog w E _ (Q1 h))
end
mutual
def uY:Dt->Nat
 |.tup xs=>uZ xs+1
 |.lst xs=>uZ xs+1
 |_=>1
def uZ:List Dt->Nat
 |[]=>0
 |d::ds=>max (uY d) (uZ ds)
end
mutual
def Aj:Dt->Dt->Option Bool
 |.non,.non=>some true
 |.non,.bl _=>some false|.non,.int _=>some false|.non,.str _=>some false|.non,.tup _=>some false|.non,.lst _=>some false
 |.bl a,.bl b=>some (a==b)
 |.bl a,.int b=>some ((if a then 1 else 0)==b)
 |.bl _,.non=>some false|.bl _,.str _=>some false|.bl _,.tup _=>some false|.bl _,.lst _=>some false
 |.int a,.int b=>some (a==b)
 |.int a,.bl b=>some (a==(if b then 1 else 0))
 |.int _,.non=>some false|.int _,.str _=>some false|.int _,.tup _=>some false|.int _,.lst _=>some false
 |.str a,.str b=>some (a==b)
 |.str _,.non=>some false|.str _,.bl _=>some false|.str _,.int _=>some false|.str _,.tup _=>some false|.str _,.lst _=>some false|.str _,.emp=>some false
 |.tup xs,.tup ys=>lU xs ys
 |.tup _,.non=>some false|.tup _,.bl _=>some false|.tup _,.int _=>some false|.tup _,.str _=>some false|.tup _,.lst _=>some false
 |.lst xs,.lst ys=>lU xs ys
 |.emp,.emp=>some true
 |.lst _,.non=>some false|.lst _,.bl _=>some false|.lst _,.int _=>some false|.lst _,.str _=>some false|.lst _,.tup _=>some false
 |_,_=>none
def lU:List Dt->List Dt->Option Bool
 |[],[]=>some true
 |[],_::_=>some false
 |_::_,[]=>some false
 |x::xs,y::ys=>match Aj x y with
  |some b=>match lU xs ys with
   |some c=>some (b&&c)
   |none=>none
  |none=>none
end
mutual
theorem Od:∀ {d:Dt} {k:Bool},Aj d d=some k->k=true
 |.non,_,e=>by cases e;rfl
 |.bl b,_,e=>by cases e;simp
 |.int b,_,e=>by cases e;simp
 |.str b,_,e=>by cases e;simp
 |.tup xs,_,e=>Az (ds:=xs) e
 |.lst xs,_,e=>Az (ds:=xs) e
 |.emp,_,e=>by cases e;rfl
theorem Az:∀ {ds:List Dt} {k:Bool},lU ds ds=some k->k=true
 |[],_,e=>by simp only[lU] at e;cases e;rfl
 |d::ds,_,e=>by
  simp only[lU] at e;cases h:Aj d d with
  |none=>rw[h] at e;cases e
  |some b=>
   rw[h] at e;simp only at e;cases h2:lU ds ds with
   |none=>rw[h2] at e;cases e
   |some c=>
    rw[h2] at e;cases e;rw[Od h,Az h2];rfl
end
theorem Dw (xs ys:List Dt):Aj (.tup xs) (.tup ys)=lU xs ys:=rfl
theorem u0:∀ {xs ys:List Dt} {k:Bool},lU xs ys=some k->∃ e:Nat->Bool,(∀ (j:Nat) x y,xs[j]?=some x->ys[j]?=some y->Aj x y=some (e j))/\k=((List.range (min xs.length ys.length)).all e&&xs.length==ys.length)
 |[],[],k,h=>by simp only[lU] at h;cases h;exact⟨λ_=>true,λj x y e=>by simp at e,by simp⟩
 |[],y::ys,k,h=>by simp only[lU] at h;cases h;exact⟨λ_=>true,λj x y e=>by simp at e,by simp⟩
 |x::xs,[],k,h=>by simp only[lU] at h;cases h;exact⟨λ_=>true,λj x y _ e=>by simp at e,by simp⟩
 |x::xs,y::ys,k,h=>by
  simp only[lU] at h;cases h1:Aj x y with
  |none=>rw[h1] at h;cases h
  |some b=>
   rw[h1] at h;simp only at h;cases h2:lU xs ys with
   |none=>rw[h2] at h;cases h
   |some c=>
    rw[h2] at h;cases h;obtain⟨e,g,hc⟩:=u0 h2;refine⟨λj=>match j with|0=>b|j+1=>e j,λj u v eu ev=>?_,?_⟩
    ·cases j with
     |zero=>simp at eu ev;subst eu ev;exact h1
     |succ j=>exact g j u v (by simpa using eu) (by simpa using ev)
    ·have:min (x::xs).length (y::ys).length=min xs.length ys.length+1:=by simp only[ZH];omega
     rw[this,List.range_succ_eq_map,kq,KF,hc];have hb:((x::xs).length==(y::ys).length)=(xs.length==ys.length):=by
      rw[JU];simp
     rw[hb,Bool.and_assoc];rfl
theorem u5:∀ {ds:List Dt} {j:Nat} {d:Dt},ds[j]?=some d->uY d<=uZ ds
 |[],_,_,e=>by simp at e
 |d::ds,0,_,e=>by simp at e;subst e;simp only[uZ];exact Nat.le_max_left _ _
 |d::ds,j+1,_,e=>by
  simp only[uZ];exact Zs (u5 (ds:=ds) (j:=j) (by simpa using e)) (Nat.le_max_right _ _)
section
variable {X:Cx} {pins:List (Addr×Obj)} {σ:L2.St} {H:Hp} {s:Shared}
theorem Dy (I:L2.Inv X pins σ H s) {a:Addr} {vs:List V} (h:yH X.K H a vs):∃ ob,s.heap.get? a=some ob/\ob.cls=.type "tuple" := by
 obtain⟨its,_,⟨ob,e,c,_⟩,_⟩:=I.tuple h;exact⟨ob,e,c⟩
theorem Dz (I:L2.Inv X pins σ H s) {a:Addr} {vs:List V} (h:uN X.K H a vs):∃ ob,s.heap.get? a=some ob/\ob.cls=.type "list" := by
 obtain⟨its,_,⟨ob,n,e,c,_⟩,_⟩:=I.list h;exact⟨ob,e,c⟩
theorem qt (I:L2.Inv X pins σ H s) {a:Addr} {o:Obj} (h:H a=some (.sY o (.dK []))):∃ ob,s.heap.get? a=some ob/\ob.cls=.type "dict" := by
 obtain⟨e,_,_,vs,_,ob,es,ep,e2,ex,_⟩:=I.hok a _ h;exact⟨ob,e2,ex.1⟩
theorem Ba {a:Addr} {n m:String} (h:∃ ob,s.heap.get? a=some ob/\ob.cls=.type n) (q:∃ ob,s.heap.get? a=some ob/\ob.cls=.type m) (hn:n≠m):False:=by
 obtain⟨o,e,c⟩:=h;obtain⟨o',e',c'⟩:=q;rw[e] at e';cases e';rw[c] at c';exact hn (by injection c')
mutual
theorem Rep.inj (I:L2.Inv X pins σ H s):∀ {d e:Dt} {v:V},Rep X.K H d v->Rep X.K H e v->d=e
 |.non,e,v,h,q=>by
  simp only[Rep] at h;subst h;cases e<;>simp only[Rep] at q<;>first|rfl|(cases q;done)|(obtain⟨a,b,z,_⟩:=q;cases z;done)|(obtain⟨z,_⟩:=q;cases z;done)
 |.bl _,e,v,h,q=>by
  simp only[Rep] at h;subst h;cases e<;>simp only[Rep] at q<;>first|(cases q;rfl)|(cases q;done)|(obtain⟨a,b,z,_⟩:=q;cases z;done)|(obtain⟨z,_⟩:=q;cases z;done)
 |.int _,e,v,h,q=>by
  simp only[Rep] at h;subst h;cases e<;>simp only[Rep] at q<;>first|(cases q;rfl)|(cases q;done)|(obtain⟨a,b,z,_⟩:=q;cases z;done)|(obtain⟨z,_⟩:=q;cases z;done)
 |.str x,e,v,h,q=>by
  simp only[Rep] at h;have hv:v=.str x:=h.1;subst hv;cases e with
  |str y=>
   simp only[Rep] at q;have z:V.str x=V.str y:=q.1;injection z with z;rw[z]
  |tup es=>simp only[Rep] at q;obtain⟨a,b,z,_⟩:=q;cases z
  |lst es=>simp only[Rep] at q;obtain⟨a,b,z,_⟩:=q;cases z
  |emp=>simp only[Rep] at q;obtain⟨a,b,z,_⟩:=q;cases z
  |_=>simp only[Rep] at q;cases q
 |.tup ds,e,v,h,q=>by
  simp only[Rep] at h;obtain⟨a,vs,rfl,sq,r⟩:=h;cases e with
  |tup es=>
   simp only[Rep] at q;obtain⟨b,us,z,Rt,r'⟩:=q;cases z;have:=I.Jf sq Rt;subst this;rw[aK.inj I r r']
  |lst es=>
   simp only[Rep] at q;obtain⟨b,us,z,Rt,r'⟩:=q;cases z;exact(Ba (Dy I sq) (Dz I Rt.sq) (by decide)).elim
  |emp=>
   simp only[Rep] at q;obtain⟨b,o,z,Rt⟩:=q;cases z;exact(Ba (Dy I sq) (qt I Rt) (by decide)).elim
  |str x=>simp only[Rep] at q;have z:=q.1;cases z
  |_=>simp only[Rep] at q;cases q
 |.lst ds,e,v,h,q=>by
  simp only[Rep] at h;obtain⟨a,vs,rfl,sq,r⟩:=h;cases e with
  |lst es=>
   simp only[Rep] at q;obtain⟨b,us,z,Rt,r'⟩:=q;cases z;have:=I.Nr sq.sq Rt.sq;subst this;rw[aK.inj I r r']
  |tup es=>
   simp only[Rep] at q;obtain⟨b,us,z,Rt,r'⟩:=q;cases z;exact(Ba (Dz I sq.sq) (Dy I Rt) (by decide)).elim
  |emp=>
   simp only[Rep] at q;obtain⟨b,o,z,Rt⟩:=q;cases z;exact(Ba (Dz I sq.sq) (qt I Rt) (by decide)).elim
  |str x=>simp only[Rep] at q;have z:=q.1;cases z
  |_=>simp only[Rep] at q;cases q
 |.emp,e,v,h,q=>by
  simp only[Rep] at h;obtain⟨a,o,rfl,sq⟩:=h;cases e with
  |emp=>rfl
  |tup es=>
   simp only[Rep] at q;obtain⟨b,us,z,Rt,r'⟩:=q;cases z;exact(Ba (qt I sq) (Dy I Rt) (by decide)).elim
  |lst es=>
   simp only[Rep] at q;obtain⟨b,us,z,Rt,r'⟩:=q;cases z;exact(Ba (qt I sq) (Dz I Rt.sq) (by decide)).elim
  |str x=>simp only[Rep] at q;have z:=q.1;cases z
  |_=>simp only[Rep] at q;cases q
theorem aK.inj (I:L2.Inv X pins σ H s):∀ {ds es:List Dt} {vs:List V},aK X.K H ds vs->aK X.K H es vs->ds=es
 |[],es,vs,h,q=>by
  simp only[aK] at h;subst h;cases es with
  |nil=>rfl
  |cons e es=>simp only[aK] at q;obtain⟨_,_,z,_⟩:=q;cases z
 |d::ds,es,vs,h,q=>by
  simp only[aK] at h;obtain⟨v,r,rfl,h1,h2⟩:=h;cases es with
  |nil=>simp only[aK] at q;cases q
  |cons e es=>
   simp only[aK] at q;obtain⟨v',r',z,q1,q2⟩:=q;cases z;rw[Rep.inj I h1 q1,aK.inj I h2 q2]
end
theorem adl (I:L2.Inv X pins σ H s):∀ (n:Nat) {A:Around} {d e:Dt} {x y:V} {u v:Value} {k:Bool},min (uY d) (uY e)<=n->A.units+n < cLine->Rep X.K H d x->Rep X.K H e y->RelV x u->RelV y v->Aj d e=some k->EqAt A s u v k:=by
 intro n
 induction n with
 |zero=>
  intro A d e x y u v k hn;have h1:1<=uY d:=by cases d<;>simp only[uY]<;>omega
  have h2:1<=uY e:=by cases e<;>simp only[uY]<;>omega
  omega
 |succ n ih=>
  intro A d e x y u v k hn hA rd re ru rv ek;have hu:A.units < cLine:=by omega
  by_cases hxy:u=v/\∃ a,u=.ref a
  ·obtain⟨rfl,a,rfl⟩:=hxy;have hx:x=.ref a:=by have:=ru.abs;simpa[ad1] using this.symm
   have hy:y=.ref a:=by have:=rv.abs;simpa[ad1] using this.symm
   subst hx hy;have:=Rep.inj I rd re;subst this;rw[Od ek];exact EqAt.same _
  ·have items:∀ {ds es:List Dt} {vs us:List V} {its its2:List Value} {f:Nat->Bool},min (uZ ds) (uZ es)<=n->aK X.K H ds vs->aK X.K H es us->Vals vs its->Vals us its2->(∀ (j:Nat) x y,ds[j]?=some x->es[j]?=some y->Aj x y=some (f j)) →
     ∀ j (h1:j < its.toArray.size) (h2:j < its2.toArray.size),EqAt A.in1 s its.toArray[j] its2.toArray[j] (f j):=by
    intro ds es vs us its its2 f hm r1 r2 w1 w2 hf j h1 h2;have l1:=w1.length;have l2:=w2.length;have l3:=r1.length;have l4:=r2.length;have j1:j < its.length:=by simpa using h1
    have j2:j < its2.length:=by simpa using h2
    have d1:ds[j]?=some ds[j]:=by simp
    have d2:es[j]?=some es[j]:=by simp
    obtain⟨a,ea,ra⟩:=r1.get d1;obtain⟨b,eb,rb⟩:=r2.get d2;obtain⟨p,ep,rp⟩:=w1.get ea;obtain⟨q,eq,rq⟩:=w2.get eb;have e1:its.toArray[j]=p:=by simpa[j1] using ep
    have e2:its2.toArray[j]=q:=by simpa[j2] using eq
    rw[e1,e2];have m1:=u5 d1;have m2:=u5 d2;exact ih (by omega) (by rw[units_in1];omega) ra rb rp rq (hf j _ _ d1 d2)
   cases d with
   |non=>
    cases rd;cases ru;cases e with
    |non=>cases re;cases rv;cases ek;exact EqAt.same _
    |bl b=>cases re;cases rv;cases ek;exact EqAt.none_bool b
    |int b=>cases re;obtain⟨t,rfl⟩:=rv;cases ek;exact EqAt.none_int b t
    |str b=>obtain⟨rfl,_⟩:=re;obtain⟨t,rfl⟩:=rv;cases ek;exact EqAt.none_str b t
    |tup es=>obtain⟨b,us,rfl,sq,_⟩:=re;cases rv;cases ek;obtain⟨_,_,p,_⟩:=I.tuple sq;exact EqAt.none_tuple p hu
    |lst es=>obtain⟨b,us,rfl,sq,_⟩:=re;cases rv;cases ek;obtain⟨_,_,p,_⟩:=I.list sq.sq;exact EqAt.none_list p.isList hu
    |emp=>cases ek
   |bl a=>
    cases rd;cases ru;cases e with
    |non=>cases re;cases rv;cases ek;exact EqAt.bool_none a
    |bl b=>cases re;cases rv;cases ek;exact EqAt.bool_bool a b
    |int b=>cases re;obtain⟨t,rfl⟩:=rv;cases ek;exact EqAt.bool_int a b t
    |str b=>obtain⟨rfl,_⟩:=re;obtain⟨t,rfl⟩:=rv;cases ek;exact EqAt.bool_str a b t
    |tup es=>obtain⟨b,us,rfl,sq,_⟩:=re;cases rv;cases ek;obtain⟨_,_,p,_⟩:=I.tuple sq;exact EqAt.bool_tuple a p hu
    |lst es=>obtain⟨b,us,rfl,sq,_⟩:=re;cases rv;cases ek;obtain⟨_,_,p,_⟩:=I.list sq.sq;exact EqAt.bool_list a p.isList hu
    |emp=>cases ek
   |int a=>
    cases rd;obtain⟨t',rfl⟩:=ru;cases e with
    |non=>cases re;cases rv;cases ek;exact EqAt.int_none a t'
    |bl b=>cases re;cases rv;cases ek;exact EqAt.int_bool a t' b
    |int b=>cases re;obtain⟨t,rfl⟩:=rv;cases ek;exact EqAt.int_int a t' b t
    |str b=>obtain⟨rfl,_⟩:=re;obtain⟨t,rfl⟩:=rv;cases ek;exact EqAt.int_str a t' b t
    |tup es=>obtain⟨b,us,rfl,sq,_⟩:=re;cases rv;cases ek;obtain⟨_,_,p,_⟩:=I.tuple sq;exact EqAt.int_tuple a t' p hu
    |lst es=>obtain⟨b,us,rfl,sq,_⟩:=re;cases rv;cases ek;obtain⟨_,_,p,_⟩:=I.list sq.sq;exact EqAt.int_list a t' p.isList hu
    |emp=>cases ek
   |str a=>
    obtain⟨rfl,_⟩:=rd;obtain⟨t',rfl⟩:=ru;cases e with
    |non=>cases re;cases rv;cases ek;exact EqAt.str_none a t'
    |bl b=>cases re;cases rv;cases ek;exact EqAt.str_bool a t' b
    |int b=>cases re;obtain⟨t,rfl⟩:=rv;cases ek;exact EqAt.str_int a t' b t
    |str b=>obtain⟨rfl,_⟩:=re;obtain⟨t,rfl⟩:=rv;cases ek;exact EqAt.str_str a t' b t
    |tup es=>obtain⟨b,us,rfl,sq,_⟩:=re;cases rv;cases ek;obtain⟨_,_,p,_⟩:=I.tuple sq;exact EqAt.str_tuple a t' p hu
    |lst es=>obtain⟨b,us,rfl,sq,_⟩:=re;cases rv;cases ek;obtain⟨_,_,p,_⟩:=I.list sq.sq;exact EqAt.str_list a t' p.isList hu
    |emp=>
     simp only[Rep] at re;obtain⟨p,o,rfl,e⟩:=re;cases rv;cases ek;obtain⟨_,_,vs,r,q⟩:=uD I.hok (.inr ⟨o,e⟩);exact VL a t' (yV rfl r q) hu
   |tup ds=>
    obtain⟨a,vs,rfl,sa,ra⟩:=rd;cases ru;obtain⟨its,wv,p,_⟩:=I.tuple sa;cases e with
    |non=>cases re;cases rv;cases ek;exact EqAt.tuple_none p hu
    |bl b=>cases re;cases rv;cases ek;exact EqAt.tuple_bool b p hu
    |int b=>cases re;obtain⟨t,rfl⟩:=rv;cases ek;exact EqAt.tuple_int b t p hu
    |str b=>obtain⟨rfl,_⟩:=re;obtain⟨t,rfl⟩:=rv;cases ek;exact EqAt.tuple_str b t p hu
    |lst es=>obtain⟨b,us,rfl,sq,_⟩:=re;cases rv;cases ek;obtain⟨_,_,p2,_⟩:=I.list sq.sq;exact EqAt.tuple_list p p2.isList hu
    |tup es=>
     obtain⟨b,us,rfl,sb,rb⟩:=re;cases rv;obtain⟨its2,wu,p2,_⟩:=I.tuple sb;change lU _ _=some _ at ek;obtain⟨f,hf,rfl⟩:=u0 ek;have hne:a≠b:=λz=>hxy ⟨by rw[z],a,rfl⟩;have z:=EqAt.of_refs hne (RcAt.tuples (A:=A) (e:=f) p p2 hu (items (by simp only[uY] at hn;omega) ra rb wv wu hf));have q1:its.toArray.size=ds.length:=by rw[zt,<-wv.length,ra.length]
     have q2:its2.toArray.size=es.length:=by rw[zt,<-wu.length,rb.length]
     rw[q1,q2] at z;exact z
    |emp=>cases ek
   |lst ds=>
    obtain⟨a,vs,rfl,sa,ra⟩:=rd;cases ru;obtain⟨its,wv,p,_⟩:=I.list sa.sq;cases e with
    |non=>cases re;cases rv;cases ek;exact EqAt.list_none p.isList hu
    |bl b=>cases re;cases rv;cases ek;exact EqAt.list_bool b p.isList hu
    |int b=>cases re;obtain⟨t,rfl⟩:=rv;cases ek;exact EqAt.list_int b t p.isList hu
    |str b=>obtain⟨rfl,_⟩:=re;obtain⟨t,rfl⟩:=rv;cases ek;exact EqAt.list_str b t p.isList hu
    |tup es=>obtain⟨b,us,rfl,sq,_⟩:=re;cases rv;cases ek;obtain⟨_,_,p2,_⟩:=I.tuple sq;exact EqAt.list_tuple p.isList p2 hu
    |lst es=>
     obtain⟨b,us,rfl,sb,rb⟩:=re;cases rv;obtain⟨its2,wu,p2,_⟩:=I.list sb.sq;change lU _ _=some _ at ek;obtain⟨f,hf,rfl⟩:=u0 ek;have hne:a≠b:=λz=>hxy ⟨by rw[z],a,rfl⟩;have q1:its.toArray.size=ds.length:=by rw[zt,<-wv.length,ra.length]
     have q2:its2.toArray.size=es.length:=by rw[zt,<-wu.length,rb.length]
     by_cases hsz:its.toArray.size=its2.toArray.size
     ·have z:=EqAt.of_refs hne (RcAt.lists (A:=A) (e:=f) p.isList p2.isList hsz hu (items (by simp only[uY] at hn;omega) ra rb wv wu hf));have hl:ds.length=es.length:=by omega
      rw[q1] at z;rw[hl,Nat.min_self,beq_self_eq_true,Kb,<-hl];exact z
     ·have hl:(ds.length==es.length)=false:=by rw[beq_eq_false_iff_ne];omega
      rw[hl,KP];exact EqAt.of_refs hne (RcAt.lists_lengths p.isList p2.isList (by simpa using hsz) hu)
    |emp=>cases ek
   |emp=>
    cases e<;>first|(cases ek;done)|skip;simp only[Rep] at rd re;obtain⟨a,o,rfl,e1⟩:=rd;obtain⟨b,o',rfl,e2⟩:=re;cases ru;cases rv;cases ek;obtain⟨_,m1,vs,r,q⟩:=uD I.hok (.inr ⟨o,e1⟩);obtain⟨_,m2,vs',r',q'⟩:=uD I.hok (.inr ⟨o',e2⟩);exact EqAt.of_refs (λz=>hxy ⟨by rw[z],a,rfl⟩) (adk m1 m2 (yV rfl r q) (yV rfl r' q') hu)
theorem Oe (I:L2.Inv X pins σ H s) {n:Nat} {A:Around} {ds es:List Dt} {vs us:List V} {its its2:List Value} {f:Nat->Bool} (hm:min (uZ ds) (uZ es)<=n) (hA:A.units+n+1 < cLine) (r1:aK X.K H ds vs) (r2:aK X.K H es us) (w1:Vals vs its) (w2:Vals us its2)
  (hf:∀ (j:Nat) x y,ds[j]?=some x->es[j]?=some y->Aj x y=some (f j)):∀ j (h1:j < its.toArray.size) (h2:j < its2.toArray.size),EqAt A.in1 s its.toArray[j] its2.toArray[j] (f j):=by
 intro j h1 h2;have l1:=w1.length;have l2:=w2.length;have l3:=r1.length;have l4:=r2.length;have j1:j < its.length:=by simpa using h1
 have j2:j < its2.length:=by simpa using h2
 have d1:ds[j]?=some (ds[j]'(by omega)):=by simp
 have d2:es[j]?=some (es[j]'(by omega)):=by simp
 obtain⟨a,ea,ra⟩:=r1.get d1;obtain⟨b,eb,rb⟩:=r2.get d2;obtain⟨p,ep,rp⟩:=w1.get ea;obtain⟨q,eq,rq⟩:=w2.get eb;have e1:its.toArray[j]=p:=by simpa[j1] using ep
 have e2:its2.toArray[j]=q:=by simpa[j2] using eq
 rw[e1,e2];have m1:=u5 d1;have m2:=u5 d2;exact adl I n (by omega) (by rw[units_in1];omega) ra rb rp rq (hf j _ _ d1 d2)
end
def iM (K:FG_) (H:Hp):Dt->V->Prop
 |.lst ds,v=>∃ a vs,v=.ref a/\uN K H a vs/\aK K H ds vs
 |d,v=>Rep K H d v
def lV:Bx->Bool
 |.n _=>true
 |.m _ _=>true
 |_=>false
def toD:Bx->Dt
 |.z d=>d
 |.l ds=>.lst ds
 |.o ds=>.lst ds
 |.n _=>.non
 |.m _ _=>.non
theorem aU.toD {K:FG_} {H:Hp} {b:Bx} {v:V} (h:aU K H b v) (hm:lV b=false):iM K H (toD b) v:=by
 cases b with
 |z d=>
  cases d with
  |lst ds=>exact h.Hx rfl
  |_=>exact h
 |l ds=>exact h.Hx rfl
 |o ds=>exact h.Hx rfl
 |n _=>cases hm
 |m _ _=>cases hm
section
variable {X:Cx} {pins:List (Addr×Obj)} {σ:L2.St} {H:Hp} {s:Shared}
theorem Ua (I:L2.Inv X pins σ H s) {d e:Dt} {x y:V} {u v:Value} {k:Bool} (hm:min (uY d) (uY e)<=100) (hA:X.A.units+100 < cLine) (rd:iM X.K H d x) (re:iM X.K H e y) (ru:RelV x u) (rv:RelV y v) (ek:Aj d e=some k):RcAt X.A s u v k/\RcNeAt X.A s u v (!k):=by
 have hu:X.A.units < cLine:=by omega
 cases d with
 |non=>
  cases rd;cases ru;cases e with
  |non=>
   cases re;cases rv;cases ek;exact⟨.none_none,.none_none⟩
  |bl x2=>
   cases re;cases rv;cases ek;exact⟨.none_bool x2,.none_bool x2⟩
  |int x2=>
   cases re;obtain⟨t2,rfl⟩:=rv;cases ek;exact⟨.none_int x2 t2,.none_int x2 t2⟩
  |str x2=>
   obtain⟨rfl,_⟩:=re;obtain⟨t2,rfl⟩:=rv;cases ek;exact⟨.none_str x2 t2,.none_str x2 t2⟩
  |tup x2=>
   obtain⟨a2,vs2,rfl,Ey,Ru⟩:=re;cases rv;obtain⟨its2,w2,p2,_⟩:=I.tuple Ey;cases ek;exact⟨.none_tuple p2 hu,.none_tuple p2 hu⟩
  |lst x2=>
   obtain⟨a2,vs2,rfl,Ey,Ru⟩:=re;cases rv;obtain⟨its2,w2,p2,_⟩:=I.list Ey;cases ek;exact⟨.none_list p2.isList hu,.none_list p2.isList hu⟩
  |emp=>cases ek
 |bl x1=>
  cases rd;cases ru;cases e with
  |non=>
   cases re;cases rv;cases ek;exact⟨.bool_none x1,.bool_none x1⟩
  |bl x2=>
   cases re;cases rv;cases ek;exact⟨.bool_bool x1 x2,.bool_bool x1 x2⟩
  |int x2=>
   cases re;obtain⟨t2,rfl⟩:=rv;cases ek;exact⟨.bool_int x1 x2 t2,.bool_int x1 x2 t2⟩
  |str x2=>
   obtain⟨rfl,_⟩:=re;obtain⟨t2,rfl⟩:=rv;cases ek;exact⟨.bool_str x1 x2 t2,.bool_str x1 x2 t2⟩
  |tup x2=>
   obtain⟨a2,vs2,rfl,Ey,Ru⟩:=re;cases rv;obtain⟨its2,w2,p2,_⟩:=I.tuple Ey;cases ek;exact⟨.bool_tuple x1 p2 hu,.bool_tuple x1 p2 hu⟩
  |lst x2=>
   obtain⟨a2,vs2,rfl,Ey,Ru⟩:=re;cases rv;obtain⟨its2,w2,p2,_⟩:=I.list Ey;cases ek;exact⟨.bool_list x1 p2.isList hu,.bool_list x1 p2.isList hu⟩
  |emp=>cases ek
 |int x1=>
  cases rd;obtain⟨t1,rfl⟩:=ru;cases e with
  |non=>
   cases re;cases rv;cases ek;exact⟨.int_none x1 t1,.int_none x1 t1⟩
  |bl x2=>
   cases re;cases rv;cases ek;exact⟨.int_bool x1 t1 x2,.int_bool x1 t1 x2⟩
  |int x2=>
   cases re;obtain⟨t2,rfl⟩:=rv;cases ek;exact⟨.int_int x1 t1 x2 t2,.int_int x1 t1 x2 t2⟩
  |str x2=>
   obtain⟨rfl,_⟩:=re;obtain⟨t2,rfl⟩:=rv;cases ek;exact⟨.int_str x1 t1 x2 t2,.int_str x1 t1 x2 t2⟩
  |tup x2=>
   obtain⟨a2,vs2,rfl,Ey,Ru⟩:=re;cases rv;obtain⟨its2,w2,p2,_⟩:=I.tuple Ey;cases ek;exact⟨.int_tuple x1 t1 p2 hu,.int_tuple x1 t1 p2 hu⟩
  |lst x2=>
   obtain⟨a2,vs2,rfl,Ey,Ru⟩:=re;cases rv;obtain⟨its2,w2,p2,_⟩:=I.list Ey;cases ek;exact⟨.int_list x1 t1 p2.isList hu,.int_list x1 t1 p2.isList hu⟩
  |emp=>cases ek
 |str x1=>
  obtain⟨rfl,_⟩:=rd;obtain⟨t1,rfl⟩:=ru;cases e with
  |non=>
   cases re;cases rv;cases ek;exact⟨.str_none x1 t1,.str_none x1 t1⟩
  |bl x2=>
   cases re;cases rv;cases ek;exact⟨.str_bool x1 t1 x2,.str_bool x1 t1 x2⟩
  |int x2=>
   cases re;obtain⟨t2,rfl⟩:=rv;cases ek;exact⟨.str_int x1 t1 x2 t2,.str_int x1 t1 x2 t2⟩
  |str x2=>
   obtain⟨rfl,_⟩:=re;obtain⟨t2,rfl⟩:=rv;cases ek;exact⟨.str_str x1 t1 x2 t2,.str_str x1 t1 x2 t2⟩
  |tup x2=>
   obtain⟨a2,vs2,rfl,Ey,Ru⟩:=re;cases rv;obtain⟨its2,w2,p2,_⟩:=I.tuple Ey;cases ek;exact⟨.str_tuple x1 t1 p2 hu,.str_tuple x1 t1 p2 hu⟩
  |lst x2=>
   obtain⟨a2,vs2,rfl,Ey,Ru⟩:=re;cases rv;obtain⟨its2,w2,p2,_⟩:=I.list Ey;cases ek;exact⟨.str_list x1 t1 p2.isList hu,.str_list x1 t1 p2.isList hu⟩
  |emp=>
   simp only[iM,Rep] at re;obtain⟨p,o,rfl,e⟩:=re;cases rv;cases ek;obtain⟨_,_,vs,r,q⟩:=uD I.hok (.inr ⟨o,e⟩);exact⟨Jr x1 t1 (yV rfl r q) hu,VJ x1 t1 (yV rfl r q) hu⟩
 |tup x1=>
  obtain⟨a1,vs1,rfl,sq1,rr1⟩:=rd;cases ru;obtain⟨abC,w1,p1,_⟩:=I.tuple sq1;cases e with
  |non=>
   cases re;cases rv;cases ek;exact⟨.tuple_none p1 hu,.tuple_none p1 hu⟩
  |bl x2=>
   cases re;cases rv;cases ek;exact⟨.tuple_bool x2 p1 hu,.tuple_bool x2 p1 hu⟩
  |int x2=>
   cases re;obtain⟨t2,rfl⟩:=rv;cases ek;exact⟨.tuple_int x2 t2 p1 hu,.tuple_int x2 t2 p1 hu⟩
  |str x2=>
   obtain⟨rfl,_⟩:=re;obtain⟨t2,rfl⟩:=rv;cases ek;exact⟨.tuple_str x2 t2 p1 hu,.tuple_str x2 t2 p1 hu⟩
  |tup x2=>
   obtain⟨a2,vs2,rfl,Ey,Ru⟩:=re;cases rv;obtain⟨its2,w2,p2,_⟩:=I.tuple Ey;change lU _ _=some _ at ek;obtain⟨f,hf,rfl⟩:=u0 ek;have q1:abC.toArray.size=x1.length:=by rw[zt,<-w1.length,rr1.length]
   have q2:its2.toArray.size=x2.length:=by rw[zt,<-w2.length,Ru.length]
   have it:=Oe I (n:=99) (A:=X.A) (by simp only[uY] at hm;omega) (by omega) rr1 Ru w1 w2 hf;rw[<-q1,<-q2];exact⟨.tuples p1 p2 hu it,.tuples p1 p2 hu it⟩
  |lst x2=>
   obtain⟨a2,vs2,rfl,Ey,Ru⟩:=re;cases rv;obtain⟨its2,w2,p2,_⟩:=I.list Ey;cases ek;exact⟨.tuple_list p1 p2.isList hu,.tuple_list p1 p2.isList hu⟩
  |emp=>cases ek
 |lst x1=>
  obtain⟨a1,vs1,rfl,sq1,rr1⟩:=rd;cases ru;obtain⟨abC,w1,p1,_⟩:=I.list sq1;cases e with
  |non=>
   cases re;cases rv;cases ek;exact⟨.list_none p1.isList hu,.list_none p1.isList hu⟩
  |bl x2=>
   cases re;cases rv;cases ek;exact⟨.list_bool x2 p1.isList hu,.list_bool x2 p1.isList hu⟩
  |int x2=>
   cases re;obtain⟨t2,rfl⟩:=rv;cases ek;exact⟨.list_int x2 t2 p1.isList hu,.list_int x2 t2 p1.isList hu⟩
  |str x2=>
   obtain⟨rfl,_⟩:=re;obtain⟨t2,rfl⟩:=rv;cases ek;exact⟨.list_str x2 t2 p1.isList hu,.list_str x2 t2 p1.isList hu⟩
  |tup x2=>
   obtain⟨a2,vs2,rfl,Ey,Ru⟩:=re;cases rv;obtain⟨its2,w2,p2,_⟩:=I.tuple Ey;cases ek;exact⟨.list_tuple p1.isList p2 hu,.list_tuple p1.isList p2 hu⟩
  |lst x2=>
   obtain⟨a2,vs2,rfl,Ey,Ru⟩:=re;cases rv;obtain⟨its2,w2,p2,_⟩:=I.list Ey;change lU _ _=some _ at ek;obtain⟨f,hf,rfl⟩:=u0 ek;have q1:abC.toArray.size=x1.length:=by rw[zt,<-w1.length,rr1.length]
   have q2:its2.toArray.size=x2.length:=by rw[zt,<-w2.length,Ru.length]
   have it:=Oe I (n:=99) (A:=X.A) (by simp only[uY] at hm;omega) (by omega) rr1 Ru w1 w2 hf;by_cases hsz:abC.toArray.size=its2.toArray.size
   ·have hl:x1.length=x2.length:=by omega
    rw[hl,Nat.min_self,beq_self_eq_true,Kb,<-hl,<-q1];exact⟨.lists p1.isList p2.isList hsz hu it,.lists p1.isList p2.isList hsz hu it⟩
   ·have hl:(x1.length==x2.length)=false:=by rw[beq_eq_false_iff_ne];omega
    rw[hl,KP];exact⟨.lists_lengths p1.isList p2.isList (by simpa using hsz) hu,.lists_lengths p1.isList p2.isList (by simpa using hsz) hu⟩
  |emp=>cases ek
 |emp=>
  cases e<;>first|(cases ek;done)|skip;simp only[iM,Rep] at rd re;obtain⟨a,o,rfl,e1⟩:=rd;obtain⟨b,o',rfl,e2⟩:=re;cases ru;cases rv;cases ek;obtain⟨_,m1,vs,r,q⟩:=uD I.hok (.inr ⟨o,e1⟩);obtain⟨_,m2,vs',r',q'⟩:=uD I.hok (.inr ⟨o',e2⟩);exact⟨adk m1 m2 (yV rfl r q) (yV rfl r' q') hu,ag3 m1 m2 (yV rfl r q) (yV rfl r' q') hu⟩
def eqB (a b:Bx):Option Bx:=if lV a=true\/lV b=true then none else if min (uY (toD a)) (uY (toD b))<=100 then(Aj (toD a) (toD b)).bind λk=>some (.z (.bl k)) else none
def Og (a b:Bx):Option Bx:=if lV a=true\/lV b=true then none else if min (uY (toD a)) (uY (toD b))<=100 then(Aj (toD a) (toD b)).bind λk=>some (.z (.bl (!k))) else none
theorem of_eq (hu:X.A.units+100 < cLine):CJ X (compareOp .Eq) eqB:=by
 intro pins s σ H x y v u Q I rx ry h;obtain⟨a,b,c,ra,rb,e,q⟩:=h;unfold eqB at e;split at e
 ·cases e
 rename_i hz;have ha:lV a=false:=by cases h:lV a with|false=>rfl|true=>exact absurd (.inl h) hz
 have hb:lV b=false:=by cases h:lV b with|false=>rfl|true=>exact absurd (.inr h) hz
 split at e
 ·rename_i hm;obtain⟨k,ek,e⟩:=bind_some e;cases e;exact(Ua I hm hu (ra.toD ha) (rb.toD hb) rx ry ek).1 X.prog X.w X.xe _ ⟨.bl k,H,I,rfl,q _ H (Same.refl H) trivial (by unfold aU Rep;rfl)⟩
 ·cases e
theorem u6 (hu:X.A.units+100 < cLine):CJ X (compareOp .NotEq) Og:=by
 intro pins s σ H x y v u Q I rx ry h;obtain⟨a,b,c,ra,rb,e,q⟩:=h;unfold Og at e;split at e
 ·cases e
 rename_i hz;have ha:lV a=false:=by cases h:lV a with|false=>rfl|true=>exact absurd (.inl h) hz
 have hb:lV b=false:=by cases h:lV b with|false=>rfl|true=>exact absurd (.inr h) hz
 split at e
 ·rename_i hm;obtain⟨k,ek,e⟩:=bind_some e;cases e;exact(Ua I hm hu (ra.toD ha) (rb.toD hb) rx ry ek).2 X.prog X.w X.xe _ ⟨.bl (!k),H,I,rfl,q _ H (Same.refl H) trivial (by unfold aU Rep;rfl)⟩
 ·cases e
theorem CP {K:FG_} {H:Hp} {i:Int}:aU K H (.z (.int i)) (.int i):=by unfold aU Rep;rfl
theorem Ez {K:FG_} {H:Hp} {b:Bool}:aU K H (.z (.bl b)) (.bl b):=by unfold aU Rep;rfl
theorem abD {K:FG_} {H:Hp} {x:Str} (h:x.length<=sizeLine):aU K H (.z (.str x)) (.str x):=by unfold aU Rep;exact⟨rfl,h⟩
theorem Kz {K:FG_} {H:Hp} {i:Int} {v:V} (h:aU K H (.z (.int i)) v):v=.int i:=by simpa only[aU,Rep] using h
theorem VN {K:FG_} {H:Hp} {x:Str} {v:V} (h:aU K H (.z (.str x)) v):v=.str x/\x.length<=sizeLine:=by simpa only[aU,Rep] using h
theorem inT {K:FG_} {H:Hp} {ds:List Dt} {v:V} (h:aU K H (.z (.tup ds)) v):∃ a vs,v=.ref a/\yH K H a vs/\aK K H ds vs:=by simpa only[aU,Rep] using h
def i2 (g:Int->Int->Option Dt):Bx->Bx->Option Bx
 |.z (.int i),.z (.int j)=>(g i j).bind λd=>some (.z d)
 |_,_=>none
theorem EY {f:Value->Value->Sem Value} {r:R2} {g:Int->Int->Option Dt} (ho:vZ X f r) (h:∀ i j d H Q,g i j=some d->(∀ v,Rep X.K H d v->Q v H)->r (.int i) (.int j) H Q):CJ X f (i2 g):=vZ.imp ho λx y H Q q=>by
 obtain⟨a,b,c,ra,rb,e,q⟩:=q;unfold i2 at e;split at e
 ·rename_i i j;obtain⟨d,ed,e⟩:=bind_some e;cases e;rw[Kz ra,Kz rb];exact h i j d H Q ed λv rv=>q v H (Same.refl H) trivial rv
 ·cases e
theorem okI {K:FG_} {H:Hp} {i:Int}:Rep K H (.int i) (.int i):=by unfold Rep;rfl
theorem okT {K:FG_} {H:Hp} {b:Bool}:Rep K H (.bl b) (.bl b):=by unfold Rep;rfl
abbrev subB:=i2 λi j=>some (.int (i - j))
abbrev leB:=i2 λi j=>some (.bl (decide (i<=j)))
abbrev gtB:=i2 λi j=>some (.bl (decide (j < i)))
abbrev geB:=i2 λi j=>some (.bl (decide (j<=i)))
abbrev Oh:=i2 λi j=>if 0 < j/\j < 1073741824 then some (.int (i / j)) else none
abbrev kh:=i2 λi j=>if 0 < j then some (.int (i % j)) else none
abbrev aeM:=i2 λi j=>if 0<=j/\j<=1000/\i.natAbs < 2 ^ 64 then some (.int (i ^ j.toNat)) else none
theorem Rv:CJ X (binaryOp .Sub) subB:=EY aea λi j d H Q e q=>by cases e;exact⟨i,j,rfl,rfl,q _ okI⟩
theorem of_le:CJ X (compareOp .LtE) leB:=EY agx λi j d H Q e q=>by cases e;exact⟨i,j,rfl,rfl,q _ okT⟩
theorem ag7:CJ X (compareOp .Gt) gtB:=EY agy λi j d H Q e q=>by cases e;exact⟨i,j,rfl,rfl,q _ okT⟩
theorem Yj:CJ X (compareOp .GtE) geB:=EY agz λi j d H Q e q=>by cases e;exact⟨i,j,rfl,rfl,q _ okT⟩
theorem KC:CJ X (binaryOp .FloorDiv) Oh:=EY aaV λi j d H Q e q=>by
 split at e
 ·rename_i h;cases e;exact⟨i,j,rfl,rfl,h,q _ okI⟩
 ·cases e
theorem dW:CJ X (binaryOp .Mod) kh:=EY aec λi j d H Q e q=>by
 split at e
 ·rename_i h;cases e;exact⟨i,j,rfl,rfl,h,q _ okI⟩
 ·cases e
theorem aeN:CJ X (binaryOp .Pow) aeM:=EY aed λi j d H Q e q=>by
 split at e
 ·rename_i h;cases e;exact⟨i,j,rfl,rfl,⟨h.1,by omega,h.2.2⟩,q _ okI⟩
 ·cases e
def Yk:Bx->Option Bx
 |.z (.int i)=>some (.z (.int (-i)))
 |_=>none
theorem aeO:UnF X (unaryOp .USub) Yk:=UnR.imp aee λx H Q q=>by
 obtain⟨a,c,ra,e,q⟩:=q;unfold Yk at e;split at e
 ·rename_i i;cases e;exact⟨i,Kz ra,q _ H (Same.refl H) trivial CP⟩
 ·cases e
def VP:Nat:=1000000
theorem abE:VP<=sizeLine:=by decide
theorem aeP {l b:Addr} {vs us:List V} {Q:VK} (I:L2.Inv X pins σ H s) (hl:uN X.K H l vs) (hb:uN X.K H b us) (hz:vs.length+us.length<=sizeLine) (q:∀ p,H p=none->Q (.ref p) (upd H p (.lst (vs++us)))) :
  wpAny (model X.prog X.w) X.A (binaryOp .Add (.ref l) (.ref b)) (EP X pins σ Q) X.xe s:=by
 obtain⟨its,r1,⟨⟨cls,dd,data,sl⟩,n1,e1,c1,d1,dd1⟩,z1⟩:=I.list hl;obtain⟨its2,r2,⟨⟨cls2,dd2,data2,sl2⟩,n2,e2,c2,d2,Yl⟩,z2⟩:=I.list hb;simp only at c1 d1 dd1 c2 d2 Yl;subst c1 d1 dd1 c2 d2 Yl;have l1:=r1.length;have l2:=r2.length;have e:its.toArray++its2.toArray=(its++its2).toArray:=by simp
 refine concat_meets ⟨_,e1,rfl⟩ ⟨_,e2,rfl⟩ noFill_list_add seq_list_add PySem.F.slot_list_add PySem.F.entry_list_add (PySem.F.args_list_add_2 _ _) (list_addW l b its.toArray its2.toArray n1 n2 none none sl sl2 (by rw[zt,zt];omega)) ⟨e1,e2,?_⟩;rw[e];exact⟨.ref s.heap.objs.size,_,I.laid (t':=s.toks) (o:=.lst (vs++us)) (λb ob q=>zd _ q) (zi _) ⟨by rw[zS];exact hz,_,0,r1.append r2,zv _ rfl⟩,rfl,q _ (I.hok.fresh (zi _))⟩
theorem aeQ {l b:Addr} {vs us:List V} {Q:VK} (I:L2.Inv X pins σ H s) (hl:yH X.K H l vs) (hb:yH X.K H b us) (hz:vs.length+us.length<=sizeLine) (q0:vs=[]->Q (.ref b) H) (q1:us=[]->Q (.ref l) H) (q2:∀ p,H p=none->Q (.ref p) (upd H p (.tup (vs++us)))) :
  wpAny (model X.prog X.w) X.A (binaryOp .Add (.ref l) (.ref b)) (EP X pins σ Q) X.xe s:=by
 by_cases hv:vs=[]
 ·obtain⟨its,r1,⟨⟨cls,dd,data,sl⟩,e1,c1,n1,dd1⟩,z1⟩:=I.tuple hl;obtain⟨its2,r2,⟨⟨cls2,dd2,data2,sl2⟩,e2,c2,n2,Yl⟩,z2⟩:=I.tuple hb;simp only at c1 dd1 c2 Yl;subst c1 dd1 c2 Yl;have:its=[]:=r1.Dq.mpr hv;exact concat_meets ⟨_,e1,rfl⟩ ⟨_,e2,rfl⟩ noFill_tuple_add seq_tuple_add PySem.F.slot_tuple_add yv (yf _ _)
   (tuple_addW0 l b its.toArray its2.toArray n1 n2 dd dd2 sl sl2 (by simp[this])) ⟨e1,e2,⟨.ref b,H,I,rfl,q0 hv⟩⟩
 ·exact aa4 pins s σ H (.ref l) (.ref b) (.ref l) (.ref b) Q I rfl rfl ⟨l,b,vs,us,rfl,rfl,hl,hb,hv,hz,q1,λ_=>q2⟩
def jK:Bx->Bx->Option Bx
 |.z (.int i),.z (.int j)=>some (.z (.int (i+j)))
 |.z (.str i),.z (.str j)=>if i.length+j.length<=VP then some (.z (.str (i++j))) else none
 |.z (.tup xs),.z (.tup ys)=>if xs.length+ys.length<=VP then some (.z (.tup (xs++ys))) else none
 |a,b=>(qj a).bind λxs=>(qj b).bind λys=>if xs.length+ys.length<=VP then some (.o (xs++ys)) else none
theorem str_len (i j:Str):(i++j).length=i.length+j.length:=by
 show(i.cps++j.cps).size=_;rw[k5];rfl
theorem fP:CJ X (binaryOp .Add) jK:=by
 intro pins s σ H x y v u Q I rx ry h;obtain⟨a,b,c,ra,rb,e,q⟩:=h;have hbig:=abE;unfold jK at e;split at e
 ·rename_i i j;cases e;exact ad9 pins s σ H x y v u Q I rx ry ⟨i,j,Kz ra,Kz rb,q _ H (Same.refl H) trivial CP⟩
 ·rename_i i j;split at e
  ·rename_i hl;cases e;exact Rc pins s σ H x y v u Q I rx ry ⟨i,j,(VN ra).1,(VN rb).1,by omega,q _ H (Same.refl H) trivial (abD (by rw[str_len];omega))⟩
  ·cases e
 ·rename_i xs ys;split at e
  ·rename_i hl;cases e;obtain⟨l,vs,rfl,sl,rl⟩:=inT ra;obtain⟨m,us,rfl,sm,rm⟩:=inT rb;cases rx;cases ry;have h1:=rl.length;have h2:=rm.length;refine aeQ I sl sm (by omega) (λz=>q _ H (Same.refl H) trivial ?_) (λz=>q _ H (Same.refl H) trivial ?_) λp hp=>q _ _ (bQ hp) trivial ?_
   ·unfold aU Rep;refine⟨m,us,rfl,sm,?_⟩;have:xs=[]:=by subst z;exact List.eq_nil_of_length_eq_zero (by simpa using h1.symm)
    rw[this,Kn];exact rm
   ·unfold aU Rep;refine⟨l,vs,rfl,sl,?_⟩;have:ys=[]:=by subst z;exact List.eq_nil_of_length_eq_zero (by simpa using h2.symm)
    rw[this,JP];exact rl
   ·unfold aU Rep;exact⟨p,_,rfl,.inl (.inl bG),(rl.append rm).kp (.of (bQ hp))⟩
  ·cases e
 ·obtain⟨xs,ea,e⟩:=bind_some e;obtain⟨ys,eb,e⟩:=bind_some e;split at e
  ·rename_i hl;cases e;obtain⟨l,vs,rfl,sl,rl⟩:=ra.Hx ea;obtain⟨m,us,rfl,sm,rm⟩:=rb.Hx eb;cases rx;cases ry;have h1:=rl.length;have h2:=rm.length;refine aeP I sl sm (by omega) λp hp=>q _ _ (bQ hp) (λa ea=>by cases ea;exact hp) ⟨p,_,rfl,bG,(rl.append rm).kp (.of (bQ hp))⟩
  ·cases e
def yW:Bx->Bx->Option Bx
 |.z (.int i),.z (.int j)=>if(-(2 ^ 64) < i/\i < 2 ^ 64)\/(-(2 ^ 64) < j/\j < 2 ^ 64) then some (.z (.int (i * j))) else none
 |.z (.str x),.z (.int n)=>if n<=1000 ∧ -1000<=n/\x.length<=1000 then some (.z (.str (Txt.mul x n))) else none
 |_,_=>none
theorem wY (x:Array Nat):∀ (n:Nat) (acc:Array Nat),((List.replicate n x).foldl (·++·) acc).size=acc.size+n * x.size
 |0,acc=>by simp
 |n+1,acc=>by
  rw[Kx,QO,wY x n,k5,Nat.succ_mul];omega
theorem KD (x:Str) (n:Int):(Txt.mul x n).length<=n.toNat * x.length+x.length:=by
 unfold Txt.mul;split
 ·exact QI _
 ·split
  ·exact Nat.le_add_left _ _
  ·show((List.replicate n.toNat x.cps).foldl (·++·) #[]).size<=_;rw[wY];show(#[]:Array Nat).size+n.toNat * x.cps.size<=n.toNat * x.cps.size+x.cps.size;simp
theorem u9:CJ X (binaryOp .Mult) yW:=by
 intro pins s σ H x y v u Q I rx ry h;obtain⟨a,b,c,ra,rb,e,q⟩:=h;unfold yW at e;split at e
 ·rename_i i j;split at e
  ·rename_i hl;cases e;exact aeb pins s σ H x y v u Q I rx ry ⟨i,j,Kz ra,Kz rb,hl,q _ H (Same.refl H) trivial CP⟩
  ·cases e
 ·rename_i x' n;split at e
  ·rename_i hl;cases e;obtain⟨rfl,hx⟩:=VN ra;have hy:=Kz rb;subst hy;obtain⟨t,rfl⟩:=rx;obtain⟨t',rfl⟩:=ry;have hs:sizeLine=16777216:=sizeLine_eq;have hm:n.toNat * x'.length<=1000 * 1000:=Nat.mul_le_mul (by omega) hl.2.2;refine SB.mul ⟨?_,λh1 h2=>?_,λh1 h2=>?_⟩ λt' k=>⟨.str _,H,I.tok _,⟨_,rfl⟩,q _ H (Same.refl H) trivial (abD (Zs (KD x' n) (by omega)))⟩
   ·have e1:decide (n < -(2 ^ 63:Int))=false:=ZE (by omega);have e2:decide (n>=2 ^ 63)=false:=ZE (by omega);rw[e1,e2];rfl
   ·have hn:0 < n:=by omega
    have:(1000:Int)<=(2 ^ 63 - 1) / n:=(Int.le_ediv_iff_mul_le hn).mpr (by omega);omega
   ·show decide (x'.length * n.toNat > sizeLine)=false;rw[Nat.mul_comm];exact ZE (by omega)
  ·cases e
 ·cases e
def Js (i j:Str):Bool:=!(Builtin.Str.occurrences j i 0 j.length 1).isEmpty
def yX:Dt->Bool
 |.non=>true
 |.bl _=>true
 |.int _=>true
 |.str _=>true
 |_=>false
def memD (x:Dt) (ys:List Dt):Option Bool:=if yX x=true/\ys.all yX=true then some (ys.any λy=>match Aj y x with|some true=>true|_=>false) else none
def qZ:Bx->Option (List Dt)
 |.z (.lst ds)=>some ds
 |.z (.tup ds)=>some ds
 |.l ds=>some ds
 |.o ds=>some ds
 |_=>none
def inB:Bx->Bx->Option Bool
 |.z (.str i),.z (.str j)=>some (Js i j)
 |.z d,b=>(qZ b).bind λys=>memD d ys
 |_,_=>none
def inF (a b:Bx):Option Bx:=(inB a b).bind λk=>some (.z (.bl k))
def abF (a b:Bx):Option Bx:=(inB a b).bind λk=>some (.z (.bl (!k)))
theorem Oi {K:FG_} {H:Hp} {d:Dt} {v:V} (r:Rep K H d v) (f:yX d=true):uz v=true:=by
 cases d<;>first|(cases f;done)|skip
 all_goals simp only[Rep] at r
 ·subst r;rfl
 ·subst r;rfl
 ·subst r;rfl
 ·obtain⟨rfl,_⟩:=r;rfl
theorem Jt {K:FG_} {H:Hp}:∀ {ds:List Dt} {vs:List V},aK K H ds vs->ds.all yX=true->vs.all uz=true
 |[],_,h,_=>by simp only[aK] at h;subst h;rfl
 |d::ds,_,h,f=>by
  simp only[aK] at h;obtain⟨v,r,rfl,h1,h2⟩:=h;rw[kq,ZA] at f;rw[kq,Oi h1 f.1,Jt h2 f.2];rfl
theorem KH (b:Bool):(match some b with|some true=>true|_=>false)=b:=by cases b<;>rfl
theorem abG {K:FG_} {H:Hp} {d e:Dt} {x y:V} (rd:Rep K H d x) (re:Rep K H e y) (fd:yX d=true) (fe:yX e=true):eqV x y=(match Aj d e with|some true=>true|_=>false):=by
 cases d<;>first|(cases fd;done)|skip
 all_goals (cases e<;>first|(cases fe;done)|skip)
 all_goals simp only[Rep] at rd re
 all_goals first
  |(subst rd;subst re;exact(KH _).symm)
  |(obtain⟨rfl,_⟩:=rd;subst re;exact(KH _).symm)
  |(subst rd;obtain⟨rfl,_⟩:=re;exact(KH _).symm)
  |(obtain⟨rfl,_⟩:=rd;obtain⟨rfl,_⟩:=re;exact(KH _).symm)
theorem Ub {K:FG_} {H:Hp} {d:Dt} {x:V} (rd:Rep K H d x) (fd:yX d=true):∀ {ds:List Dt} {vs:List V},aK K H ds vs->ds.all yX=true->inV x vs=ds.any λy=>match Aj y d with|some true=>true|_=>false
 |[],_,h,_=>by simp only[aK] at h;subst h;rfl
 |e::ds,_,h,f=>by
  simp only[aK] at h;obtain⟨v,r,rfl,h1,h2⟩:=h;rw[kq,ZA] at f;have:=Ub rd fd h2 f.2;unfold inV at this ⊢;rw[kb,kb,abG h1 rd f.1 fd,this]
theorem vA {K:FG_} {H:Hp} {b:Bx} {v:V} {ds:List Dt} (h:aU K H b v) (e:qZ b=some ds):∃ a vs,v=.ref a/\(uN K H a vs\/yH K H a vs)/\aK K H ds vs:=by
 cases b with
 |z d=>
  cases d<;>first|(cases e;done)|skip
  ·cases e;obtain⟨a,vs,e,q,r⟩:=inT h;exact⟨a,vs,e,.inr q,r⟩
  ·cases e;obtain⟨a,vs,e,q,r⟩:=h.Hx rfl;exact⟨a,vs,e,.inl q,r⟩
 |l ds'=>
  cases e;obtain⟨a,vs,e,q,r⟩:=h.Hx rfl;exact⟨a,vs,e,.inl q,r⟩
 |o ds'=>
  cases e;obtain⟨a,vs,e,q,r⟩:=h.Hx rfl;exact⟨a,vs,e,.inl q,r⟩
 |n _=>cases e
 |m _ _=>cases e
theorem Ju {H:Hp} {a b:Bx} {x y:V} {k:Bool} (ra:aU X.K H a x) (rb:aU X.K H b y) (e:inB a b=some k) :
  (∃ i j,x=.str i/\y=.str j/\k=Js i j)\/(∃ p xs,y=.ref p/\(uN X.K H p xs\/yH X.K H p xs)/\uz x=true/\xs.all uz=true/\k=inV x xs):=by
 unfold inB at e;split at e
 ·rename_i i j;cases e;exact .inl ⟨i,j,(VN ra).1,(VN rb).1,rfl⟩
 ·rename_i d _;obtain⟨ys,ey,e⟩:=bind_some e;unfold memD at e;split at e
  ·rename_i hf;cases e;obtain⟨p,vs,rfl,sq,rs⟩:=vA rb ey;have ra':Rep X.K H d x:=ra;exact .inr ⟨p,vs,rfl,sq,Oi ra' hf.1,Jt rs hf.2,(Ub ra' hf.1 rs hf.2).symm⟩
  ·cases e
 ·cases e
theorem Jv:CJ X (compareOp .In) inF:=by
 intro pins s σ H x y v u Q I rx ry h;obtain⟨a,b,c,ra,rb,e,q⟩:=h;obtain⟨k,ek,e⟩:=bind_some e;cases e;rcases Ju ra rb ek with⟨i,j,rfl,rfl,rfl⟩|⟨p,xs,rfl,sq,f1,f2,rfl⟩
 ·exact Vr pins s σ H _ _ v u Q I rx ry ⟨i,j,rfl,rfl,q _ H (Same.refl H) trivial Ez⟩
 ·exact Vu pins s σ H _ _ v u Q I rx ry ⟨p,xs,rfl,sq,f1,f2,q _ H (Same.refl H) trivial Ez⟩
theorem Ym:CJ X (compareOp .NotIn) abF:=by
 intro pins s σ H x y v u Q I rx ry h;obtain⟨a,b,c,ra,rb,e,q⟩:=h;obtain⟨k,ek,e⟩:=bind_some e;cases e;rcases Ju ra rb ek with⟨i,j,rfl,rfl,rfl⟩|⟨p,xs,rfl,sq,f1,f2,rfl⟩
 ·exact Kh pins s σ H _ _ v u Q I rx ry ⟨i,j,rfl,rfl,q _ H (Same.refl H) trivial Ez⟩
 ·exact Kg pins s σ H _ _ v u Q I rx ry ⟨p,xs,rfl,sq,f1,f2,q _ H (Same.refl H) trivial Ez⟩
def Fb:Bx->Bool
 |.z .non=>true
 |_=>false
theorem Jw {K:FG_} {H:Hp} {b:Bx} {v:V} (h:aU K H b v):decide (v=.non)=Fb b:=by
 cases b with
 |z d=>
  cases d<;>simp only[aU,Rep] at h
  ·subst h;rfl
  ·subst h;rfl
  ·subst h;rfl
  ·obtain⟨rfl,_⟩:=h;rfl
  ·obtain⟨_,_,rfl,_⟩:=h;rfl
  ·obtain⟨_,_,rfl,_⟩:=h;rfl
  ·obtain⟨_,_,rfl,_⟩:=h;rfl
 |l ds=>obtain⟨_,_,rfl,_⟩:=h;rfl
 |o ds=>obtain⟨_,_,rfl,_⟩:=h;rfl
 |n ds=>obtain⟨_,_,rfl,_⟩:=h;rfl
 |m ds _=>obtain⟨_,_,rfl,_⟩:=h;rfl
def isB (a:Bx):Bx->Option Bx
 |.z .non=>some (.z (.bl (Fb a)))
 |_=>none
def Fd (a:Bx):Bx->Option Bx
 |.z .non=>some (.z (.bl (!Fb a)))
 |_=>none
theorem of_is:CJ X (compareOp .Is) isB:=vZ.imp aef λx y H Q q=>by
 obtain⟨a,b,c,ra,rb,e,q⟩:=q;unfold isB at e;split at e
 ·cases e;simp only[aU,Rep] at rb;exact⟨rb,by rw[Jw ra];exact q _ H (Same.refl H) trivial Ez⟩
 ·cases e
theorem KJ:CJ X (compareOp .IsNot) Fd:=vZ.imp aaW λx y H Q q=>by
 obtain⟨a,b,c,ra,rb,e,q⟩:=q;unfold Fd at e;split at e
 ·cases e;simp only[aU,Rep] at rb;exact⟨rb,by rw[Jw ra];exact q _ H (Same.refl H) trivial Ez⟩
 ·cases e
def gK:Bx->Bx->Option Bx
 |.z (.str x),.z (.int i)=>(Ek x.cps.toList i).bind λc=>some (.z (.str ⟨#[c]⟩))
 |b,.z (.int i)=>(qZ b).bind λds=>(Ek ds i).bind λd=>some (.z d)
 |_,_=>none
theorem abH {K:FG_} {H:Hp} {ds:List Dt} {vs:List V} {i:Int} {d:Dt} (r:aK K H ds vs) (e:Ek ds i=some d):∃ v,Ek vs i=some v/\Rep K H d v:=by
 unfold Ek at e ⊢;rw[r.length];obtain⟨j,ej,e⟩:=bind_some e;rw[ej];exact r.get e
theorem bB {a b:Expr} {fa fb:Ev->Option Bx} {pos:Pos} (ha:QV X a fa) (hb:QV X b fb) (hs:T3 b:=by intro _ _;with_unfolding_all rfl):QV X (.Subscript a b pos) (b2 gK fa fb):=⟨have ha:=ha.run;have hb:=hb.run;Ds (agG aes ha hb hs) λσ H Q h=>by
 obtain⟨H0,ρ,c,E,e,q⟩:=h;obtain⟨a,ea,e⟩:=bind_some e;obtain⟨b,eb,e⟩:=bind_some e;refine⟨H0,ρ,a,E,ea,λv H1 s1 n1 r1=>⟨H0,ρ,b,E.grow s1,eb,λu H2 s2 n2 r2=>?_⟩⟩;have r1':=r1.same s2;unfold gK at e;split at e
 ·rename_i x i;obtain⟨c',ec,e⟩:=bind_some e;cases e;exact .inr (.inr ⟨_,_,c',(VN r1').1,Kz r2,(VN r1').2,ec,q _ _ (s1.trans s2) trivial (abD (by show(1:Nat)<=sizeLine;decide))⟩)
 ·obtain⟨ds,ed,e⟩:=bind_some e;obtain⟨d,ei,e⟩:=bind_some e;cases e;obtain⟨p,vs,rfl,sq,rs⟩:=vA r1' ed;obtain⟨w,ew,QZ⟩:=abH rs ei;have hi:=Kz r2;rcases sq with sq|sq
  ·exact .inl ⟨p,vs,_,w,rfl,hi,sq,ew,q _ _ (s1.trans s2) trivial QZ⟩
  ·exact .inr (.inl ⟨p,vs,_,w,rfl,hi,sq,ew,q _ _ (s1.trans s2) trivial QZ⟩)
 ·cases e⟩
end
theorem abI:bootBuiltins "bool" = some (.type "bool"):=by decide +kernel
theorem KN:bootBuiltins "int" = some (.type "int"):=by decide +kernel
theorem aeR:bootBuiltins "str" = some (.type "str"):=by decide +kernel
theorem kW:bootBuiltins "tuple" = some (.type "tuple"):=by decide +kernel
theorem Uc:bootBuiltins "list" = some (.type "list"):=by decide +kernel
theorem mK:bootBuiltins "isinstance" = some (.builtin "isinstance"):=by decide +kernel
theorem q8:bootBuiltins "len" = some (.builtin "len"):=by decide +kernel
theorem aeS:bootBuiltins "abs" = some (.builtin "abs"):=by decide +kernel
theorem Rw:bootBuiltins "all" = some (.builtin "all"):=by decide +kernel
theorem Rx:bootBuiltins "min" = some (.builtin "min"):=by decide +kernel
theorem Bb:bootBuiltins "max" = some (.builtin "max"):=by decide +kernel
theorem wB:bootBuiltins "sorted" = some (.builtin "sorted"):=by decide +kernel
section
variable {X:Cx} {pins:List (Addr×Obj)} {σ:L2.St} {H:Hp} {s:Shared}
def is_bool:Dt->Bool
 |.bl _=>true
 |_=>false
theorem Yn (I:L2.Inv X pins σ H s) {d:Dt} {x:V} {v:Value} {Q:VK} (rd:iM X.K H d x) (rv:RelV x v) (q:Q (.bl (is_bool d)) H):wpAny (model X.prog X.w) X.A (call (.builtin "isinstance") [v,.type "bool"]) (EP X pins σ Q) X.xe s:=by
 cases d with
 |non=>simp only[iM,Rep] at rd;subst rd;cases rv;exact IsiPair.NoneType_bool ⟨.bl _,H,I.tok _,rfl,q⟩
 |bl b=>simp only[iM,Rep] at rd;subst rd;cases rv;exact IsiPair.bool_bool ⟨.bl _,H,I,rfl,q⟩
 |int b=>simp only[iM,Rep] at rd;subst rd;obtain⟨t,rfl⟩:=rv;exact IsiPair.int_bool ⟨.bl _,H,I.tok _,rfl,q⟩
 |str b=>simp only[iM,Rep] at rd;obtain⟨rfl,_⟩:=rd;obtain⟨t,rfl⟩:=rv;exact IsiPair.str_bool ⟨.bl _,H,I.tok _,rfl,q⟩
 |tup ds=>simp only[iM,Rep] at rd;obtain⟨a,vs,rfl,sq,_⟩:=rd;cases rv;obtain⟨_,_,p,_⟩:=I.tuple sq;exact IsiPair.isTuple_bool p (λ_ _ e=>e) ⟨.bl _,H,I.tok _,rfl,q⟩
 |lst ds=>simp only[iM] at rd;obtain⟨a,vs,rfl,sq,_⟩:=rd;cases rv;obtain⟨_,_,p,_⟩:=I.list sq;exact IsiPair.isList_bool p.isList (λ_ _ e=>e) ⟨.bl _,H,I.tok _,rfl,q⟩
 |emp=>simp only[iM,Rep] at rd;obtain⟨a,o,rfl,sq⟩:=rd;cases rv;obtain⟨ob,e,c⟩:=qt I sq;exact IsiPair.dict_bool e c ⟨.bl _,H,I.tok _,rfl,q⟩
theorem Oj {e:Expr} {f:Ev->Option Bx} {p p2 pos:Pos} (he:QV X e f) (hg:Gl X "isinstance") (hm:X.mg "isinstance" = none) (hg2:Gl X "bool") (hm2:X.mg "bool" = none) (hs:starEach [e,.Name "bool" p2] X.env=[(false,eval e X.env),(false,eval (.Name "bool" p2) X.env)]:=by rfl):QV X (.Call (.Name "isinstance" p) [e,.Name "bool" p2] [] pos) (b1 (λb=>if lV b=true then none else some (.z (.bl (is_bool (toD b))))) f):=⟨by
 have he:=he.run;have hc:fX X (.builtin "isinstance") (λxs H Q=>∃ b x,xs=[x,.ty "bool"]/\aU X.K H b x/\lV b=false/\Q (.bl (is_bool (toD b))) H):=by
  intro pins s σ H xs us Q I r h;obtain⟨b,x,rfl,rb,hmb,q⟩:=h;obtain⟨u,w',rfl,r1,r2⟩:=vals2 r;cases r2;exact Yn I (rb.toD hmb) r1 q
 have ha:PA X [e,.Name "bool" p2] (yI (tF X.K f) (yI (tC (.ty "bool")) Xw)):=gY he (gY (Dl hg2 hm2 (v:=.ty "bool") (u:=.type "bool") abI rfl) qW) (by rw[hs]<;>rfl);refine Ds (rK hc hg hm mK ha (by decide) (by decide) (by rw[hs]<;>rfl) rfl) λσ H Q h=>?_;obtain⟨H0,ρ,c,E,e,q⟩:=h;obtain⟨b,eb,e⟩:=bind_some e;split at e
 ·cases e
 rename_i hz;cases e;exact⟨H0,ρ,b,E,eb,λv H1 s1 n1 r1=>⟨b,v,rfl,r1,by simpa using hz,q _ _ s1 trivial Ez⟩⟩⟩
def Bc:Dt->Bool
 |.bl _=>true
 |.int _=>true
 |_=>false
theorem abJ (I:L2.Inv X pins σ H s) {d:Dt} {x:V} {v:Value} {Q:VK} (rd:iM X.K H d x) (rv:RelV x v) (q:Q (.bl (Bc d)) H):wpAny (model X.prog X.w) X.A (call (.builtin "isinstance") [v,.type "int"]) (EP X pins σ Q) X.xe s:=by
 cases d with
 |non=>simp only[iM,Rep] at rd;subst rd;cases rv;exact IsiPair.NoneType_int ⟨.bl _,H,I.tok _,rfl,q⟩
 |bl b=>simp only[iM,Rep] at rd;subst rd;cases rv;exact IsiPair.bool_int ⟨.bl _,H,I,rfl,q⟩
 |int b=>simp only[iM,Rep] at rd;subst rd;obtain⟨t,rfl⟩:=rv;exact IsiPair.int_int ⟨.bl _,H,I,rfl,q⟩
 |str b=>simp only[iM,Rep] at rd;obtain⟨rfl,_⟩:=rd;obtain⟨t,rfl⟩:=rv;exact IsiPair.str_int ⟨.bl _,H,I.tok _,rfl,q⟩
 |tup ds=>simp only[iM,Rep] at rd;obtain⟨a,vs,rfl,sq,_⟩:=rd;cases rv;obtain⟨_,_,p,_⟩:=I.tuple sq;exact IsiPair.isTuple_int p (λ_ _ e=>e) ⟨.bl _,H,I.tok _,rfl,q⟩
 |lst ds=>simp only[iM] at rd;obtain⟨a,vs,rfl,sq,_⟩:=rd;cases rv;obtain⟨_,_,p,_⟩:=I.list sq;exact IsiPair.isList_int p.isList (λ_ _ e=>e) ⟨.bl _,H,I.tok _,rfl,q⟩
 |emp=>simp only[iM,Rep] at rd;obtain⟨a,o,rfl,sq⟩:=rd;cases rv;obtain⟨ob,e,c⟩:=qt I sq;exact IsiPair.dict_int e c ⟨.bl _,H,I.tok _,rfl,q⟩
theorem Ry {e:Expr} {f:Ev->Option Bx} {p p2 pos:Pos} (he:QV X e f) (hg:Gl X "isinstance") (hm:X.mg "isinstance" = none) (hg2:Gl X "int") (hm2:X.mg "int" = none) (hs:starEach [e,.Name "int" p2] X.env=[(false,eval e X.env),(false,eval (.Name "int" p2) X.env)]:=by rfl):QV X (.Call (.Name "isinstance" p) [e,.Name "int" p2] [] pos) (b1 (λb=>if lV b=true then none else some (.z (.bl (Bc (toD b))))) f):=⟨by
 have he:=he.run;have hc:fX X (.builtin "isinstance") (λxs H Q=>∃ b x,xs=[x,.ty "int"]/\aU X.K H b x/\lV b=false/\Q (.bl (Bc (toD b))) H):=by
  intro pins s σ H xs us Q I r h;obtain⟨b,x,rfl,rb,hmb,q⟩:=h;obtain⟨u,w',rfl,r1,r2⟩:=vals2 r;cases r2;exact abJ I (rb.toD hmb) r1 q
 have ha:PA X [e,.Name "int" p2] (yI (tF X.K f) (yI (tC (.ty "int")) Xw)):=gY he (gY (Dl hg2 hm2 (v:=.ty "int") (u:=.type "int") KN rfl) qW) (by rw[hs]<;>rfl);refine Ds (rK hc hg hm mK ha (by decide) (by decide) (by rw[hs]<;>rfl) rfl) λσ H Q h=>?_;obtain⟨H0,ρ,c,E,e,q⟩:=h;obtain⟨b,eb,e⟩:=bind_some e;split at e
 ·cases e
 rename_i hz;cases e;exact⟨H0,ρ,b,E,eb,λv H1 s1 n1 r1=>⟨b,v,rfl,r1,by simpa using hz,q _ _ s1 trivial Ez⟩⟩⟩
def xT:Dt->Bool
 |.str _=>true
 |_=>false
theorem abK (I:L2.Inv X pins σ H s) {d:Dt} {x:V} {v:Value} {Q:VK} (rd:iM X.K H d x) (rv:RelV x v) (q:Q (.bl (xT d)) H):wpAny (model X.prog X.w) X.A (call (.builtin "isinstance") [v,.type "str"]) (EP X pins σ Q) X.xe s:=by
 cases d with
 |non=>simp only[iM,Rep] at rd;subst rd;cases rv;exact IsiPair.NoneType_str ⟨.bl _,H,I.tok _,rfl,q⟩
 |bl b=>simp only[iM,Rep] at rd;subst rd;cases rv;exact IsiPair.bool_str ⟨.bl _,H,I.tok _,rfl,q⟩
 |int b=>simp only[iM,Rep] at rd;subst rd;obtain⟨t,rfl⟩:=rv;exact IsiPair.int_str ⟨.bl _,H,I.tok _,rfl,q⟩
 |str b=>simp only[iM,Rep] at rd;obtain⟨rfl,_⟩:=rd;obtain⟨t,rfl⟩:=rv;exact IsiPair.str_str ⟨.bl _,H,I,rfl,q⟩
 |tup ds=>simp only[iM,Rep] at rd;obtain⟨a,vs,rfl,sq,_⟩:=rd;cases rv;obtain⟨_,_,p,_⟩:=I.tuple sq;exact IsiPair.isTuple_str p (λ_ _ e=>e) ⟨.bl _,H,I.tok _,rfl,q⟩
 |lst ds=>simp only[iM] at rd;obtain⟨a,vs,rfl,sq,_⟩:=rd;cases rv;obtain⟨_,_,p,_⟩:=I.list sq;exact IsiPair.isList_str p.isList (λ_ _ e=>e) ⟨.bl _,H,I.tok _,rfl,q⟩
 |emp=>simp only[iM,Rep] at rd;obtain⟨a,o,rfl,sq⟩:=rd;cases rv;obtain⟨ob,e,c⟩:=qt I sq;exact IsiPair.dict_str e c ⟨.bl _,H,I.tok _,rfl,q⟩
theorem Rz {e:Expr} {f:Ev->Option Bx} {p p2 pos:Pos} (he:QV X e f) (hg:Gl X "isinstance") (hm:X.mg "isinstance" = none) (hg2:Gl X "str") (hm2:X.mg "str" = none) (hs:starEach [e,.Name "str" p2] X.env=[(false,eval e X.env),(false,eval (.Name "str" p2) X.env)]:=by rfl):QV X (.Call (.Name "isinstance" p) [e,.Name "str" p2] [] pos) (b1 (λb=>if lV b=true then none else some (.z (.bl (xT (toD b))))) f):=⟨by
 have he:=he.run;have hc:fX X (.builtin "isinstance") (λxs H Q=>∃ b x,xs=[x,.ty "str"]/\aU X.K H b x/\lV b=false/\Q (.bl (xT (toD b))) H):=by
  intro pins s σ H xs us Q I r h;obtain⟨b,x,rfl,rb,hmb,q⟩:=h;obtain⟨u,w',rfl,r1,r2⟩:=vals2 r;cases r2;exact abK I (rb.toD hmb) r1 q
 have ha:PA X [e,.Name "str" p2] (yI (tF X.K f) (yI (tC (.ty "str")) Xw)):=gY he (gY (Dl hg2 hm2 (v:=.ty "str") (u:=.type "str") aeR rfl) qW) (by rw[hs]<;>rfl);refine Ds (rK hc hg hm mK ha (by decide) (by decide) (by rw[hs]<;>rfl) rfl) λσ H Q h=>?_;obtain⟨H0,ρ,c,E,e,q⟩:=h;obtain⟨b,eb,e⟩:=bind_some e;split at e
 ·cases e
 rename_i hz;cases e;exact⟨H0,ρ,b,E,eb,λv H1 s1 n1 r1=>⟨b,v,rfl,r1,by simpa using hz,q _ _ s1 trivial Ez⟩⟩⟩
def is_tuple:Dt->Bool
 |.tup _=>true
 |_=>false
theorem VR (I:L2.Inv X pins σ H s) {d:Dt} {x:V} {v:Value} {Q:VK} (rd:iM X.K H d x) (rv:RelV x v) (q:Q (.bl (is_tuple d)) H):wpAny (model X.prog X.w) X.A (call (.builtin "isinstance") [v,.type "tuple"]) (EP X pins σ Q) X.xe s:=by
 cases d with
 |non=>simp only[iM,Rep] at rd;subst rd;cases rv;exact IsiPair.NoneType_tuple ⟨.bl _,H,I.tok _,rfl,q⟩
 |bl b=>simp only[iM,Rep] at rd;subst rd;cases rv;exact IsiPair.bool_tuple ⟨.bl _,H,I.tok _,rfl,q⟩
 |int b=>simp only[iM,Rep] at rd;subst rd;obtain⟨t,rfl⟩:=rv;exact IsiPair.int_tuple ⟨.bl _,H,I.tok _,rfl,q⟩
 |str b=>simp only[iM,Rep] at rd;obtain⟨rfl,_⟩:=rd;obtain⟨t,rfl⟩:=rv;exact IsiPair.str_tuple ⟨.bl _,H,I.tok _,rfl,q⟩
 |tup ds=>simp only[iM,Rep] at rd;obtain⟨a,vs,rfl,sq,_⟩:=rd;cases rv;obtain⟨_,_,p,_⟩:=I.tuple sq;exact IsiPair.isTuple_tuple p (λ_ _ e=>e) ⟨.bl _,H,I,rfl,q⟩
 |lst ds=>simp only[iM] at rd;obtain⟨a,vs,rfl,sq,_⟩:=rd;cases rv;obtain⟨_,_,p,_⟩:=I.list sq;exact IsiPair.isList_tuple p.isList (λ_ _ e=>e) ⟨.bl _,H,I.tok _,rfl,q⟩
 |emp=>simp only[iM,Rep] at rd;obtain⟨a,o,rfl,sq⟩:=rd;cases rv;obtain⟨ob,e,c⟩:=qt I sq;exact IsiPair.dict_tuple e c ⟨.bl _,H,I.tok _,rfl,q⟩
theorem KQ {e:Expr} {f:Ev->Option Bx} {p p2 pos:Pos} (he:QV X e f) (hg:Gl X "isinstance") (hm:X.mg "isinstance" = none) (hg2:Gl X "tuple") (hm2:X.mg "tuple" = none) (hs:starEach [e,.Name "tuple" p2] X.env=[(false,eval e X.env),(false,eval (.Name "tuple" p2) X.env)]:=by rfl):QV X (.Call (.Name "isinstance" p) [e,.Name "tuple" p2] [] pos) (b1 (λb=>if lV b=true then none else some (.z (.bl (is_tuple (toD b))))) f):=⟨by
 have he:=he.run;have hc:fX X (.builtin "isinstance") (λxs H Q=>∃ b x,xs=[x,.ty "tuple"]/\aU X.K H b x/\lV b=false/\Q (.bl (is_tuple (toD b))) H):=by
  intro pins s σ H xs us Q I r h;obtain⟨b,x,rfl,rb,hmb,q⟩:=h;obtain⟨u,w',rfl,r1,r2⟩:=vals2 r;cases r2;exact VR I (rb.toD hmb) r1 q
 have ha:PA X [e,.Name "tuple" p2] (yI (tF X.K f) (yI (tC (.ty "tuple")) Xw)):=gY he (gY (Dl hg2 hm2 (v:=.ty "tuple") (u:=.type "tuple") kW rfl) qW) (by rw[hs]<;>rfl);refine Ds (rK hc hg hm mK ha (by decide) (by decide) (by rw[hs]<;>rfl) rfl) λσ H Q h=>?_;obtain⟨H0,ρ,c,E,e,q⟩:=h;obtain⟨b,eb,e⟩:=bind_some e;split at e
 ·cases e
 rename_i hz;cases e;exact⟨H0,ρ,b,E,eb,λv H1 s1 n1 r1=>⟨b,v,rfl,r1,by simpa using hz,q _ _ s1 trivial Ez⟩⟩⟩
def tFO (K:FG_) (f:Ev->Option (Option Int)):TO:=λσ H Q=>∃ H0 ρ o,bN K H0 H σ ρ/\f ρ=some o/\∀ H',Same H H'->Q o H'
def PVo (X:Cx) (e:Option Expr) (f:Ev->Option (Option Int)):Prop:=PO X e (tFO X.K f)
structure QVo (X:Cx) (e:Option Expr) (f:Ev->Option (Option Int)):Prop where
 run:PVo X e f
theorem poM {e:Option Expr} {t t':TO} (h:PO X e t) (m:∀ σ H Q,t' σ H Q->t σ H Q):PO X e t':=λpins s σ H Q I q=>h pins s σ H Q I (m σ H Q q)
def Bd:Ev->Option (Option Int):=λ_=>some none
theorem yZ  : QVo X none Bd:=⟨poM aa2 λσ H Q h=>by
 obtain⟨H0,ρ,o,E,e,q⟩:=h;cases e;exact q H (Same.refl H)⟩
def aeT:Bx->Option (Option Int)
 |.z (.int i)=>some (some i)
 |_=>none
def Fe (f:Ev->Option Bx):Ev->Option (Option Int):=λρ=>(f ρ).bind aeT
theorem za {e:Expr} {f:Ev->Option Bx} (h:QV X e f):QVo X (some e) (Fe f):=⟨have h:=h.run;poM (aa3 h) λσ H Q q=>by
 obtain⟨H0,ρ,o,E,e,q⟩:=q;obtain⟨b,eb,e⟩:=bind_some e;refine⟨H0,ρ,b,E,eb,λv H1 s1 n1 r1=>?_⟩;unfold aeT at e;split at e
 ·rename_i i;cases e;exact⟨i,Kz r1,q H1 s1⟩
 ·cases e⟩
def cutD (xs:List Dt) (lo hi:Option Int):List Dt:=(xs.drop (HT.jx xs.length 0 lo)).take (HT.jx xs.length xs.length hi - HT.jx xs.length 0 lo)
theorem Ol {K:FG_} {H:Hp} {ds:List Dt} {vs:List V} (r:aK K H ds vs) (lo hi:Option Int):aK K H (cutD ds lo hi) (Nu vs lo hi):=by
 unfold cutD Nu;rw[r.length];exact(r.drop _).take _
theorem Yo (ds:List Dt) {lo hi:Option Int} (h1:HT.jx ds.length 0 lo=0) (h2:HT.jx ds.length ds.length hi=ds.length):cutD ds lo hi=ds:=by
 unfold cutD;rw[h1,h2];simp
theorem zc {t sl:Addr} {items:Array Value} {vl vu:Value} {lo hi:Option Int} {Q:VP_} {prog:Program} {w:World} {A:Around} {E:VP_} {s:Shared} (ht:IsTup s.heap t items) (hs:s.heap.IsSliceOf sl vl vu .none) (pl:IsPart vl lo) (pu:IsPart vu hi)
  (h1:HT.jx items.size 0 lo=0) (h2:HT.jx items.size items.size hi=items.size)
  (h:Q (.ref t) s):wpAny (model prog w) A (getItem (.ref t) (.ref sl)) Q E s:=by
 obtain⟨os,hos,hcs,hds⟩:=id hs;have hTs:s.TypeIs (.ref sl) "slice" := ⟨os,hos,hcs⟩;unfold getItem
 try with_reducible refine QN ?_
 first|refine zb (ze ?_)|skip
 refine zb (wpAny_sequenceKey ht.typeIs (by decide) ?_);refine zb (yn (name:=Str.ofString "__getitem__") ht.typeIs PyProof.Rows.slot_tuple_getitem
  (kg PyProof.Rows.slot_tuple_getitem ht.typeIs entry_tuple_getitem ?_ (args_tuple_getitem _ _)))
 show wpAny _ _ (Builtin.Tuple.tupleItemsOf (.ref t) >>= _) _ _ s;refine zb (tupleItemsOf_ ht ?_);refine zb (QP hTs ?_);rw[zk (by decide)];refine zb (HT.rM hs pl pu ?_);have hyes:(((HT.jx items.size 0 lo:Nat):Int)==0&&(1:Int)==1&&(HT.jx items.size items.size hi - HT.jx items.size 0 lo)==items.size)=true:=by
  rw[h1,h2];simp
 show wpAny _ _ (if(((HT.jx items.size 0 lo:Nat):Int)==0&&(1:Int)==1&&(HT.jx items.size items.size hi - HT.jx items.size 0 lo)==items.size)=true then _ else _) _ _ s;rw[zk hyes]
 first
  |refine zb (zb (QP ht.typeIs (ze ?_)))
  |refine zb (QP ht.typeIs (zb (ze ?_)))
  |refine zb (QP ht.typeIs ?_)
 rw[zk (by decide)]
 first
  |exact zb (k9 (ze ⟨_,rfl,ze h⟩))
  |exact zb (k9 (zb (ze (ze ⟨_,rfl,ze h⟩))))
def slB (b:Bx) (lo hi:Option Int):Option Bx:=match b with
 |.z (.str x)=>some (.z (.str (Txt.slice x lo hi)))
 |.z (.tup ds)=>some (.z (.tup (cutD ds lo hi)))
 |b=>(qj b).bind λds=>some (.o (cutD ds lo hi))
def rSl (K:FG_):V->Option Int->Option Int->Hp->VK->Prop:=λx lo hi H Q=>∃ b c,aU K H b x/\slB b lo hi=some c/\∀ w H',Same H H'->Nw H c w->aU K H' c w->Q w H'
theorem aeU:SlR X (rSl X.K):=by
 intro pins s σ H x v vl vu lo hi sl Q I rx hs pl pu h;obtain⟨b,c,rb,e,q⟩:=h;unfold slB at e;split at e
 ·rename_i y;cases e;obtain⟨rfl,hy⟩:=VN rb;obtain⟨t,rfl⟩:=rx;refine⟨"str", _,F.slot_str_getitem.lookup,typeIs_str _ _ _,?_⟩;obtain⟨o,e1,e2,e3⟩:=hs;have fin:∀ t' k,EP X pins σ Q (.str (Txt.slice y lo hi) t') { s with toks:=k }:=λt' k=>⟨.str _,H,I.tok _,⟨_,rfl⟩,q _ H (Same.refl H) trivial (abD (Zs (Txt.slice_le y _ _) hy))⟩;cases pl with
  |none=>
   cases pu with
   |none=>exact kM (l:=none) (u:=none) (st:=none) ⟨o,e1,e2,e3⟩ rfl (post_val_or_str ⟨Zs (Txt.slice_le y _ _) hy,fin⟩)
   |int j uj=>exact kM (l:=none) (u:=some (j,uj)) (st:=none) ⟨o,e1,e2,e3⟩ rfl (post_val_or_str ⟨Zs (Txt.slice_le y _ _) hy,fin⟩)
  |int i ui=>
   cases pu with
   |none=>exact kM (l:=some (i,ui)) (u:=none) (st:=none) ⟨o,e1,e2,e3⟩ rfl (post_val_or_str ⟨Zs (Txt.slice_le y _ _) hy,fin⟩)
   |int j uj=>exact kM (l:=some (i,ui)) (u:=some (j,uj)) (st:=none) ⟨o,e1,e2,e3⟩ rfl (post_val_or_str ⟨Zs (Txt.slice_le y _ _) hy,fin⟩)
 ·rename_i ds;cases e;obtain⟨a,vs,rfl,sq,rs⟩:=inT rb;by_cases hw:HT.jx vs.length 0 lo=0/\HT.jx vs.length vs.length hi=vs.length
  ·cases rx;obtain⟨its,r,ht,hz⟩:=I.tuple sq;have hlen:its.toArray.size=vs.length:=by rw[zt];exact r.length.symm
   refine⟨"tuple", _,PyProof.Rows.slot_tuple_getitem.lookup,ht.typeIs,zc ht hs pl pu (by rw[hlen];exact hw.1) (by rw[hlen];exact hw.2) ⟨.ref a,H,I,rfl,q _ H (Same.refl H) trivial ?_⟩⟩;rw[Yo ds (by rw[<-rs.length];exact hw.1) (by rw[<-rs.length];exact hw.2)];exact rb
  ·refine aen pins s σ H _ v vl vu lo hi sl Q I rx hs pl pu ⟨a,vs,rfl,sq,hw,λp hp=>q _ _ (bQ hp) trivial ?_⟩;unfold aU Rep;exact⟨p,_,rfl,.inl (.inl bG),(Ol rs lo hi).kp (.of (bQ hp))⟩
 ·obtain⟨ds,ed,e⟩:=bind_some e;cases e;obtain⟨a,vs,rfl,sq,rs⟩:=rb.Hx ed;exact aa8 pins s σ H _ v vl vu lo hi sl Q I rx hs pl pu ⟨a,vs,rfl,sq,λp hp=>q _ _ (bQ hp) (λa ea=>by cases ea;exact hp) ⟨p,_,rfl,bG,(Ol rs lo hi).kp (.of (bQ hp))⟩⟩
def Yp (f:Ev->Option Bx) (fl fh:Ev->Option (Option Int)):Ev->Option Bx:=λρ=>(f ρ).bind λb=>(fl ρ).bind λlo=>(fh ρ).bind λhi=>slB b lo hi
theorem Ud {e:Expr} {lo hi:Option Expr} {f:Ev->Option Bx} {fl fh:Ev->Option (Option Int)} {p2 pos:Pos} (he:QV X e f) (hl:QVo X lo fl) (hh:QVo X hi fh):QV X (.Subscript e (.Slice lo hi none p2) pos) (Yp f fl fh):=⟨have he:=he.run;have hl:=hl.run;have hh:=hh.run;Ds (Xy aeU he hl hh) λσ H Q h=>by
 obtain⟨H0,ρ,c,E,e,q⟩:=h;obtain⟨b,eb,e⟩:=bind_some e;obtain⟨lo,el,e⟩:=bind_some e;obtain⟨hi,eh,e⟩:=bind_some e;refine⟨H0,ρ,b,E,eb,λv H1 s1 n1 r1=>⟨H0,ρ,lo,E.grow s1,el,λH2 s2=>⟨H0,ρ,hi,E.grow (s1.trans s2),eh,λH3 s3=>?_⟩⟩⟩;have s13:=(s1.trans s2).trans s3;exact⟨b,c,(r1.same s2).same s3,e,λw H4 s4 n4 r4=>q w H4 (s13.trans s4) (n4.old s13) r4⟩⟩
def q9:List Bx->Option Bx
 |[.z (.str x)]=>some (.z (.int x.length))
 |[b]=>(qZ b).bind λds=>some (.z (.int ds.length))
 |_=>none
theorem rep1 {K:FG_} {H:Hp} {b:Bx} {vs:List V} (r:rN K H [b] vs):∃ v,vs=[v]/\aU K H b v:=by
 cases r with
 |cons p t=>cases t;exact⟨_,rfl,p⟩
theorem rep2 {K:FG_} {H:Hp} {b c:Bx} {vs:List V} (r:rN K H [b,c] vs):∃ v u,vs=[v,u]/\aU K H b v/\aU K H c u:=by
 cases r with
 |cons p t=>
  cases t with
  |cons p' t'=>cases t';exact⟨_,_,rfl,p,p'⟩
theorem rz:qp X (.builtin "len") q9:=fX.imp (Kl.or Km) λxs H Q q=>by
 obtain⟨bs,c,rb,e,q⟩:=q;unfold q9 at e;split at e
 ·rename_i x;cases e;obtain⟨v,rfl,r1⟩:=rep1 rb;obtain⟨rfl,hx⟩:=VN r1;exact .inr ⟨x,rfl,hx,q _ H (Same.refl H) trivial CP⟩
 ·obtain⟨ds,ed,e⟩:=bind_some e;cases e;obtain⟨v,rfl,r1⟩:=rep1 rb;obtain⟨p,vs,rfl,sq,rs⟩:=vA r1 ed;exact .inl ⟨p,vs,rfl,sq,by rw[rs.length];exact q _ H (Same.refl H) trivial CP⟩
 ·cases e
def Yq:List Bx->Option Bx
 |[.z (.int i)]=>some (.z (.int (if i < 0 then -i else i)))
 |_=>none
theorem aeV:qp X (.builtin "abs") Yq:=fX.imp Xv λxs H Q q=>by
 obtain⟨bs,c,rb,e,q⟩:=q;unfold Yq at e;split at e
 ·rename_i i;cases e;obtain⟨v,rfl,r1⟩:=rep1 rb;have:=Kz r1;subst this;exact⟨i,rfl,q _ H (Same.refl H) trivial CP⟩
 ·cases e
def RB:List Bx->Option Bx
 |[.z (.int i)]=>some (.z (.int i))
 |[.z (.bl k)]=>some (.z (.int (if k then 1 else 0)))
 |_=>none
theorem RD:qp X (.type "int") RB:=fX.imp Vs λxs H Q q=>by
 obtain⟨bs,c,rb,e,q⟩:=q;unfold RB at e;split at e
 ·rename_i i;cases e;obtain⟨v,rfl,r1⟩:=rep1 rb;have:=Kz r1;subst this;exact .inl ⟨i,rfl,q _ H (Same.refl H) trivial CP⟩
 ·rename_i k;cases e;obtain⟨v,rfl,r1⟩:=rep1 rb;simp only[aU,Rep] at r1;subst r1;exact .inr ⟨k,rfl,q _ H (Same.refl H) trivial CP⟩
 ·cases e
def Om:List Bx->Option Bx
 |[b]=>(qZ b).bind λds=>some (.o ds)
 |_=>none
theorem abL:qp X (.type "list") Om:=fX.imp Ko λxs H Q q=>by
 obtain⟨bs,c,rb,e,q⟩:=q;unfold Om at e;split at e
 ·obtain⟨ds,ed,e⟩:=bind_some e;cases e;obtain⟨v,rfl,r1⟩:=rep1 rb;obtain⟨p,vs,rfl,sq,rs⟩:=vA r1 ed;exact⟨p,vs,rfl,sq,λl hl=>q _ _ (bQ hl) (λa ea=>by cases ea;exact hl) ⟨l,vs,rfl,bG,rs.kp (.of (bQ hl))⟩⟩
 ·cases e
def jR:List Bx->Option Bx
 |[b]=>(qZ b).bind λds=>some (.z (.tup ds))
 |_=>none
theorem nD:qp X (.type "tuple") jR:=fX.imp Hw λxs H Q q=>by
 obtain⟨bs,c,rb,e,q⟩:=q;unfold jR at e;split at e
 ·obtain⟨ds,ed,e⟩:=bind_some e;cases e;obtain⟨v,rfl,r1⟩:=rep1 rb;obtain⟨p,vs,rfl,sq,rs⟩:=vA r1 ed;refine⟨p,vs,rfl,?_⟩;rcases sq with sq|sq
  ·refine .inl ⟨sq,λl hl=>q _ _ (bQ hl) trivial ?_⟩;unfold aU Rep;exact⟨l,vs,rfl,.inl (.inl bG),rs.kp (.of (bQ hl))⟩
  ·refine .inr ⟨sq,q _ H (Same.refl H) trivial ?_⟩;unfold aU Rep;exact⟨p,vs,rfl,sq,rs⟩
 ·cases e
def Jx:List Dt->Option (List Bool)
 |[]=>some []
 |.bl b::ds=>(Jx ds).bind λbs=>some (b::bs)
 |_=>none
theorem Fg {K:FG_} {H:Hp}:∀ {ds:List Dt} {bs:List Bool} {vs:List V} {us:List Value},Jx ds=some bs->aK K H ds vs->Vals vs us->us=bs.map Value.bool
 |[],_,_,_,e,r,w=>by
  cases e;simp only[aK] at r;subst r;cases w;rfl
 |d::ds,_,_,_,e,r,w=>by
  simp only[aK] at r;obtain⟨v,r',rfl,h1,h2⟩:=r;cases d<;>first|(cases e;done)|skip;simp only[Jx] at e;obtain⟨bs,e1,e⟩:=bind_some e;cases e;simp only[Rep] at h1;subst h1;cases w with
  |cons p t=>
   cases p;rw[Fg e1 h2 t];rfl
theorem all_range (bs:List Bool):((List.range bs.length).all λi=>bs.getD i false)=bs.all id:=by
 rw[JU,ZY,ZY];constructor
 ·intro h b hb;obtain⟨i,hi,rfl⟩:=List.mem_iff_getElem.mp hb;have:=h i (by simpa using hi);simpa[List.getD,hi] using this
 ·intro h i hi;have hi:i < bs.length:=by simpa using hi
  have:=h bs[i] (ym hi);simpa[List.getD,hi] using this
def allB:List Bx->Option Bx
 |[b]=>(qj b).bind λds=>(Jx ds).bind λbs=>some (.z (.bl (bs.all id)))
 |_=>none
theorem Oo {prog:Program} {w:World} {A:Around} (bs:List Bool):TruthOf prog w A (λi v=>(bs.map Value.bool).toArray[i]?=some v) λi=>bs.getD i false:=λi v s Q E h q=>by
 have h':(bs.map Value.bool)[i]?=some v:=by simpa using h
 rw[Zl] at h';cases e:bs[i]? with
 |none=>rw[e] at h';cases h'
 |some b=>
  rw[e] at h';cases h';have:bs.getD i false=b:=by simp[List.getD,e]
  have q':Q b s:=by rw[<-this];exact q
  exact Q1 q'
theorem RG (hc:X.calm=true):qp X (.builtin "all") allB:=by
 intro pins s σ H xs us Q I r h;obtain⟨bs,c,rb,e,q⟩:=h;unfold allB at e;split at e
 ·obtain⟨ds,ed,e⟩:=bind_some e;obtain⟨ks,ek,e⟩:=bind_some e;cases e;obtain⟨v,rfl,r1⟩:=rep1 rb;obtain⟨a,vs,rfl,sq,rs⟩:=r1.Hx ed;obtain⟨u,rfl,ru⟩:=vals1 r;cases ru;obtain⟨its,w,pl,hz⟩:=I.list sq;have hv:=Fg ek rs w;have hlt:a < s.heap.objs.size:=by obtain⟨o,n,e,_⟩:=pl;exact zz e
  refine call_all_walk (wpAny_pyIter_list pl.isList ?_);refine⟨s.heap.objs.size,_,_,_,_,_,λi=>ks.getD i false,rfl,Walks.list (by show X.A.handled=none;exact I.ok.hd hc) s.heap.objs.size a (zD hlt) its.toArray,⟨⟨_,zv _ rfl,rfl,rfl⟩,pl.isList.push _⟩,?_,λh' tk k=>?_⟩
  ·rw[hv];exact Oo ks
  ·have hn:its.toArray.size=ks.length:=by rw[hv];simp
   rw[hn,all_range];have I1:L2.Inv X pins σ H { s with heap:=s.heap.push { cls:=.type "list_iterator", data:=.fields #[.ref a,.int 0 0] } }:=I.kept (t':=s.toks) λb o e=>zd _ e;refine⟨.bl _,H,?_,rfl,q _ H (Same.refl H) trivial Ez⟩;obtain⟨f0,f1,f2,f3,f4,f5⟩:=I.Xn (b:=s.heap.objs.size) (H':=H) (zi _) (I.hok.fresh (zi _));exact I1.turned (it:=s.heap.objs.size) (λb o hb e=>k b o (by simpa using hb) e) f0 f1 f3 f4 f5
 ·cases e
end
end P1
end
section
namespace P1
open PySem PySem.Spec PyProof.Rows L2
def gv (i:Nat):Ev->Option Bx:=λρ=>Av ρ i
def qe (g:Bx->Bx->Option Bx) (fa fb:Ev->Option Bx):Ev->Option Bool:=λρ=>(b2 g fa fb ρ).bind Eo
def tV (f:Ev->Option Bx):Ev->Option Bool:=λρ=>(f ρ).bind X6
def aJ:Ev->Option (List Bx):=λ_=>some []
def Jy (p:Dt->Bool) (f:Ev->Option Bx):Ev->Option Bx:=b1 (λb=>if lV b=true then none else some (.z (.bl (p (toD b))))) f
def d7:Ev->Option Out:=λρ=>some (.nx ρ)
def fQ (f:Ev->Option Bx):Ev->Option Out:=λρ=>(f ρ).bind X7
def setG (i:Nat) (f:Ev->Option Bx):Ev->Option Out:=λρ=>(f ρ).bind λb=>(VD ρ i b).bind λρ'=>some (.nx ρ')
def KR (gt:Dt->Ev->Option Ev) (f:Ev->Option Bx):Ev->Option Out:=λρ=>(f ρ).bind λb=>match b with|.z d=>(gt d ρ).bind λρ'=>some (.nx ρ')|_=>none
def abM (i j:Nat) (fs:Ev->Option (List Bx)):Ev->Option Out:=λρ=>(fs ρ).bind (abv i j ρ)
def HF (i:Nat) (f:Ev->Option Bx):Ev->Option Out:=λρ=>(f ρ).bind (abw ρ i)
def rR (fi:Ev->Option (List Dt)) (gt:Dt->Ev->Option Ev) (gb:Ev->Option Out):Ev->Option Out:=λρ=>(fi ρ).bind λds=>qY gt gb ds ρ
def itF (f:Ev->Option Bx):Ev->Option (List Dt):=λρ=>(f ρ).bind VF
def DG (f:Ev->Option Bx):Ev->Option (List Dt):=λρ=>(f ρ).bind Yi
def Yr (fs:Ev->Option (List Bx)):Ev->Option (List Dt):=λρ=>(fs ρ).bind aeD
def jf (i:Nat):Dt->Ev->Option Ev:=λd ρ=>some (ρ.set i (some (.z d)))
def xU:Ev->Option Bool:=λ_=>some true
theorem gq {X:Cx}:Ay X [] xU:=⟨.inl ⟨rfl,rfl⟩⟩
theorem gw {X:Cx} {c:Expr} {p:Ev->Option Bool} (h:QB X c p):Ay X [c] p:=⟨have h:=h.run;.inr ⟨c,rfl,h⟩⟩
theorem aeW {X:Cx} {scope:Scope} {cl:List (Str×Addr)}:HB X scope cl [] []:=trivial
theorem abN {X:Cx} {scope:Scope} {cl:List (Str×Addr)} {x:Str} {i:Nat} {xs:LS_} {is:List Nat} (n:X.N[i]?=some x) (k:X.env.kindOf x=some .cell\/X.env.kindOf x=some .free)
  (k':(relabel scope X.env).names.lookup x=some .cell\/(relabel scope X.env).names.lookup x=some .free) (c:∃ c,cl.lookup x=some c) (r:HB X scope cl xs is):HB X scope cl (x::xs) (i::is):=⟨⟨n,k,k',c⟩,r⟩
theorem mem_of_lookup {names:List (Str×NameKind)} {x:Str} {k:NameKind}:names.lookup x=some k->(x,k)∈names:=ke
theorem aeX {X:Cx} {scope:Scope} {cl:List (Str×Addr)} {xs:LS_} {is:List Nat} (clos:closureFor scope X.env=pure cl) (kind:scope.kind=.function) (cell:scope.names.all (λy=>decide (y.2≠.cell)||(cl.lookup y.1).isNone)=true)
  (names:scope.names.all (λy=>decide (y.2=.local->scope.names.lookup y.1=some .local))=true) (sub:SubL X.env.cells cl)
  (has:(relabel scope X.env).names.all (λy=>!(y.2==.cell||y.2==.free)||(cl.lookup y.1).isSome||scope.names.contains (y.1,.cell))=true) (cap:HB X scope cl xs is):tH X scope cl xs is where
 clos:=clos
 kind:=kind
 cell:=λy hy hc=>by
  have:=List.all_eq_true.mp cell y hy;simp only[hc,ne_eq,not_true_eq_false,kA,Bool.false_or,Option.isNone_iff_eq_none] at this;exact this
 names:=λy hy=>qr (List.all_eq_true.mp names y hy)
 sub:=sub
 has:=λx hx=>by
  have h:∃ k,(relabel scope X.env).names.lookup x=some k/\(k==NameKind.cell||k==NameKind.free)=true:=by
   rcases hx with hx|hx
   ·exact⟨_,hx,rfl⟩
   ·exact⟨_,hx,rfl⟩
  obtain⟨k,e,hk⟩:=h;have:=List.all_eq_true.mp has _ (mem_of_lookup e);simp only[hk,kr,Bool.false_or,Kt] at this;rcases this with h|h
  ·exact .inr (Option.isSome_iff_exists.mp h)
  ·exact .inl (List.contains_iff_mem.mp h)
 cap:=cap
theorem Ue {k:Nat} {A:Around} (r:nu k A):A.units+100 < cLine:=by have:=r.un;omega
theorem aeY {F:List Bx->Option Bx} (h:∀ ns:List Int,ns.length<=63->F [.z (.lst (ns.map .int))]=some (.z (.bl true))) (hl:∀ ns:List Int,ns.length<=63->F [.l (ns.map .int)]=some (.z (.bl true))) (K:FG_) (H:Hp) (a:Addr) (ns:List Int) (hn:ns.length<=63) (_:Only H) (hS:uN K H a (ns.map V.int)) :
  spF K 1 F [.ref a] H (λv _=>v=.bl true) λ_ _ _=>False:=by
 have rs:∀ ms:List Int,aK K H (ms.map Dt.int) (ms.map V.int):=λms=>by
  induction ms with
  |nil=>exact aK.nil
  |cons m ms ih=>exact aK.cons (by unfold Rep;rfl) ih
 have fin:∀ v (H':Hp),Same H H'->Nw H (.z (.bl true)) v->aU K H' (.z (.bl true)) v->v=.bl true:=λv H' _ _ r=>by simpa only[aU,Rep] using r
 rcases hS with hS|hS
 ·exact⟨rfl,[.l (ns.map .int)],_,.cons ⟨a,_,rfl,hS,rs ns⟩ .nil,rfl,hl ns hn,fin⟩
 ·refine⟨rfl,[.z (.lst (ns.map .int))],_,.cons ?_ .nil,rfl,h ns hn,fin⟩;unfold aU Rep;exact⟨a,_,rfl,.inr hS,rs ns⟩
theorem aiQ {P:Program} {w:World} {K:FG_} {mg:Str->Option Value} {base:Heap} {x qual:Str} {st:Stmt} {f:Addr} {fd:FuncData} {N ps:LS_} {k n m:Nat} {g:Ev->Option Out} (F:Fun K x qual st f fd) (S:bF N ps (aO st)) (hn:N.length=n) (hm:ps.length=m)
  (hbody:∀ (cdv:Value) (A:Around) (outer:List Env) (s:Shared) (H:Hp) (E:XK),nu k (A.deeper (envOfC qual (aO st) s.heap.objs.size f cdv))->TJ (Ei Ng P w K mg base N qual (aO st) f cdv A outer s H E).nox (jy st) g) :
  wM P w K mg base Ng (k+1) f fd ps (spF K m (dN n g)):=by
 subst hn hm;exact aiO F S hbody
section
variable {X:Cx} {e st:Expr} {f fs:Ev->Option Bx} {pos p2:Pos}
section
variable {prog:Program} {w:World} {A:Around} {E:VP_} {s:Shared}
theorem KY {α β:Type} {f:α->Option β} {g:α->β}:∀ l:List α,(∀ a∈l,f a=some (g a))->l.filterMap f=l.map g
 |[],_=>rfl
 |a::l,h=>by
  rw[kD,h a (zh ..),zr,KY l λb hb=>h b (zg _ hb)]
end
theorem aK.rev {K:FG_} {H:Hp}:∀ {ds:List Dt} {vs:List V},aK K H ds vs->aK K H ds.reverse vs.reverse
 |[],_,h=>by simp only[aK] at h;subst h;exact aK.nil
 |d::ds,_,h=>by
  simp only[aK] at h;obtain⟨v,r,rfl,hd,hr⟩:=h;rw[kQ,kQ];exact aK.append (aK.rev hr) (aK.cons hd aK.nil)
end
section
variable {X:Cx} {e:Expr} {f:Ev->Option Bx}
def ltA:Bx->Bx->Option Bx
 |.z (.int i),.z (.int j)=>some (.z (.bl (decide (i < j))))
 |.z (.str x),.z (.str y)=>some (.z (.bl (decide (x.cps.toList < y.cps.toList))))
 |_,_=>none
theorem KZ:CJ X (compareOp .Lt) ltA:=by
 intro pins s σ H x y v u Q I rx ry h;obtain⟨a,b,c,ra,rb,e,q⟩:=h;unfold ltA at e;split at e
 ·rename_i i j;cases e;exact agw pins s σ H x y v u Q I rx ry ⟨i,j,Kz ra,Kz rb,q _ H (Same.refl H) trivial (by unfold aU;exact okT)⟩
 ·rename_i i j;cases e;obtain⟨rfl,_⟩:=VN ra;obtain⟨rfl,_⟩:=VN rb;obtain⟨t,rfl⟩:=rx;obtain⟨t',rfl⟩:=ry;exact PySem.P.lt_str ⟨.bl _,H,I,rfl,q _ H (Same.refl H) trivial (by unfold aU;exact okT)⟩
 ·cases e
def Fi:List Dt->Option LS_
 |[]=>some []
 |.str x::r=>(Fi r).bind λys=>some (x::ys)
 |_=>none
theorem Bf {K:FG_} {H:Hp}:∀ {ds:List Dt} {vs:List V} {ys:LS_},aK K H ds vs->Fi ds=some ys->vs=ys.map V.str/\∀ y∈ys,y.length<=sizeLine
 |[],_,_,h,e=>by cases e;simp only[aK] at h;subst h;exact⟨rfl,λy hy=>by cases hy⟩
 |.str x::ds,_,_,h,e=>by
  simp only[Fi] at e;obtain⟨ys,e1,e2⟩:=bind_some e;cases e2;simp only[aK] at h;obtain⟨v,r,rfl,hd,hr⟩:=h;obtain⟨rfl,hx⟩:v=.str x/\x.length<=sizeLine:=by simpa only[Rep] using hd
  obtain⟨rfl,h2⟩:=Bf hr e1;refine⟨rfl,λy hy=>?_⟩;rcases List.mem_cons.mp hy with rfl|hy
  ·exact hx
  ·exact h2 y hy
 |.non::_,_,_,_,e=>by cases e
 |.bl _::_,_,_,_,e=>by cases e
 |.int _::_,_,_,_,e=>by cases e
 |.tup _::_,_,_,_,e=>by cases e
 |.lst _::_,_,_,_,e=>by cases e
 |.emp::_,_,_,_,e=>by cases e
theorem Fj {K:FG_} {H:Hp}:∀ {ys:LS_},(∀ y∈ys,y.length<=sizeLine)->aK K H (ys.map Dt.str) (ys.map V.str)
 |[],_=>aK.nil
 |y::ys,h=>aK.cons (by unfold Rep;exact⟨rfl,h y (zh ..)⟩) (Fj λz hz=>h z (zg _ hz))
theorem xV:∀ {ys:LS_} {its:List Value},Vals (ys.map V.str) its->StrsAre its ys
 |[],_,h=>by cases h;exact .nil
 |y::ys,_,h=>by
  cases h with
  |cons r t=>
   obtain⟨tk,rfl⟩:=r;exact .cons y tk (xV t)
theorem Bg:∀ {its:List Value} {ys:LS_},StrsAre its ys->Vals (ys.map V.str) its
 |_,_,.nil=>.nil
 |_,_,.cons y t h=>.cons ⟨t,rfl⟩ (Bg h)
theorem K1:fX X (.builtin "sorted") (λxs H Q=>∃ p ys,xs=[.ref p]/\uN X.K H p (ys.map V.str)/\ys.length < 64/\∀ l zs,H l=none->zs.Perm ys->sortedS zs=true->Q (.ref l) (upd H l (.lst (zs.map V.str)))):=by
 intro pins s σ H xs us Q I r h;obtain⟨p,ys,rfl,hq,h64,q⟩:=h;obtain⟨u,rfl,rx⟩:=vals1 r;cases rx;obtain⟨its,r',pl,hz⟩:=I.list hq;have hlen:=r'.length;rw[zo] at hlen hz;refine sorted_strs pl.isList (xV r') (by omega) λout zs hs hp aha=>?_;obtain⟨n,en⟩:=sortedAll_at s.heap its out;refine⟨.ref (s.heap.objs.size+1),_,I.laid (t':=s.toks) (a:=s.heap.objs.size+1) (o:=.lst (zs.map V.str)) (λb o e=>sortedAll_old e) (Kj _) ?_,rfl,q _ zs (I.hok.fresh (Kj _)) hp aha⟩;refine⟨by rw[zo,hp.length_eq];exact hz,out.toList,n,Bg hs,?_⟩;rw[en]
def sX (a b:Str):Prop:=ltCps b.cps.toList a.cps.toList=false
theorem zf:∀ (p:Str) (l:LS_),risingS p l=true->(p::l).Pairwise sX
 |p,[],_=>by simp
 |p,x::r,h=>by
  have h':(!ltCps x.cps.toList p.cps.toList&&risingS x r)=true:=h;rw[ZA] at h';have ih:=zf x r h'.2;have hx:sX p x:=by simpa[sX] using h'.1
  refine List.pairwise_cons.mpr ⟨λy hy=>?_,ih⟩;rcases List.mem_cons.mp hy with rfl|hy
  ·exact hx
  ·have hxy:sX x y:=Jn ih hy;unfold sX at hx hxy ⊢;rw[ltCps_eq] at hx hxy ⊢;simp only[QU] at hx hxy ⊢;exact List.le_trans (α:=Nat) hx hxy
theorem K3 {l:LS_} (h:sortedS l=true):l.Pairwise sX:=by
 cases l with
 |nil=>exact .nil
 |cons p l=>exact zf p l h
theorem vB {a b:Str} (h:sX a b) (h':sX b a):a=b:=by
 unfold sX at h h';rw[ltCps_eq] at h h';simp only[QU] at h h';have:=List.le_antisymm (as:=a.cps.toList) (bs:=b.cps.toList) h h';cases a;cases b;simp only[Str.mk.injEq];exact Array.toList_inj.mp this
theorem K4:∀ {l l':LS_},l.Perm l'->l.Pairwise sX->l'.Pairwise sX->l=l'
 |[],l',h,_,_=>by rw[List.nil_perm.mp h]
 |a::l,[],h,_,_=>by cases List.perm_nil.mp h
 |a::l,b::l',h,p,p'=>by
  have e:a=b:=by
   have ha:a∈b::l':=h.mem_iff.mp (zh ..);have hb:b∈a::l:=h.mem_iff.mpr (zh ..);rcases List.mem_cons.mp ha with h1|h1
   ·exact h1
   ·rcases List.mem_cons.mp hb with h2|h2
    ·exact h2.symm
    ·exact vB (Jn p h2) (Jn p' h1)
  subst e;rw[K4 ((List.perm_cons a).mp h) (List.pairwise_cons.mp p).2 (List.pairwise_cons.mp p').2]
def V0 (a b:Str):Bool:=!ltCps b.cps.toList a.cps.toList
def qu (ys:LS_):LS_:=ys.mergeSort V0
theorem jg (ys:LS_):(qu ys).Perm ys:=KA ys V0
theorem xW (ys:LS_):(qu ys).Pairwise sX:=by
 have h:=kN (le:=V0) (λa b c h1 h2=>by
  unfold V0 at *
  rw[ltCps_eq] at *
  simp only[Qr,QU] at *
  exact List.le_trans (α:=Nat) h1 h2) (λa b=>by
  unfold V0;rw[ltCps_eq,ltCps_eq];simp only[Kt,Qr,QU];exact List.le_total a.cps.toList b.cps.toList) ys
 exact h.imp λ{a b} hh=>by simpa[V0,sX] using hh
theorem Ys {ys zs:LS_} (hp:zs.Perm ys) (hs:sortedS zs=true):zs=qu ys:=K4 (hp.trans (jg ys).symm) (K3 hs) (xW ys)
def Fl:List Bx->Option Bx
 |[b]=>(qj b).bind λds=>(Fi ds).bind λys=>if ys.length < 64 then some (.o ((qu ys).map Dt.str)) else none
 |_=>none
theorem Jz:qp X (.builtin "sorted") Fl:=fX.imp K1 λxs H Q q=>by
 obtain⟨bs,c,rb,e,q⟩:=q;unfold Fl at e;split at e
 ·rename_i b;obtain⟨ds,ed,e⟩:=bind_some e;obtain⟨ys,ey,e⟩:=bind_some e;split at e
  ·rename_i h64;cases e;obtain⟨v,rfl,r1⟩:=rep1 rb;obtain⟨p,vs,rfl,sq,rs⟩:=r1.Hx ed;obtain⟨rfl,hy⟩:=Bf rs ey;refine⟨p,ys,rfl,sq,h64,λl zs hl hp hs=>?_⟩;rw[Ys hp hs];refine q _ _ (bQ hl) (λa ea=>by cases ea;exact hl) ⟨l,_,rfl,bG,Fj λy h=>hy y ((jg ys).mem_iff.mp h)⟩
  ·cases e
 ·cases e
def Oq (x:Str) (b:Bx):Option Bx:=(qj b).bind λds=>(Fi ds).bind λys=>if(ys.map (·.length)).sum+ys.length * x.length<=100000 then some (.z (.str (Txt.join x ys))) else none
theorem abO:MtR X "str.join" (λx xs H Q=>∃ y p ys,x=.str y/\xs=[.ref p]/\uN X.K H p (ys.map V.str)/\(ys.map (·.length)).sum+ys.length * y.length<=100000/\Q (.str (Txt.join y ys)) H):=by
 intro pins s σ H x xs v us Q I rx rs h;obtain⟨y,p,ys,rfl,rfl,sq,hb,q⟩:=h;obtain⟨t,rfl⟩:=rx;obtain⟨u,rfl,ru⟩:=vals1 rs;cases ru;obtain⟨its,r',pl,hz⟩:=I.list sq;exact join_list pl.isList (xV r') (by omega) λt' k=>⟨.str _,H,I.tok _,⟨_,rfl⟩,q⟩
theorem abP {x:Str} {j:Nat} {p1 apos cpos:Pos} (h:QV X e f) (hx:x.length<=sizeLine:=by decide) (hbase:attributeBase (.Constant (.str x) j p1) "join" X.env (eval (.Constant (.str x) j p1) X.env)=eval (.Constant (.str x) j p1) X.env:=by rfl) (hfew:((backTo cpos (starEach [e] X.env)).all (λx=>!x.1)&&(backToKw cpos (keywordEach [] X.env)).all (λx=>x.1.isSome)&&decide ([e].length+([]:List Keyword).length+(if([]:List Keyword).isEmpty then 0 else 1) < 30))=true:=by rfl) (hline:(apos.endLine==cpos.line)=true:=by rfl) (hs:starEach [e] X.env=(false,eval e X.env)::starEach [] X.env:=by rfl):QV X (.Call (.Attribute (.Constant (.str x) j p1) "join" apos) [e] [] cpos) (b1 (Oq x) f):=⟨have h:=h.run;Ds (T4 (T := "str") F.plainAttrs_str F.slot_str_join F.type_str_join abO (X4 (hx:=hx)) (NZ h T7 hs) hbase hfew hline hs rfl) λσ H Q q=>by
  obtain⟨H0,ρ,c,E,e,q⟩:=q;obtain⟨a,ea,e⟩:=bind_some e;refine⟨H0,ρ,_,E,rfl,λv H1 s1 n1 r1=>?_⟩;obtain⟨rfl,hx'⟩:v=.str x/\x.length<=sizeLine:=by simpa only[aU,Rep] using r1
  refine⟨rfl,H0,ρ,[a],E.grow s1,by simp only[aq,ea,Option.bind_some],λvs H2 s2 r2=>?_⟩;obtain⟨w,rfl,rw1⟩:=rep1 r2;unfold Oq at e;obtain⟨ds,ed,e⟩:=bind_some e;obtain⟨ys,ey,e⟩:=bind_some e;split at e
  ·rename_i hb;cases e;obtain⟨p,ws,rfl,sq,rs⟩:=rw1.Hx ed;obtain⟨rfl,hy⟩:=Bf rs ey;refine⟨x,p,ys,rfl,rfl,sq,hb,q _ _ (s1.trans s2) trivial ?_⟩;unfold aU Rep;exact⟨rfl,joinOk_length (joinOk_of (by omega))⟩
  ·cases e⟩
end
section
variable {X:Cx}
def HJ:List Bx->Option Bx
 |[.z (.int a),.z (.int b)]=>some (.z (.int (if b > a then b else a)))
 |_=>none
def V1:List Bx->Option Bx
 |[.z (.int a),.z (.int b)]=>some (.z (.int (if b < a then b else a)))
 |_=>none
theorem Yt {K:FG_} {H:Hp} {a b:Bx} {vs:List V} (h:rN K H [a,b] vs):∃ v w,vs=[v,w]/\aU K H a v/\aU K H b w:=by
 cases h with
 |cons p t=>
  cases t with
  |cons p' t'=>cases t';exact⟨_,_,rfl,p,p'⟩
theorem Bh (hc:X.calm=true):qp X (.builtin "max") HJ:=by
 intro pins s σ H xs us Q I r h;obtain⟨bs,c,rb,e,q⟩:=h;unfold HJ at e;split at e
 ·rename_i a b;cases e;obtain⟨v,w,rfl,r1,r2⟩:=Yt rb;have hv:=Kz r1;have hw:=Kz r2;subst hv hw;obtain⟨u,u',rfl,ru,ru'⟩:=Vals.two r;obtain⟨t,rfl⟩:=ru;obtain⟨t',rfl⟩:=ru';refine max_two_ints (I.ok.hd hc) λh' tk kp=>?_;by_cases hb:b > a
  ·rw[zk hb] at q ⊢;exact⟨.int b,H,I.kept kp,⟨_,rfl⟩,q _ H (Same.refl H) trivial CP⟩
  ·rw[zw hb] at q ⊢;exact⟨.int a,H,I.kept kp,⟨_,rfl⟩,q _ H (Same.refl H) trivial CP⟩
 ·cases e
theorem Yu (hc:X.calm=true):qp X (.builtin "min") V1:=by
 intro pins s σ H xs us Q I r h;obtain⟨bs,c,rb,e,q⟩:=h;unfold V1 at e;split at e
 ·rename_i a b;cases e;obtain⟨v,w,rfl,r1,r2⟩:=Yt rb;have hv:=Kz r1;have hw:=Kz r2;subst hv hw;obtain⟨u,u',rfl,ru,ru'⟩:=Vals.two r;obtain⟨t,rfl⟩:=ru;obtain⟨t',rfl⟩:=ru';refine min_two_ints (I.ok.hd hc) λh' tk kp=>?_;by_cases hb:b < a
  ·rw[zk hb] at q ⊢;exact⟨.int b,H,I.kept kp,⟨_,rfl⟩,q _ H (Same.refl H) trivial CP⟩
  ·rw[zw hb] at q ⊢;exact⟨.int a,H,I.kept kp,⟨_,rfl⟩,q _ H (Same.refl H) trivial CP⟩
 ·cases e
end
def Fo (kvs:List (Key×Dt)) (x:Key):Option Dt:=(kvs.find? λkv=>decide (kv.1=x)).map (·.2)
def K5 (kvs:List (Key×Dt)) (x:Key) (d:Dt):List (Key×Dt):=
 if(kvs.any λkv=>decide (kv.1=x))=true then kvs.map (λkv=>if kv.1=x then(kv.1,d) else kv) else kvs++[(x,d)]
section
variable {K:FG_} {H:Hp}
theorem fM.nil:fM K H [] []:=⟨rfl,aK.nil,λp hp=>by cases hp⟩
theorem fM.inv {p:Key×Dt} {kvs:List (Key×Dt)} {ks:List (Key×V)} (h:fM K H (p::kvs) ks):∃ v r,ks=(p.1,v)::r/\Rep K H p.2 v/\okK p.1/\fM K H kvs r:=by
 obtain⟨h1,h2,h3⟩:=h;cases ks with
 |nil=>simp at h1
 |cons q r=>
  simp only[zr,JO] at h1;obtain⟨e,h1⟩:=h1;simp only[zr,aK] at h2;obtain⟨v,r',e2,hv,hr⟩:=h2;simp only[JO] at e2;obtain⟨rfl,rfl⟩:=e2;exact⟨q.2,r,by rw[<-e],hv,h3 p (zh ..),h1,hr,λx hx=>h3 x (zg _ hx)⟩
theorem fM.cons {p:Key×Dt} {kvs:List (Key×Dt)} {v:V} {r:List (Key×V)} (hv:Rep K H p.2 v) (hp:okK p.1) (h:fM K H kvs r):fM K H (p::kvs) ((p.1,v)::r):=
 ⟨by simp[h.1],aK.cons hv h.2.1,λx hx=>by
  rcases List.mem_cons.mp hx with rfl|hx
  ·exact hp
  ·exact h.2.2 x hx⟩
theorem fM.append {kvs:List (Key×Dt)} {ks:List (Key×V)} {x:Key} {d:Dt} {v:V} (h:fM K H kvs ks) (hv:Rep K H d v) (hx:okK x):fM K H (kvs++[(x,d)]) (ks++[(x,v)]):=
 ⟨by simp[h.1],by rw[qo,qo];exact aK.append h.2.1 (aK.cons hv aK.nil),λp hp=>by
  rcases List.mem_append.mp hp with hp|hp
  ·exact h.2.2 p hp
  ·cases List.mem_singleton.mp hp;exact hx⟩
theorem fM.len {kvs:List (Key×Dt)} {ks:List (Key×V)} (h:fM K H kvs ks):ks.length=kvs.length:=by
 have:=congrArg List.length h.1;simpa using this
theorem fM.look:∀ {kvs:List (Key×Dt)} {ks:List (Key×V)} {x:Key} {d:Dt},fM K H kvs ks->Fo kvs x=some d->∃ v,Ao ks x=some v/\Rep K H d v
 |[],_,_,_,_,e=>by cases e
 |p::kvs,_,x,d,h,e=>by
  obtain⟨v,r,rfl,hv,hpl,hr⟩:=h.inv;unfold Fo at e;by_cases hp:p.1=x
  ·rw[List.find?_cons_of_pos (by simpa using hp)] at e;cases e;exact⟨v,yL (by rw[hp]),hv⟩
  ·rw[List.find?_cons_of_neg (by simpa using hp)] at e;obtain⟨w,e1,e2⟩:=fM.look hr e;exact⟨w,(yM (by simpa using hp)).trans e1,e2⟩
theorem fM.any:∀ {kvs:List (Key×Dt)} {ks:List (Key×V)} {x:Key},fM K H kvs ks->(ks.any λkv=>decide (kv.1=x))=kvs.any λkv=>decide (kv.1=x)
 |[],ks,_,h=>by
  have:=h.len;cases ks with
  |nil=>rfl
  |cons _ _=>simp at this
 |p::kvs,_,x,h=>by
  obtain⟨v,r,rfl,hv,hpl,hr⟩:=h.inv;rw[kb,kb,fM.any hr]
theorem fM.Yv:∀ {kvs:List (Key×Dt)} {ks:List (Key×V)} {x:Key} {d:Dt} {v:V},fM K H kvs ks->Rep K H d v->fM K H (kvs.map λkv=>if kv.1=x then(kv.1,d) else kv) (ks.map λkv=>if kv.1=x then(kv.1,v) else kv)
 |[],ks,_,_,_,h,_=>by
  have:=h.len;cases ks with
  |nil=>exact fM.nil
  |cons _ _=>simp at this
 |p::kvs,_,x,d,v,h,hd=>by
  obtain⟨w,r,rfl,hw,hpl,hr⟩:=h.inv;rw[zr,zr];have ih:=fM.Yv (x:=x) hr hd;by_cases hp:p.1=x
  ·rw[zk hp,zk (by simp[hp])];exact fM.cons (p:=(p.1,d)) hd hpl ih
  ·rw[zw hp,zw (by simpa using hp)];exact fM.cons hw hpl ih
theorem fM.put {kvs:List (Key×Dt)} {ks:List (Key×V)} {x:Key} {d:Dt} {v:V} (h:fM K H kvs ks) (hv:Rep K H d v) (hx:okK x):fM K H (K5 kvs x d) (putK ks x v):=by
 unfold K5 putK;rw[h.any];split
 ·exact h.Yv hv
 ·exact h.append hv hx
end
section
variable {X:Cx} {e ek o:Expr} {f fk fo:Ev->Option Bx} {pos pos':Pos}
def kyB:Bx->Option Key
 |.z (.str x)=>some (.inr x)
 |.z (.int i)=>some (.inl i)
 |_=>none
theorem K6 {K:FG_} {H:Hp} {b:Bx} {k:Key} {v:V} (e:kyB b=some k) (r:aU K H b v):v=kV k/\okK k:=by
 unfold kyB at e;split at e
 ·cases e;simp only[aU,Rep] at r;exact r
 ·cases e;simp only[aU,Rep] at r;exact⟨r,trivial⟩
 ·cases e
def lM:Bx->Bx->Option Bx
 |.n kvs,b=>(kyB b).bind λk=>(Fo kvs k).bind λd=>some (.z d)
 |_,_=>none
theorem RJ {a b c:Bx} (h:lM a b=some c):∃ kvs k d,a=.n kvs/\kyB b=some k/\Fo kvs k=some d/\c=.z d:=by
 unfold lM at h;split at h
 ·obtain⟨k,ek,h⟩:=bind_some h;obtain⟨d,ed,h⟩:=bind_some h;cases h;exact⟨_,k,d,rfl,ek,ed,rfl⟩
 ·cases h
theorem jA (hu:X.A.units+100 < cLine) (ho:QV X o fo) (hk:QV X ek fk) (hs:aex ek:=by intro _ _;rfl):QV X (.Subscript o ek pos) (b2 lM fo fk):=⟨have ho:=ho.run;have hk:=hk.run;Ds (abh (by omega) ho hk hs) λσ H Q h=>by
 obtain⟨H0,ρ,c,E,e,q⟩:=h;obtain⟨a,ea,e⟩:=bind_some e;obtain⟨b,eb,e⟩:=bind_some e;refine⟨H0,ρ,a,E,ea,λv H1 s1 n1 r1=>⟨H0,ρ,b,E.grow s1,eb,λw H2 s2 n2 r2=>?_⟩⟩;obtain⟨kvs,x,d,rfl,ekx,ed,rfl⟩:=RJ e;obtain⟨p,ks,rfl,rd,rm⟩:=r1.same s2;obtain⟨v',ev,rv⟩:=rm.look ed;obtain⟨rfl,_⟩:=K6 ekx r2;exact⟨p,v',rfl,.inl ⟨ks,x,rd,rfl,ev.symm⟩,q _ _ (s1.trans s2) trivial rv⟩⟩
def Ot (ρ:Ev) (i:Nat):Bx->Bx->Option Out
 |.z d,b=>(kyB b).bind λx=>match ρ[i]? with
  |some (some (.m kvs w))=>if kvs.length < 1000 then some (.nx (ρ.set i (some (.m (K5 kvs x d) w)))) else none
  |_=>none
 |_,_=>none
def Ug (i:Nat) (f fk:Ev->Option Bx):Ev->Option Out:=λρ=>(f ρ).bind λb=>(fk ρ).bind λk=>Ot ρ i b k
theorem RK {ρ:Ev} {i:Nat} {b k:Bx} {r:Out} (h:Ot ρ i b k=some r):∃ d y kvs w,b=.z d/\kyB k=some y/\ρ[i]?=some (some (.m kvs w))/\kvs.length < 1000/\r=.nx (ρ.set i (some (.m (K5 kvs y d) w))):=by
 unfold Ot at h;split at h
 ·obtain⟨y,ey,h⟩:=bind_some h;split at h
  ·rename_i hρ;split at h
   ·rename_i hl;cases h;exact⟨_,y,_,_,rfl,ey,hρ,hl,rfl⟩
   ·cases h
  ·cases h
 ·cases h
theorem Uh (i:Nat) {x:Str} {p:Pos} (hu:X.A.units+100 < cLine) (he:QV X e f) (hk:QV X ek fk) (hN:X.N[i]?=some x:=by rfl) (hv:Tv X.env.scope x:=by first|exact ja rfl|exact QA (ja rfl)|exact QA (QA rfl)) (hd:(x==("__debug__" : Str))=false:=by decide) (hcd:(x==("__classdict__" : Str))=false:=by decide) (hs:swapsWith e (some (.Subscript (.Name x p) ek pos')) pos.line X.env=pure false:=by rfl):Nh X (.Assign [.Subscript (.Name x p) ek pos'] e pos) (λρ=>(f ρ).bind λb=>(fk ρ).bind λk=>Ot ρ i b k):=⟨have he:=he.run;have hk:=hk.run;Rn (abj (by omega) (sZ (i:=i) hN hv hd hcd) hk he hs) λD σ H h=>by
  obtain⟨H0,ρ,r,E,e,q⟩:=h;obtain⟨b,eb,e⟩:=bind_some e;obtain⟨k,ek,e⟩:=bind_some e;refine⟨H0,ρ,b,E,eb,λv H1 s1 n1 r1=>?_⟩;obtain⟨d,y,kvs,w0,rfl,eky,hρ,hl,rfl⟩:=RK e;have E1:=E.grow s1;obtain⟨w,e1,a,ks,rfl,ha,rm,tie⟩:=E1.val i _ hρ;refine⟨_,e1,H0,ρ,_,E1,ek,λu H2 s2 n2 r2=>?_⟩;obtain⟨rfl,hyl⟩:=K6 eky r2;have E2:=E1.grow s2;have ha2:=s2 _ _ ha;have kp:Kp H2 (upd H2 a (.dK (putK ks y v))):=.dk ha2;refine⟨a,_,rfl,XJ.k (k:=y) ha2 (by rw[rm.len];exact Nat.lt_trans hl (by decide)),q _ _ ?_⟩;exact E2.aeC hρ rfl e1 kp ⟨a,_,rfl,bG,((rm.kp (.of s2)).put (x:=y) (aU.same s2 r1) hyl).kp kp,tie⟩⟩
end
section
variable {X:Cx} {a b c e:Expr} {es:List Expr} {fa fb fc f:Ev->Option Bx} {fs:Ev->Option (List Bx)} {pos:Pos}
theorem tK {x:Str} {j} (hx:x.length<=sizeLine:=by decide):QV X (.Constant (.str x) j pos) (cB (.str x)):=⟨P1.X4 (hx:=hx)⟩
end
section
variable {X:Cx} {a b c e:Expr} {es:List Expr} {fa fb fc f:Ev->Option Bx} {fs:Ev->Option (List Bx)} {pos:Pos}
variable {p q:Ev->Option Bool} {rest:List Expr}
theorem ak (h1:QV X e f) (h2:Xc X es fs) (hs:starEach (e::es) X.env=(false,eval e X.env)::starEach es X.env:=by rfl):Xc X (e::es) (aq f fs):=⟨P1.NZ (h1:=h1.run) (h2:=h2.run) (hs:=hs)⟩
theorem aA  : Xc X [] (λ_=>some []):=⟨P1.T7 ⟩
end
theorem aiR {P:Program} {w:World} {K:FG_} {mg:Str->Option Value} {base:Heap} {x qual:Str} {st:Stmt} {f:Addr} {fd:FuncData} {N ps:LS_} {k n m:Nat} {g:Ev->Option Out} (F:Fun K x qual st f fd) (S:bF N ps (aO st)) (hn:N.length=n) (hm:ps.length=m)
  (hbody:∀ (cdv:Value) (A:Around) (outer:List Env) (s:Shared) (H:Hp) (E:XK),nu k (A.deeper (envOfC qual (aO st) s.heap.objs.size f cdv))->Rp (Ei Ng P w K mg base N qual (aO st) f cdv A outer s H E).nox (jy st) g) :
  wM P w K mg base Ng (k+1) f fd ps (spF K m (dN n g)):=aiQ F S hn hm λcdv A outer s H E hr=>(hbody cdv A outer s H E hr).run
section
variable {prog:Program} {w:World} {A:Around} {E:VP_} {s:Shared}
theorem BR:∀ (vs:List Value) (ys:LS_),vs.length=ys.length->(∀ (j:Nat) v,vs[j]?=some v->∃ y t,ys[j]?=some y/\v=.str y t)->StrsAre vs ys
 |[],[],_,_=>.nil
 |v::vs,y::ys,hl,h=>by
  obtain⟨y',t,e,rfl⟩:=h 0 v rfl;cases e;exact .cons y t (BR vs ys (by simpa using hl) λj v hv=>h (j+1) v (by simpa using hv))
theorem RM {kvs:List (Key×Value)} {ys:LS_} (hk:kvs.map (·.1)=ys.map Sum.inr) {acc:Array Value} (h:ItemsOf (λi v=>∃ k x,kvs[i]?=some (k,x)/\(aX prog w).is k v=true) acc kvs.length):StrsAre acc.toList ys:=by
 have hl:kvs.length=ys.length:=by have:=congrArg List.length hk;simpa using this
 refine BR _ _ (by rw[ZZ,h.1,hl]) λj v hv=>?_;obtain⟨k,x,e,hi⟩:=h.2 j v (by simpa using hv);have e1:(kvs.map (·.1))[j]?=some k:=by rw[Zl,e];rfl
 rw[hk,Zl] at e1;cases hy:ys[j]? with
 |none=>rw[hy] at e1;cases e1
 |some y=>
  rw[hy] at e1;cases e1;have hi':kE (Sum.inr y) v=true:=hi;rcases bL hi' with⟨i,t,e2,e3⟩|⟨z,t,e2,e3⟩
  ·cases e2
  ·cases e2;exact⟨_,t,rfl,e3⟩
end
section
variable {X:Cx}
def V2:List (Key×Dt)->Option LS_
 |[]=>some []
 |(.inr x,_)::r=>(V2 r).bind λys=>some (x::ys)
 |(.inl _,_)::_=>none
theorem wC:∀ {kvs:List (Key×Dt)} {ys:LS_},V2 kvs=some ys->kvs.map (·.1)=ys.map Sum.inr
 |[],_,e=>by cases e;rfl
 |(.inr x,_)::r,_,e=>by
  obtain⟨ys,e1,e⟩:=bind_some e;cases e;rw[zr,zr,wC e1]
 |(.inl _,_)::_,_,e=>by cases e
theorem abQ {kvs:List (Key×Dt)} {ys:LS_} (e:V2 kvs=some ys) (h:∀ p∈kvs,okK p.1) (y:Str) (hy:y∈ys):y.length<=sizeLine:=by
 have:(Sum.inr y:Key)∈kvs.map (·.1):=by rw[wC e];exact List.mem_map.mpr ⟨y,hy,rfl⟩
 obtain⟨p,hp,ep⟩:=List.mem_map.mp this;have:=h p hp;rw[ep] at this;exact this
theorem Ui:∀ {ks:List (Key×V)} {vs:List (Key×Value)},KV ks vs->vs.map (·.1)=ks.map (·.1)
 |_,_,.nil=>rfl
 |_,_,.cons h t=>by rw[zr,zr,Ui t,h.1]
end
theorem bN.ahc {K:FG_} {H0 H:Hp} {σ:L2.St} {ρ:Ev} (E:bN K H0 H σ ρ) (i:Nat):bN K H0 H σ (ρ.set i none):=by
 have back:∀ (j:Nat) (b:Bx),(ρ.set i none)[j]?=some (some b)->ρ[j]?=some (some b):=λj b e=>by
  rw[K2] at e;split at e
  ·split at e<;>cases e
  ·exact e
 refine⟨by rw[ko];exact E.len,λj b e=>E.val j b (back j b e),λj k c a b e1 ec e2 e3 e4 e5=>E.own j k c a b (back _ _ e1) ec e2 (back _ _ e3) e4 e5,E.base,λj c a e1 ec e2=>E.new j c a (back _ _ e1) ec e2⟩
def kill (is:List Nat) (ρ:Ev):Ev:=is.foldl (λρ i=>ρ.set i none) ρ
theorem bN.kill {K:FG_} {H0 H:Hp} {σ:L2.St}:∀ (is:List Nat) {ρ:Ev},bN K H0 H σ ρ->bN K H0 H σ (P1.kill is ρ)
 |[],_,E=>E
 |i::is,_,E=>bN.kill is (E.ahc i)
def dB (is:List Nat):Ev->Option Out:=λρ=>some (.nx (kill is ρ))
theorem Yw {X:Cx} {ss:List Stmt} {g:Ev->Option Out} (is:List Nat) (h:TJ X ss g):TJ X ss (aC g (dB is)):=aey h λD σ H q=>by
 obtain⟨H0,ρ,r,E,e,q⟩:=q;obtain⟨r1,e1,e⟩:=bind_some e;refine⟨H0,ρ,r1,E,e1,?_⟩;cases r1 with
 |nx ρ1=>cases e;exact λσ' H' E'=>q σ' H' (E'.kill is)
 |rt b=>cases e;exact q
 |bk b=>cases e;exact q
 |ct b=>cases e;exact q
theorem aV {X:Cx} {ss:List Stmt} {g:Ev->Option Out} (is:List Nat) (h:Rp X ss g):Rp X ss (aC g (dB is)):=⟨Yw is h.run⟩
end P1
end
section
namespace S1
open PySem PySem.Spec PyProof.Rows
section
variable (rk:Value->Nat)
def at_ (xs:Array Keyed) (i:Nat):Nat:=match xs[i]? with
 |some p=>rk p.1
 |none=>0
def Up (xs:Array Keyed) (k:Nat):Prop:=∀ i j,i<=j->j < k->at_ rk xs i<=at_ rk xs j
def Down (xs:Array Keyed) (k:Nat):Prop:=∀ i j,i<=j->j < k->at_ rk xs j<=at_ rk xs i
structure Bs (kd:SortKind) (b:Array Keyed) (st:SortSt):Prop where
 pm:(arrOf st).Perm b
 kd:kindOf st=kd
 fl:failedOf st=none
 pd:pendingOf st=#[]
variable {rk} {kd:SortKind} {b:Array Keyed}
theorem Bs.sz {st:SortSt} (h:Bs kd b st):(arrOf st).size=b.size:=h.pm.size_eq
theorem Bs.arr {st:SortSt} {xs:Array Keyed} (h:Bs kd b st) (hp:xs.Perm (arrOf st)):Bs kd b (PyProof.Rows.setArr st xs):=⟨hp.trans h.pm,h.kd,h.fl,h.pd⟩
theorem vC {xs ys:Array Keyed} {i j:Nat} (h:xs[i]?=ys[j]?):at_ rk xs i=at_ rk ys j:=by unfold at_;rw[h]
theorem Yx {xs:Array Keyed} {p d:Nat} (hs:p < xs.size) (hd:d<=p) (k:Nat):at_ rk (bubble xs p d) k=if k=p - d then at_ rk xs p else if p - d < k/\k<=p then at_ rk xs (k - 1) else at_ rk xs k:=by
 have e:=getElem?_bubble hs d hd k;by_cases q:k=p - d
 ·simp only[zk q] at e ⊢;exact vC e
 ·simp only[zw q] at e ⊢;by_cases q2:p - d < k/\k<=p
  ·simp only[zk q2] at e ⊢;exact vC e
  ·simp only[zw q2] at e ⊢;exact vC e
theorem RN {xs:Array Keyed} {i j:Nat} (hj:j<=xs.size) (k:Nat):at_ rk (mirror xs i j ((j - i) / 2)) k=if i<=k/\k < j then at_ rk xs (i+j - 1 - k) else at_ rk xs k:=by
 have e:=getElem?_mirror_all (i:=i) hj k;by_cases q:i<=k/\k < j
 ·simp only[zk q] at e ⊢;exact vC e
 ·simp only[zw q] at e ⊢;exact vC e
theorem zj {xs:Array Keyed} {i j:Nat} (hj:j<=xs.size) (he:∀ k,i<=k->k < j->at_ rk xs k=at_ rk xs (j - 1)) (k:Nat):at_ rk (mirror xs i j ((j - i) / 2)) k=at_ rk xs k:=by
 rw[RN hj];by_cases q:i<=k/\k < j
 ·rw[zk q,he (i+j - 1 - k) (by omega) (by omega),he k q.1 q.2]
 ·rw[zw q]
end
section
variable {prog:Program} {w:World} {A:Around} {E:VP_} {s:Shared} {b:Array Keyed} {kd:SortKind} {rk:Value->Nat}
def Xd (prog:Program) (w:World) (A:Around) (s:Shared) (kd:SortKind) (rk:Value->Nat) (b:Array Keyed):Prop:=
 ∀ (E:VP_) (p q:Keyed) (Q:Bool->Shared->Prop),p∈b.toList->q∈b.toList->Q (decide (rk p.1 < rk q.1)) s->wpAny (model prog w) A (keyLt' kd p.1 q.1) Q E s
theorem Ou {st:SortSt} {i j:Nat} {Q:Option Bool->SortSt->Prop} (hC:Xd prog w A s kd rk b) (B:Bs kd b st) (hi:i < b.size) (hj:j < b.size)
  (h:Q (some (decide (at_ rk (arrOf st) i < at_ rk (arrOf st) j))) st):wpS (model prog w) A E s (ltAt' i j) Q st:=by
 have get:∀ k,k < b.size->∃ p,(arrOf st)[k]?=some p/\p∈b.toList:=λk hk=>by
  have hk':k < (arrOf st).size:=by rw[B.sz];exact hk
  exact⟨(arrOf st)[k],getElem?_pos _ k hk',(Array.perm_iff_toList_perm.mp B.pm).mem_iff.mp (by simp)⟩
 obtain⟨p,e1,m1⟩:=get i hi;obtain⟨q,e2,m2⟩:=get j hj;have h:Q (some (decide (rk p.1 < rk q.1))) st:=by unfold at_ at h;rw[e1,e2] at h;exact h
 rw[ltAt'_eq];refine wpS_bind (wpS_get ?_);show wpS _ _ _ _ (elem' (arrOf st) i >>= λx=>elem' (arrOf st) j >>= λy=>lt' x y) Q st;rw[elem'_eq,elem'_eq,e1,e2];refine wpS_bind (wpS_pure ?_);refine wpS_bind (wpS_pure ?_);rw[lt'_eq];refine wpS_bind (wpS_get ?_);rw[B.kd];exact wpS_bind (wpS_lift (wpAny_attempt (hC _ p q _ m1 m2 ⟨rfl,wpS_pure h⟩)))
theorem asc {st:SortSt} {a n:Nat} {Q:AscSt->SortSt->Prop} (hC:Xd prog w A s kd rk b) (hn:n<=b.size) (ha:1<=a) (han:a<=n) (B:Bs kd b st) (hs:Up rk (arrOf st) a)
  (h:∀ m,a<=m->m<=n->Up rk (arrOf st) m->(m=n\/at_ rk (arrOf st) m < at_ rk (arrOf st) (m - 1))->Q (none,m) st):wpS (model prog w) A E s (ascLoop a n) Q st:=by
 unfold ascLoop;refine wpS_forRange (I:=λx c t=>t=st/\c=(none,x)/\Up rk (arrOf st) x) ?_ ?_ ⟨rfl,rfl,hs⟩
 ·rintro x c t hax hxn ⟨rfl,rfl,up⟩;refine wpS_bind (Ou hC B (by omega) (by omega) ?_);by_cases q:at_ rk (arrOf t) x < at_ rk (arrOf t) (x - 1)
  ·simp only[q,Ki,qA];exact wpS_pure (h x hax (by omega) up (.inr q))
  ·simp only[q,kA,zl,ZO];refine wpS_pure ⟨rfl,rfl,λi j hij hj=>?_⟩;by_cases hx:j < x
   ·exact up i j hij hx
   ·have e:j=x:=by omega
    subst e;by_cases hi:i=j
    ·rw[hi];exact zi _
    ·have:=up i (j - 1) (by omega) (by omega);omega
 ·rintro c t ⟨rfl,rfl,up⟩;rw[show max a n=n by omega] at up ⊢;exact h n han (zi _) up (.inl rfl)
theorem t3 {st:SortSt} {m n:Nat} {Q:Option Nat->SortSt->Prop} (hC:Xd prog w A s kd rk b) (hn:n<=b.size) (h1:1<=m) (hmn:m<=n) (B:Bs kd b st) (hs:Down rk (arrOf st) m)
  (h:∀ k t,Bs kd b t->1<=k->k<=n->Up rk (arrOf t) k->Q (some k) t):wpS (model prog w) A E s (tail3 m n) Q st:=by
 unfold tail3;have hz:m<=(arrOf st).size:=by rw[B.sz];omega
 refine wpS_bind (wpS_reverse ?_);have B':Bs kd b (PyProof.Rows.setArr st (mirror (arrOf st) 0 m ((m - 0) / 2))):=B.arr (mirror_perm _ _ _ _);refine wpS_bind (asc hC hn h1 hmn B' (λi j hij hj=>?_) λk k1 k2 up _=>wpS_pure (h k _ B' (by omega) k2 up));show at_ rk (mirror (arrOf st) 0 m ((m - 0) / 2)) i<=at_ rk (mirror (arrOf st) 0 m ((m - 0) / 2)) j;rw[RN hz,RN hz,zk ⟨by omega,by omega⟩,zk ⟨by omega,by omega⟩];exact hs _ _ (by omega) (by omega)
theorem dsc {st:SortSt} {m n:Nat} {Q:DescSt->SortSt->Prop} (hC:Xd prog w A s kd rk b) (hn:n<=b.size) (h1:1<=m) (hmn:m<=n) (B:Bs kd b st) (hs:Down rk (arrOf st) m)
  (h:∀ k e t,Bs kd b t->m<=k->k<=n->Down rk (arrOf t) k->e+1<=k->(∀ i,k - (e+1)<=i->i < k->at_ rk (arrOf t) i=at_ rk (arrOf t) (k - 1))->Q (none,k,e) t):wpS (model prog w) A E s (descLoop m n) Q st:=by
 unfold descLoop;refine wpS_forRange (I:=λx c t=>∃ e,c=(none,x,e)/\Bs kd b t/\Down rk (arrOf t) x/\e+1<=x/\∀ i,x - (e+1)<=i->i < x->at_ rk (arrOf t) i=at_ rk (arrOf t) (x - 1)) ?_ ?_ ⟨0,rfl,B,hs,by omega,λi q1 q2=>by rw[show i=m - 1 by omega]⟩
 ·rintro x c t hax hxn ⟨e,rfl,B',dn,he,eq⟩;have hz:x<=(arrOf t).size:=by rw[B'.sz];omega
  have grow:∀ xs:Array Keyed,(∀ k,at_ rk xs k=at_ rk (arrOf t) k)->at_ rk (arrOf t) x<=at_ rk (arrOf t) (x - 1)->Down rk xs (x+1):=λxs hk hl i j hij hj=>by
   rw[hk,hk];by_cases hx:j < x
   ·exact dn i j hij hx
   ·have ej:j=x:=by omega
    subst ej;by_cases hi:i=j
    ·rw[hi];exact zi _
    ·have:=dn i (j - 1) (by omega) (by omega);omega
  dsimp only;refine wpS_bind (Ou hC B' (by omega) (by omega) ?_);by_cases q:at_ rk (arrOf t) x < at_ rk (arrOf t) (x - 1)
  ·simp only[q,Ki,qA];by_cases h0:e > 0
   ·rw[zk h0];exact wpS_bind (wpS_reverse (wpS_pure ⟨0,rfl,B'.arr (mirror_perm _ _ _ _),grow _ (zj hz eq) (by omega),by omega,λi q1 q2=>by rw[show i=x by omega];rfl⟩))
   ·rw[zw h0];exact wpS_pure ⟨0,rfl,B',grow _ (λ_=>rfl) (by omega),by omega,λi q1 q2=>by rw[show i=x by omega];rfl⟩
  ·simp only[q,kA,zl,ZO];refine wpS_bind (Ou hC B' (by omega) (by omega) ?_);by_cases q2:at_ rk (arrOf t) (x - 1) < at_ rk (arrOf t) x
   ·simp only[q2,Ki,qA];exact wpS_pure (h x e t B' hax (by omega) dn he eq)
   ·simp only[q2,kA,zl,ZO];refine wpS_pure ⟨e+1,rfl,B',grow _ (λ_=>rfl) (by omega),by omega,λi q3 q4=>?_⟩;rw[show x+1 - 1=x by omega];by_cases hi:i=x
    ·rw[hi]
    ·rw[eq i (by omega) (by omega)];omega
 ·rintro c t ⟨e,rfl,B',dn,he,eq⟩;rw[show max m n=n by omega] at dn he eq ⊢;exact h n e t B' hmn (zi _) dn he eq
theorem adn {st:SortSt} {m n:Nat} {Q:Option Nat->SortSt->Prop} (hC:Xd prog w A s kd rk b) (hn:n<=b.size) (hmn:m+1<=n) (B:Bs kd b st) (hs:Down rk (arrOf st) (m+1))
  (h:∀ k t,Bs kd b t->1<=k->k<=n->Up rk (arrOf t) k->Q (some k) t):wpS (model prog w) A E s (descPart m n) Q st:=by
 unfold descPart;refine wpS_bind (wpS_lift (k9 ⟨rfl,?_⟩));refine wpS_bind (dsc hC hn (by omega) hmn B hs λk e t B' k1 k2 dn he eq=>?_);have hz:k<=(arrOf t).size:=by rw[B'.sz];omega
 by_cases h0:e > 0
 ·simp only[zk h0];refine wpS_bind (wpS_reverse (t3 hC hn (by omega) k2 (B'.arr (mirror_perm _ _ _ _)) (λi j hij hj=>?_) h));show at_ rk (mirror (arrOf t) _ _ _) j<=at_ rk (mirror (arrOf t) _ _ _) i;rw[zj hz eq,zj hz eq];exact dn i j hij hj
 ·simp only[zw h0];exact t3 hC hn (by omega) k2 B' dn h
theorem aiS {st:SortSt} {n:Nat} {Q:Option Nat->SortSt->Prop} (hC:Xd prog w A s kd rk b) (hn:n<=b.size) (h1:1<=n) (B:Bs kd b st)
  (h:∀ k t,Bs kd b t->1<=k->k<=n->Up rk (arrOf t) k->Q (some k) t):wpS (model prog w) A E s (countRun' 0 n) Q st:=by
 rw[countRun0_eq];refine wpS_bind (asc hC hn (zi 1) h1 B (λi j hij hj=>by rw[show i=j by omega];exact zi _) λm m1 m2 up or=>?_);by_cases hm:m=n
 ·simp only[zk (show(m==n)=true by simpa using hm)];exact wpS_pure (h m st B m1 m2 up)
 ·simp only[zw (show ¬ (m==n)=true by simpa using hm)];have lt:=or.resolve_left hm;have hz:m<=(arrOf st).size:=by rw[B.sz];omega
  by_cases g1:m > 1
  ·rw[zk g1];refine wpS_bind (Ou hC B (by omega) (by omega) ?_);by_cases q:at_ rk (arrOf st) 0 < at_ rk (arrOf st) (m - 1)
   ·simp only[q,Ki,qA];exact wpS_pure (h m st B m1 m2 up)
   ·simp only[q,kA,zl,ZO];have all:∀ k,0<=k->k < m->at_ rk (arrOf st) k=at_ rk (arrOf st) (m - 1):=λk _ hk=>by
     have a1:=up 0 k (by omega) hk;have a2:=up k (m - 1) (by omega) (by omega);omega
    refine wpS_bind (wpS_reverse (adn hC hn (by omega) (B.arr (mirror_perm _ _ _ _)) (λi j hij hj=>?_) h));show at_ rk (mirror (arrOf st) _ _ _) j<=at_ rk (mirror (arrOf st) _ _ _) i;rw[zj hz all,zj hz all];by_cases hj':j < m
    ·rw[all i (by omega) (by omega),all j (by omega) hj'];exact zi _
    ·have ej:j=m:=by omega
     subst ej;by_cases hi:i=j
     ·rw[hi];exact zi _
     ·rw[all i (by omega) (by omega)];omega
  ·rw[zw g1];have e1:m=1:=by omega
   subst e1;refine adn hC hn (by omega) B (λi j hij hj=>?_) h;by_cases hi:i=j
   ·rw[hi];exact zi _
   ·rw[show i=0 by omega,show j=1 by omega];exact Q3 lt
theorem bins {st:SortSt} {n k0:Nat} {Q:Bool->SortSt->Prop} (hC:Xd prog w A s kd rk b) (hn:n<=b.size) (hk0:k0<=n) (B:Bs kd b st) (hs:Up rk (arrOf st) k0)
  (h:∀ t,Bs kd b t->Up rk (arrOf t) n->Q true t):wpS (model prog w) A E s (binarySort' 0 n k0) Q st:=by
 rw[binarySort'_eq];simp only[JY];refine wpS_bind (wpS_mono (wpS_forRange (I:=λk c t=>c=(none,())/\Bs kd b t/\Up rk (arrOf t) (min k n)) (Q:=λc t=>c=(none,())/\Bs kd b t/\Up rk (arrOf t) n) ?_ ?_ ?_) ?_)
 ·rintro k c t hak hkn ⟨rfl,B',up⟩;rw[show min k n=k by omega] at up;have hk:k < b.size:=by omega
  refine wpS_bind (wpS_mono (wpS_forRange (I:=λx c t'=>t'=t/\∃ l r,c=(none,l,r)/\l<=r/\r<=k/\r - l<=k - x/\(∀ i,i < l->at_ rk (arrOf t) i<=at_ rk (arrOf t) k)/\(∀ i,r<=i->i < k->at_ rk (arrOf t) k < at_ rk (arrOf t) i))
   (Q:=λc t'=>t'=t/\∃ l r,c=(none,l,r)/\l<=k/\(∀ i,i < l->at_ rk (arrOf t) i<=at_ rk (arrOf t) k)/\(∀ i,l<=i->i < k->at_ rk (arrOf t) k < at_ rk (arrOf t) i)) ?_ ?_ ?_) ?_)
  ·rintro x c t' _ hx ⟨rfl,l,r,rfl,lr,rk',mm,lo,hi⟩;dsimp only;by_cases ge:l>=r
   ·rw[zk ge];have e:l=r:=by omega
    subst e;exact wpS_pure ⟨rfl,l,l,rfl,rk',lo,hi⟩
   ·rw[zw ge];refine wpS_bind (Ou hC B' hk (by omega) ?_);by_cases q:at_ rk (arrOf t') k < at_ rk (arrOf t') ((l+r) / 2)
    ·simp only[q,Ki,qA];refine wpS_pure ⟨rfl,l,(l+r) / 2,rfl,by omega,by omega,by omega,lo,λi q1 q2=>?_⟩;have:=up ((l+r) / 2) i q1 q2;omega
    ·simp only[q,kA,zl,ZO];refine wpS_pure ⟨rfl,(l+r) / 2+1,r,rfl,by omega,by omega,by omega,λi q1=>?_,hi⟩;have:=up i ((l+r) / 2) (by omega) (by omega);omega
  ·rintro c t' ⟨rfl,l,r,rfl,lr,rk',mm,lo,hi⟩;have e:l=r:=by omega
   subst e;exact⟨rfl,l,l,rfl,rk',lo,hi⟩
  ·exact⟨rfl,0,k,rfl,by omega,by omega,by omega,λi hi=>by omega,λi q1 q2=>by omega⟩
  ·rintro c t' ⟨rfl,l,r,rfl,lk,lo,hi⟩;show wpS _ _ _ _ (moveDown' k l >>= λ_=>pure (ForInStep.yield (none,()))) _ _;rw[moveDown'_eq];refine wpS_bind (wpS_modify (wpS_pure ⟨rfl,B'.arr (bubble_perm _ _ _),?_⟩));rw[show min (k+1) n=k+1 by omega];have hz:k < (arrOf t').size:=by rw[B'.sz];exact hk
   intro i j hij hj;show at_ rk (bubble (arrOf t') k (k - l)) i<=at_ rk (bubble (arrOf t') k (k - l)) j;rw[Yx hz (by omega),Yx hz (by omega),show k - (k - l)=l by omega]
   repeat' split
   all_goals first
    |(exfalso;omega)
    |exact zi _
    |exact lo _ (by omega)
    |exact Q3 (hi _ (by omega) (by omega))
    |exact up _ _ (by omega) (by omega)
 ·rintro c t ⟨hc,B',up⟩;refine⟨hc,B',?_⟩;rwa [show min (max (max k0 1) n) n=n by omega] at up
 ·refine⟨rfl,B,λi j hij hj=>?_⟩;by_cases z:k0=0
  ·rw[show i=j by omega];exact zi _
  ·exact hs i j hij (by omega)
 ·rintro c t ⟨rfl,B',up⟩;exact wpS_pure (h t B' up)
def Dn (kd:SortKind) (rk:Value->Nat) (b:Array Keyed) (st:SortSt):Prop:=(arrOf st).Perm b/\failedOf st=none/\pendingOf st=#[(0,b.size,0)]/\Up rk (arrOf st) b.size
theorem Bs.dn {st:SortSt} (B:Bs kd b st) (up:Up rk (arrOf st) b.size):Dn kd rk b (setPending st ((pendingOf st).push (0,b.size,0))):=⟨B.pm,B.fl,(by show(pendingOf st).push _=_;rw[B.pd];rfl),up⟩
theorem runs {st:SortSt} {Q:Unit->SortSt->Prop} (hC:Xd prog w A s kd rk b) (B:Bs kd b st) (h2:2<=b.size) (h64:b.size < 64)
  (h:∀ t,(arrOf t).Perm b->failedOf t=none->Up rk (arrOf t) b.size->Q () t):wpS (model prog w) A E s sortRuns' Q st:=by
 rw[sortRuns'_eq];refine wpS_bind (wpS_get ?_);have mr:minRun' b.size b.size 0=b.size:=by
  obtain⟨f,hf⟩:∃ f,b.size=f+1:=⟨b.size - 1,by omega⟩;have q:minRun' (f+1) b.size 0=b.size:=(minRun'_succ f b.size 0).trans (zk h64);rwa [<-hf] at q
 simp only[B.sz,mr];have back:∀ {t:SortSt},Bs kd b t->(pendingOf t).back?=none:=λB=>by rw[B.pd];rfl
 refine wpS_bind (wpS_mono (wpS_forRange (I:=λx c t=>(x=0/\c=(none,0)/\Bs kd b t)\/(1<=x/\c=(none,b.size)/\Dn kd rk b t)) (Q:=λc t=>c=(none,b.size)/\Dn kd rk b t) ?_ ?_ (.inl ⟨rfl,rfl,B⟩)) ?_)
 ·rintro x c t _ hx (⟨rfl,rfl,B'⟩|⟨hx1,rfl,D⟩)
  ·dsimp only;rw[zw (by omega)];simp only[Nat.sub_zero,Nat.min_self,JY];refine wpS_bind (aiS hC (zi _) (by omega) B' λm t2 B2 m1 m2 up2=>?_);dsimp only;by_cases lt:m < b.size
   ·rw[zk lt];refine wpS_bind (wpS_lift (k9 ⟨rfl,wpS_bind (bins hC (zi _) m2 B2 up2 λt3 B3 up3=>?_)⟩));simp only[kr,zl,ZO];refine wpS_bind (wpS_get ?_);rw[back B3];exact wpS_bind (wpS_modify (wpS_pure (.inr ⟨by omega,rfl,B3.dn up3⟩)))
   ·rw[zw lt];have e:m=b.size:=by omega
    subst e;refine wpS_bind (wpS_get ?_);rw[back B2];exact wpS_bind (wpS_modify (wpS_pure (.inr ⟨by omega,rfl,B2.dn up2⟩)))
  ·dsimp only;rw[zk (zi _)];exact wpS_pure ⟨rfl,D⟩
 ·rintro c t (⟨hx,_,_⟩|⟨_,hc,D⟩)
  ·omega
  ·exact⟨hc,D⟩
 ·rintro c t ⟨rfl,D⟩;dsimp only;refine wpS_bind (wpS_mono (wpS_forRange (I:=λ_ c u=>u=t/\c=(none,())) (Q:=λc u=>u=t/\c=(none,())) ?_ (λ_ _ q=>q) ⟨rfl,rfl⟩) ?_)
  ·rintro x c u _ _ ⟨rfl,rfl⟩;refine wpS_bind (wpS_get ?_);rw[zk (by rw[D.2.2.1];exact zi 1)];exact wpS_pure ⟨rfl,rfl⟩
  ·rintro c u ⟨rfl,rfl⟩;exact wpS_pure (h _ D.1 D.2.1 D.2.2.2)
def Old (a:Addr) (s s':Shared):Prop:=∀ c o,c≠a->s.heap.get? c=some o->s'.heap.get? c=some o
theorem ado {a:Addr} {vs:List Value} {n:Nat} {P:Fin->Shared->Prop} (ho:s.heap.get? a=some (seqObj "list" vs.toArray n))
  (hK:2<=vs.length->∀ s',Old a s s'->∀ Q:SortKind->Shared->Prop,Q kd s'->wpAny (model prog w) A (keyKind' vs.toArray) Q E s') (hC:∀ s',Old a s s'->Xd prog w A s' kd rk (pairsOf vs)) (h64:vs.length < 64)
  (h:∀ st:SortSt,(arrOf st).Perm (pairsOf vs)->Up rk (arrOf st) (pairsOf vs).size->P (.done (.ret .none)) { s with heap:=sortedHeap s.heap a vs ((arrOf st).map (·.2)) }) :
  wpAny (model prog w) A (Builtin.«list.sort» ⟨[.ref a],[]⟩) P E s:=by
 rw[list_sort_plain];have ha:=zz ho;refine zb (listItems_at ho rfl (zb (listUpdate_at ho rfl ?_)));obtain⟨e1,g1⟩:∃ e1,(s.heap.update a (Obj.mapSeq λ_=>#[])).get? a=some (seqObj "list" #[] e1):=⟨_,get?_update_seq ho λ_=>#[]⟩;refine zb (seqEpoch_at g1 rfl (zb (wpAny_newTuple (zb (wpAny_newList (QN ?_))))));have z1:(s.heap.update a (Obj.mapSeq λ_=>#[])).objs.size=s.heap.objs.size:=Heap.size_update ..;have keep:∀ c,c < s.heap.objs.size->(((s.heap.update a (Obj.mapSeq λ_=>#[])).push (seqObj "tuple" vs.toArray 0)).push (seqObj "list" #[] 0)).get? c=(s.heap.update a (Obj.mapSeq λ_=>#[])).get? c:=λc hc=>by
  rw[Heap.get?_push_ne _ _ _ (by rw[size_push',z1];exact zD (qE hc)),Heap.get?_push_ne _ _ _ (by rw[z1];exact zD hc)]
 have g6:=(keep a ha).trans g1;have old:Old a s { s with heap:=((s.heap.update a (Obj.mapSeq λ_=>#[])).push (seqObj "tuple" vs.toArray 0)).push (seqObj "list" #[] 0) }:=λc o hc e=>by
  show(((s.heap.update a (Obj.mapSeq λ_=>#[])).push (seqObj "tuple" vs.toArray 0)).push (seqObj "list" #[] 0)).get? c=some o;rw[keep c (zz e),jI _ _ _ _ hc];exact e
 show wpAny _ _ _ _ _ { s with heap:=((s.heap.update a (Obj.mapSeq λ_=>#[])).push (seqObj "tuple" vs.toArray 0)).push (seqObj "list" #[] 0) };have hz:vs.toArray.size=vs.length:=by simp
 have lz:∀ st:SortSt,(arrOf st).Perm (pairsOf vs)->((arrOf st).map (·.2)).size<=sizeLine+1:=λst hp=>by
  have q:((arrOf st).map (·.2)).size=vs.length:=(Array.size_map ..).trans (hp.size_eq.trans (pairsOf_size _));rw[q,sizeLine_eq];omega
 by_cases h2:vs.toArray.size < 2
 ·simp only[zk h2];refine zb (ze ?_);rw[StateT.run_pure];refine zb (ze (zb (seqEpoch_at g6 rfl (zb (listUpdate_at g6 rfl ?_ (hsz2:=lz (SortSt.mk' general' (pairsOf vs) #[] 7 none) (Array.Perm.refl _)))))));simp only[bne_self_eq_false,zl,ZO];refine ze (h (SortSt.mk' general' (pairsOf vs) #[] 7 none) (Array.Perm.refl _) λi j hij hj=>?_);rw[pairsOf_size] at hj;rw[show i=j by omega];exact zi _
 ·simp only[zw h2];refine zb (hK (by omega) _ old _ ?_);refine zb (qS (runs (hC _ old) (st:=SortSt.mk' kd (pairsOf vs) #[] 7 none) (Q:=λ_ t=>(arrOf t).Perm (pairsOf vs)/\failedOf t=none/\Up rk (arrOf t) (pairsOf vs).size) ⟨Array.Perm.refl _,rfl,rfl,rfl⟩ (by rw[pairsOf_size];omega) (by rw[pairsOf_size];exact h64) λt q1 q2 q3=>⟨q1,q2,q3⟩) ?_ λ_ _ q=>q);rintro⟨⟨⟩,t⟩ s' ⟨rfl,hp,hf,up⟩;dsimp only;refine zb (seqEpoch_at g6 rfl (zb (listUpdate_at g6 rfl ?_ (hsz2:=lz t hp))));rw[hf];simp only[bne_self_eq_false,zl,ZO];exact ze (h t hp up)
theorem V3 {x:Value} {vs:List Value} {Q:VP_} (aeZ:∀ (E':VP_) (Q':List Value->Shared->Prop),(∀ h' tk,s.heap.objs.size<=h'.objs.size->(∀ c o,s.heap.get? c=some o->h'.get? c=some o)->Q' vs { s with heap:=h',toks:=tk })->wpAny (model prog w) A.in1 (collect x) Q' E' s)
  (hK:2<=vs.length->∀ (E':VP_) (A':Around) (s':Shared),(∀ c o,s.heap.get? c=some o->s'.heap.get? c=some o)->∀ Q:SortKind->Shared->Prop,Q kd s'->wpAny (model prog w) A' (keyKind' vs.toArray) Q E' s') (hC:∀ (A':Around) (s':Shared),(∀ c o,s.heap.get? c=some o->s'.heap.get? c=some o)->Xd prog w A' s' kd rk (pairsOf vs)) (h64:vs.length < 64)
  (h:∀ (l:Addr) (h':Heap) (tk n:Nat) (st:SortSt),(arrOf st).Perm (pairsOf vs)->Up rk (arrOf st) (pairsOf vs).size->s.heap.objs.size<=l->(∀ c o,s.heap.get? c=some o->h'.get? c=some o)->h'.get? l=some (seqObj "list" ((arrOf st).map (·.2)) n)->Q (.ref l) { s with heap:=h',toks:=tk }) :
  wpAny (model prog w) A (call (.builtin "sorted") [x]) Q E s:=by
 refine Calls.call_function_entry kind_sorted plain_sorted entry_sorted (args_sorted1 _) ?_;unfold Builtin.«sorted»;refine zb (m:=checkCount "sorted" 1 1 _) (ze (zb (aeZ _ _ λh1 tk hle ext=>zb (wpAny_newList ?_))));have hoL:(h1.push (seqObj "list" vs.toArray 0)).get? h1.objs.size=some (seqObj "list" vs.toArray 0):=zv _ rfl;have old:∀ s':Shared,Old h1.objs.size { s with heap:=h1.push (seqObj "list" vs.toArray 0),toks:=tk } s'->∀ c o,s.heap.get? c=some o->s'.heap.get? c=some o:=λs' q c o e=>
  q c o (zD (zz (ext c o e))) (zd _ (ext c o e))
 refine zb (QN (kg slot_list_sort ⟨_,hoL,rfl⟩ entry_list_sort (ado hoL (λq s' o=>hK q _ _ s' (old s' o)) (λs' o=>hC _ s' (old s' o)) h64 λst q1 q2=>⟨_,rfl,ze ⟨_,rfl,?_⟩⟩) (args_list_sort _)));obtain⟨n,en⟩:=sortedHeap_at (out:=(arrOf st).map (·.2)) hoL;refine h h1.objs.size _ tk n st q1 q2 hle (λc o e=>?_) en;have hb:=zz (ext c o e);rw[sortedHeap_old (zD hb) (by rw[qh];exact qE hb)];exact zd _ (ext c o e)
end
end S1
end
section
namespace S1
open PySem PySem.Spec PyProof.Rows L2
theorem V4 (fb:Bool) (x y:Value):keyLt' (tuples' fb) x y=(do
  let xs <-Builtin.List.listItems x
  let ys <-Builtin.List.listItems y
  for ((p,q),i) in (xs.toList.zip ys.toList).zipIdx do
   if !(<-eqBool p q) then return <-oneLt' (fb&&i==0) p q
  return decide (xs.size < ys.size)):=rfl
def Uj:Key->Key->Bool
 |.inl a,.inl b=>decide (a < b)
 |.inr x,.inr y=>decide (x.cps.toList < y.cps.toList)
 |.inl _,.inr _=>true
 |.inr _,.inl _=>false
def Uk:Key->Key->Bool
 |.inl _,.inl _=>true
 |.inr _,.inr _=>true
 |_,_=>false
def nZ:List Key->List Key->Bool
 |[],[]=>false
 |[],_::_=>true
 |_::_,[]=>false
 |x::xs,y::ys=>if x=y then nZ xs ys else Uj x y
def Shp:List Key->List Key->Prop
 |x::xs,y::ys=>Uk x y=true/\Shp xs ys
 |_,_=>True
section
variable {prog:Program} {w:World} {A:Around} {E:VP_} {s:Shared}
theorem key_eq {x y:Key} {p q:Value} {Q:Bool->Shared->Prop} (hp:kE x p=true) (hq:kE y q=true) (h:Q (decide (x=y)) s):wpAny (model prog w) A (eqBool p q) Q E s:=
 (aX prog w).eqBool (a:=x) (b:=y) hp hq h
theorem ae0 {fb:Bool} {x y:Key} {p q:Value} {Q:Bool->Shared->Prop} (hs:Uk x y=true) (hp:kE x p=true) (hq:kE y q=true) (h:Q (Uj x y) s):wpAny (model prog w) A (oneLt' fb p q) Q E s:=by
 rcases bL hp with⟨i,t,rfl,rfl⟩|⟨z,t,rfl,rfl⟩
 ·rcases bL hq with⟨j,u,rfl,rfl⟩|⟨z,u,rfl,rfl⟩
  ·cases fb with
   |true=>exact oneLt_int h
   |false=>
    rw[oneLt'_eq];simp only[zl,ZO];refine zb (show wpAny _ _ (compareOp .Lt (.int i t) (.int j u)) _ _ _ from lt_int ?_);exact Q1 h
  ·cases hs
 ·rcases bL hq with⟨j,u,rfl,rfl⟩|⟨z',u,rfl,rfl⟩
  ·cases hs
  ·cases fb with
   |true=>exact oneLt_str h
   |false=>
    rw[oneLt'_eq];simp only[zl,ZO];refine zb (show wpAny _ _ (compareOp .Lt (.str z t) (.str z' u)) _ _ _ from PySem.P.lt_str ?_);exact Q1 h
def Ks (ks:List Key) (its:List Value):Prop:=Paired (λk v=>kE k v=true) ks its
def dif:List Key->List Key->Option Bool
 |x::xs,y::ys=>if x=y then dif xs ys else some (Uj x y)
 |_,_=>none
theorem Yy:∀ ks ls:List Key,nZ ks ls=match dif ks ls with|some r=>r|none=>decide (ks.length < ls.length)
 |[],[]=>rfl
 |[],_::_=>by simp[nZ,dif]
 |_::_,[]=>rfl
 |x::xs,y::ys=>by
  simp only[nZ,dif];by_cases e:x=y
  ·rw[zk e,zk e,Yy xs ys];simp only[ZH,Nat.add_lt_add_iff_right]
  ·rw[zw e,zw e]
def turn (fb:Bool):(Value×Value)×Nat->Option Bool×Unit->Sem (ForInStep (Option Bool×Unit)):=λx _=>match x with
 |((p,q),i)=>do
  let e <-eqBool p q
  if(!e)=true then do
    let r <-oneLt' (fb&&i==0) p q
    pure (ForInStep.done (some r,()))
   else pure (ForInStep.yield (none,()))
theorem walk (fb:Bool):∀ (ks ls:List Key) (its jts:List Value) (i:Nat) (R:Option Bool×Unit->Shared->Prop),Ks ks its->Ks ls jts->Shp ks ls->R (dif ks ls,()) s->wpAny (model prog w) A (forIn ((its.zip jts).zipIdx i) ((none,()):Option Bool×Unit) (turn fb)) R E s
 |[],_,_,_,_,R,.nil,_,_,h=>ze h
 |_::_,[],_::_,_,_,R,_,.nil,_,h=>ze h
 |x::xs,y::ys,p::its,q::jts,i,R,.cons hp hk,.cons hq hl,hs,h=>by
  rw[List.zip_cons_cons,List.zipIdx_cons,List.forIn_cons];refine zb ?_;show wpAny _ _ (eqBool p q >>= _) _ _ _;refine zb (key_eq hp hq ?_);by_cases e:x=y
  ·simp only[e,Ki,kr,zl,ZO];refine ze (walk fb xs ys its jts (i+1) R hk hl hs.2 ?_);simp only[dif,zk e] at h;exact h
  ·simp only[e,kA,kz,qA];refine zb (ae0 hs.1 hp hq (ze (ze ?_)));simp only[dif,zw e] at h;exact h
theorem ae1 {fb:Bool} {a c:Addr} {oa oc:Obj} {its jts:List Value} {n m:Nat} {ks ls:List Key} {Q:Bool->Shared->Prop} (ha:s.heap.get? a=some oa) (da:oa.data=.seq its.toArray n) (hc:s.heap.get? c=some oc) (dc:oc.data=.seq jts.toArray m)
  (hk:Ks ks its) (hl:Ks ls jts) (hs:Shp ks ls) (h:Q (nZ ks ls) s):wpAny (model prog w) A (keyLt' (tuples' fb) (.ref a) (.ref c)) Q E s:=by
 rw[V4];refine zb (listItems_at ha da (zb (listItems_at hc dc ?_)));have hl1:its.length=ks.length:=(Paired.length hk).symm;have hl2:jts.length=ls.length:=(Paired.length hl).symm;refine zb (walk fb ks ls its jts 0 _ hk hl hs ?_);rw[Yy] at h;cases e:dif ks ls with
 |some r=>rw[e] at h;exact ze h
 |none=>
  rw[e] at h;refine ze ?_;simpa[hl1,hl2] using h
end
theorem abS (x:Key):Uj x x=false:=by
 cases x with
 |inl a=>simp[Uj]
 |inr a=>simp[Uj]
theorem V5 {x y z:Key} (h:Uj x y=true) (h':Uj y z=true):Uj x z=true:=by
 cases x<;>cases y<;>cases z<;>simp only[Uj,z5,zl,reduceCtorEq] at h h' ⊢
 ·omega
 ·exact List.lt_trans h h'
theorem abT {x y:Key} (h:Uj x y=false) (h':Uj y x=false):x=y:=by
 cases x<;>cases y<;>simp only[Uj,QU,Bool.true_eq_false,reduceCtorEq] at h h'
 ·congr 1;omega
 ·rename_i a b;have:=List.le_antisymm (as:=a.cps.toList) (bs:=b.cps.toList) h' h;cases a;cases b;simp only at this;rw[Array.toList_inj.mp this]
theorem Fp:∀ xs:List Key,nZ xs xs=false
 |[]=>rfl
 |x::xs=>by simp only[nZ,qA];exact Fp xs
theorem pU:∀ {xs ys zs:List Key},nZ xs ys=true->nZ ys zs=true->nZ xs zs=true
 |[],[],_,h,_=>by cases h
 |[],_::_,[],_,h'=>by cases h'
 |[],_::_,_::_,_,_=>rfl
 |_::_,[],_,h,_=>by cases h
 |_::_,_::_,[],_,h'=>by cases h'
 |x::xs,y::ys,z::zs,h,h'=>by
  simp only[nZ] at h h' ⊢;by_cases e1:x=y
  ·subst e1;rw[zk rfl] at h;by_cases e2:x=z
   ·subst e2;rw[zk rfl] at h' ⊢;exact pU h h'
   ·rw[zw e2] at h' ⊢;exact h'
  ·rw[zw e1] at h;by_cases e2:y=z
   ·subst e2;rw[zw e1];exact h
   ·rw[zw e2] at h';have:=V5 h h';rw[zw (λe=>by subst e;rw[abS] at this;cases this)];exact this
theorem zm:∀ {xs ys:List Key},nZ xs ys=false->nZ ys xs=false->xs=ys
 |[],[],_,_=>rfl
 |[],_::_,h,_=>by cases h
 |_::_,[],_,h'=>by cases h'
 |x::xs,y::ys,h,h'=>by
  simp only[nZ] at h h';by_cases e:x=y
  ·subst e;rw[zk rfl] at h h';rw[zm h h']
  ·rw[zw e] at h;rw[zw (K0 e)] at h';exact absurd (abT h h') e
def vD (xs ys:List Key):Bool:=!nZ ys xs
theorem xX (a b c:List Key) (h:vD a b=true) (h':vD b c=true):vD a c=true:=by
 unfold vD at *
 simp only[Qr] at *
 cases hc:nZ c a with
 |false=>rfl
 |true=>
  cases hab:nZ a b with
  |true=>rw[pU hc hab] at h';cases h'
  |false=>
   have e:=zm hab h;subst e;rw[hc] at h';cases h'
theorem xY (a b:List Key):(vD a b||vD b a)=true:=by
 unfold vD;cases h:nZ b a with
 |false=>rfl
 |true=>
  cases h':nZ a b with
  |false=>rfl
  |true=>have:=pU h h';rw[Fp] at this;cases this
theorem Bj {a b:List Key} (h:vD a b=true) (h':vD b a=true):a=b:=by
 unfold vD at *
 simp only[Qr] at *
 exact zm h' h
theorem qw {α:Type} {le:α->α->Prop} (anti:∀ a b,le a b->le b a->a=b):∀ {l l':List α},l.Perm l'->l.Pairwise le->l'.Pairwise le->l=l'
 |[],l',h,_,_=>by rw[List.nil_perm.mp h]
 |a::l,[],h,_,_=>by cases List.perm_nil.mp h
 |a::l,b::l',h,p,p'=>by
  have e:a=b:=by
   have ha:a∈b::l':=h.mem_iff.mp (zh ..);have hb:b∈a::l:=h.mem_iff.mpr (zh ..);rcases List.mem_cons.mp ha with h1|h1
   ·exact h1
   ·rcases List.mem_cons.mp hb with h2|h2
    ·exact h2.symm
    ·exact anti a b (Jn p h2) (Jn p' h1)
  subst e;rw[qw anti ((List.perm_cons a).mp h) (List.pairwise_cons.mp p).2 (List.pairwise_cons.mp p').2]
def kY (cY:List (List Key)):List (List Key):=cY.mergeSort vD
theorem nF (cY:List (List Key)):(kY cY).Perm cY:=KA ..
theorem vG (cY:List (List Key)):(kY cY).Pairwise (λa b=>vD a b=true):=kN xX xY cY
theorem rT {cY out:List (List Key)} (hp:out.Perm cY) (hs:out.Pairwise (λa b=>vD a b=true)):out=kY cY:=qw (λ_ _=>Bj) (hp.trans (nF cY).symm) hs (vG cY)
def rank (cY:List (List Key)) (k:List Key):Nat:=cY.countP λu=>nZ u k
theorem JB {α:Type} {p q:α->Bool}:∀ {l:List α},(∀ x∈l,p x=true->q x=true)->(∃ x∈l,p x=false/\q x=true)->l.countP p < l.countP q
 |[],_,⟨x,hx,_⟩=>by cases hx
 |a::l,h,⟨x,hx,h1,h2⟩=>by
  have le:l.countP p<=l.countP q:=List.countP_mono_left λy hy=>h y (zg _ hy);rw[List.countP_cons,List.countP_cons];rcases List.mem_cons.mp hx with rfl|hx
  ·rw[h1,h2];simp;omega
  ·have:=JB (λy hy=>h y (zg _ hy)) ⟨x,hx,h1,h2⟩;have ha:=h a (zh ..);cases hp:p a with
   |true=>rw[ha hp];simp;omega
   |false=>simp;omega
theorem Ul {cY:List (List Key)} {a b:List Key} (ha:a∈cY):decide (rank cY a < rank cY b)=nZ a b:=by
 cases h:nZ a b with
 |true=>
  refine Zp (JB (λu _ hu=>pU hu h) ⟨a,ha,Fp a,h⟩)
 |false=>
  refine ZE (Nat.not_lt.mpr (List.countP_mono_left λu _ hu=>?_));cases hb:nZ b a with
  |true=>exact pU hu hb
  |false=>rw[zm h hb];exact hu
def jN (h:Heap) (ks:List Key) (v:Value):Prop:=∃ (a:Addr) (o:Obj) (its:List Value) (n:Nat),v=.ref a/\h.get? a=some o/\o.cls=.type "tuple" ∧ o.data=.seq its.toArray n/\Ks ks its
theorem jN.keep {h h':Heap} {ks:List Key} {v:Value} (q:jN h ks v) (k:∀ c o,h.get? c=some o->h'.get? c=some o):jN h' ks v:=by
 obtain⟨a,o,its,n,e,g,c,d,p⟩:=q;exact⟨a,o,its,n,e,k _ _ g,c,d,p⟩
theorem abU {k l:Key} {v:Value} (h:kE k v=true) (h':kE l v=true):k=l:=by
 rcases bL h with⟨i,t,rfl,rfl⟩|⟨x,t,rfl,rfl⟩
 ·rcases bL h' with⟨j,u,rfl,e⟩|⟨y,u,rfl,e⟩
  ·cases e;rfl
  ·cases e
 ·rcases bL h' with⟨j,u,rfl,e⟩|⟨y,u,rfl,e⟩
  ·cases e
  ·cases e;rfl
theorem Ks.inj:∀ {ks ls:List Key} {its:List Value},Ks ks its->Ks ls its->ks=ls
 |_,_,[],h,h'=>by cases h;cases h';rfl
 |_,_,v::its,h,h'=>by
  cases h with
  |cons p t=>cases h' with
   |cons p' t'=>rw[abU p p',Ks.inj t t']
theorem jN.inj {h:Heap} {ks ls:List Key} {v:Value} (q:jN h ks v) (q':jN h ls v):ks=ls:=by
 obtain⟨a,o,its,n,rfl,g,c,d,p⟩:=q;obtain⟨a',o',its',n',e,g',c',d',p'⟩:=q';cases e;rw[g] at g';cases g';rw[d] at d';injection d' with e1 e2;have e3:its=its':=by simpa using congrArg Array.toList e1
 subst e3;exact p.inj p'
section
variable {prog:Program} {w:World} {A:Around} {E:VP_} {s:Shared}
theorem K7 {α β:Type} {f:α->Sem β}:∀ (xs:List α) (ys:List β) (Q:List β->Shared->Prop),Paired (λx y=>∀ (E':VP_) (Q':β->Shared->Prop),Q' y s->wpAny (model prog w) A (f x) Q' E' s) xs ys->Q ys s->wpAny (model prog w) A (xs.mapM f) Q E s
 |[],_,Q,.nil,h=>by rw[List.mapM_nil];exact ze h
 |x::xs,y::ys,Q,.cons h t,q=>by
  rw[List.mapM_cons];exact zb (h _ _ (zb (K7 xs ys _ t (ze q))))
theorem Yz (v:Value):firstOfTuple' v=(do
  if(<-typeOf v) != .type "tuple" then return none
  return (<-Builtin.List.listItems v)[0]?):=rfl
theorem V6 {k:Key} {ks:List Key} {v:Value} (q:jN s.heap (k::ks) v):∃ u,kE k u=true/\∀ (E':VP_) (Q':Option Value->Shared->Prop),Q' (some u) s->wpAny (model prog w) A (firstOfTuple' v) Q' E' s:=by
 obtain⟨a,o,its,n,rfl,g,c,d,p⟩:=q;cases p with
 |@cons _ u _ its hp t=>
  refine⟨u,hp,λE' Q' h=>?_⟩;rw[Yz];refine zb (QP (T := "tuple") ⟨o,g,c⟩ ?_);rw[zw (by decide)];exact zb (listItems_at g d (ze h))
theorem YB {k:Key} {u:Value} (h:kE k u=true) (E':VP_) (Q':VP_) (q:Q' (.type (if k.isLeft then "int" else "str")) s):wpAny (model prog w) A (typeOf u) Q' E' s:=by
 rcases bL h with⟨i,t,rfl,rfl⟩|⟨x,t,rfl,rfl⟩
 ·exact QP (typeIs_int s i t) q
 ·exact QP (typeIs_str s x t) q
theorem JC {vs:List Value} {cY:List (List Key)} {Q:SortKind->Shared->Prop} (hv:Paired (jN s.heap) cY vs) (hne:∀ k∈cY,k≠[]) (hsh:∀ k∈cY,∀ l∈cY,Shp k l) (h2:1<=vs.length) (h:Q (tuples' true) s):wpAny (model prog w) A (keyKind' vs.toArray) Q E s:=by
 have step:∀ (cY:List (List Key)) (vs:List Value),Paired (jN s.heap) cY vs->(∀ k∈cY,k≠[])->∃ us:List Value,Paired (λv u=>∀ (E':VP_) (Q':Option Value->Shared->Prop),Q' (some u) s->wpAny (model prog w) A (firstOfTuple' v) Q' E' s) vs us/\Paired (λ(k:List Key) u=>∃ x r,k=x::r/\kE x u=true) cY us:=by
  intro cY vs hv
  induction hv with
  |nil=>intro _;exact⟨[],.nil,.nil⟩
  |@cons k v cY vs q t ih=>
   intro hne;obtain⟨us,p1,p2⟩:=ih λk hk=>hne k (zg _ hk);cases k with
   |nil=>exact absurd rfl (hne _ (zh ..))
   |cons x r=>
    obtain⟨u,hu,hw⟩:=V6 (prog:=prog) (w:=w) (A:=A) q;exact⟨u::us,.cons hw p1,.cons ⟨x,r,rfl,hu⟩ p2⟩
 obtain⟨us,p1,p2⟩:=step cY vs hv hne;have hlen:us.length=vs.length:=(Paired.length p1).symm;have lift:∀ {l:List Value} {ws:List Value},Paired (λv u=>∀ (E':VP_) (Q':Option Value->Shared->Prop),Q' (some u) s->wpAny (model prog w) A (firstOfTuple' v) Q' E' s) l ws->Paired (λv u=>∀ (E':VP_) (Q':Option Value->Shared->Prop),Q' u s->wpAny (model prog w) A (firstOfTuple' v) Q' E' s) l (ws.map some):=λh=>by
  induction h with
  |nil=>exact .nil
  |cons q t ih=>exact .cons q ih
 rw[keyKind'_eq,List.mapM_toArray,map_eq_pure_bind];refine zb (zb (K7 vs (us.map some) _ (lift p1) (ze ?_)));have hall:(us.map some).toArray.all (·.isSome)=true:=by simp
 rw[zk hall];refine zb (k9 ?_);have hf:(us.map some).toArray.filterMap id=us.toArray:=by simp
 rw[hf,oneTypeOnly'_eq,List.mapM_toArray,map_eq_pure_bind];have ty:∀ (cY:List (List Key)) (us:List Value),Paired (λ(k:List Key) u=>∃ x r,k=x::r/\kE x u=true) cY us->∃ ts:List Value,Paired (λu t=>∀ (E':VP_) (Q':VP_),Q' t s->wpAny (model prog w) A (typeOf u) Q' E' s) us ts/\Paired (λ(k:List Key) t=>∃ x r,k=x::r/\t=.type (if x.isLeft then "int" else "str")) cY ts:=by
  intro cY us hp
  induction hp with
  |nil=>exact⟨[],.nil,.nil⟩
  |@cons k u cY us q t ih=>
   obtain⟨ts,q1,q2⟩:=ih;obtain⟨x,r,rfl,hx⟩:=q;exact⟨_::ts,.cons (λE' Q' h=>YB hx E' Q' h) q1,.cons ⟨x,r,rfl,rfl⟩ q2⟩
 obtain⟨ts,q1,q2⟩:=ty cY us p2;refine zb (zb (zb (K7 us ts _ q1 (ze ?_))));have lt:ts.length=vs.length:=by rw[<-Paired.length q1,hlen]
 cases q2 with
 |nil=>simp at lt;omega
 |@cons k0 t0 akL ts' h0 r0=>
  obtain⟨x0,r,rfl,rfl⟩:=h0;have same:∀ t∈ts',t=Value.type (if x0.isLeft then "int" else "str"):=by
   have aux:∀ (cY:List (List Key)) (ts:List Value),Paired (λ(k:List Key) t=>∃ x r,k=x::r/\t=Value.type (if x.isLeft then "int" else "str")) cY ts->(∀ k∈cY,Shp (x0::r) k)->∀ t∈ts,t=Value.type (if x0.isLeft then "int" else "str"):=by
    intro cY ts hp
    induction hp with
    |nil=>intro _ t ht;cases ht
    |@cons k t cY ts q _ ih=>
     intro hs u hu;rcases List.mem_cons.mp hu with rfl|hu
     ·obtain⟨x,r',rfl,rfl⟩:=q;have:=(hs _ (zh ..)).1;cases x0<;>cases x<;>first|rfl|cases this
     ·exact ih (λk hk=>hs k (zg _ hk)) u hu
   exact aux _ _ r0 λk hk=>hsh _ (zh ..) k (zg _ hk)
  have e0:(Value.type (if x0.isLeft then "int" else "str")::ts').toArray[0]?=some (Value.type (if x0.isLeft then "int" else "str")):=by simp
  have e1:((Value.type (if x0.isLeft then "int" else "str")::ts').toArray.all λx=>x==Value.type (if x0.isLeft then "int" else "str"))=true:=by
   simp only[List.all_toArray,ZY];intro t ht;rcases List.mem_cons.mp ht with rfl|ht
   ·simp
   ·rw[same t ht];simp
  rw[e0];simp only[e1,qA];refine ze (ze ?_);have e2:((some (Value.type (if x0.isLeft then "int" else "str"))).any λx=>x != Value.type "tuple")=true:=by
   cases x0 with
   |inl _=>exact(by decide:((some (Value.type "int")).any λx=>x != Value.type "tuple")=true)
   |inr _=>exact(by decide:((some (Value.type "str")).any λx=>x != Value.type "tuple")=true)
  rw[e2];exact h
def keyOf (cY:List (List Key)) (vs:List Value) (v:Value):List Key:=match (vs.zip cY).find? (λp=>p.1==v) with
 |some p=>p.2
 |none=>[]
theorem lW {h:Heap}:∀ {cY:List (List Key)} {vs:List Value},Paired (jN h) cY vs->∀ v∈vs,keyOf cY vs v∈cY/\jN h (keyOf cY vs v) v
 |_,_,.nil,v,hv=>by cases hv
 |k::cY,u::vs,.cons q t,v,hv=>by
  unfold keyOf;rw[List.zip_cons_cons,Qb];by_cases e:u=v
  ·subst e;simp only[beq_self_eq_true];exact⟨zh ..,q⟩
  ·have e':(u==v)=false:=by simpa using e
   simp only[e'];have hv':v∈vs:=by
    rcases List.mem_cons.mp hv with h|h
    ·exact absurd h.symm e
    ·exact h
   have ih:=lW t v hv';exact⟨zg _ ih.1,ih.2⟩
theorem BW {h:Heap}:∀ {cY:List (List Key)} {vs:List Value},Paired (jN h) cY vs->∀ (K:Value->List Key),(∀ v∈vs,jN h (K v) v)->vs.map K=cY
 |_,_,.nil,_,_=>rfl
 |k::cY,v::vs,.cons q t,K,hK=>by
  rw[zr,(hK v (zh ..)).inj q,BW t K λu hu=>hK u (zg _ hu)]
theorem xZ {h:Heap}:∀ {vs:List Value} {K:Value->List Key},(∀ v∈vs,jN h (K v) v)->Paired (jN h) (vs.map K) vs
 |[],_,_=>.nil
 |v::vs,K,hK=>.cons (hK v (zh ..)) (xZ λu hu=>hK u (zg _ hu))
theorem Ov {vs:List Value} {cY:List (List Key)} (hv:Paired (jN s.heap) cY vs) (hsh:∀ k∈cY,∀ l∈cY,Shp k l):Xd prog w A s (tuples' true) (λv=>rank cY (keyOf cY vs v)) (pairsOf vs):=by
 intro E p q Q hp hq h;rw[pairsOf_toList] at hp hq;obtain⟨m1,t1⟩:=lW hv p.1 (mem_zip_self hp).2;obtain⟨m2,t2⟩:=lW hv q.1 (mem_zip_self hq).2;rw[Ul m1] at h;have sh:=hsh _ m1 _ m2;obtain⟨a,o,its,n,e,g,c,d,k⟩:=t1;obtain⟨a',o',its',n',e',g',c',d',k'⟩:=t2;rw[e,e'];exact ae1 g d g' d' k k' sh h
theorem Ox {h:Heap} {vs:List Value} {cY:List (List Key)} (hv:Paired (jN h) cY vs) {xs:Array Keyed} (hp:xs.Perm (pairsOf vs)) (up:Up (λv=>rank cY (keyOf cY vs v)) xs (pairsOf vs).size):Paired (jN h) (kY cY) (xs.map (·.2)).toList:=by
 have hl:xs.toList.Perm (vs.zip vs):=by rw[<-pairsOf_toList];exact Array.perm_iff_toList_perm.mp hp
 have hm:∀ p∈xs.toList,p.1=p.2/\p.1∈vs:=λp q=>mem_zip_self (hl.mem_iff.mp q);have e:(xs.map (·.2)).toList=xs.toList.map (·.1):=by
  rw[Array.toList_map];exact jv λp q=>(hm p q).1.symm
 have pv:(xs.toList.map (·.1)).Perm vs:=by
  have:=hl.map Prod.fst;rwa [List.map_fst_zip (zi _)] at this
 have key:kY cY=(xs.toList.map (·.1)).map (keyOf cY vs):=by
  refine(rT ?_ ?_).symm
  ·have:=pv.map (keyOf cY vs);rwa [BW hv _ λv q=>(lW hv v q).2] at this
  ·rw[List.pairwise_iff_getElem];intro i j hi hj hij;have hi':i < xs.size:=by simpa using hi
   have hj':j < xs.size:=by simpa using hj
   have u:=up i j (Q3 hij) (by rw[<-hp.size_eq];exact hj');unfold at_ at u;rw[getElem?_pos xs i hi',getElem?_pos xs j hj'] at u;have m2:=(lW hv xs[j].1 (hm xs[j] (by simp)).2).1;simp only[List.getElem_map,Array.getElem_toList];unfold vD;rw[<-Ul m2,ZE (Nat.not_lt.mpr u)];rfl
 rw[key,e];refine xZ λv q=>(lW hv v ?_).2;exact pv.mem_iff.mp q
end
end S1
end
section
namespace P1
open PySem PySem.Spec PyProof.Rows L2 S1
section
variable {prog:Program} {w:World} {A:Around} {E:VP_} {s:Shared}
theorem RQ {l:Addr} {o:Obj} {T:String} {vs:List Value} {n:Nat} {Q:List Value->Shared->Prop} (ho:s.heap.get? l=some o) (hc:o.cls=.type T) (hT:T = "list" ∨ T = "tuple") (hd:o.data=.seq vs.toArray n) (hz:vs.length<=sizeLine)
  (h:∀ h' tk,s.heap.objs.size<=h'.objs.size->(∀ c o,s.heap.get? c=some o->h'.get? c=some o)->Q vs { s with heap:=h',toks:=tk }):wpAny (model prog w) A (collect (.ref l)) Q E s:=by
 unfold collect;refine zb (wpAny_runValue (JA entry_proto_collect' ?_));show wpAny _ _ (newList [] >>= λq=>again (.builtin "list.__iadd__" ⟨[q,.ref l],[]⟩)) _ _ s;refine zb (wpAny_newList (ze ⟨Code.quiet_builtin _ (by decide +kernel),JA entry_list_iadd' ?_⟩));show wpAny _ _ (Builtin.List.listExtendWith (.ref s.heap.objs.size) (.ref l) (.ref s.heap.objs.size)) _ _ _;unfold Builtin.List.listExtendWith;have g1:(s.heap.push (seqObj "list" #[] 0)).get? l=some o:=zd _ ho;refine zb (QP (T:=T) ⟨o,g1,hc⟩ ?_);have ht:(Value.type T==Value.type "list" || Value.type T==Value.type "tuple")=true:=by rcases hT with rfl|rfl<;>decide
 rw[zk (by rw[Bool.or_assoc,ht];simp)];refine zb (listItems_at g1 hd (zb (listItems_at (xs:=#[]) (n:=0) (zv _ rfl) rfl ?_)));rw[zw (by simp)];have g2:(s.heap.push (seqObj "list" #[] 0)).get? s.heap.objs.size=some (seqObj "list" #[] 0):=zv _ rfl;refine zb (listUpdate_at (xs:=#[]) (n:=0) g2 rfl (ze ?_) (QI _) (by show(#[]++vs.toArray).size<=sizeLine+1;simp only[k5,zt,List.length_nil];omega));show wpAny (model prog w) A (load s.heap.objs.size >>= _) Q E _;refine zb (KG (get?_update_seq g2 _) ?_);show wpAny _ _ (pure ((#[]:Array Value)++vs.toArray).toList) Q E _;rw[show((#[]:Array Value)++vs.toArray).toList=vs by simp];refine ze (h _ s.toks ?_ λc oc e=>?_)
 ·rw[Heap.size_update,size_push'];exact Kj _
 ·rw[jI _ _ _ _ (zD (zz e))];exact zd _ e
end
def abV:Dt->Option Key
 |.int i=>some (.inl i)
 |.str x=>some (.inr x)
 |_=>none
def BX:List Dt->Option (List Key)
 |[]=>some []
 |d::ds=>(abV d).bind λk=>(BX ds).bind λks=>some (k::ks)
def Fq:Dt->Option (List Key)
 |.tup ds=>BX ds
 |_=>none
def tL:List Dt->Option (List (List Key))
 |[]=>some []
 |d::ds=>(Fq d).bind λk=>(tL ds).bind λks=>some (k::ks)
def dK:Key->Dt
 |.inl i=>.int i
 |.inr x=>.str x
def tupK (ks:List Key):Dt:=.tup (ks.map dK)
theorem abW {d:Dt} {k:Key} (h:abV d=some k):d=dK k:=by
 cases d<;>cases h<;>rfl
theorem Oz:∀ {ds:List Dt} {ks:List Key},BX ds=some ks->ds=ks.map dK
 |[],_,h=>by cases h;rfl
 |d::ds,_,h=>by
  obtain⟨k,e1,h⟩:=bind_some h;obtain⟨ks,e2,h⟩:=bind_some h;cases h;rw[zr,abW e1,Oz e2]
theorem OD {d:Dt} {ks:List Key} (h:Fq d=some ks):d=tupK ks:=by
 cases d with
 |tup ds=>exact congrArg Dt.tup (Oz h)
 |_=>cases h
theorem Bk:∀ {ds:List Dt} {cY:List (List Key)},tL ds=some cY->ds=cY.map tupK
 |[],_,h=>by cases h;rfl
 |d::ds,_,h=>by
  obtain⟨k,e1,h⟩:=bind_some h;obtain⟨ks,e2,h⟩:=bind_some h;cases h;rw[zr,OD e1,Bk e2]
section
variable {X:Cx}
theorem abX {K:FG_} {H:Hp} {k:Key} {v:V} (h:Rep K H (dK k) v):v=kV k:=by
 cases k with
 |inl i=>exact(show v=.int i by simpa only[dK,Rep] using h)
 |inr x=>exact(show v=.str x/\x.length<=sizeLine by simpa only[dK,Rep] using h).1
theorem JD {K:FG_} {H:Hp}:∀ {ks:List Key} {vs:List V},aK K H (ks.map dK) vs->vs=ks.map kV
 |[],_,h=>by simp only[ka,aK] at h;exact h
 |k::ks,_,h=>by
  simp only[zr,aK] at h;obtain⟨v,r,rfl,h1,h2⟩:=h;rw[abX h1,JD h2,zr]
theorem ahd (X:Cx) {ks:List Key}:∀ {us:List Value},Vals (ks.map kV) us->Ks ks us:=by
 induction ks with
 |nil=>intro us h;cases h;exact .nil
 |cons k ks ih=>
  intro us h;cases h with
  |cons r t=>exact .cons (El (P:=X.prog) (w:=X.w) r) (ih t)
theorem qx {pins:List (Addr×Obj)} {σ:L2.St} {H:Hp} {s:Shared} (I:Inv X pins σ H s):∀ {cY:List (List Key)} {vs:List V} {its:List Value},aK X.K H (cY.map tupK) vs->Vals vs its->Paired (jN s.heap) cY its
 |[],_,_,h,r=>by
  simp only[ka,aK] at h;subst h;cases r;exact .nil
 |k::cY,_,_,h,r=>by
  simp only[zr,aK] at h;obtain⟨v,vs,rfl,h1,h2⟩:=h;cases r with
  |cons r1 r2=>
   refine .cons ?_ (qx I h2 r2);simp only[tupK,Rep] at h1;obtain⟨a,ws,rfl,sq,rs⟩:=h1;obtain⟨its,rv,⟨o,g,c,n,d⟩,_⟩:=I.tuple sq;cases r1;rw[JD rs] at rv;exact⟨a,o,its,n,rfl,g,c,d,ahd X rv⟩
theorem Bl {pins:List (Addr×Obj)} {σ:L2.St} {H:Hp} {s:Shared} (I:Inv X pins σ H s) {cY:List (List Key)} {vs:List V} {its:List Value} (h:aK X.K H (cY.map tupK) vs) (r:Vals vs its):∀ {Xe:List (List Key)} {out:List Value},Paired (jN s.heap) Xe out->(∀ u∈out,u∈its)->∃ zs,Vals zs out/\aK X.K H (Xe.map tupK) zs
 |_,_,.nil,_=>⟨[],.nil,aK.nil⟩
 |l::Xe,u::out,.cons q t,hm=>by
  obtain⟨zs,z1,z2⟩:=Bl I h r t λx hx=>hm x (zg _ hx);have aux:∀ (cY:List (List Key)) (vs:List V) (its:List Value),aK X.K H (cY.map tupK) vs->Vals vs its->u∈its->∃ v,RelV v u/\Rep X.K H (tupK l) v:=by
   intro cY
   induction cY with
   |nil=>
    intro vs its h r hu;simp only[ka,aK] at h;subst h;cases r;cases hu
   |cons k cY ih=>
    intro vs its h r hu;simp only[zr,aK] at h;obtain⟨v,vs,rfl,h1,h2⟩:=h;cases r with
    |@cons _ u' _ _ r1 r2=>
     rcases List.mem_cons.mp hu with rfl|hu
     ·have e:k=l:=by
       have:=qx I (cY:=[k]) (vs:=[v]) (its:=[u]) (by simp only[zr,ka];exact aK.cons h1 aK.nil) (.cons r1 .nil);cases this with
       |cons q' _=>exact q'.inj q
      subst e;exact⟨v,r1,h1⟩
     ·exact ih vs _ h2 r2 hu
  obtain⟨v,r1,h1⟩:=aux cY vs its h r (hm u (zh ..));exact⟨v::zs,.cons r1 z1,by rw[zr];exact aK.cons h1 z2⟩
def K8 (k l:List Key):Bool:=((k.zip l).all λp=>Uk p.1 p.2)
theorem Ft:∀ {k l:List Key},K8 k l=true->Shp k l
 |[],_,_=>by simp[Shp]
 |_::_,[],_=>by simp[Shp]
 |x::k,y::l,h=>by
  unfold K8 at h;rw[List.zip_cons_cons,kq,ZA] at h;exact⟨h.1,Ft h.2⟩
def CQ (cY:List (List Key)):Bool:=decide (cY.length < 64)&&(cY.all (λk=>!k.isEmpty)&&cY.all λk=>cY.all λl=>K8 k l)
def vH:List Bx->Option Bx
 |[b]=>(qZ b).bind λds=>(tL ds).bind λcY=>if CQ cY=true then some (.o ((kY cY).map tupK)) else none
 |_=>none
theorem DK {K:FG_} {H:Hp} {b:Bx} {v:V} {ds:List Dt} (h:aU K H b v) (e:qZ b=some ds):∃ a vs,v=.ref a/\(uN K H a vs\/yH K H a vs)/\aK K H ds vs:=by
 cases b with
 |z d=>
  cases d<;>first|(cases e;done)|skip
  ·cases e;simp only[aU,Rep] at h;obtain⟨a,vs,e,q,r⟩:=h;exact⟨a,vs,e,.inr q,r⟩
  ·cases e;simp only[aU,Rep] at h;obtain⟨a,vs,e,q,r⟩:=h;exact⟨a,vs,e,.inl q.sq,r⟩
 |l ds'=>cases e;obtain⟨a,vs,e,q,r⟩:=h;exact⟨a,vs,e,.inl (.inl q),r⟩
 |o ds'=>cases e;obtain⟨a,vs,e,q,r⟩:=h;exact⟨a,vs,e,.inl (.inl (.inl q)),r⟩
 |n _=>cases e
 |m _ _=>cases e
theorem OJ:qp X (.builtin "sorted") vH:=by
 intro pins s σ H xs us Q I rx h;obtain⟨bs,c,rb,e,q⟩:=h;unfold vH at e;split at e
 ·rename_i b;obtain⟨ds,ed,e⟩:=bind_some e;obtain⟨cY,ek,e⟩:=bind_some e;split at e
  ·rename_i hs;cases e;simp only[CQ,ZA,z5,ZY,Qr] at hs;obtain⟨h64,hne,hsh⟩:=hs;obtain⟨v,rfl,r1⟩:=rep1 rb;obtain⟨p,vs,rfl,sq,rs⟩:=DK r1 ed;obtain⟨u,rfl,ru⟩:=vals1 rx;cases ru;have eds:=Bk ek;subst eds;have got:∃ (its:List Value) (o:Obj) (T:String) (n:Nat),Vals vs its/\s.heap.get? p=some o/\o.cls=.type T/\(T = "list" ∨ T = "tuple")/\o.data=.seq its.toArray n/\vs.length<=sizeLine:=by
    rcases sq with sq|sq
    ·obtain⟨its,r',pl,hz⟩:=I.list sq;obtain⟨o,g,c,n,d⟩:=pl.isList;exact⟨its,o,_,n,r',g,c,.inl rfl,d,hz⟩
    ·obtain⟨its,r',⟨o,g,c,n,d⟩,hz⟩:=I.tuple sq;exact⟨its,o,_,n,r',g,c,.inr rfl,d,hz⟩
   obtain⟨its,o,T,n,r',g,hc,hT,hd,hz⟩:=got;have hlen:its.length=cY.length:=by rw[<-r'.length,rs.length,zo]
   have tv:=qx I rs r';refine V3 (kd:=tuples' true) (rk:=λv=>rank cY (keyOf cY its v)) (vs:=its) (λE' Q' hq=>RQ g hc hT hd (by rw[<-r'.length];exact hz) hq)
    (λh2 E' A' s' k Q' hq=>JC (Paired.imp' (λ_ _ z=>jN.keep z k) tv) (λk hk=>by have:=hne k hk;cases k with|nil=>cases this|cons _ _=>exact List.cons_ne_nil _ _) (λk hk l hl=>Ft (hsh k hk l hl)) (by omega) hq)
    (λA' s' k=>Ov (Paired.imp' (λ_ _ z=>jN.keep z k) tv) λk hk l hl=>Ft (hsh k hk l hl)) (by omega) λl h' tk m st hp up hl ext hL=>?_
   have out:=Ox tv hp up;have mem:∀ u∈((arrOf st).map (·.2)).toList,u∈its:=λu hu=>by
    rw[Array.toList_map] at hu;obtain⟨pr,hpr,rfl⟩:=List.mem_map.mp hu;have ae2:pr∈its.zip its:=by rw[<-pairsOf_toList];exact(Array.perm_iff_toList_perm.mp hp).mem_iff.mp hpr
    have:=mem_zip_self ae2;rw[<-this.1];exact this.2
   obtain⟨zs,z1,z2⟩:=Bl I rs r' out mem;have hzl:zs.length=cY.length:=by rw[z2.length,zo,(nF cY).length_eq]
   have hH:H l=none:=I.hok.fresh hl;refine⟨.ref l,_,I.laid (t':=tk) (a:=l) (o:=.lst zs) ext hl ⟨by rw[hzl];exact Q3 (ZN h64 (by decide)),_,m,z1,?_⟩,rfl,q _ _ (bQ hH) (λa ea=>by cases ea;exact hH) ⟨l,zs,rfl,bG,z2.kp (.of (bQ hH))⟩⟩;rw[hL]
  ·cases e
 ·cases e
end
end P1
end
section
namespace S6
open PySem PySem.Spec PyProof.Rows
theorem V7 {M:Model} {A:Around} {E:VP_} {s:Shared} {src:Source} {n:Nat} {Q:Nat->Shared->Prop} (hn:n≠0) (h:∀ i d,i < n->Q i { s with drawn:=d }):wpAny M A (choose src n) Q E s:=
 λΓ p hΓ=>⟨hn,h _ _ (Nat.mod_lt _ (Nat.pos_of_ne_zero hn))⟩
theorem K9 {α:Type}:∀ {xs:List α} {i:Nat} (hi:i < xs.length),(xs[i]::xs.eraseIdx i).Perm xs
 |x::xs,0,_=>KM _
 |x::xs,i+1,h=>by
  rw[List.eraseIdx_cons_succ,List.getElem_cons_succ];exact(List.Perm.swap _ _ _).trans ((K9 (xs:=xs) (i:=i) (by simpa using h)).cons x)
theorem abY {M:Model} {A:Around} {E:VP_} {α:Type}:∀ (n:Nat) (xs:List α) (s:Shared) (Q:List α->Shared->Prop),xs.length=n->(∀ ys d,ys.Perm xs->Q ys { s with drawn:=d })->wpAny M A (drawOrder n xs) Q E s:=by
 intro n
 induction n with
 |zero=>
  intro xs s Q hl h;cases xs with
  |nil=>
   unfold drawOrder;exact ze (h [] s.drawn (KM _))
  |cons x xs=>simp at hl
 |succ n ih=>
  intro xs s Q hl h;cases xs with
  |nil=>simp at hl
  |cons x xs=>
   unfold drawOrder;refine zb (V7 (by simp) λi d hi=>?_);have e:(x::xs)[i]?=some (x::xs)[i]:=by simp[hi]
   rw[e];dsimp only;refine zb (ih ((x::xs).eraseIdx i) _ _ (by rw[List.length_eraseIdx,zk hi];simp at hl ⊢;omega) λys d' hp=>ze ?_);exact h _ d' ((List.Perm.cons _ hp).trans (K9 hi))
theorem Um {α:Type} (next:Nat->Nat):∀ (n k:Nat) (xs:List α) (out:Array α),xs.length=n->(pickOrder.go next n k xs out).toList.Perm (out.toList++xs)
 |0,k,[],out,_=>by unfold pickOrder.go;simp
 |n+1,k,x::xs,out,hl=>by
  unfold pickOrder.go;have hi:next k % (x::xs).length < (x::xs).length:=Nat.mod_lt _ (by simp);have e:(x::xs)[next k % (x::xs).length]?=some (x::xs)[next k % (x::xs).length]:=by rw[z4 hi]
  rw[e];dsimp only;refine(Um next n (k+1) _ _ (by rw[List.length_eraseIdx,zk hi];simp at hl ⊢;omega)).trans ?_;rw[Array.toList_push,Q4];exact(KM _).append (K9 hi)
theorem V8 {α:Type} (next:Nat->Nat) (xs:Array α):(pickOrder next xs).toList.Perm xs.toList:=by
 have:=Um next xs.size 0 xs.toList #[] (by simp);simpa[pickOrder] using this
structure Wk (w:World) (h:Heap) (a:Addr) (es:Array (Int×Value)) (ep:Nat) (t:SetTable):Prop where
 at_:∃ o,h.get? a=some o/\o.cls=.type "set" ∧ o.data=.set es ep t
 fit:t.fits es.size=true
 led:w.params.followText "set-order" = false->t.led=true
 non:1 < es.size->t.plain=false
theorem Wk.keep {w:World} {h h':Heap} {a:Addr} {es:Array (Int×Value)} {ep:Nat} {t:SetTable} (x:Wk w h a es ep t) (k:∀ o,h.get? a=some o->h'.get? a=some o):Wk w h' a es ep t:=
 ⟨let ⟨o,e,r⟩:=x.at_;⟨o,k o e,r⟩,x.fit,x.led,x.non⟩
def It (h:Heap) (it a:Addr) (first:Value) (i n ep:Nat):Prop:=∃ o,h.get? it=some o/\o.cls=.type "set_iterator" ∧ o.data=.fields #[first,.int (i:Int) 0,.ref a,.int (n:Int) 0,.int (ep:Int) 0]
theorem It.keep {h h':Heap} {it a:Addr} {f:Value} {i n ep:Nat} (x:It h it a f i n ep) (k:∀ o,h.get? it=some o->h'.get? it=some o):It h' it a f i n ep:=
 let ⟨o,e,r⟩:=x;⟨o,k o e,r⟩
theorem It.ty {s:Shared} {it a:Addr} {f:Value} {i n ep:Nat} (x:It s.heap it a f i n ep):s.TypeIs (.ref it) "set_iterator" := let ⟨o,e,c,_⟩:=x;⟨o,e,c⟩
theorem jB:Slot "set_iterator" "__next__" "set_iterator.__next__" :=
 .of (owner := "set_iterator") (n := "__next__") (by rw[typeLookup_type,builtinLookup_eq_fast];kernel_rfl) (by decide +kernel) (by decide +kernel) (by decide +kernel)
  (by first|exact .inl (by decide +kernel)|exact .inr (by decide +kernel)) (by rw[isSubtype_type];kernel_rfl)
theorem zp:Slot "set_iterator" "__iter__" "set_iterator.__iter__" :=
 .of (owner := "set_iterator") (n := "__iter__") (by rw[typeLookup_type,builtinLookup_eq_fast];kernel_rfl) (by decide +kernel) (by decide +kernel) (by decide +kernel)
  (by first|exact .inl (by decide +kernel)|exact .inr (by decide +kernel)) (by rw[isSubtype_type];kernel_rfl)
theorem HN:entryFor table "set_iterator.__next__" = some Builtin.«set_iterator.__next__»:=entryFor_of_tree (by kernel_rfl)
theorem CT:entryFor table "set.__iter__" = some Builtin.«frozenset.__iter__»:=entryFor_alias (id' := "frozenset.__iter__") (by kernel_rfl) rfl (by decide +kernel) (by kernel_rfl)
theorem HS:entryFor table "set_iterator.__iter__" = some Builtin.«dict_keyiterator.__iter__»:=entryFor_alias (id' := "dict_keyiterator.__iter__") (by kernel_rfl) rfl (by decide +kernel) (by kernel_rfl)
theorem YC:Manifest.owners.lookup (String.ofList "rotareti_tes".toList.reverse)=some Manifest.sig_set_iterator:=by kernel_rfl
theorem La (a:Value):argsOk "set_iterator.__next__" ⟨[a],[]⟩:=by
 unfold argsOk;rw[signature?_of (id := "set_iterator.__next__") (n := "__txen__".toList) (o := "rotareti_tes".toList) (by kernel_rfl) YC];kernel_rfl
theorem Lb (a:Value):argsOk "set_iterator.__iter__" ⟨[a],[]⟩:=by
 unfold argsOk;rw[signature?_of (id := "set_iterator.__iter__") (n := "__reti__".toList) (o := "rotareti_tes".toList) (by kernel_rfl) YC];kernel_rfl
section
variable {prog:Program} {w:World} {A:Around} {E:VP_} {s:Shared} {it a:Addr} {i ep:Nat} {es:Array (Int×Value)} {t:SetTable}
theorem DN {first:Value} {Q:Option Value->Shared->Prop} (hit:It s.heap it a first i es.size ep) (hw:Wk w s.heap a es ep t)
  (h:wpAny (model prog w) A.in1 (if let .int slot _:=first then(do
    match <-setNext a slot.toNat (i:Int).toNat (ep:Int).toNat with
    |some (x,next)=>
     setField (.ref it) 0 (rawInt next)
     setField (.ref it) 1 (rawInt ((i:Int)+1))
     ret x
    |none=>setField (.ref it) 2 .none;raiseNew (<-newExc (.type "StopIteration") []))
   else(do
    let some places <-seqItems? first|unsupported "internal:set_iterator"
    match places[(i:Int).toNat]? with
    |some (.int place _)=>
     let x <-setNextDrawn a place.toNat (ep:Int).toNat
     setField (.ref it) 1 (rawInt ((i:Int)+1))
     ret x
    |some _=>unsupported "internal:set_iterator"
    |none=>setField (.ref it) 0 (rawInt 0);setField (.ref it) 2 .none;raiseNew (<-newExc (.type "StopIteration") []))) (λfin s'=>∃ v,fin=.done (.ret v)/\Q (some v) s') (λe s'=>s'.TypeIs e "StopIteration" ∧ Q none s') s):wpAny (model prog w) A (pyNext (.ref it)) Q E s:=by
 obtain⟨o,ho,hc,hd⟩:=id hit;obtain⟨oa,hoa,hca,hda⟩:=hw.at_;unfold pyNext;refine zb (wpAny_attempt (yn (name:=Str.ofString "__next__") hit.ty jB (kg jB hit.ty HN ?_ (La _))));unfold Builtin.«set_iterator.__next__»;refine zb (ze ?_);refine zb (wpAny_fieldsOf ho hd ?_);show wpAny _ _ (setEntries a >>= _) _ _ s;refine zb (wpAny_setEntries_of hoa hda hw.fit ?_);rw[zw (by simp)];refine qS h (λfin s' hq=>?_) λe s' hq=>?_
 ·obtain⟨v,rfl,hv⟩:=hq;exact⟨v,rfl,ze hv⟩
 ·refine zb (kf (T := "StopIteration") (b:=true) hq.1 isSubtype_stop ?_);exact ze hq.2
theorem Uo {hp:Heap} {Q:Option Value->Shared->Prop} (hh:A.handled=none) (h:∀ h',(∀ b o,hp.get? b=some o->h'.get? b=some o)->Q none { s with heap:=h' }) :
  wpAny (model prog w) A.in1 (do raiseNew (<-newExc (.type "StopIteration") [])) (λ(fin:Fin) s'=>∃ v,fin=.done (.ret v)/\Q (some v) s') (λe s'=>s'.TypeIs e "StopIteration" ∧ Q none s') { s with heap:=hp }:=by
 refine zb ?_;simp only[newExc,newTuple];refine zb (qq ?_ (by size_fits));refine zb (m:=firstArgMember _ _) (wpAny_of_eq (a:=Value.none) (by first|rfl|(simp only[firstArgMember];rfl)) ?_);refine qq ?_ (by size_fits);simp only[raiseNew];refine zb (wpAny_handled ?_);rw[show A.in1.handled=none from hh];refine zb (ze (wpAny_throw ⟨⟨_,zv _ rfl,rfl⟩,?_⟩));exact h _ λb o e=>zd _ (zd _ e)
theorem It.put {h:Heap} {f:Value} {n:Nat} (hit:It h it a f i n ep) (x:Value):It (h.update it (Obj.mapFields (·.setIfInBounds 0 x))) it a x i n ep:=by
 obtain⟨o,ho,hc,hd⟩:=hit;exact⟨_,k8 _ ho (Obj.isFreed_of_fields (KU hd _)),(Obj.cls_mapFields ..).trans hc,by rw[KU hd];simp⟩
theorem It.step {h:Heap} {f:Value} {n:Nat} (hit:It h it a f i n ep):It (h.update it (Obj.mapFields (·.setIfInBounds 1 (rawInt ((i:Int)+1))))) it a f (i+1) n ep:=by
 obtain⟨o,ho,hc,hd⟩:=hit;exact⟨_,k8 _ ho (Obj.isFreed_of_fields (KU hd _)),(Obj.cls_mapFields ..).trans hc,by rw[KU hd];simp[rawInt]⟩
theorem It.field {f:Value} {n k:Nat} {x:Value} {A:Around} {Q:Unit->Shared->Prop} {E:VP_} (hit:It s.heap it a f i n ep) (hk:k < 5) (h:Q () { s with heap:=s.heap.update it (Obj.mapFields (·.setIfInBounds k x)) }):wpAny (model prog w) A (setField (.ref it) k x) Q E s:=by
 obtain⟨o,ho,hc,hd⟩:=hit;exact wpAny_setField ho hd (by simpa using hk) h
theorem rW {h:Heap} {f:Obj->Obj} {b:Addr} {o:Obj} (hb:b≠it) (e:h.get? b=some o):(h.update it f).get? b=some o:=by rw[jI _ _ _ _ hb];exact e
theorem YD {slot next:Nat} {x:Value} {Q:Option Value->Shared->Prop} (hit:It s.heap it a (.int (slot:Int) 0) i es.size ep) (hw:Wk w s.heap a es ep t)
  (hS:∀ {A':Around} {E':VP_} {Q':Option (Value×Nat)->Shared->Prop},Q' (some (x,next)) s->wpAny (model prog w) A' (setNext a slot i ep) Q' E' s)
  (h:∀ h',It h' it a (.int (next:Int) 0) (i+1) es.size ep->(∀ b o,b≠it->s.heap.get? b=some o->h'.get? b=some o)->Q (some x) { s with heap:=h' }):wpAny (model prog w) A (pyNext (.ref it)) Q E s:=by
 refine DN hit hw ?_;show wpAny _ _ (setNext a slot i ep >>= _) _ _ s;refine zb (hS ?_);refine zb (hit.field (by decide) ?_);refine zb ((hit.put _).field (s:={ s with heap:=_ }) (by decide) ?_);exact ze ⟨x,rfl,h _ ((hit.put _).step) λb o hb e=>rW hb (rW hb e)⟩
theorem Fv {slot:Nat} {Q:Option Value->Shared->Prop} (hh:A.handled=none) (hit:It s.heap it a (.int (slot:Int) 0) i es.size ep) (hw:Wk w s.heap a es ep t)
  (hS:∀ {A':Around} {E':VP_} {Q':Option (Value×Nat)->Shared->Prop},Q' none s->wpAny (model prog w) A' (setNext a slot i ep) Q' E' s)
  (h:∀ h',(∀ b o,b≠it->s.heap.get? b=some o->h'.get? b=some o)->Q none { s with heap:=h' }):wpAny (model prog w) A (pyNext (.ref it)) Q E s:=by
 refine DN hit hw ?_;show wpAny _ _ (setNext a slot i ep >>= _) _ _ s;refine zb (hS ?_);refine zb (hit.field (by decide) (Uo hh λh' k=>h h' λb o hb e=>k b o (rW hb e)))
theorem abZ {tp:Addr} {pl:List Nat} {ot:Obj} {c:Nat} {j:Nat} {x:Int×Value} {Q:Option Value->Shared->Prop} (hit:It s.heap it a (.ref tp) i es.size ep) (hw:Wk w s.heap a es ep t)
  (ht:s.heap.get? tp=some ot) (hd:ot.data=.seq (pl.map λ(k:Nat)=>rawInt (k:Int)).toArray c) (hj:pl[i]?=some j) (hx:es[j]?=some x)
  (h:∀ h',It h' it a (.ref tp) (i+1) es.size ep->(∀ b o,b≠it->s.heap.get? b=some o->h'.get? b=some o)->Q (some x.2) { s with heap:=h' }):wpAny (model prog w) A (pyNext (.ref it)) Q E s:=by
 refine DN hit hw ?_;show wpAny _ _ (seqItems? (.ref tp) >>= _) _ _ s;refine zb (m:=seqItems? (.ref tp)) ?_;unfold seqItems?;refine zb (KG ht ?_);rw[hd];refine ze ?_;dsimp only;rw[k4,show((pl.map λ(k:Nat)=>rawInt (k:Int)).toArray)[i]?=some (rawInt (j:Int)) by simp[hj]];show wpAny _ _ (setNextDrawn a j ep >>= _) _ _ s;obtain⟨oa,hoa,hca,hda⟩:=hw.at_;refine zb (m:=setNextDrawn a j ep) ?_;unfold setNextDrawn;refine zb (QQ hoa hda hw.fit ?_);dsimp only;rw[zw (by simp),hx];refine ze ?_;refine zb (hit.field (by decide) ?_);exact ze ⟨x.2,rfl,h _ hit.step λb o hb e=>rW hb e⟩
theorem O1 {tp:Addr} {pl:List Nat} {ot:Obj} {c:Nat} {Q:Option Value->Shared->Prop} (hh:A.handled=none) (hit:It s.heap it a (.ref tp) i es.size ep) (hw:Wk w s.heap a es ep t)
  (ht:s.heap.get? tp=some ot) (hd:ot.data=.seq (pl.map λ(k:Nat)=>rawInt (k:Int)).toArray c) (hj:pl[i]?=none)
  (h:∀ h',(∀ b o,b≠it->s.heap.get? b=some o->h'.get? b=some o)->Q none { s with heap:=h' }):wpAny (model prog w) A (pyNext (.ref it)) Q E s:=by
 refine DN hit hw ?_;show wpAny _ _ (seqItems? (.ref tp) >>= _) _ _ s;refine zb (m:=seqItems? (.ref tp)) ?_;unfold seqItems?;refine zb (KG ht ?_);rw[hd];refine ze ?_;dsimp only;rw[k4,show((pl.map λ(k:Nat)=>rawInt (k:Int)).toArray)[i]?=none by simpa using hj];refine zb (hit.field (by decide) ?_);refine zb ((hit.put _).field (s:={ s with heap:=_ }) (by decide) (Uo hh λh' k=>h h' λb o hb e=>k b o (rW hb (rW hb e))))
theorem wD {Q:Bool->Shared->Prop} (h:Q (w.params.followText "set-order") s):wpAny (model prog w) A setsByText Q E s:=by
 unfold setsByText;exact zb (wpAny_askSetting (ze h))
theorem Ld {f:Value} {n:Nat} {Q:VP_} (hit:It s.heap it a f i n ep) (h:Q (.ref it) s):wpAny (model prog w) A (pyIter (.ref it)) Q E s:=by
 refine wpAny_pyIter_slot hit.ty zp (kg zp hit.ty HS ?_ (Lb _));show wpAny _ _ (ret (.ref it)) _ _ s;exact ze ⟨_,rfl, "set_iterator", _,hit.ty,jB.lookup,h⟩
def Le (w:World) (a:Addr) (ep:Nat) (es:Array (Int×Value)):List Value:=(pickOrder (w.params.setOrder a ep) es).toList.map (·.2)
theorem Bm:(Le w a ep es).Perm (es.toList.map (·.2)):=(V8 _ _).map _
theorem JF {slot:Nat} {Q:Option (Value×Nat)->Shared->Prop} (hf:w.params.followText "set-order" = true) (hw:Wk w s.heap a es ep t) (h:Q (((Le w a ep es)[i]?).map λv=>(v,slot)) s):wpAny (model prog w) A (setNext a slot i ep) Q E s:=by
 obtain⟨oa,hoa,hca,hda⟩:=hw.at_;unfold setNext;refine zb (QQ hoa hda hw.fit (zb (wD ?_)));rw[hf];simp only[↓reduceIte,bne_self_eq_false,zl];refine zb (m:=setWalk a) ?_;unfold setWalk;refine zb (QQ hoa hda hw.fit (zb (wD ?_)));rw[hf];simp only[↓reduceIte];refine zb (wpAny_askSetting (ze (ze ?_)));have e:(pickOrder (w.params.setOrder a ep) es)[i]?.map (λe=>(e.2,slot))=((Le w a ep es)[i]?).map λv=>(v,slot):=by
  unfold Le;rw[Zl,Option.map_map,qk];rfl
 rw[<-e] at h;exact h
theorem RV (hh:A.handled=none) (hf:w.params.followText "set-order" = true) (hne:a≠it) (c:es.size<=sizeLine):Walks prog w A it [it,a] [it] es.size (λi v=>(Le w a ep es)[i]?=some v) (λi h=>It h it a (.int 0 0) i es.size ep/\Wk w h a es ep t) where
 sub:=λb hb=>by simp at hb;simp[hb]
 frame:=λ_ _ _ st hk=>⟨st.1.keep λo e=>hk it (by simp) o e,st.2.keep λo e=>hk a (by simp) o e⟩
 item:=λi s Q E hi st hQ=>by
  have hl:(Le w a ep es).length=es.size:=by rw[Bm.length_eq];simp
  obtain⟨v,hv⟩:∃ v,(Le w a ep es)[i]?=some v:=⟨(Le w a ep es)[i]'(by omega),by rw[z4]⟩;refine YD (slot:=0) (next:=0) (x:=v) st.1 st.2 (λ{A' E' Q'} hq=>JF hf st.2 (by rw[hv];exact hq)) λh' hi' k=>?_;exact hQ v h' s.toks hv ⟨hi',st.2.keep λo e=>k a o hne e⟩ λb o hb e=>k b o (λx=>hb (by simp[x])) e
 done:=λs Q E st hQ=>by
  have hl:(Le w a ep es).length=es.size:=by rw[Bm.length_eq];simp
  refine Fv (slot:=0) hh st.1 st.2 (λ{A' E' Q'} hq=>JF hf st.2 (by rw[qB (by omega)];exact hq)) λh' k=>?_;exact hQ h' s.toks λb o hb e=>k b o (λx=>hb (by simp[x])) e
 self:=λ_ _ _ _ st hQ=>Ld st.1 hQ
def V9 (pl:List Nat) (es:Array (Int×Value)):List Value:=pl.filterMap λj=>es[j]?.map (·.2)
theorem Wa {pl:List Nat} (h:pl.Perm (List.range es.size)):(V9 pl es).Perm (es.toList.map (·.2)):=by
 refine(h.filterMap _).trans ?_;rw[show(List.range es.size).filterMap (λj=>es[j]?.map (·.2))=((List.range es.size).filterMap λj=>es[j]?).map (·.2) by rw[List.map_filterMap],filterMap_getElem?_range]
theorem O2:∀ {pl:List Nat},(∀ j∈pl,j < es.size)->∀ (i:Nat) (j:Nat),pl[i]?=some j->(V9 pl es)[i]?=es[j]?.map (·.2)
 |[],_,_,_,h=>by simp at h
 |k::pl,hb,i,j,h=>by
  have hk:=hb k (zh ..);have e:V9 (k::pl) es=es[k].2::V9 pl es:=by simp[V9,hk]
  rw[e];cases i with
  |zero=>cases(show k=j by simpa using h);simp[hk]
  |succ i=>rw[ZT];exact O2 (λj hj=>hb j (zg _ hj)) i j (by simpa using h)
theorem RW {tp:Addr} {pl:List Nat} (hh:A.handled=none) (hne:a≠it) (htp:tp≠it) (hp:pl.Perm (List.range es.size)):Walks prog w A it [it,a,tp] [it] es.size (λi v=>(V9 pl es)[i]?=some v)
  (λi h=>It h it a (.ref tp) i es.size ep/\Wk w h a es ep t/\∃ ot c,h.get? tp=some ot/\ot.data=.seq (pl.map λ(k:Nat)=>rawInt (k:Int)).toArray c) where
 sub:=λb hb=>by simp at hb;simp[hb]
 frame:=λ_ _ _ st hk=>⟨st.1.keep λo e=>hk it (by simp) o e,st.2.1.keep λo e=>hk a (by simp) o e,let ⟨ot,c,e,r⟩:=st.2.2;⟨ot,c,hk tp (by simp) ot e,r⟩⟩
 item:=λi s Q E hi st hQ=>by
  obtain⟨ot,c,e1,e2⟩:=st.2.2;have hl:pl.length=es.size:=by rw[hp.length_eq];simp
  have hb:∀ j∈pl,j < es.size:=λj hj=>List.mem_range.mp (hp.mem_iff.mp hj);have hj:pl[i]?=some (pl[i]'(by omega)):=by rw[z4]
  have hx:es[pl[i]'(by omega)]?=some (es[pl[i]'(by omega)]'(hb _ (ym _))):=by rw[ZU]
  refine abZ st.1 st.2.1 e1 e2 hj hx λh' hi' k=>?_;exact hQ _ h' s.toks (by rw[O2 hb i _ hj,hx];rfl) ⟨hi',st.2.1.keep λo e=>k a o hne e,ot,c,k tp ot htp e1,e2⟩ λb o hb e=>k b o (λx=>hb (by simp[x])) e
 done:=λs Q E st hQ=>by
  obtain⟨ot,c,e1,e2⟩:=st.2.2;have hl:pl.length=es.size:=by rw[hp.length_eq];simp
  refine O1 hh st.1 st.2.1 e1 e2 (by rw[qB (by omega)]) λh' k=>?_;exact hQ h' s.toks λb o hb e=>k b o (λx=>hb (by simp[x])) e
 self:=λ_ _ _ _ st hQ=>Ld st.1 hQ
def vI (t:SetTable) (i:Nat):Nat:=if i=0 then 0 else t.place.getD 0 0+1
theorem ab0 (j:Nat):SetTable.below #[j] 0=0:=by
 show SetTable.below.go #[j] 0 1 0 1=0;unfold SetTable.below.go;rw[zk (by decide)];show(if #[j].getD 0 0 < 0 then _ else SetTable.below.go #[j] 0 0 0 0)=0;rw[zw (js _)];rfl
theorem ab1 (j:Nat):SetTable.below #[j] (j+1)=1:=by
 show SetTable.below.go #[j] (j+1) 1 0 1=1;unfold SetTable.below.go;rw[zk (by decide)];show(if j < j+1 then SetTable.below.go #[j] (j+1) 0 1 1 else _)=1;rw[zk (qa _)];rfl
theorem Wb {P:Option (Value×Nat)->Prop} {r:Option (Value×Nat)} (hp:t.place.size=es.size) (hn:es.size<=1) (hi:i<=es.size)
  (hr:r=match es[SetTable.below t.place (vI t i)]?,t.place[SetTable.below t.place (vI t i)]? with
   |some (_,x),some j=>some (x,j+1)
   |_,_=>none) (h:P (((es.toList.map (·.2))[i]?).map λv=>(v,vI t (i+1)))):P r:=by
 subst hr;by_cases h0:es.size=0
 ·have e:es=#[]:=Array.eq_empty_of_size_eq_zero h0;subst e;simpa using h
 ·have h1:es.size=1:=by omega
  obtain⟨x,rfl⟩:=Array.size_eq_one_iff.mp h1;obtain⟨j,hj⟩:=Array.size_eq_one_iff.mp (hp.trans h1);have hi:i=0\/i=1:=by omega
  rcases hi with rfl|rfl
  ·have e1:vI t 0=0:=rfl;have e2:vI t (0+1)=j+1:=by unfold vI;rw[hj];rfl
   rw[e2] at h;rw[e1,hj,ab0];exact h
  ·have e2:vI t 1=j+1:=by unfold vI;rw[hj];rfl
   rw[e2,hj,ab1];exact h
theorem Fw {Q:Option (Value×Nat)->Shared->Prop} (hf:w.params.followText "set-order" = false) (hw:Wk w s.heap a es ep t) (hn:es.size<=1) (hi:i<=es.size) (h:Q (((es.toList.map (·.2))[i]?).map λv=>(v,vI t (i+1))) s):wpAny (model prog w) A (setNext a (vI t i) i ep) Q E s:=by
 obtain⟨oa,hoa,hca,hda⟩:=hw.at_;have hp:t.place.size=es.size:=by
  have:=hw.fit;simp only[SetTable.fits,ZA,beq_iff_eq] at this;exact this.1
 unfold setNext;refine zb (QQ hoa hda hw.fit (zb (wD ?_)));rw[hf];simp only[zl,↓reduceIte];split
 ·rename_i hc;have hc:(!t.plain&&decide (es.size > 1))=true:=hc;simp at hc;omega
 ·have hl:wpAny (model prog w) A (if(!t.led&&!es.isEmpty)=true then unsupported "set:maker-not-led" else pure PUnit.unit) (λ_ s'=>s'=s) E s:=by
   rw[hw.led hf];exact ze rfl
  refine zb (qS hl (λ_ s' e=>?_) λ_ _ x=>x);subst e;refine ze ?_;exact Wb (P:=λr=>Q r s') hp hn hi rfl h
theorem O4 (hh:A.handled=none) (hf:w.params.followText "set-order" = false) (hn:es.size<=1) (hne:a≠it):Walks prog w A it [it,a] [it] es.size (λi v=>(es.toList.map (·.2))[i]?=some v) (λi h=>It h it a (.int (vI t i:Nat) 0) i es.size ep/\Wk w h a es ep t) where
 sub:=λb hb=>by simp at hb;simp[hb]
 frame:=λ_ _ _ st hk=>⟨st.1.keep λo e=>hk it (by simp) o e,st.2.keep λo e=>hk a (by simp) o e⟩
 item:=λi s Q E hi st hQ=>by
  obtain⟨v,hv⟩:∃ v,(es.toList.map (·.2))[i]?=some v:=⟨(es.toList.map (·.2))[i]'(by simpa using hi),by rw[z4]⟩;refine YD (x:=v) st.1 st.2 (λ{A' E' Q'} hq=>Fw hf st.2 hn (Q3 hi) (by rw[hv];exact hq)) λh' hi' k=>?_;exact hQ v h' s.toks hv ⟨hi',st.2.keep λo e=>k a o hne e⟩ λb o hb e=>k b o (λx=>hb (by simp[x])) e
 done:=λs Q E st hQ=>by
  refine Fv hh st.1 st.2 (λ{A' E' Q'} hq=>Fw hf st.2 hn (zi _) (by rw[qB (by simp)];exact hq)) λh' k=>?_;exact hQ h' s.toks λb o hb e=>k b o (λx=>hb (by simp[x])) e
 self:=λ_ _ _ _ st hQ=>Ld st.1 hQ
theorem YF (hw:Wk w s.heap a es ep t) (hc:es.size<=sizeLine) {Q:VP_}
  (h:∀ (it:Addr) (h':Heap) (d:Drawn) (fp:List Addr) (St:Nat->Heap->Prop) (ord:List Value),ord.Perm (es.toList.map (·.2))->(∀ A':Around,A'.handled=none->Walks prog w A' it fp [it] es.size (λi v=>ord[i]?=some v) St)->St 0 h'->s.heap.objs.size<=it->it < h'.objs.size →
   (∀ b∈fp,b=a\/s.heap.objs.size<=b)->(∀ b∈fp,b < h'.objs.size)->(∀ b o,s.heap.get? b=some o->h'.get? b=some o)->Q (.ref it) { s with heap:=h',drawn:=d }):wpAny (model prog w) A (pyIter (.ref a)) Q E s:=by
 obtain⟨oa,hoa,hca,hda⟩:=id hw.at_;have hT:s.TypeIs (.ref a) "set" := ⟨oa,hoa,hca⟩;have hlt:a < s.heap.objs.size:=zz hoa;refine wpAny_pyIter_slot hT F.slot_set_iter (kg F.slot_set_iter hT CT ?_ (F.args_set_iter_1 _));show wpAny _ _ (Builtin.Frozenset.sizeOf a >>= _) _ _ s;refine zb (m:=Builtin.Frozenset.sizeOf a) (zb (wpAny_setEntries_of hoa hda hw.fit (ze ?_)));have hd:wpAny (model prog w) A.in1 (setDrawn a) (λb s'=>s'=s/\b=(!(w.params.followText "set-order")&&(!t.plain&&decide (es.size > 1)))) E s:=by
  unfold setDrawn;exact zb (QQ hoa hda hw.fit (zb (wD (ze ⟨rfl,rfl⟩))))
 refine zb (qS hd (λb s' e=>?_) λ_ _ x=>x);obtain⟨rfl,rfl⟩:=e;dsimp only;by_cases hf:w.params.followText "set-order" = true
 ·rw[hf];simp only[kr,KO,zl,ZO];refine zb (ze ?_);refine zb (m:=setEpoch a) (wpAny_setEpoch_of hoa hda hw.fit ?_);refine zb (qq (ze ⟨_,rfl, "set_iterator", _,⟨_,zv _ rfl,rfl⟩,jB.lookup,?_⟩));have:=h s'.heap.objs.size (s'.heap.push { cls:=.type "set_iterator", data:=.fields #[.int 0 0,.int 0 0,.ref a,.int es.size 0,.int ep 0] }) s'.drawn [s'.heap.objs.size,a] _ _ Bm (λA' hh=>RV hh hf (t:=t) (ep:=ep) (zD hlt) hc)
   ⟨⟨_,zv _ rfl,rfl,rfl⟩,hw.keep λo e=>zd _ e⟩ (zi _) (by rw[qh];exact qa _) (λb hb=>by simp at hb;rcases hb with rfl|rfl;exact .inr (zi _);exact .inl rfl)
   (λb hb=>by simp at hb;rw[qh];rcases hb with rfl|rfl;exact qa _;exact qE hlt) λb o e=>zd _ e
  exact this
 ·have hf:w.params.followText "set-order" = false:=by simpa using hf
  rw[hf];simp only[kz,ye];by_cases hn:es.size<=1
  ·rw[zw (by simp;omega)];refine zb (ze ?_);refine zb (m:=setEpoch a) (wpAny_setEpoch_of hoa hda hw.fit ?_);refine zb (qq (ze ⟨_,rfl, "set_iterator", _,⟨_,zv _ rfl,rfl⟩,jB.lookup,?_⟩));have:=h s'.heap.objs.size (s'.heap.push { cls:=.type "set_iterator", data:=.fields #[.int 0 0,.int 0 0,.ref a,.int es.size 0,.int ep 0] }) s'.drawn [s'.heap.objs.size,a] _ _ (KM _) (λA' hh=>O4 hh hf hn (t:=t) (ep:=ep) (zD hlt))
    ⟨⟨_,zv _ rfl,rfl,rfl⟩,hw.keep λo e=>zd _ e⟩ (zi _) (by rw[qh];exact qa _) (λb hb=>by simp at hb;rcases hb with rfl|rfl;exact .inr (zi _);exact .inl rfl)
    (λb hb=>by simp at hb;rw[qh];rcases hb with rfl|rfl;exact qa _;exact qE hlt) λb o e=>zd _ e
   exact this
  ·rw[zk (by rw[hw.non (by omega)];simp;omega)];refine zb (abY _ _ _ _ (by simp) λpl d hp=>?_);refine zb (wpAny_newTuple ?_ (by rw[zo,hp.length_eq,kX];exact hc));refine zb (m:=setEpoch a) (wpAny_setEpoch_of (zd _ hoa) hda hw.fit ?_);refine zb (qq (ze ⟨_,rfl, "set_iterator", _,⟨_,zv _ rfl,rfl⟩,jB.lookup,?_⟩));generalize hG:s'.heap.push { cls:=.type "tuple", data:=.seq (pl.map λ(k:Nat)=>rawInt (k:Int)).toArray }=G;have sG:G.objs.size=s'.heap.objs.size+1:=by rw[<-hG,qh]
   have gG:G.get? s'.heap.objs.size=some { cls:=.type "tuple", data:=.seq (pl.map λ(k:Nat)=>rawInt (k:Int)).toArray }:=by rw[<-hG];exact zv _ rfl
   have kG:∀ b o,s'.heap.get? b=some o->G.get? b=some o:=λb o e=>by rw[<-hG];exact zd _ e
   have ltG:a < G.objs.size:=by rw[sG];exact qE hlt
   have:=h G.objs.size (G.push { cls:=.type "set_iterator", data:=.fields #[.ref s'.heap.objs.size,.int 0 0,.ref a,.int es.size 0,.int ep 0] }) d [G.objs.size,a,s'.heap.objs.size] _ _ (Wa hp) (λA' hh=>RW hh (t:=t) (ep:=ep) (tp:=s'.heap.objs.size) (zD ltG) (by rw[sG];exact zD (qa _)) hp)
    ⟨⟨_,zv _ rfl,rfl,rfl⟩,hw.keep λo e=>zd _ (kG _ _ e),_,0,zd _ gG,rfl⟩ (by rw[sG];exact Kj _) (by rw[qh];exact qa _)
    (λb hb=>by simp at hb;rcases hb with rfl|rfl|rfl;exact .inr (by rw[sG];exact Kj _);exact .inl rfl;exact .inr (zi _))
    (λb hb=>by
     simp at hb;rw[qh];rcases hb with rfl|rfl|rfl
     ·exact qa _
     ·exact qE ltG
     ·exact qE (by rw[sG];exact qa _)) λb o e=>zd _ (kG _ _ e)
   exact this
end
end S6
end
section
namespace S6
open PySem PySem.Spec PyProof.Rows P1
section
variable {prog:Program} {w:World} {A:Around} {E:VP_} {s:Shared} {it a:Addr} {i ep:Nat} {es:Array (Int×Value)} {t:SetTable}
theorem Wc {ord:List Value} {acc:Array Value} {n:Nat} (hn:ord.length=n) (h:ItemsOf (λi v=>ord[i]?=some v) acc n):acc.toList=ord:=by
 apply List.ext_getElem?;intro j;by_cases hj:j < n
 ·have hl:j < acc.size:=by rw[h.1];exact hj
  have e:acc.toList[j]?=some acc[j]:=by simp[hl]
  rw[e,h.2 j acc[j] (by simp[hl])]
 ·rw[qB (by rw[ZZ,h.1];omega),qB (by omega)]
theorem O5 {Q:List Value->Shared->Prop} (hh:A.handled=none) (hw:Wk w s.heap a es ep t) (hc:es.size<=sizeLine)
  (hQ:∀ ord h' d tk,ord.Perm (es.toList.map (·.2))->s.heap.objs.size<=h'.objs.size->(∀ b o,s.heap.get? b=some o->h'.get? b=some o)->Q ord { s with heap:=h',drawn:=d,toks:=tk }) :
  wpAny (model prog w) A (collect (.ref a)) Q E s:=by
 obtain⟨oa,hoa,hca,hda⟩:=id hw.at_;have hT:s.TypeIs (.ref a) "set" := ⟨oa,hoa,hca⟩;have hlt:a < s.heap.objs.size:=zz hoa;unfold collect;refine zb (wpAny_runValue (JA F.entry_proto_collect ?_));rw[Around.under_plainId F.plain_proto_collect _];show wpAny _ A.in1 (newList [] >>= λq=>again (.builtin "list.__iadd__" ⟨[q,.ref a],[]⟩)) _ _ s;refine zb (qq (ze ⟨plainId_quiet F.plain_list_iadd _,JA F.entry_list_iadd ?_⟩));rw[Around.under_plainId F.plain_list_iadd _];show wpAny _ A.in1 (Builtin.List.listExtendWith (.ref s.heap.objs.size) (.ref a) (.ref s.heap.objs.size)) _ _ _;unfold Builtin.List.listExtendWith;generalize hH:(s.heap.push { cls:=.type "list", data:=.seq ([]:List Value).toArray })=H;have kH:∀ b o,s.heap.get? b=some o->H.get? b=some o:=λb o e=>by rw[<-hH];exact zd _ e
 have sH:H.objs.size=s.heap.objs.size+1:=by rw[<-hH,qh]
 have gH:H.get? s.heap.objs.size=some (seqObj "list" #[] 0):=by rw[<-hH];exact zv _ rfl
 have hw1:Wk w H a es ep t:=hw.keep λo e=>kH a o e;refine zb (QP (T := "set") ⟨oa,kH _ _ hoa,hca⟩ ?_);have h1:Builtin.List.listSameRef (.ref s.heap.objs.size) (.ref a)=false:=by simp[Builtin.List.listSameRef];exact KB hlt
 simp only[h1,show(Value.type "set" == Value.type "list")=false by decide,show(Value.type "set" == Value.type "tuple")=false by decide,Bool.or_false,zl,ZO];refine zb (YF (s:={ s with heap:=H }) hw1 hc λit G d fp St ord hp W st0 hit hit2 hfp akM kG=>?_);refine zb (QN ?_);unfold Builtin.List.listLengthHint;have hT2:Shared.TypeIs { s with heap:=G,drawn:=d } (.ref a) "set" := ⟨oa,kG _ _ (kH _ _ hoa),hca⟩;refine zb (wpAny_specialOf (T := "set") hT2 F.slot_set_len.lookup ?_)
 wp_delta
 refine zb (kf (T := "set") (b:=true) hT2 (by rw[isSubtype_type];kernel_rfl) ?_);show wpAny _ A.in1 (typeOf (Value.ref a) >>= _) _ _ _;refine zb (QP (T := "set") hT2 (ze ?_));rw[zk (by decide)];show wpAny _ A.in1 (Builtin.List.listTouch (Value.ref s.heap.objs.size) >>= λ_=>again (Code.builtin "list.extend.loop" ⟨[Value.ref s.heap.objs.size,Value.ref it,Value.ref s.heap.objs.size],[]⟩)) _ _ _;have hS:G.get? s.heap.objs.size=some (seqObj "list" #[] 0):=kG _ _ gH;unfold Builtin.List.listTouch;refine zb (zb (listUpdate_at hS rfl (listUpdate_at (get?_update_seq hS _) rfl ?_ (by show _<=_;decide) (by show _<=_;decide)) (by show _<=_;decide) (by show _<=_;decide)));have hSf:s.heap.objs.size∉fp:=λhm=>by
  rcases hfp _ hm with e|e
  ·exact KB hlt e
  ·have e:H.objs.size<=s.heap.objs.size:=e;rw[sH] at e;exact absurd e (Nat.not_succ_le_self _)
 have hS3:=get?_update_seq (get?_update_seq hS (λx=>x.push Value.none)) (λx=>x.pop);generalize hU:(G.update s.heap.objs.size (Obj.mapSeq λx=>x.push Value.none)).update s.heap.objs.size (Obj.mapSeq λx=>x.pop)=U at hS3;have keep:∀ b,b≠s.heap.objs.size->U.get? b=G.get? b:=λb hb=>by rw[<-hU,jI _ _ _ _ hb,jI _ _ _ _ hb]
 have st1:St 0 U:=(W A hh).frame 0 G U st0 λb hb o e=>by rw[keep b λx=>hSf (x▸hb)];exact e
 show wpAny _ A.in1 (again _) _ _ { s with heap:=U,drawn:=d };have ho:ord.length=es.size:=by rw[hp.length_eq];simp
 refine ze ⟨plainId_quiet F.plain_extend_loop _,codeAny_extend_loopS (W A.in1 hh).toS hc s.heap.objs.size hSf _ es.size 0 { s with heap:=U,drawn:=d } #[] _ rfl (QI _) st1 hS3 (ItemsOf.nil _) λs' acc' c' mv hS' hacc=>?_⟩;show wpAny _ A (load s.heap.objs.size >>= _) _ _ s';refine zb (KG hS' (ze ?_));show Q acc'.toList s';rw[Wc ho hacc];have key:=hQ ord s'.heap s'.drawn s'.toks hp (Q3 (zz hS')) λb ob e=>by
  have hb:=zz e;refine mv.heap b ob (λhm=>?_) ((keep b (zD hb)).trans (kG _ _ (kH _ _ e)));simp only[QR,j0,or_false] at hm;rcases hm with hm|hm
  ·exact zD hb hm
  ·have:H.objs.size<=it:=hit;rw[sH,<-hm] at this;exact absurd hb (Nat.not_lt.mpr (Nat.le_of_succ_le this))
 have e1:s'.gens=s.gens:=mv.gens;have e2:s'.os=s.os:=mv.os;rw[<-e1,<-e2] at key;exact key
end
theorem DP {α:Type} [DecidableEq α]:∀ {xs ys:List α},xs.Nodup->ys.Nodup->(∀ z,z∈xs↔z∈ys)->xs.Perm ys
 |[],ys,_,_,h=>by
  have:ys=[]:=List.eq_nil_iff_forall_not_mem.mpr λz hz=>by simpa using(h z).mpr hz
  subst this;exact .refl _
 |x::xs,ys,hx,hy,h=>by
  have hm:x∈ys:=(h x).mp (zh ..);have hc:=List.nodup_cons.mp hx;refine((DP hc.2 (hy.erase x) λz=>?_).cons x).trans (List.perm_cons_erase hm).symm;rw[hy.mem_erase_iff];constructor
  ·intro hz;exact⟨λe=>hc.1 (e▸hz),(h z).mp (zg _ hz)⟩
  ·intro⟨hn,hz⟩;rcases List.mem_cons.mp ((h z).mpr hz) with e|e
   ·exact absurd e hn
   ·exact e
theorem BZ {α β:Type} {R:α->β->Prop}:∀ {l l':List β},l'.Perm l->∀ {ys:List α},Paired R ys l->∃ ys',ys'.Perm ys/\Paired R ys' l':=by
 intro l l' hp
 replace hp:=hp.symm
 induction hp with
 |nil=>intro ys h;exact⟨ys,.refl _,h⟩
 |cons x _ ih=>intro ys h;cases h with|cons r t=>obtain⟨zs,z1,z2⟩:=ih t;exact⟨_::zs,z1.cons _,.cons r z2⟩
 |swap x y l=>intro ys h;cases h with|cons r t=>cases t with|cons r' t'=>exact⟨_,List.Perm.swap _ _ _,.cons r' (.cons r t')⟩
 |trans _ _ ih1 ih2=>intro ys h;obtain⟨zs,z1,z2⟩:=ih1 h;obtain⟨us,u1,u2⟩:=ih2 z2;exact⟨us,u1.trans z1,u2⟩
theorem RX {α β:Type} {R:α->β->Prop} {xs:List α} {us:List β} {ys:List α} {vs:List β} (h:Paired R xs us) (k:Paired R ys vs):Paired R (xs++ys) (us++vs):=by
 induction h with
 |nil=>exact k
 |cons r _ ih=>exact .cons r ih
section
variable {prog:Program} {w:World} {A:Around} {E:VP_} {s:Shared} {a:Addr}
end
def blank (w:World):Obj:={ cls:=.type "set", dict:=none,data:=.set #[] 0 (.fresh 0 0 (!w.params.followText "set-order")) }
structure Adds (prog:Program) (w:World) (S:Addr) (wr:List Addr) {κ:Type} (C:Heap->List κ->Prop) (P:Nat->Value->Prop) (val:Nat->κ) (n:Nat):Prop where
 keep:∀ h h' ys,C h ys->(∀ b o,b∉wr->h.get? b=some o->h'.get? b=some o)->C h' ys
 add:∀ (A:Around) (E:VP_) (s:Shared) (i:Nat) (v:Value) (ys:List κ) (Q:Bool->Shared->Prop),A.units < cLine->i < n->P i v->C s.heap ys->ys.length<=i →
  (∀ b h' tk ys',Heap.SameBut S s.heap h'->C h' ys'->(∀ z,z∈ys'↔z∈ys\/z=val i)->ys'.length<=i+1->s.toks<=tk->Q b { s with heap:=h',toks:=tk })->wpAny (model prog w) A (setAdd S v) Q E s
section
variable {prog:Program} {w:World} {A:Around} {R:Result->Shared->Prop} {I:Addr} {fp wr:List Addr} {n:Nat} {P:Nat->Value->Prop} {St:Nat->Shared->Prop} {κ:Type} {C:Heap->List κ->Prop} {val:Nat->κ}
theorem YG (W:WalksS prog w A.in1 I fp wr (λa b=>b=a) n P St) (S:Addr) (hSf:S∉fp) (ad:Adds prog w S wr C P val n) (hU:A.units+1 < cLine) :
  ∀ (k i:Nat) (s:Shared) (ys:List κ),n - i=k->i<=n->St i s->C s.heap ys->(∀ z,z∈ys↔∃ j,j < i/\z=val j)->ys.length<=i →
   (∀ s' ys',Moved (S::wr) (λa b=>b=a) s s'->C s'.heap ys'->(∀ z,z∈ys'↔∃ j,j < n/\z=val j)->R (.ok (.ret .none)) s') →
   codeAny (model prog w) A (.builtin "set.update.loop" ⟨[.ref S,.ref I],[]⟩) R s:=by
 have sub:∀ b,b∈wr->b∈S::wr:=λb q=>zg _ q;intro k
 induction k with
 |zero=>
  intro i s ys hk hi st hc hm hl hR;have:i=n:=by omega
  subst this;refine JA F.entry_set_update_loop ?_;rw[Around.under_plainId yA _];show wpAny _ A.in1 (pyNext (.ref I) >>= _) _ _ s;refine zb (W.done s _ _ st λs' mv=>?_);show wpAny _ A.in1 (ret Value.none) _ _ s';exact ze (hR s' ys (mv.mono sub) (ad.keep _ _ _ hc mv.heap) hm)
 |succ k ih=>
  intro i s ys hk hi st hc hm hl hR;have hlt:i < n:=by omega
  refine JA F.entry_set_update_loop ?_;rw[Around.under_plainId yA _];show wpAny _ A.in1 (pyNext (.ref I) >>= _) _ _ s;refine zb (W.item i s _ _ hlt st λv s' hP st' mv=>?_);show wpAny _ A.in1 (holding [v] (setAdd S v) >>= _) _ _ s';refine zb (QN (ad.add _ _ s' i v ys _ hU hlt hP (ad.keep _ _ _ hc mv.heap) hl λb h' tk ys' sb hc' hm' hl' htk=>?_));refine ze ⟨plainId_quiet yA _,ih (i+1) _ ys' (by omega) hlt (W.frame _ s' _ _ st' htk λb hb o e=>?_) hc' (λz=>?_) hl' λs'' ys'' aiV hc'' hm''=>?_⟩
  ·rw[sb.2 b λq=>hSf (q▸hb)];exact e
  ·rw[hm' z,hm z];constructor
   ·rintro(⟨j,hj,e⟩|e)
    ·exact⟨j,by omega,e⟩
    ·exact⟨i,by omega,e⟩
   ·rintro⟨j,hj,e⟩;by_cases q:j=i
    ·exact .inr (q▸e)
    ·exact .inl ⟨j,by omega,e⟩
  ·refine hR s'' ys'' (Moved.trans W.gtrans ((mv.mono sub).then_heap htk λb o hb e=>?_) aiV) hc'' hm'';rw[sb.2 b λq=>hb (by rw[q];exact zh)];exact e
end
section
variable {prog:Program} {w:World} {A:Around} {E:VP_} {s:Shared}
theorem RZ (x:Value) {Q₁:VP_} (h:Q₁ (.ref s.heap.objs.size) { s with heap:=s.heap.push (blank w) }) :
  codeAny (model prog w) A (.call (.builtin "set.__new__") ⟨[.type "set", x],[]⟩) (wants Q₁ E) s:=by
 refine codeAny_of_tree ?_;show wpAny _ A.in1 (do checkBuiltinCall "set.__new__" ⟨[.type "set", x],[]⟩;again (.builtin "set.__new__" ⟨[.type "set", x],[]⟩)) _ _ s;refine zb (wpAny_of_eq (F.newCall_set_1 x) (ze ⟨plainId_quiet F.plain_set_new _,JA F.entry_set_new ?_⟩));rw[Around.under_plainId F.plain_set_new _];unfold Builtin.«set.__new__» Builtin.Frozenset.newClass;have hsub:=sub_set_self;obtain⟨hp,g,d,tk,os⟩:=s;dsimp only
 wp_walk
 refine wpAny_askSetting (ze ?_);dsimp only;simp only[newObj];refine zb (wpAny_alloc (ze ?_));exact ze h
theorem sub_tuple_set:isSubtype (.type "tuple") (.type "set")=pure false:=by rw[isSubtype_type];kernel_rfl
theorem sub_tuple_frozenset:isSubtype (.type "tuple") (.type "frozenset")=pure false:=by rw[isSubtype_type];kernel_rfl
theorem YH (hU:A.units+60 < cLine) {T:String} {l:Addr} {o:Obj} {κ:Type} {C:Heap->List κ->Prop} {P:Nat->Value->Prop} {val:Nat->κ} {n:Nat} {Q:VP_} (hh:A.handled=none) (ho:s.heap.get? l=some o) (hcl:o.cls=.type T) (hT:T = "list" ∨ T = "tuple")
  (hit:∀ (A':Around) (E':VP_) (Q':VP_) (h0:Heap),A'.handled=none->(∀ b ob,s.heap.get? b=some ob->h0.get? b=some ob) →
   (∀ (h':Heap) (St:Nat->Heap->Prop),(∀ A',A'.handled=none->Walks prog w A' h0.objs.size [h0.objs.size,l] [h0.objs.size] n P St)->St 0 h'->(∀ b ob,h0.get? b=some ob->h'.get? b=some ob)->Q' (.ref h0.objs.size) { s with heap:=h' })->wpAny (model prog w) A' (pyIter (.ref l)) Q' E' { s with heap:=h0 })
  (ad:Adds prog w s.heap.objs.size [s.heap.objs.size+1] C P val n) (hc0:∀ h',h'.get? s.heap.objs.size=some (blank w)->(∀ b ob,s.heap.get? b=some ob->h'.get? b=some ob)->C h' [])
  (h:∀ (h':Heap) (tk:Nat) (ys:List κ),C h' ys->(∀ z,z∈ys↔∃ j,j < n/\z=val j)->(∀ b ob,s.heap.get? b=some ob->h'.get? b=some ob)->Q (.ref s.heap.objs.size) { s with heap:=h',toks:=tk }) :
  wpAny (model prog w) A (call (.type "set") [.ref l]) Q E s:=by
 obtain⟨c,tl,hmro⟩:=F.called_set.mro;have hmade:=F.called_set.made;have hsub:=F.called_set.sub;have hlS:l < s.heap.objs.size:=zz ho;refine wpAny_call (codeAny_of_tree ?_);show wpAny _ _ (callAny (.type "set") _) _ _ _;refine ze ⟨Code.quiet_builtin _ (by decide +kernel),JA F.entry_type_call ?_⟩;rw[Around.under_plain (weight_type_call_type "set" [.ref l] []) rfl];have h1:=F.called_set.notType;have h2:=F.called_set.canCreate;have hct:=F.typeCall_set_1 (.ref l)
 repeat (any_goals (first|assumption|wp_step))
 refine codeAny_mono (RZ (.ref l) (E:=E) (Q₁:=λobj s₁=>obj=.ref s.heap.objs.size/\s₁={ s with heap:=s.heap.push (blank w) }) ⟨rfl,rfl⟩) λr s₁ hr=>?_;cases r with
 |error e=>exact hr
 |ok fl=>
  cases fl with
  |ret obj=>
   obtain⟨rfl,rfl⟩:=hr;generalize hH:s.heap.push (blank w)=H;have sH:H.objs.size=s.heap.objs.size+1:=by rw[<-hH,qh]
   have hS:H.get? s.heap.objs.size=some (blank w):=by rw[<-hH];exact zv _ rfl
   have kH:∀ b ob,s.heap.get? b=some ob->H.get? b=some ob:=λb ob e=>by rw[<-hH];exact zd _ e
   have hTS:Shared.TypeIs { s with heap:=H } (.ref s.heap.objs.size) "set" := ⟨_,hS,rfl⟩;have hli:=F.called_set.init.lookup;have hbi:=F.called_set.init.bind (.ref s.heap.objs.size)
   repeat (any_goals (first|assumption|wp_step))
   refine codeAny_mono (codeAny_call_builtin (R:=wants (λr s₂=>r=.none/\∃ h' tk ys,s₂={ s with heap:=h',toks:=tk }/\C h' ys/\(∀ z,z∈ys↔∃ j,j < n/\z=val j)/\(∀ b ob,s.heap.get? b=some ob->h'.get? b=some ob)) E) F.called_set.init.plain F.entry_set_init (check_set_init_1 hTS ?_)) λr₂ s₂ hr₂=>?_
   ·have hT2:Shared.TypeIs { s with heap:=H } (.ref l) T:=⟨o,kH _ _ ho,hcl⟩;have i1:isSubtype (.type T) (.type "set")=pure false:=by rcases hT with rfl|rfl;exact F.sub_list_set;exact sub_tuple_set
    have i2:isSubtype (.type T) (.type "frozenset")=pure false:=by rcases hT with rfl|rfl;exact F.sub_list_frozenset;exact sub_tuple_frozenset
    have i3:(Value.type T==Value.type "dict")=false:=by rcases hT with rfl|rfl<;>decide
    show wpAny _ _ (Builtin.«set.__init__» ⟨[.ref s.heap.objs.size,.ref l],[]⟩) _ _ _;have hup:∀ A':Around,A'.handled=none->A'.units+4 < cLine->wpAny (model prog w) A' (Builtin.Frozenset.updateFrom "set.__init__" s.heap.objs.size (.ref l)) (λ_ s₂=>∃ h' tk ys,s₂={ s with heap:=h',toks:=tk }/\C h' ys/\(∀ z,z∈ys↔∃ j,j < n/\z=val j)/\(∀ b ob,s.heap.get? b=some ob->h'.get? b=some ob)) E { s with heap:=H }:=by
     intro A' hA hA4;unfold Builtin.Frozenset.updateFrom Builtin.Frozenset.isAnySet;refine zb (zb (kf hT2 i1 ?_));refine kf hT2 i2 ?_;simp only[zl,ZO];refine zb (QP hT2 ?_);simp only[i3,zl,ZO];refine zb (hit A' _ _ H hA kH λG St W st0 kG=>?_);rw[sH] at W;rw[sH];have hSf:s.heap.objs.size∉[s.heap.objs.size+1,l]:=λq=>by
      simp only[QR,j0,or_false] at q;rcases q with q|q
      ·exact zD (qa _) q
      ·exact KB hlS q
     refine zb (wpAny_runValue (YG (W A'.in1 hA).toS s.heap.objs.size hSf ad (by omega) (n - 0) 0 _ [] rfl (QI _) st0 (hc0 G (kG _ _ hS) λb ob e=>kG _ _ (kH _ _ e)) (λz=>⟨λq=>(by cases q),λ⟨j,q,_⟩=>absurd q (js _)⟩) (zi _) λs' ys mv c1 c2=>?_));refine ze ⟨s'.heap,s'.toks,ys,?_,c1,c2,λb ob e=>?_⟩
     ·have e1:s'.gens=s.gens:=mv.gens;have e2:s'.os=s.os:=mv.os;have e3:s'.drawn=s.drawn:=mv.drawn;rw[<-e1,<-e2,<-e3]
     ·have hb:=zz e;refine mv.heap b ob (λq=>?_) (kG _ _ (kH _ _ e));simp only[QR,j0,or_false] at q;rcases q with q|q
      ·exact zD hb q
      ·exact zD (qE hb) q
    have hb:(blank w).data=.set #[] 0 (.fresh 0 0 (!w.params.followText "set-order")):=rfl;unfold Builtin.«set.__init__» noKeywords;generalize hUF:Builtin.Frozenset.updateFrom=UF at hup ⊢;unfold blank at hS
    wp_walk
    refine qS (hup _ (by simp[hh]) (by simp;omega)) (λu s₂ q=>?_) λ_ _ q=>q;obtain⟨h',tk,ys,rfl,q⟩:=q;show wpAny _ _ (ret Value.none) _ _ _;exact ze ⟨rfl,h',tk,ys,rfl,q⟩
   ·cases r₂ with
    |error e=>exact hr₂
    |ok fl₂=>
     cases fl₂ with
     |ret r=>
      obtain⟨rfl,h',tk,ys,rfl,c1,c2,c3⟩:=hr₂
      repeat (any_goals (first|assumption|wp_step))
      exact h _ _ _ c1 c2 c3
     |_=>exact False.elim hr₂
  |_=>exact False.elim hr
end
end S6
end
section
namespace S6
open PySem
def R0 (xs:Array Nat):Prop:=∀ i j,i < j->j < xs.size->xs.getD i 0 < xs.getD j 0
theorem getD_in {xs:Array Nat} {k a b:Nat} (h:k < xs.size):xs.getD k a=xs.getD k b:=by simp[Array.getD,h]
theorem ab2 {xs:Array Nat} {k a j:Nat} (h:xs[k]?=some j):k < xs.size/\xs.getD k a=j:=by
 have hk:k < xs.size:=by
  by_cases q:k < xs.size
  ·exact q
  ·rw[k7 (by omega)] at h;cases h
 refine⟨hk,?_⟩;rw[ZU hk] at h;cases h;simp[Array.getD,hk]
theorem ab3 {xs:Array Nat} {k a j:Nat} (hk:k < xs.size) (h:xs.getD k a=j):xs[k]?=some j:=by
 rw[ZU hk];simp[Array.getD,hk] at h;rw[h]
theorem Fy (xs:Array Nat) (j:Nat) (hr:R0 xs):∀ (fuel lo hi:Nat),lo<=hi->hi<=xs.size->hi - lo<=fuel->(∀ k,k < lo->xs.getD k 0 < j)->(∀ k,hi<=k->k < xs.size->j<=xs.getD k 0) →
  SetTable.below.go xs j fuel lo hi<=xs.size/\(∀ k,k < SetTable.below.go xs j fuel lo hi->xs.getD k 0 < j)/\∀ k,SetTable.below.go xs j fuel lo hi<=k->k < xs.size->j<=xs.getD k 0
 |0,lo,hi,h1,h2,h3,h4,h5=>by
  have e:lo=hi:=by omega
  subst e;unfold SetTable.below.go;exact⟨h2,h4,h5⟩
 |fuel+1,lo,hi,h1,h2,h3,h4,h5=>by
  unfold SetTable.below.go;by_cases hl:lo < hi
  ·rw[zk hl];dsimp only;have hm:(lo+hi) / 2 < xs.size:=by omega
   rw[getD_in (b:=0) hm];by_cases q:xs.getD ((lo+hi) / 2) 0 < j
   ·rw[zk q];refine Fy xs j hr fuel _ hi (by omega) h2 (by omega) (λk hk=>?_) h5;by_cases e:k=(lo+hi) / 2
    ·rw[e];exact q
    ·exact Nat.lt_trans (hr k _ (by omega) hm) q
   ·rw[zw q];refine Fy xs j hr fuel lo _ (by omega) (by omega) (by omega) h4 λk hk hs=>?_;by_cases e:k=(lo+hi) / 2
    ·rw[e];omega
    ·have:=hr _ k (by omega:(lo+hi) / 2 < k) hs;omega
  ·rw[zw hl];have e:lo=hi:=by omega
   subst e;exact⟨h2,h4,h5⟩
theorem below_at {xs:Array Nat} (hr:R0 xs) (j:Nat):SetTable.below xs j<=xs.size/\(∀ k,k < SetTable.below xs j->xs.getD k 0 < j)/\∀ k,SetTable.below xs j<=k->k < xs.size->j<=xs.getD k 0:=
 Fy xs j hr xs.size 0 xs.size (QI _) (zi _) (by omega) (λk h=>absurd h (js _)) λk h h'=>absurd h' (by omega)
theorem Fz {xs:Array Nat} (hr:R0 xs) {i j:Nat} (h:xs[i]?=some j):SetTable.below xs j=i:=by
 obtain⟨h1,h2,h3⟩:=below_at hr j;obtain⟨hi,e⟩:=ab2 (a:=0) h;rcases Nat.lt_trichotomy (SetTable.below xs j) i with q|q|q
 ·have:=h3 _ (zi _) (by omega);have:=hr _ _ q hi;omega
 ·exact q
 ·have:=h2 _ q;omega
theorem Uq (j:Nat):SetTable.has #[] j=false:=by
 unfold SetTable.has;simp
structure Tb (t:SetTable):Prop where
 mask:t.mask=7\/t.mask=31\/t.mask=127
 dum:t.dummies=#[]
 rise:R0 t.place
 bd:∀ j:Nat,j∈t.place->j<=t.mask
 full:t.place.size<=t.mask
theorem Bo {t:SetTable} (h:Tb t) {i j:Nat} (e:t.place[i]?=some j):t.slot j=.live i:=by
 unfold SetTable.slot;simp only[Fz h.rise e,e,beq_self_eq_true,qA]
theorem Wd {t:SetTable} (h:Tb t) {j:Nat} (e:j∉t.place):t.slot j=.empty:=by
 unfold SetTable.slot;have:(t.place[SetTable.below t.place j]?==some j)=false:=by
  cases q:t.place[SetTable.below t.place j]? with
  |none=>rfl
  |some x=>
   by_cases hx:x=j
   ·subst hx;exact absurd (Array.mem_of_getElem? q) e
   ·simp[hx]
 simp only[this,zl,ZO,h.dum,Uq]
def HW (mask:Nat) (p:SetTable.Probe):SetTable.Probe:=
 if p.more > 0 then { p with j:=p.j+1,more:=p.more - 1 } else
 { p with j:=(SetTable.leap mask p.i p.perturb).1,more:=SetTable.runEnd mask (SetTable.leap mask p.i p.perturb).1 - (SetTable.leap mask p.i p.perturb).1,i:=(SetTable.leap mask p.i p.perturb).1,perturb:=(SetTable.leap mask p.i p.perturb).2 }
theorem YJ (t:SetTable) (p:SetTable.Probe):t.advance p=HW t.mask p:=rfl
def at0 (mask i perturb:Nat):SetTable.Probe:={ j:=i,more:=SetTable.runEnd mask i - i,i,perturb,dummy:=none }
def gR (mask:Nat) (h:Int):Nat->SetTable.Probe
 |0=>at0 mask (SetTable.bits h % (mask+1)) (SetTable.bits h)
 |n+1=>HW mask (gR mask h n)
theorem Ur (mask:Nat) (h:Int):∀ n,(gR mask h n).dummy=none
 |0=>rfl
 |n+1=>by
  have:=Ur mask h n;unfold gR HW;split<;>exact this
theorem O6 {t:SetTable} (ht:Tb t) (hashAt:Nat->Int) (h:Int):∀ (d fuel n:Nat),d < fuel->(∀ m,n<=m->m < n+d->∃ i,t.place[i]?=some (gR t.mask h m).j/\hashAt i≠h) →
  ((gR t.mask h (n+d)).j∉t.place->SetTable.probe.go t hashAt h fuel (gR t.mask h n)=some (.empty (gR t.mask h (n+d)).j none)) ∧
  ∀ i,t.place[i]?=some (gR t.mask h (n+d)).j->hashAt i=h->SetTable.probe.go t hashAt h fuel (gR t.mask h n)=some (.candidate (gR t.mask h (n+d)).j i (gR t.mask h (n+d+1)))
 |0,fuel+1,n,_,_=>by
  refine⟨λe=>?_,λi e1 e2=>?_⟩
  ·unfold SetTable.probe.go;rw[Nat.add_zero] at e ⊢;rw[Wd ht e];simp only[Ur]
  ·unfold SetTable.probe.go;rw[Nat.add_zero] at e1 ⊢;rw[Bo ht e1];simp only[e2,beq_self_eq_true,qA,YJ];rfl
 |d+1,fuel+1,n,hd,hp=>by
  obtain⟨i,e1,e2⟩:=hp n (zi _) (by omega);have ih:=O6 ht hashAt h d fuel (n+1) (by omega) λm h1 h2=>hp m (by omega) (by omega);have e:SetTable.probe.go t hashAt h (fuel+1) (gR t.mask h n)=SetTable.probe.go t hashAt h fuel (gR t.mask h (n+1)):=by
   conv=>lhs;unfold SetTable.probe.go
   rw[Bo ht e1];simp only[beq_iff_eq,e2,ZO,YJ];rfl
  rw[e,show n+(d+1)=n+1+d by omega];exact ih
theorem R3:∀ (xs ys:List Nat),xs.Nodup->(∀ x,x∈xs->x∈ys)->xs.length<=ys.length
 |[],_,_,_=>QI _
 |x::xs,ys,hn,hs=>by
  have hc:=List.nodup_cons.mp hn;have hm:=hs x (zh ..);have:=R3 xs (ys.erase x) hc.2 λz hz=>(Kk (λe:z=x=>hc.1 (by rw[<-e];exact hz))).mpr (hs z (zg _ hz));have:=yi hm;have:0 < ys.length:=k6 hm;simp only[ZH];omega
def nx (M i:Nat):Nat:=(i * 5+1) % M
def O7 (M:Nat):Nat->Nat->Nat
 |0,i=>i
 |k+1,i=>O7 M k (nx M i)
theorem DR (M:Nat):∀ (a b i:Nat),O7 M (a+b) i=O7 M b (O7 M a i)
 |0,b,i=>by rw[JY];rfl
 |a+1,b,i=>by rw[Nat.succ_add];exact DR M a b _
theorem aiW:(∀ r,r < 8->∃ k,k < 8/\O7 8 k 0=r)/\O7 8 8 0=0:=by decide +kernel
theorem ahf:(∀ r,r < 32->∃ k,k < 32/\O7 32 k 0=r)/\O7 32 32 0=0:=by decide +kernel
theorem ae3:(∀ r,r < 128->∃ k,k < 128/\O7 128 k 0=r)/\O7 128 128 0=0:=by decide +kernel
theorem cyc {M:Nat} (h:(∀ r,r < M->∃ k,k < M/\O7 M k 0=r)/\O7 M M 0=0) {i r:Nat} (hi:i < M) (hr:r < M):∃ k,k < M/\O7 M k i=r:=by
 obtain⟨a,ha,rfl⟩:=h.1 i hi;obtain⟨b,hb,rfl⟩:=h.1 r hr;by_cases q:a<=b
 ·exact⟨b - a,by omega,by rw[<-DR,show a+(b - a)=b by omega]⟩
 ·exact⟨M - a+b,by omega,by rw[<-DR,show a+(M - a+b)=M+b by omega,DR,h.2]⟩
theorem aiY {mask:Nat} (h:mask=7\/mask=31\/mask=127) {i r:Nat} (hi:i < mask+1) (hr:r < mask+1):∃ k,k < mask+1/\O7 (mask+1) k i=r:=by
 rcases h with rfl|rfl|rfl
 ·exact cyc aiW hi hr
 ·exact cyc ahf hi hr
 ·exact cyc ae3 hi hr
def lp (mask:Nat) (h:Int):Nat->Nat×Nat
 |0=>(SetTable.bits h % (mask+1),SetTable.bits h)
 |l+1=>SetTable.leap mask (lp mask h l).1 (lp mask h l).2
theorem FJ (mask i:Nat):i<=SetTable.runEnd mask i/\SetTable.runEnd mask i<=i+9:=by unfold SetTable.runEnd;split<;>omega
theorem YK {mask i:Nat} (h:i<=mask):SetTable.runEnd mask i<=mask:=by unfold SetTable.runEnd;split<;>omega
theorem zq {mask:Nat} {h:Int} {s i p:Nat} (e:gR mask h s=at0 mask i p):∀ k,k<=SetTable.runEnd mask i - i->gR mask h (s+k)={ at0 mask i p with j:=i+k,more:=SetTable.runEnd mask i - i - k }
 |0,_=>by rw[Nat.add_zero,e];rfl
 |k+1,hk=>by
  have ih:=zq e k (by omega);show HW mask (gR mask h (s+k))=_;rw[ih];unfold HW;rw[zk (by dsimp only;omega)];rfl
theorem O8 {mask:Nat} {h:Int} {s i p:Nat} (e:gR mask h s=at0 mask i p):gR mask h (s+(SetTable.runEnd mask i - i)+1)=at0 mask (SetTable.leap mask i p).1 (SetTable.leap mask i p).2:=by
 show HW mask (gR mask h (s+(SetTable.runEnd mask i - i)))=_;rw[zq e _ (zi _)];unfold HW;rw[zw (by dsimp only;omega)];rfl
theorem YL (mask:Nat) (h:Int):∀ l,∃ s,s<=10 * l/\gR mask h s=at0 mask (lp mask h l).1 (lp mask h l).2
 |0=>⟨0,by omega,rfl⟩
 |l+1=>by
  obtain⟨s,hs,e⟩:=YL mask h l;have:=FJ mask (lp mask h l).1;exact⟨_,by omega,O8 e⟩
theorem ahg (mask:Nat) (h:Int):∀ l,(lp mask h l).1 < mask+1
 |0=>Nat.mod_lt _ (Nat.succ_pos _)
 |l+1=>Nat.mod_lt _ (Nat.succ_pos _)
theorem O9 (mask:Nat) (h:Int):∀ l,(lp mask h l).2 * 32 ^ l<=SetTable.bits h
 |0=>by simp[lp]
 |l+1=>by
  have ih:=O9 mask h l;show(lp mask h l).2 / 32 * 32 ^ (l+1)<=_;have h1:(lp mask h l).2 / 32 * 32<=(lp mask h l).2:=Nat.div_mul_le_self _ _;have h2:=Nat.mul_le_mul_right (32 ^ l) h1;rw[Nat.pow_succ,Nat.mul_comm (32 ^ l) 32,<-Nat.mul_assoc];exact Zs h2 ih
theorem ab5 (h:Int):SetTable.bits h < 18446744073709551616:=by
 unfold SetTable.bits;have h1:h % 18446744073709551616 < 18446744073709551616:=Int.emod_lt_of_pos _ (by decide);have h2:0<=h % 18446744073709551616:=Int.emod_nonneg _ (by decide);show(h % 18446744073709551616).toNat < _;omega
theorem Us (mask:Nat) (h:Int):∀ k,(lp mask h (12+k)).2 < 32
 |0=>by
  have h1:=O9 mask h 12;have h2:=ab5 h;rw[show(32:Nat) ^ 12=1152921504606846976 from rfl] at h1;show(lp mask h 12).2 < 32;omega
 |k+1=>by
  have:=Us mask h k;show(lp mask h (12+k)).2 / 32 < 32;omega
theorem ahh (mask:Nat) (h:Int):∀ k,(lp mask h (12+k)).1=O7 (mask+1) k (lp mask h 12).1:=by
 have step:∀ k,(lp mask h (12+k+1)).1=nx (mask+1) (lp mask h (12+k)).1:=λk=>by
  have:=Us mask h k;show((lp mask h (12+k)).1 * 5+1+(lp mask h (12+k)).2 / 32) % (mask+1)=_;rw[show(lp mask h (12+k)).2 / 32=0 by omega];rfl
 have comm:∀ k i,O7 (mask+1) k (nx (mask+1) i)=nx (mask+1) (O7 (mask+1) k i):=λk=>by
  induction k with
  |zero=>intro i;rfl
  |succ k ih=>intro i;exact ih _
 intro k
 induction k with
 |zero=>rfl
 |succ k ih=>
  rw[show 12+(k+1)=12+k+1 by omega,step,ih];exact(comm k _).symm
theorem YM {mask:Nat} (hm:mask=7\/mask=31\/mask=127) (h:Int) {r:Nat} (hr:r < mask+1):∃ l,l < mask+13/\(lp mask h l).1=r:=by
 obtain⟨k,hk,e⟩:=aiY hm (ahg mask h 12) hr;exact⟨12+k,by omega,by rw[ahh,e]⟩
theorem gap {t:SetTable} (h:Tb t):∃ r,r < t.mask+1/\r∉t.place:=by
 by_cases q:∃ r,r < t.mask+1/\r∉t.place
 ·exact q
 ·exfalso;have:=R3 (List.range (t.mask+1)) t.place.toList yk λx hx=>by
   rw[KL] at hx;by_cases q':x∈t.place
   ·exact Array.mem_toList_iff.mpr q'
   ·exact absurd ⟨x,hx,q'⟩ q
  rw[kX,ZZ] at this;have:=h.full;omega
theorem YQ {t:SetTable} (ht:Tb t) (h:Int):∃ n,n < 10 * SetTable.turns t.mask/\(gR t.mask h n).j∉t.place:=by
 obtain⟨r,hr,hn⟩:=gap ht;obtain⟨l,hl,e⟩:=YM ht.mask h hr;obtain⟨s,hs,e'⟩:=YL t.mask h l;refine⟨s,by unfold SetTable.turns;omega,?_⟩;rw[e'];show(lp t.mask h l).1∉_;rw[e];exact hn
theorem R4 {t:SetTable} (ht:Tb t) (h:Int):∃ n,n < 10 * SetTable.turns t.mask/\(gR t.mask h n).j∉t.place/\∀ m,m < n->(gR t.mask h m).j∈t.place:=by
 obtain⟨n,hn,hf⟩:=YQ ht h;have:∀ k,(∃ n,n<=k/\(gR t.mask h n).j∉t.place/\∀ m,m < n->(gR t.mask h m).j∈t.place)\/∀ m,m<=k->(gR t.mask h m).j∈t.place:=λk=>by
  induction k with
  |zero=>
   by_cases q:(gR t.mask h 0).j∈t.place
   ·exact .inr λm hm=>by rw[show m=0 by omega];exact q
   ·exact .inl ⟨0,zi _,q,λm hm=>absurd hm (js _)⟩
  |succ k ih=>
   rcases ih with⟨n,h1,h2⟩|ih
   ·exact .inl ⟨n,by omega,h2⟩
   ·by_cases q:(gR t.mask h (k+1)).j∈t.place
    ·exact .inr λm hm=>by
      by_cases e:m=k+1
      ·rw[e];exact q
      ·exact ih m (by omega)
    ·exact .inl ⟨k+1,zi _,q,λm hm=>ih m (by omega)⟩
 rcases this n with⟨m,h1,h2,h3⟩|q
 ·exact⟨m,by omega,h2,h3⟩
 ·exact absurd (q n (zi _)) hf
theorem gD {α:Type} (xs:Array α) (k:Nat) (a:α):xs.getD k a=xs[k]?.getD a:=by
 by_cases h:k < xs.size
 ·rw[ZU h];simp[Array.getD,h]
 ·rw[k7 (by omega)];simp[Array.getD,h]
structure Tok (t:SetTable) (es:Array (Int×Value)):Prop extends Tb t where
 size:t.place.size=es.size
 reach:∀ (i j:Nat) e,t.place[i]?=some j->es[i]?=some e->∃ n,n < 10 * SetTable.turns t.mask/\(gR t.mask e.1 n).j=j/\∀ m,m < n->(gR t.mask e.1 m).j∈t.place
theorem zu {α:Type} (xs:Array α) (p:Nat) (x:α):(SetTable.insertAt xs p x).toList=xs.toList.take p++x::xs.toList.drop p:=by
 unfold SetTable.insertAt;simp[Array.toList_extract,List.take_of_length_le]
theorem Dp {α:Type} {xs:Array α} {p:Nat} (hp:p<=xs.size) (x:α) (i:Nat):(SetTable.insertAt xs p x)[i]?=if i < p then xs[i]? else if i=p then some x else xs[i - 1]?:=by
 rw[<-qk,zu,List.getElem?_append];have hl:(xs.toList.take p).length=p:=by rw[ki,ZZ];omega
 rw[hl];by_cases h1:i < p
 ·rw[zk h1,zk h1,List.getElem?_take,zk h1,qk]
 ·rw[zw h1,zw h1];by_cases h2:i=p
  ·rw[zk h2,h2,Nat.sub_self];rfl
  ·rw[zw h2,show i - p=(i - p - 1)+1 by omega,ZT,List.getElem?_drop,qk,show p+(i - p - 1)=i - 1 by omega]
theorem vJ {α:Type} (xs:Array α) (p:Nat) (x:α):(SetTable.insertAt xs p x).size=xs.size+1:=by
 rw[<-ZZ,zu,zS,ZH,ki,kB,ZZ];omega
theorem Ut {α:Type} {xs:Array α} {p:Nat} {x y:α}:y∈SetTable.insertAt xs p x↔y∈xs\/y=x:=by
 rw[<-Array.mem_toList_iff,zu,List.mem_append,QR,<-Array.mem_toList_iff];constructor
 ·rintro(h|h|h)
  ·exact .inl (List.mem_of_mem_take h)
  ·exact .inr h
  ·exact .inl (List.mem_of_mem_drop h)
 ·rintro(h|h)
  ·rw[<-List.take_append_drop p xs.toList,List.mem_append] at h;rcases h with h|h
   ·exact .inl h
   ·exact .inr (.inr h)
  ·exact .inr (.inl h)
theorem YS {xs:Array Nat} (hr:R0 xs) {j:Nat} (hj:j∉xs):R0 (SetTable.insertAt xs (SetTable.below xs j) j):=by
 obtain⟨h1,h2,h3⟩:=below_at hr j;intro a b hab hb;rw[vJ] at hb;have ga:∀ i,i < xs.size+1->(SetTable.insertAt xs (SetTable.below xs j) j).getD i 0=if i < SetTable.below xs j then xs.getD i 0 else if i=SetTable.below xs j then j else xs.getD (i - 1) 0:=λi hi=>by
  rw[gD,Dp h1];by_cases q1:i < SetTable.below xs j
  ·rw[zk q1,zk q1,<-gD]
  ·rw[zw q1,zw q1];by_cases q2:i=SetTable.below xs j
   ·rw[zk q2,zk q2];rfl
   ·rw[zw q2,zw q2,<-gD]
 have gt:∀ k,SetTable.below xs j<=k->k < xs.size->j < xs.getD k 0:=λk hk hs=>by
  have q:=h3 k hk hs;rcases Nat.lt_or_eq_of_le q with q|q
  ·exact q
  ·exact absurd (Array.mem_of_getElem? (ab3 hs q.symm)) hj
 rw[ga a (by omega),ga b hb];by_cases a1:a < SetTable.below xs j
 ·rw[zk a1];by_cases b1:b < SetTable.below xs j
  ·rw[zk b1];exact hr a b hab (by omega)
  ·rw[zw b1];have:=h2 a a1;by_cases b2:b=SetTable.below xs j
   ·rw[zk b2];exact this
   ·rw[zw b2];exact Nat.lt_trans this (gt _ (by omega) (by omega))
 ·rw[zw a1];by_cases a2:a=SetTable.below xs j
  ·rw[zk a2,zw (by omega),zw (by omega)];exact gt _ (by omega) (by omega)
  ·rw[zw a2,zw (by omega),zw (by omega)];exact hr _ _ (by omega) (by omega)
theorem ab6 {t:SetTable} {es:Array (Int×Value)} (h:Tok t es) {hh:Int} {x:Value} {n:Nat} (hn:n < 10 * SetTable.turns t.mask) (hf:(gR t.mask hh n).j∉t.place) (hp:∀ m,m < n->(gR t.mask hh m).j∈t.place) (hj:(gR t.mask hh n).j<=t.mask) (hs:es.size+1<=t.mask) :
  Tok (t.put (gR t.mask hh n).j).1 (SetTable.insertAt es (t.put (gR t.mask hh n).j).2 (hh,x))/\(t.put (gR t.mask hh n).j).1.led=t.led/\(t.put (gR t.mask hh n).j).1.plain=t.plain/\(t.put (gR t.mask hh n).j).1.mask=t.mask:=by
 have hd:=h.dum;have he:t.put (gR t.mask hh n).j=({ t with place:=SetTable.insertAt t.place (SetTable.below t.place (gR t.mask hh n).j) (gR t.mask hh n).j,dummies:=#[] },SetTable.below t.place (gR t.mask hh n).j):=by
  unfold SetTable.put;rw[hd];simp only[Uq,zl,ZO]
 rw[he];have hz:=h.size;have hb:=(below_at h.rise (gR t.mask hh n).j).1;refine⟨{ mask:=h.mask,dum:=rfl,rise:=YS h.rise hf,bd:=λj hj'=>?_,full:=?_,size:=?_,reach:=λi j e h1 h2=>?_ },rfl,rfl,rfl⟩
 ·rcases Ut.mp hj' with q|q
  ·exact h.bd j q
  ·rw[q];exact hj
 ·show(SetTable.insertAt _ _ _).size<=t.mask;rw[vJ];omega
 ·show(SetTable.insertAt _ _ _).size=_;rw[vJ,vJ,hz]
 ·have h1:(SetTable.insertAt t.place (SetTable.below t.place (gR t.mask hh n).j) (gR t.mask hh n).j)[i]?=some j:=h1;rw[Dp hb] at h1;rw[Dp (by rw[<-hz];exact hb)] at h2;have up:∀ e':Int×Value,(∃ n,n < 10 * SetTable.turns t.mask/\(gR t.mask e'.1 n).j=j/\∀ m,m < n->(gR t.mask e'.1 m).j∈t.place)->∃ n',n' < 10 * SetTable.turns t.mask/\(gR t.mask e'.1 n').j=j/\∀ m,m < n'->(gR t.mask e'.1 m).j∈SetTable.insertAt t.place (SetTable.below t.place (gR t.mask hh n).j) (gR t.mask hh n).j:=
   λe' ⟨n,a,b,c⟩=>⟨n,a,b,λm hm=>Ut.mpr (.inl (c m hm))⟩
  by_cases q1:i < SetTable.below t.place (gR t.mask hh n).j
  ·rw[zk q1] at h1 h2;exact up e (h.reach i j e h1 h2)
  ·rw[zw q1] at h1 h2;by_cases q2:i=SetTable.below t.place (gR t.mask hh n).j
   ·rw[zk q2] at h1 h2;cases h1;cases h2;exact up (hh,x) ⟨n,hn,rfl,hp⟩
   ·rw[zw q2] at h1 h2;exact up e (h.reach (i - 1) j e h1 h2)
theorem YT {mask:Nat} (h:Int):∀ n,(gR mask h n).j+(gR mask h n).more<=mask
 |0=>by
  have h1:SetTable.bits h % (mask+1) < mask+1:=Nat.mod_lt _ (Nat.succ_pos _);have:=YK (mask:=mask) (i:=SetTable.bits h % (mask+1)) (by omega);have:=FJ mask (SetTable.bits h % (mask+1));show SetTable.bits h % (mask+1)+(SetTable.runEnd mask (SetTable.bits h % (mask+1)) - SetTable.bits h % (mask+1))<=mask;omega
 |n+1=>by
  have ih:=YT (mask:=mask) h n;show(HW mask (gR mask h n)).j+(HW mask (gR mask h n)).more<=mask;unfold HW;split
  ·dsimp only;omega
  ·dsimp only;generalize hl:(SetTable.leap mask (gR mask h n).i (gR mask h n).perturb).1=i;have h1:i < mask+1:=by rw[<-hl];exact Nat.mod_lt _ (Nat.succ_pos _)
   have:=YK (mask:=mask) (i:=i) (by omega);have:=FJ mask i;omega
theorem R5 {mask:Nat} (h:Int) (n:Nat):(gR mask h n).j<=mask:=by have:=YT (mask:=mask) h n;omega
def R6 (owner:Array (Option Nat)) (j:Nat):Prop:=(owner.getD j (some 0)).isNone=false
theorem JG {mask:Nat} {h:Int} {owner:Array (Option Nat)}:∀ (fuel l s j:Nat),gR mask h s=at0 mask (lp mask h l).1 (lp mask h l).2->s<=10 * l->(∀ m,m < s->R6 owner (gR mask h m).j) →
  SetTable.layClean.free mask owner fuel (lp mask h l).1 (lp mask h l).2=some j->∃ n,n < 10 * (l+fuel)/\(gR mask h n).j=j/\(owner.getD j (some 0)).isNone=true/\∀ m,m < n->R6 owner (gR mask h m).j
 |0,l,s,j,_,_,_,e=>by unfold SetTable.layClean.free at e;cases e
 |fuel+1,l,s,j,hs,hl,ho,e=>by
  have hr:=FJ mask (lp mask h l).1;unfold SetTable.layClean.free at e;cases hf:(List.range (SetTable.runEnd mask (lp mask h l).1+1 - (lp mask h l).1)).find? λk=>(owner.getD ((lp mask h l).1+k) (some 0)).isNone with
  |some k=>
   rw[hf] at e;cases e;obtain⟨h1,h2,h3⟩:=List.find?_range_eq_some.mp hf;rw[KL] at h2;refine⟨s+k,by omega,?_,h1,λm hm=>?_⟩
   ·rw[zq hs k (by omega)]
   ·by_cases q:m < s
    ·exact ho m q
    ·have h4:=h3 (m - s) (by omega);rw[show m=s+(m - s) by omega,zq hs (m - s) (by omega)];simpa[R6] using h4
  |none=>
   rw[hf] at e;have h3:=List.find?_range_eq_none.mp hf;obtain⟨n,a,b⟩:=JG fuel (l+1) _ j (O8 hs) (by omega) (λm hm=>by
    by_cases q:m < s
    ·exact ho m q
    ·have h4:=h3 (m - s) (by omega);rw[show m=s+(m - s) by omega,zq hs (m - s) (by omega)];simpa[R6] using h4) e
   exact⟨n,by omega,b⟩
theorem JH {mask:Nat} {h:Int} {owner:Array (Option Nat)}:∀ (fuel l:Nat),SetTable.layClean.free mask owner fuel (lp mask h l).1 (lp mask h l).2=none->∀ l',l<=l'->l' < l+fuel->R6 owner (lp mask h l').1
 |0,l,_,l',h1,h2=>by omega
 |fuel+1,l,e,l',h1,h2=>by
  have hr:=FJ mask (lp mask h l).1;unfold SetTable.layClean.free at e;cases hf:(List.range (SetTable.runEnd mask (lp mask h l).1+1 - (lp mask h l).1)).find? λk=>(owner.getD ((lp mask h l).1+k) (some 0)).isNone with
  |some k=>rw[hf] at e;cases e
  |none=>
   rw[hf] at e;have h3:=List.find?_range_eq_none.mp hf;by_cases q:l'=l
   ·subst q;have h4:=h3 0 (by omega);simpa[R6] using h4
   ·exact JH fuel (l+1) e l' (by omega) (by omega)
structure Ow (mask:Nat) (hs:List Int) (owner:Array (Option Nat)):Prop where
 size:owner.size=mask+1
 lt:∀ (j idx:Nat),owner[j]?=some (some idx)->idx < hs.length
 all:∀ (idx:Nat) h,hs[idx]?=some h->∃ j,owner[j]?=some (some idx)/\∃ n,n < 10 * SetTable.turns mask/\(gR mask h n).j=j/\∀ m,m < n->R6 owner (gR mask h m).j
 inj:∀ (j j' idx:Nat),owner[j]?=some (some idx)->owner[j']?=some (some idx)->j=j'
theorem YW {mask:Nat} {hs:List Int} {owner:Array (Option Nat)} (o:Ow mask hs owner) {j:Nat} (hj:j<=mask):R6 owner j↔∃ idx,owner[j]?=some (some idx):=by
 unfold R6;have hlt:j < owner.size:=by rw[o.size];omega
 rw[gD,ZU hlt];cases owner[j] with
 |none=>simp
 |some i=>simp
theorem Wf {f:Nat->Nat}:∀ {xs:List Nat},xs.Nodup->(∀ x∈xs,∀ y∈xs,f x=f y->x=y)->(xs.map f).Nodup:=λ{xs} hn hi=>
 List.pairwise_map.mpr (kc (λha hb hne e=>hne (hi _ ha _ hb e)) hn)
theorem ab7 {mask:Nat} {hs:List Int} {owner:Array (Option Nat)} (o:Ow mask hs owner) (hl:hs.length<=mask):∃ r,r < mask+1/\¬ R6 owner r:=by
 by_cases q:∃ r,r < mask+1/\¬ R6 owner r
 ·exact q
 ·exfalso;have all:∀ r,r < mask+1->∃ idx,owner[r]?=some (some idx):=λr hr=>by
   by_cases q':R6 owner r
   ·exact(YW o (by omega)).mp q'
   ·exact absurd ⟨r,hr,q'⟩ q
  have f:∀ r,r < mask+1->owner[r]?=some (some ((owner[r]?.getD none).getD 0)):=λr hr=>by
   obtain⟨idx,e⟩:=all r hr;rw[e];rfl
  have:=R3 ((List.range (mask+1)).map λr=>(owner[r]?.getD none).getD 0) (List.range hs.length) (Wf yk λx hx y hy e=>by
   rw[KL] at hx hy;have e1:=f x hx;have e2:=f y hy;rw[e] at e1;exact o.inj x y _ e1 e2) λx hx=>by
    obtain⟨r,hr,rfl⟩:=List.mem_map.mp hx;rw[KL] at hr;exact List.mem_range.mpr (o.lt r _ (f r hr))
  rw[zo,kX,kX] at this;omega
theorem ab8 {mask:Nat} (hm:mask=7\/mask=31\/mask=127) {hs:List Int} {owner:Array (Option Nat)} (o:Ow mask hs owner) (hl:hs.length<=mask) (h:Int) :
  ∃ j,SetTable.layClean.free mask owner (SetTable.turns mask) (SetTable.bits h % (mask+1)) (SetTable.bits h)=some j/\Ow mask (hs++[h]) (owner.setIfInBounds j (some hs.length)):=by
 obtain⟨r,hr,hn⟩:=ab7 o hl;cases hf:SetTable.layClean.free mask owner (SetTable.turns mask) (SetTable.bits h % (mask+1)) (SetTable.bits h) with
 |none=>
  obtain⟨l,hl',e⟩:=YM hm h hr;have:=JH (h:=h) (owner:=owner) (SetTable.turns mask) 0 hf l (QI _) (by unfold SetTable.turns;omega);rw[e] at this;exact absurd this hn
 |some j=>
  obtain⟨n,h1,h2,h3,h4⟩:=JG (h:=h) (owner:=owner) (SetTable.turns mask) 0 0 j rfl (zi _) (λm hm=>absurd hm (js _)) hf;rw[JY] at h1;have hj:j<=mask:=by rw[<-h2];exact R5 h n
  have hjs:j < owner.size:=by rw[o.size];omega
  have get:∀ k:Nat,(owner.setIfInBounds j (some hs.length))[k]?=if k=j then some (some hs.length) else owner[k]?:=λk=>by
   rw[Array.getElem?_setIfInBounds];by_cases q:k=j
   ·rw[zk q,zk q.symm,zk hjs]
   ·rw[zw q,zw (λe=>q e.symm)]
  have old:∀ k idx:Nat,owner[k]?=some (some idx)->k≠j:=λk idx e q=>by
   subst q;rw[gD,e] at h3;cases h3
  have up:∀ k,R6 owner k->R6 (owner.setIfInBounds j (some hs.length)) k:=λk q=>by
   unfold R6 at q ⊢;rw[gD] at q ⊢;rw[get];by_cases e:k=j
   ·rw[zk e];rfl
   ·rw[zw e];exact q
  refine⟨j,rfl,⟨by rw[Array.size_setIfInBounds];exact o.size,λk idx e=>?_,λidx g e=>?_,λa b idx e1 e2=>?_⟩⟩
  ·rw[get] at e;rw[zS];by_cases q:k=j
   ·rw[zk q] at e;cases e;simp
   ·rw[zw q] at e;have:=o.lt k idx e;simp;omega
  ·by_cases q:idx < hs.length
   ·rw[ZI q] at e;obtain⟨k,e1,n',a,b,c⟩:=o.all idx g e;exact⟨k,by rw[get,zw (old k idx e1)];exact e1,n',a,b,λm hm=>up _ (c m hm)⟩
   ·rw[qi (by omega)] at e;have:idx - hs.length=0:=by
     by_cases q':idx - hs.length=0
     ·exact q'
     ·rw[qB (by simp;omega)] at e;cases e
    rw[this] at e;cases e;have:idx=hs.length:=by omega
    subst this;exact⟨j,by rw[get,zk rfl],n,h1,h2,λm hm=>up _ (h4 m hm)⟩
  ·rw[get] at e1 e2;by_cases q1:a=j
   ·by_cases q2:b=j
    ·rw[q1,q2]
    ·rw[zk q1] at e1;rw[zw q2] at e2;cases e1;have:=o.lt b _ e2;omega
   ·by_cases q2:b=j
    ·rw[zw q1] at e1;rw[zk q2] at e2;cases e2;have:=o.lt a _ e1;omega
    ·rw[zw q1] at e1;rw[zw q2] at e2;exact o.inj a b idx e1 e2
theorem ae4 (mask:Nat):Ow mask [] (Array.replicate (mask+1) none):=by
 have no:∀ (j idx:Nat),(Array.replicate (mask+1) (none:Option Nat))[j]?≠some (some idx):=λj idx e=>by
  rw[Array.getElem?_replicate] at e;split at e<;>cases e
 exact⟨Array.size_replicate,λj idx e=>absurd e (no j idx),λidx h e=>by simp at e,λj j' idx e=>absurd e (no j idx)⟩
theorem ae5 {mask:Nat} (hm:mask=7\/mask=31\/mask=127) (hs:List Int) (hl:hs.length<=mask):∃ owner,SetTable.layClean mask hs.toArray=some owner/\Ow mask hs owner:=by
 have key:∀ (ys xs:List Int) (owner:Array (Option Nat)),Ow mask xs owner->xs.length+ys.length<=mask->∃ YX,ys.foldl (λ(acc:Option (Array (Option Nat)×Nat)) h=>do
   let (owner,k) <-acc
   let j <-SetTable.layClean.free mask owner (SetTable.turns mask) (SetTable.bits h % (mask+1)) (SetTable.bits h)
   pure (owner.setIfInBounds j (some k),k+1)) (some (owner,xs.length))=some (YX,xs.length+ys.length)/\Ow mask (xs++ys) YX:=by
  intro ys
  induction ys with
  |nil=>intro xs owner o _;exact⟨owner,rfl,by rw[JP];exact o⟩
  |cons y ys ih=>
   intro xs owner o hl;rw[ZH] at hl;obtain⟨j,e,o'⟩:=ab8 hm o (by omega) y;obtain⟨ow,e2,o2⟩:=ih (xs++[y]) _ o' (by simp;omega);refine⟨ow,?_,by rw[Q4] at o2;exact o2⟩;rw[QO];simp only[Option.bind_eq_bind,Option.bind_some,e,pure];rw[show(xs++[y]).length=xs.length+1 by simp] at e2;rw[ZH,show xs.length+(ys.length+1)=xs.length+1+ys.length by omega];exact e2
 obtain⟨ow,e,o⟩:=key hs [] _ (ae4 mask) (by simpa using hl);refine⟨ow,?_,by simpa using o⟩;unfold SetTable.layClean;rw[List.foldl_toArray];exact congrArg (Option.map (·.1)) e
theorem KY {α β:Type} {f:α->Option β} {g:α->β}:∀ {xs:List α},(∀ x∈xs,f x=some (g x))->xs.filterMap f=xs.map g
 |[],_=>rfl
 |x::xs,h=>by
  rw[kD,h x (zh ..),zr,KY λy hy=>h y (zg _ hy)]
theorem ab9 {xs:List Nat} (h:xs.Pairwise (· < ·)):R0 xs.toArray:=by
 intro i j hij hj;have hj':j < xs.length:=by simpa using hj
 rw[gD,gD,List.getElem?_toArray,List.getElem?_toArray,z4 hj',z4 (by omega)];exact List.pairwise_iff_getElem.mp h i j (by omega) hj' hij
theorem Wg {t:SetTable} {es:Array (Int×Value)} {wanted:Nat} (hm:SetTable.sizeAbove wanted - 1=7\/SetTable.sizeAbove wanted - 1=31\/SetTable.sizeAbove wanted - 1=127) (hl:es.size<=SetTable.sizeAbove wanted - 1) :
  ∃ t' order,t.relaid (es.map (·.1)) wanted=some (t',order)/\(order.filterMap (es[·]?)).toList.Perm es.toList/\Tok t' (order.filterMap (es[·]?))/\t'.led=t.led/\t'.plain=t.plain/\t'.mask=SetTable.sizeAbove wanted - 1:=by
 generalize hM:SetTable.sizeAbove wanted - 1=mask at hm hl ⊢;have hs:(es.toList.map (·.1)).length=es.size:=by simp
 obtain⟨ow,e,o⟩:=ae5 hm (es.toList.map (·.1)) (by omega);have ea:es.map (·.1)=(es.toList.map (·.1)).toArray:=by
  apply Array.ext';simp
 let L:List (Nat×Nat):=(List.range (mask+1)).filterMap λj=>(ow.getD j none).map λk=>(j,k)
 have hL:∀ j k,(j,k)∈L↔ow[j]?=some (some k):=λj k=>by
  show(j,k)∈List.filterMap _ _↔_;rw[List.mem_filterMap];constructor
  ·rintro⟨a,ha,q⟩;rw[gD] at q;cases h1:ow[a]? with
   |none=>rw[h1] at q;cases q
   |some x=>
    rw[h1] at q;cases x with
    |none=>cases q
    |some y=>cases q;exact h1
  ·intro q;refine⟨j,List.mem_range.mpr ?_,?_⟩
   ·by_cases h:j < ow.size
    ·rw[<-o.size];exact h
    ·rw[k7 (by omega)] at q;cases q
   ·rw[gD,q];rfl
 have pL:L.Pairwise λa b=>a.1 < b.1:=by
  refine List.pairwise_filterMap.mpr (List.pairwise_lt_range.imp λ{a b} hab x hx y hy=>?_);cases h1:ow.getD a none with
  |none=>rw[h1] at hx;cases hx
  |some u=>
   cases h2:ow.getD b none with
   |none=>rw[h2] at hy;cases hy
   |some v=>rw[h1] at hx;rw[h2] at hy;cases hx;cases hy;exact hab
 have ndO:(L.map (·.2)).Nodup:=by
  refine List.pairwise_map.mpr (kc (λ{a b} ha hb hab e=>?_) pL);have h1:=(hL a.1 a.2).mp ha;have h2:=(hL b.1 b.2).mp hb;rw[e] at h1;have:=o.inj _ _ _ h1 h2;omega
 have pO:(L.map (·.2)).Perm (List.range es.size):=DP ndO yk λz=>by
  rw[kP,KL];constructor
  ·rintro⟨a,ha,rfl⟩;have:=o.lt _ _ ((hL a.1 a.2).mp ha);omega
  ·intro hz;obtain⟨j,h1,_⟩:=o.all z ((es.toList.map (·.1))[z]'(by omega)) (z4 (by omega));exact⟨(j,z),(hL j z).mpr h1,rfl⟩
 let g:Nat->Int×Value:=λk=>es.getD k (0,.none)
 have hg:∀ k,k < es.size->es[k]?=some (g k):=λk hk=>by
  show _=some (es.getD k _);rw[gD,ZU hk];rfl
 have fO:(L.map (·.2)).filterMap (λk=>es[k]?)=(L.map (·.2)).map g:=KY λk hk=>hg k (List.mem_range.mp (pO.mem_iff.mp hk));have eL:((L.map (·.2)).toArray.filterMap (λk=>es[k]?)).toList=L.map λp=>g p.2:=by
  rw[Array.toList_filterMap,fO,qV];rfl
 refine⟨{ mask:=mask,place:=(L.map (·.1)).toArray,dummies:=#[],finger:=t.finger,led:=t.led,moves:=t.movedTo mask,plain:=t.plain },(L.map (·.2)).toArray,?_,?_,?_,rfl,rfl,rfl⟩
 ·unfold SetTable.relaid SetTable.laid;rw[hM,ea,e];rfl
 ·rw[Array.toList_filterMap,fO];refine(pO.map g).trans ?_;have:(List.range es.size).map g=es.toList:=by
   apply List.ext_getElem?;intro i;rw[Zl];by_cases h:i < es.size
   ·rw[List.getElem?_range h,qk,hg i h];rfl
   ·rw[qB (by simp;omega),qB (by simp;omega)];rfl
  rw[this]
 ·have sz:L.length=es.size:=by
   have:=pO.length_eq;rw[zo,kX] at this;exact this
  refine { mask:=hm,dum:=rfl,rise:=ab9 (List.pairwise_map.mpr pL),bd:=λj hj=>?_,full:=?_,size:=?_,reach:=λi j x h1 h2=>?_ }
  ·have hj:j∈L.map (·.1):=by simpa using hj
   obtain⟨a,ha,rfl⟩:=List.mem_map.mp hj;have q:=(hL a.1 a.2).mp ha;have:a.1 < ow.size:=by
    by_cases h:a.1 < ow.size
    ·exact h
    ·rw[k7 (by omega)] at q;cases q
   have:=o.size;show a.1<=mask;omega
  ·show(L.map (·.1)).toArray.size<=mask;simp only[zt,zo];omega
  ·rw[<-ZZ (xs:=Array.filterMap _ _),eL];simp
  ·have h1:(L.map (·.1)).toArray[i]?=some j:=h1;rw[List.getElem?_toArray,Zl] at h1;rw[<-qk,eL,Zl] at h2;cases hi:L[i]? with
   |none=>rw[hi] at h1;cases h1
   |some p=>
    rw[hi] at h1 h2;cases h1;cases h2;have hp:(p.1,p.2)∈L:=Z3 hi;have q:=(hL p.1 p.2).mp hp;have hk:p.2 < es.size:=List.mem_range.mp (pO.mem_iff.mp (List.mem_map.mpr ⟨p,hp,rfl⟩));have hh:(es.toList.map (·.1))[p.2]?=some (g p.2).1:=by
     rw[Zl,qk,hg _ hk];rfl
    obtain⟨j',q1,n,a,b,c⟩:=o.all _ _ hh;have:j'=p.1:=o.inj _ _ _ q1 q;subst this;refine⟨n,a,b,λm hm'=>?_⟩;obtain⟨k,q2⟩:=(YW o (R5 _ _)).mp (c m hm');show _∈(L.map (·.1)).toArray;rw[List.mem_toArray];exact List.mem_map.mpr ⟨(_,k),(hL _ _).mpr q2,rfl⟩
end S6
end
section
namespace S6
open PySem PySem.Spec PyProof.Rows P1 L2
section
variable {prog:Program} {w:World} {A:Around} {E:VP_} {s:Shared} {a:Addr}
abbrev cL (prog:Program) (w:World) (ks:List Key):Int:=tupleKeyHash (aX prog w) ks
def TE (prog:Program) (w:World) (h:Heap) (z:List Key×Addr) (e:Int×Value):Prop:=e=(cL prog w z.1,.ref z.2)/\IsTupleKey (aX prog w) h z.1 z.2
structure acd (prog:Program) (w:World) (h:Heap) (zs:List (List Key×Addr)) (es:Array (Int×Value)) (t:SetTable):Prop where
 rel:Paired (TE prog w h) zs es.toList
 nd:(zs.map (·.1)).Nodup
 tok:Tok t es
 load:es.size * 5 < t.mask * 3
 led:w.params.followText "set-order" = false->t.led=true
 non:0 < es.size->t.plain=false
def Tu (prog:Program) (w:World) (h:Heap) (a:Addr) (zs:List (List Key×Addr)):Prop:=∃ o es ep t,h.get? a=some o/\o.ExactSet/\o.data=.set es ep t/\acd prog w h zs es t
theorem Uu {h h':Heap} {ks:List Key} {b:Addr} (x:IsTupleKey (aX prog w) h ks b) (k:∀ o,h.get? b=some o->o.cls=.type "tuple" → h'.get? b=some o):IsTupleKey (aX prog w) h' ks b:=
 let ⟨o,its,n,e,c,r⟩:=x;⟨o,its,n,k o e c,c,r⟩
theorem Pa {h h':Heap} {zs:List (List Key×Addr)} {l:List (Int×Value)} (k:∀ b o,h.get? b=some o->o.cls=.type "tuple" → h'.get? b=some o) (r:Paired (TE prog w h) zs l):Paired (TE prog w h') zs l:=by
 induction r with
 |nil=>exact .nil
 |cons q _ ih=>exact .cons ⟨q.1,Uu q.2 λo e c=>k _ o e c⟩ ih
theorem acd.size {h:Heap} {zs:List (List Key×Addr)} {es:Array (Int×Value)} {t:SetTable} (x:acd prog w h zs es t):es.size=zs.length:=by rw[x.rel.length];simp
theorem Tok.fits {t:SetTable} {es:Array (Int×Value)} (h:Tok t es):t.fits es.size=true:=by
 unfold SetTable.fits SetTable.fill;have h1:=h.full;have h2:=h.size;rw[h.dum];simp[h2];omega
theorem Tok.odd {t:SetTable} {es:Array (Int×Value)} (h:Tok t es):t.gaveWay=false:=by
 unfold SetTable.gaveWay;rcases h.mask with e|e|e<;>rw[e]<;>rfl
theorem JK {d:Nat} {ks:List Key} {b:Addr} {Q:Bool->Shared->Prop} (hk:IsTupleKey (aX prog w) s.heap ks b) (h:Q false s):wpAny (model prog w) A (ofAClassStatement (d+1) (.ref b)) Q E s:=by
 have hT:=hk.typeIs;obtain⟨o,items,n,ho,_,hd,hi⟩:=hk;unfold ofAClassStatement;refine zb (QP hT ?_);dsimp only;refine zb (ze ?_);simp only[kr,zl,ZO];refine zb (wpAny_seqItems ho hd ?_);dsimp only;refine zb ?_;rw[<-Array.forIn_toList];refine wpAny_forIn_list _ (λrest r s'=>r.1=none/\s'=s/\∀ v∈rest,carriedByValue v=true) _ ?_ ?_ _ _ ⟨rfl,rfl,hi.byValue⟩
 ·rintro v rest r s' ⟨hr,rfl,hall⟩;have hv:ofAClassStatement d v=pure false:=by
   have:=hall v zh;cases v with
   |ref a=>simp[carriedByValue] at this
   |_=>unfold ofAClassStatement;rfl
  rw[hv];refine zb (ze ?_);simp only[zl,ZO];exact ze ⟨rfl,rfl,λu hu'=>hall u (zg _ hu')⟩
 ·rintro⟨r1,r2⟩ s' ⟨hr,rfl,_⟩;simp only at hr;subst hr;exact ze h
theorem ae6 {ks:List Key} {b:Addr} {Q:Bool->Shared->Prop} (hk:IsTupleKey (aX prog w) s.heap ks b) (vs:List Value) (hv:∀ v∈vs,∃ c ls,v=.ref c/\IsTupleKey (aX prog w) s.heap ls c) (h:Q false s):wpAny (model prog w) A (searchCouldBeSeen (.ref b) vs) Q E s:=by
 unfold searchCouldBeSeen;refine zb ?_;refine wpAny_forIn_list _ (λrest r s'=>r.1=none/\s'=s/\∀ v∈rest,∃ c ls,v=.ref c/\IsTupleKey (aX prog w) s.heap ls c) _ ?_ ?_ _ _ ⟨rfl,rfl,hv⟩
 ·rintro v rest r s' ⟨hr,rfl,hall⟩;obtain⟨c,ls,rfl,hc⟩:=hall v zh;have rest':∀ v∈rest,∃ c ls,v=.ref c/\IsTupleKey (aX prog w) s'.heap ls c:=λu hu=>hall u (zg _ hu);dsimp only;split
  ·exact ze ⟨rfl,rfl,rest'⟩
  ·refine zb (wpAny_eqIsQuiet_tuple hk ?_);simp only[kr,zl,ZO];refine zb (wpAny_eqIsQuiet_tuple hc ?_);simp only[kr,zl,ZO];refine zb (JK hk ?_);simp only[zl,ZO];refine zb (JK hc ?_);simp only[zl,ZO];exact ze ⟨rfl,rfl,rest'⟩
 ·rintro⟨r1,r2⟩ s' ⟨hr,rfl,_⟩;simp only at hr;subst hr;exact ze h
theorem Lf {h:Heap}:∀ {zs:List (List Key×Addr)} {l:List (Int×Value)},Paired (TE prog w h) zs l->∀ {i:Nat} {e},l[i]?=some e->∃ z,zs[i]?=some z/\TE prog w h z e
 |_,_,.nil,i,e,q=>by simp at q
 |_,_,.cons r _,0,e,q=>by simp at q;subst q;exact⟨_,rfl,r⟩
 |_,_,.cons _ t,i+1,e,q=>by
  rw[ZT] at q;obtain⟨z,z1,z2⟩:=Lf t q;exact⟨z,by rw[ZT];exact z1,z2⟩
theorem zx {h:Heap}:∀ {zs:List (List Key×Addr)} {l:List (Int×Value)},Paired (TE prog w h) zs l->∀ {i:Nat} {z},zs[i]?=some z->∃ e,l[i]?=some e/\TE prog w h z e
 |_,_,.nil,i,e,q=>by simp at q
 |_,_,.cons r _,0,e,q=>by simp at q;subst q;exact⟨_,rfl,r⟩
 |_,_,.cons _ t,i+1,e,q=>by
  rw[ZT] at q;obtain⟨z,z1,z2⟩:=zx t q;exact⟨z,by rw[ZT];exact z1,z2⟩
theorem least (p:Nat->Prop):∀ (k n:Nat),p (n+k)->∃ d,d<=k/\p (n+d)/\∀ m,n<=m->m < n+d->¬ p m
 |0,n,h=>⟨0,zi _,h,λm h1 h2=>absurd h2 (by omega)⟩
 |k+1,n,h=>by
  by_cases q:p n
  ·exact⟨0,QI _,q,λm h1 h2=>absurd h2 (by omega)⟩
  ·obtain⟨d,h1,h2,h3⟩:=least p k (n+1) (by rw[show n+1+k=n+(k+1) by omega];exact h);refine⟨d+1,by omega,by rw[show n+(d+1)=n+1+d by omega];exact h2,λm a b=>?_⟩;by_cases e:m=n
   ·rw[e];exact q
   ·exact h3 m (by omega) (by omega)
theorem search {o:Obj} {es:Array (Int×Value)} {ep:Nat} {t:SetTable} {zs:List (List Key×Addr)} {ks:List Key} {b:Addr} (hu:A.units < cLine) (ho:s.heap.get? a=some o) (hd:o.data=.set es ep t) (x:acd prog w s.heap zs es t) (hk:IsTupleKey (aX prog w) s.heap ks b)
  {N:Nat} (hN:N < 10 * SetTable.turns t.mask) (hf:(gR t.mask (cL prog w ks) N).j∉t.place) (hp:∀ m,m < N->(gR t.mask (cL prog w ks) m).j∈t.place) {Q:SetFound->Shared->Prop}
  (h1:ks∈zs.map (·.1)->Q (.there none) s) (h2:ks∉zs.map (·.1)->Q (.free (gR t.mask (cL prog w ks) N).j false) s) :
  ∀ (k n fuel:Nat) (stand:Option SetTable.Probe),n+k=N->k < fuel->stand.getD (t.probeStart (cL prog w ks))=gR t.mask (cL prog w ks) n->(∀ m,m < n->∀ i:Nat,t.place[i]?=some (gR t.mask (cL prog w ks) m).j->∀ z:List Key×Addr,zs[i]?=some z->z.1≠ks) →
   wpAny (model prog w) A (setSearchFrom a (.ref b) (cL prog w ks) true fuel stand) Q E s:=by
 have get:∀ {i:Nat} {e},es[i]?=some e->∃ z,zs[i]?=some z/\TE prog w s.heap z e:=λ{i e} q=>Lf x.rel (by rw[qk];exact q);have fit:=x.tok.fits;intro k
 induction k using Nat.strongRecOn with
 |ind k ih=>
  intro n fuel stand hn hfu hst hb;cases fuel with
  |zero=>omega
  |succ fuel=>
  unfold setSearchFrom;refine zb (QQ ho hd fit ?_);dsimp only;rw[zw (by rw[x.tok.odd];decide)];refine zb (ze ?_);rw[hst];obtain⟨d,d1,d2,d3⟩:=least (λm=>m=N\/∃ i:Nat,t.place[i]?=some (gR t.mask (cL prog w ks) m).j/\∃ e:Int×Value,es[i]?=some e/\e.1=cL prog w ks) k n (.inl hn);have live:∀ m,m < N->∃ i:Nat,t.place[i]?=some (gR t.mask (cL prog w ks) m).j/\∃ e,es[i]?=some e:=λm hm=>by
   obtain⟨i,hi,e⟩:=Array.getElem_of_mem (hp m hm);have hi':i < es.size:=by rw[<-x.tok.size];exact hi
   exact⟨i,by rw[ZU hi,e],es[i],ZU hi'⟩
  have pr:=O6 x.tok.toTb (λi=>(es[i]?.map (·.1)).getD 0) (cL prog w ks) d (10 * SetTable.turns t.mask) n (by omega) λm a1 a2=>by
   have q:=d3 m a1 a2;obtain⟨i,e1,e,e2⟩:=live m (by omega);refine⟨i,e1,λq'=>q (.inr ⟨i,e1,e,e2,?_⟩)⟩;simpa[e2] using q'
  have prb:t.probe (λi=>(es[i]?.map (·.1)).getD 0) (cL prog w ks) (gR t.mask (cL prog w ks) n)=SetTable.probe.go t (λi=>(es[i]?.map (·.1)).getD 0) (cL prog w ks) (10 * SetTable.turns t.mask) (gR t.mask (cL prog w ks) n):=rfl;by_cases hE:n+d=N
  ·have p1:=pr.1 (by rw[hE];exact hf);rw[hE] at p1;show wpAny _ _ (match t.probe (λi=>(es[i]?.map (·.1)).getD 0) (cL prog w ks) (gR t.mask (cL prog w ks) n) with|some met=>_|_=>_) _ _ _;rw[prb,p1];dsimp only;refine ze (h2 λhm=>?_);obtain⟨z,hz,ez⟩:=List.mem_map.mp hm;obtain⟨i,hi,e⟩:=Q2 hz;obtain⟨ee,e1,e2⟩:=zx x.rel (show zs[i]?=some z by rw[z4 hi,e]);rw[qk] at e1;have hi':i < t.place.size:=by rw[x.tok.size,x.size];exact hi
   obtain⟨n0,b1,b2,b3⟩:=x.tok.reach i _ ee (ZU hi') e1;rw[e2.1,ez] at b2 b3;have lt:n0 < N:=by
    rcases Nat.lt_trichotomy n0 N with q|q|q
    ·exact q
    ·exfalso;rw[<-q] at hf;rw[b2] at hf;exact hf (Array.getElem_mem hi')
    ·exact absurd (b3 N q) hf
   by_cases q:n0 < n
   ·exact hb n0 q i (by rw[b2];exact ZU hi') z (by rw[z4 hi,e]) ez
   ·exact d3 n0 (by omega) (by omega) (.inr ⟨i,by rw[b2];exact ZU hi',ee,e1,by rw[e2.1,ez]⟩)
  ·rcases d2 with q|⟨i,i1,e,i2,i3⟩
   ·exact absurd q hE
   ·have p2:=pr.2 i i1 (by simpa[i2] using i3);show wpAny _ _ (match t.probe (λi=>(es[i]?.map (·.1)).getD 0) (cL prog w ks) (gR t.mask (cL prog w ks) n) with|some met=>_|_=>_) _ _ _;rw[prb,p2];dsimp only;obtain⟨z,z1,z2⟩:=get i2;have hv:∀ v∈((es.filter (·.1==cL prog w ks)).toList.map (·.2)),∃ c ls,v=.ref c/\IsTupleKey (aX prog w) s.heap ls c:=λv hv=>by
     obtain⟨u,hu',rfl⟩:=List.mem_map.mp hv;rw[Array.toList_filter,JJ] at hu';obtain⟨jj,hj,ej⟩:=Q2 hu'.1;obtain⟨y,y1,y2⟩:=Lf x.rel (show es.toList[jj]?=some u by rw[z4 hj,ej]);exact⟨y.2,y.1,by rw[y2.1],y2.2⟩
    have go:wpAny (model prog w) A (do
      let some (_,y):=es[i]?|unsupported "internal:set-entry"
      let equal <-holding [y] (eqBool y (.ref b))
      let (es',_,t') <-setState a
      if(true&&equal)=true then return SetFound.there none
      let some same:=t'.sameMemory t.moves t.mask|unsupported "set.changed-during-lookup:is-the-new-block-at-the-old-address"
      let still <-match (if same then t'.slot (gR t.mask (cL prog w ks) (n+d)).j else .empty) with
       |.live i'=>match es'[i']? with
        |some (_,y')=>do pure (if <-isSame y' y then some i' else none)
        |none=>pure none
       |_=>pure none
      match still with
      |none=>rule "set.search.anew"; setSearchFrom a (.ref b) (cL prog w ks) true fuel none
      |some i'=>if equal then return .there (some i') else setSearchFrom a (.ref b) (cL prog w ks) true fuel (some (gR t.mask (cL prog w ks) (n+d+1)))) Q E s:=by
     rw[i2,z2.1];dsimp only;refine zb (QN (wpAny_eqBool_tuple hu z2.2 hk ?_));refine zb (QQ ho hd fit ?_);dsimp only;by_cases hq:z.1=ks
     ·rw[Zp hq];simp only[Bool.and_self,qA];exact ze (h1 (List.mem_map.mpr ⟨z,Z3 z1,hq⟩))
     ·rw[ZE hq];simp only[KP,zl,ZO];have sm:t.sameMemory t.moves t.mask=some true:=by unfold SetTable.sameMemory;simp
      rw[sm];dsimp only;simp only[qA];rw[Bo x.tok.toTb i1];dsimp only;rw[i2,z2.1];dsimp only;refine zb (wpAny_isSame_ref_self (zb (ze ?_)));simp only[qA];refine ih (N - (n+d+1)) (by omega) (n+d+1) fuel _ (by omega) (by omega) rfl λm hm i' j1 y y1=>?_;by_cases c1:m < n
      ·exact hb m c1 i' j1 y y1
      ·by_cases c2:m=n+d
       ·subst c2;have:i'=i:=by
         have s1:=Fz x.tok.rise j1;have s2:=Fz x.tok.rise i1;omega
        subst this;rw[z1] at y1;cases y1;exact hq
       ·have q:=d3 m (by omega) (by omega);intro e';obtain⟨ee,e1,e2⟩:=zx x.rel y1;rw[qk] at e1;exact q (.inr ⟨i',j1,ee,e1,by rw[e2.1,e']⟩)
    split
    ·refine zb (ae6 hk _ hv ?_);simp only[zl,ZO];exact go
    ·exact go
def Txs (ks:List Key):Prop:=∃ x:Str,(Sum.inr x:Key)∈ks
theorem YZ {ks:List Key} {b:Addr} {Q:Bool->Shared->Prop} (hk:IsTupleKey (aX prog w) s.heap ks b) (hx:Txs ks) (h:Q false s):wpAny (model prog w) A (hashByValue 8 (.ref b)) Q E s:=by
 have hT:=hk.typeIs;obtain⟨o,items,n,ho,_,hd,hi⟩:=hk;unfold hashByValue;refine zb (wpAny_specialOf hT F.slot_tuple_hash.lookup ?_);dsimp only;refine zb (wpAny_seqItems ho hd ?_);show wpAny _ _ (forIn items _ _ >>= _) _ _ s;refine zb ?_;rw[<-Array.forIn_toList];refine wpAny_forIn_list _ (λrest r s'=>r.1=none/\s'=s/\∃ left,ItemsAre (aX prog w) left rest/\Txs left) _ ?_ ?_ _ _ ⟨rfl,rfl,ks,hi,hx⟩
 ·rintro v rest r s' ⟨hr,rfl,left,hl,x,hx⟩;cases hl with
  |@cons k _ ks' _ h1 hl'=>
   rcases bL h1 with⟨i,t,rfl,rfl⟩|⟨y,t,rfl,rfl⟩
   ·have e:hashByValue 7 (.int i t)=pure true:=by unfold hashByValue;rfl
    rw[e];refine zb (ze ?_);simp only[kr,zl,ZO];refine ze ⟨rfl,rfl,ks',hl',x,?_⟩;rcases List.mem_cons.mp hx with q|q
    ·cases q
    ·exact q
   ·have e:hashByValue 7 (.str y t)=pure false:=by unfold hashByValue;rfl
    rw[e];refine zb (ze ?_);simp only[kz,qA];exact ze (ze h)
 ·rintro⟨r1,r2⟩ s' ⟨hr,rfl,left,hl,x,hx⟩;cases hl;cases hx
theorem Wh {t:SetTable} {es:Array (Int×Value)} (h:Tok t es):Tok { t with plain:=false } es:={ mask:=h.mask,dum:=h.dum,rise:=h.rise,bd:=h.bd,full:=h.full,size:=h.size,reach:=h.reach }
theorem ace {zs:List (List Key×Addr)} {ks:List Key} {b:Addr} {Q:Bool->Shared->Prop} (hu:A.units < cLine) (hS:Tu prog w s.heap a zs) (hk:IsTupleKey (aX prog w) s.heap ks b) (hx:Txs ks) (hroom:zs.length+1<=70)
  (h:∀ r h' zs',Heap.SameBut a s.heap h'->Tu prog w h' a zs'->(∀ z,z∈zs'↔z∈zs\/(z=(ks,b)/\ks∉zs.map (·.1)))->zs'.length<=zs.length+1->Q r { s with heap:=h' }):wpAny (model prog w) A (setAddHashed a (.ref b) (cL prog w ks)) Q E s:=by
 obtain⟨o,es,ep,t,ho,hex,hd,x⟩:=id hS;have hsz:=x.size;have fit:=x.tok.fits;have hld:=x.load;have hcl:o.cls≠.type "tuple" := by rw[hex.1];decide
 obtain⟨N,n1,n2,n3⟩:=R4 x.tok.toTb (cL prog w ks);have hturn:10 * SetTable.turns t.mask < 100000:=by
  unfold SetTable.turns;rcases x.tok.mask with e|e|e<;>rw[e]<;>decide
 unfold setAddHashed setAddHashedIn;refine QN (zb (QQ ho hd fit ?_));dsimp only;have hb:byScan (.ref b) es=false:=by unfold byScan;rfl
 rw[hb];simp only[zl,ZO];unfold setSearch;refine zb (search hu ho hd x hk n1 n2 n3 (λhm=>?_) (λhm=>?_) N 0 100000 none (by omega) (by omega) rfl λm hm=>absurd hm (js _))
 ·dsimp only;exact ze (h _ s.heap zs (Heap.SameBut.refl a s.heap) hS (λz=>⟨.inl,λq=>q.elim id λq=>absurd hm q.2⟩) (Kj _))
 ·dsimp only;refine zb (QQ ho hd fit ?_);dsimp only;have hj:=R5 (mask:=t.mask) (cL prog w ks) N;have hm7:es.size+1<=t.mask:=by rcases x.tok.mask with e|e|e<;>rw[e] at hld ⊢<;>omega
  obtain⟨pt,pl,pp,pm⟩:=ab6 (x:=.ref b) x.tok n1 n2 n3 hj hm7;generalize hP:t.put (gR t.mask (cL prog w ks) N).j=P at pt pl pp pm ⊢;obtain⟨t1,p⟩:=P;dsimp only at pt pl pp pm ⊢;have hil:(SetTable.insertAt es p (cL prog w ks,.ref b)).toList.Perm (es.toList++[(cL prog w ks,.ref b)]):=by
   rw[zu];refine(List.perm_middle).trans ?_;rw[List.take_append_drop];exact(List.perm_append_singleton _ _).symm
  have r0:Paired (TE prog w s.heap) (zs++[(ks,b)]) (es.toList++[(cL prog w ks,.ref b)]):=RX x.rel (.cons ⟨rfl,hk⟩ .nil);obtain⟨zs1,q1,r1⟩:=BZ hil r0;have nd1:(zs1.map (·.1)).Nodup:=(q1.map (·.1)).nodup_iff.mpr (by
   rw[qo];exact List.nodup_append.mpr ⟨x.nd,by simp,λu hu' v hv=>by simp at hv;subst hv;exact λe=>hm (e▸hu')⟩)
  have m1:∀ z,z∈zs1↔z∈zs\/(z=(ks,b)/\ks∉zs.map (·.1)):=λz=>by
   rw[q1.mem_iff,List.mem_append,List.mem_singleton];exact⟨λq=>q.imp id λe=>⟨e,hm⟩,λq=>q.imp id λe=>e.1⟩
  have l1:zs1.length=zs.length+1:=by rw[q1.length_eq];simp
  have s1:(SetTable.insertAt es p (cL prog w ks,Value.ref b)).size=es.size+1:=vJ _ _ _;have up:∀ (hp:Heap) (ob:Obj) (e1 e2:Array (Int×Value)) (n1:Nat) (u1 u2:SetTable),hp.get? a=some ob->ob.data=.set e1 n1 u1->(hp.update a (Obj.putSet e2 u2)).get? a=some { ob with data:=.set e2 (n1+1) u2 }:=λhp ob e1 e2 n1 u1 u2 g q=>by
   have:=k8 (Obj.putSet e2 u2) g (by rw[putSet_of e2 u2 q];rfl);rw[putSet_of e2 u2 q] at this;exact this
  have kp:∀ {h':Heap},Heap.SameBut a s.heap h'->∀ c oc,s.heap.get? c=some oc->oc.cls=.type "tuple" → h'.get? c=some oc:=λsb c oc e ec=>by
   rw[sb.2 c λq=>by subst q;rw[ho] at e;cases e;exact hcl ec];exact e
  have fin:∀ t2:SetTable,Tok t2 (SetTable.insertAt es p (cL prog w ks,.ref b))->t2.led=t1.led->t2.plain=false->t2.mask=t1.mask->wpAny (model prog w) A (do
    storeSet a (SetTable.insertAt es p (cL prog w ks,.ref b)) t2
    if(!false&&t2.tooFull)=true then setRelay a (SetTable.grown (es.size+1))
    pure true) Q E s:=by
   intro t2 k2 l2 p2 m2;have g1:=up s.heap o es (SetTable.insertAt es p (cL prog w ks,.ref b)) ep t t2 ho hd;refine zb (wpAny_storeSet_of ho hd ?_ (fits_of_scanBound (by rw[s1];have:scanBound=4096:=rfl;omega)));have sb1:Heap.SameBut a s.heap (s.heap.update a (Obj.putSet (SetTable.insertAt es p (cL prog w ks,.ref b)) t2)):=Heap.SameBut.update ..;have hfill:t2.fill=es.size+1:=by unfold SetTable.fill;rw[k2.dum,k2.size,s1];rfl
   have ahi:w.params.followText "set-order" = false->t2.led=true:=λq=>l2.trans (pl.trans (x.led q));by_cases zy:t2.tooFull=true
   ·rw[zy];simp only[kz,Bool.and_self,qA];have hf:t2.fill * 5>=t2.mask * 3:=by unfold SetTable.tooFull at zy;simpa using zy
    rw[hfill,m2,pm] at hf;have hg:SetTable.grown (es.size+1)=(es.size+1) * 4:=by unfold SetTable.grown;rw[zw (by omega)]
    have cas:(es.size=4/\t.mask=7)\/(es.size=18/\t.mask=31):=by
     rcases x.tok.mask with e|e|e<;>rw[e] at hf hld
     ·exact .inl ⟨by omega,e⟩
     ·exact .inr ⟨by omega,e⟩
     ·omega
    have hsa:(es.size=4->SetTable.sizeAbove (SetTable.grown (es.size+1))=32)/\(es.size=18->SetTable.sizeAbove (SetTable.grown (es.size+1))=128):=by
     rw[hg];exact⟨λe=>by rw[e];decide,λe=>by rw[e];decide⟩
    have hms:SetTable.sizeAbove (SetTable.grown (es.size+1)) - 1=31/\es.size=4\/SetTable.sizeAbove (SetTable.grown (es.size+1)) - 1=127/\es.size=18:=by
     rcases cas with⟨e,_⟩|⟨e,_⟩
     ·exact .inl ⟨by rw[hsa.1 e],e⟩
     ·exact .inr ⟨by rw[hsa.2 e],e⟩
    obtain⟨t3,order,e3,pr3,k3,l3,p3,m3⟩:=Wg (t:=t2) (es:=SetTable.insertAt es p (cL prog w ks,.ref b)) (wanted:=SetTable.grown (es.size+1)) (by rcases hms with⟨e,_⟩|⟨e,_⟩<;>rw[e]<;>simp) (by rw[s1];rcases hms with⟨e,e'⟩|⟨e,e'⟩<;>rw[e,e']<;>decide);unfold setRelay;refine zb (zb (QQ g1 rfl k2.fits ?_));dsimp only;have hsl:¬ (SetTable.sizeAbove (SetTable.grown (es.size+1)) > sizeLine):=by
     rcases cas with⟨e,_⟩|⟨e,_⟩
     ·rw[hsa.1 e];decide
     ·rw[hsa.2 e];decide
    rw[zw hsl];have sz3:(order.filterMap (λi=>(SetTable.insertAt es p (cL prog w ks,Value.ref b))[i]?)).size=(SetTable.insertAt es p (cL prog w ks,Value.ref b)).size:=by
     rw[<-ZZ,pr3.length_eq,ZZ]
    rw[e3];refine zb ?_;show wpAny _ _ (if((order.filterMap (λi=>(SetTable.insertAt es p (cL prog w ks,Value.ref b))[i]?)).size != (SetTable.insertAt es p (cL prog w ks,Value.ref b)).size)=true then _ else pure (order.filterMap (λi=>(SetTable.insertAt es p (cL prog w ks,Value.ref b))[i]?),t3)) _ _ _;rw[zw (by rw[sz3];simp)];refine ze ?_;dsimp only;refine wpAny_storeSet_of g1 rfl ?_ (fits_of_scanBound (by rw[sz3,s1];have:scanBound=4096:=rfl;omega));have g2:=up _ _ (SetTable.insertAt es p (cL prog w ks,.ref b)) (order.filterMap (λi=>(SetTable.insertAt es p (cL prog w ks,Value.ref b))[i]?)) _ t2 t3 g1 rfl;have sb2:Heap.SameBut a s.heap ((s.heap.update a (Obj.putSet (SetTable.insertAt es p (cL prog w ks,.ref b)) t2)).update a (Obj.putSet (order.filterMap (λi=>(SetTable.insertAt es p (cL prog w ks,Value.ref b))[i]?)) t3)):=sb1.trans (Heap.SameBut.update ..);obtain⟨zs2,q2,r2⟩:=BZ pr3 r1;refine ze (h _ _ zs2 sb2 ⟨_,_,_,t3,g2,hex,rfl,⟨Pa (kp sb2) r2,(q2.map (·.1)).nodup_iff.mpr nd1,k3,?_,λq=>l3.trans (ahi q),λ_=>p3.trans p2⟩⟩ (λz=>by rw[q2.mem_iff];exact m1 z) (by rw[q2.length_eq];omega));rw[sz3,s1,m3];rcases hms with⟨e,e'⟩|⟨e,e'⟩<;>rw[e,e']<;>decide
   ·have zy:t2.tooFull=false:=by simpa using zy
    rw[zy];simp only[KP,zl,ZO];refine zb (ze ?_);refine ze (h _ _ zs1 sb1 ⟨_,_,_,t2,g1,hex,rfl,⟨Pa (kp sb1) r1,nd1,k2,?_,ahi,λ_=>p2⟩⟩ m1 (by omega));unfold SetTable.tooFull at zy;rw[hfill] at zy;rw[s1];simpa using zy
  split
  ·refine zb (YZ hk hx ?_);simp only[zl,ZO];exact fin { t1 with plain:=false } (Wh pt) rfl rfl rfl
  ·rename_i hp;refine zb (ze ?_);simp only[qA];exact fin t1 pt rfl (by simpa using hp) rfl
end
end S6
end
section
namespace S1
open PySem PySem.Spec PyProof.Rows L2
section
variable {prog:Program} {w:World} {A:Around} {E:VP_} {s:Shared}
theorem R7 {x:Value} (G:List Value->Prop) (kd:SortKind) (rk:List Value->Value->Nat) {Q:VP_} (aeZ:∀ (E':VP_) (Q':List Value->Shared->Prop),(∀ vs h' d tk,G vs->s.heap.objs.size<=h'.objs.size->(∀ c o,s.heap.get? c=some o->h'.get? c=some o)->Q' vs { s with heap:=h',drawn:=d,toks:=tk })->wpAny (model prog w) A.in1 (collect x) Q' E' s)
  (hK:∀ vs,G vs->2<=vs.length->∀ (E':VP_) (A':Around) (s':Shared),(∀ c o,s.heap.get? c=some o->s'.heap.get? c=some o)->∀ Q:SortKind->Shared->Prop,Q kd s'->wpAny (model prog w) A' (keyKind' vs.toArray) Q E' s') (hC:∀ vs,G vs->∀ (A':Around) (s':Shared),(∀ c o,s.heap.get? c=some o->s'.heap.get? c=some o)->Xd prog w A' s' kd (rk vs) (pairsOf vs)) (h64:∀ vs,G vs->vs.length < 64)
  (h:∀ vs,G vs->∀ (l:Addr) (h':Heap) (d:Drawn) (tk n:Nat) (st:SortSt),(arrOf st).Perm (pairsOf vs)->Up (rk vs) (arrOf st) (pairsOf vs).size->s.heap.objs.size<=l->(∀ c o,s.heap.get? c=some o->h'.get? c=some o)->h'.get? l=some (seqObj "list" ((arrOf st).map (·.2)) n)->Q (.ref l) { s with heap:=h',drawn:=d,toks:=tk }) :
  wpAny (model prog w) A (call (.builtin "sorted") [x]) Q E s:=by
 refine Calls.call_function_entry kind_sorted plain_sorted entry_sorted (args_sorted1 _) ?_;unfold Builtin.«sorted»;refine zb (m:=checkCount "sorted" 1 1 _) (ze (zb (aeZ _ _ λvs h1 d tk hG hle ext=>?_)));have akQ:=h64 vs hG;refine zb (wpAny_newList ?_);have hoL:(h1.push (seqObj "list" vs.toArray 0)).get? h1.objs.size=some (seqObj "list" vs.toArray 0):=zv _ rfl;have old:∀ s':Shared,Old h1.objs.size { s with heap:=h1.push (seqObj "list" vs.toArray 0),drawn:=d,toks:=tk } s'->∀ c o,s.heap.get? c=some o->s'.heap.get? c=some o:=λs' q c o e=>
  q c o (zD (zz (ext c o e))) (zd _ (ext c o e))
 refine zb (QN (kg slot_list_sort ⟨_,hoL,rfl⟩ entry_list_sort (ado hoL (λq s' o=>hK vs hG q _ _ s' (old s' o)) (λs' o=>hC vs hG _ s' (old s' o)) (h64 vs hG) λst q1 q2=>⟨_,rfl,ze ⟨_,rfl,?_⟩⟩) (args_list_sort _)));obtain⟨n,en⟩:=sortedHeap_at (out:=(arrOf st).map (·.2)) hoL;refine h vs hG h1.objs.size _ d tk n st q1 q2 hle (λc o e=>?_) en;have hb:=zz (ext c o e);rw[sortedHeap_old (zD hb) (by rw[qh];exact qE hb)];exact zd _ (ext c o e)
end
end S1
end
section
namespace P1
open PySem PySem.Spec PyProof.Rows L2 S6
section
variable {X:Cx}
theorem Wi {pins:List (Addr×Obj)} {σ:L2.St} {H:Hp} {s:Shared} {d:Drawn} (I:Inv X pins σ H s):Inv X pins σ H { s with drawn:=d }:=⟨I.ok,I.os,I.bare,I.base,I.loc,I.cell,I.free,I.qm,I.pin,I.hok,I.len⟩
variable {x:Str} {e:Expr} {f:Ev->Option Bx} {fs:Ev->Option LS_} {p pos:Pos}
end
section
variable {X:Cx}
end
section
variable {X:Cx} {elt tgt iter:Expr} {ifs:List Expr} {scope:Scope} {cl:List (Str×Addr)} {pos:Pos} {xs ts:LS_} {is:List Nat} {gt:Dt->Ev->Option Ev} {p:Ev->Option Bool} {fe:Ev->Option Bx} {fi:Ev->Option (List Dt)}
end
section
variable {X:Cx} {elt tgt iter:Expr} {ifs:List Expr} {scope:Scope} {cl:List (Str×Addr)} {pos:Pos} {xs:LS_} {is:List Nat} {gt:Dt->Ev->Option Ev} {p:Ev->Option Bool} {fe:Ev->Option Bx} {fi:Ev->Option (List Dt)}
variable {e:Expr} {f:Ev->Option Bx} {fs:Ev->Option LS_} {p':Pos}
end
end P1
end
section
namespace P1
open PySem PySem.Spec PyProof.Rows L2 S1 S6
section
variable {X:Cx}
def Ts (prog:Program) (w:World) (h:Heap) (a:Addr) (zs:List (List Key×Addr)):Prop:=∃ o es ep t,h.get? a=some o/\o.ExactSet/\o.data=.set es ep t/\es.toList=zs.map (λz=>(cL prog w z.1,(.ref z.2:Value)))/\t.fits es.size=true/\(w.params.followText "set-order" = false->t.led=true)/\(0 < es.size->t.plain=false)
theorem Pb {prog:Program} {w:World} {h:Heap}:∀ {zs:List (List Key×Addr)} {l:List (Int×Value)},Paired (TE prog w h) zs l->l=zs.map (λz=>(cL prog w z.1,(.ref z.2:Value)))
 |_,_,.nil=>rfl
 |_,_,.cons r t=>by rw[zr,<-Pb t,r.1]
theorem Ts.of {prog:Program} {w:World} {h:Heap} {a:Addr} {zs:List (List Key×Addr)} (x:Tu prog w h a zs):Ts prog w h a zs:=
 let ⟨o,es,ep,t,e,r,d,q⟩:=x;⟨o,es,ep,t,e,r,d,Pb q.rel,q.tok.fits,q.led,q.non⟩
theorem Ts.keep {prog:Program} {w:World} {h h':Heap} {a:Addr} {zs:List (List Key×Addr)} (x:Ts prog w h a zs) (k:∀ o,h.get? a=some o->h'.get? a=some o):Ts prog w h' a zs:=
 let ⟨o,es,ep,t,e,r⟩:=x;⟨o,es,ep,t,k o e,r⟩
def hoU (X:Cx) (a:Addr) (zs:List (List Key×Addr)):HO:=.ext λh=>Ts X.prog X.w h a zs
theorem Y0 (X:Cx) {ks:List Key} {us:List Value} (h:Ks ks us):ItemsAre (aX X.prog X.w) ks us:=by
 induction h with
 |nil=>exact .nil
 |cons r _ ih=>exact .cons r ih
theorem Y4 (X:Cx) {ks:List Key} {us:List Value} (h:ItemsAre (aX X.prog X.w) ks us):Ks ks us:=by
 induction h with
 |nil=>exact .nil
 |cons r _ ih=>exact .cons r ih
theorem Pg (X:Cx) {h:Heap} {ks:List Key} {v:Value} (q:jN h ks v):∃ b,v=.ref b/\IsTupleKey (aX X.prog X.w) h ks b:=by
 obtain⟨a,o,its,n,e,g,c,d,p⟩:=q;exact⟨a,e,o,its.toArray,n,g,c,d,by simpa using Y0 X p⟩
theorem Y5 (X:Cx) {h:Heap} {ks:List Key} {b:Addr} (q:IsTupleKey (aX X.prog X.w) h ks b):jN h ks (.ref b):=by
 obtain⟨o,its,n,g,c,d,p⟩:=q;exact⟨b,o,its.toList,n,rfl,g,c,by simpa using d,Y4 X p⟩
def ahk (X:Cx):List V->Hp->VK->Prop:=λxs H Q=>∃ v b ds cY,xs=[v]/\aU X.K H b v/\qZ b=some ds/\tL ds=some cY/\cY.length<=64/\(∀ k∈cY,Txs k) ∧
 ∀ a zs H',Same H H'->H' a=some (hoU X a zs)->(∀ k,k∈zs.map (·.1)↔k∈cY)->(zs.map (·.1)).Nodup->(∀ z∈zs,Rep X.K H' (tupK z.1) (.ref z.2))->Q (.ref a) H'
def CU (X:Cx) (S:Addr) (its:List Value) (h:Heap) (ys:List (List Key)):Prop:=∃ zs,zs.map (·.1)=ys/\Tu X.prog X.w h S zs/\∀ z∈zs,(.ref z.2:Value)∈its
theorem zA {h:Heap}:∀ {cY:List (List Key)} {vs:List Value},Paired (jN h) cY vs->∀ {i:Nat} {v:Value},vs[i]?=some v->∃ k,cY[i]?=some k/\jN h k v
 |_,_,.nil,i,v,q=>by simp at q
 |_,_,.cons r _,0,v,q=>by simp at q;subst q;exact⟨_,rfl,r⟩
 |_,_,.cons _ t,i+1,v,q=>by
  rw[ZT] at q;obtain⟨z,z1,z2⟩:=zA t q;exact⟨z,by rw[ZT];exact z1,z2⟩
theorem Ph {h0:Heap} {S:Addr} {cY:List (List Key)} {its:List Value} (hs:Paired (jN h0) cY its) (hl:cY.length<=64) (hx:∀ k∈cY,Txs k) (hS:h0.objs.size=S):Adds X.prog X.w S [S+1] (λh zs=>(∀ b o,h0.get? b=some o->h.get? b=some o)/\CU X S its h zs) (λi v=>its.toArray[i]?=some v) (λi=>cY.getD i []) its.length where
 keep:=λh h' ys t k=>by
  obtain⟨t0,zs,e,t,m⟩:=t;have k':∀ b o,(b=S\/b < S)->h.get? b=some o->h'.get? b=some o:=λb o hb e=>k b o (by
   simp only[QR,j0,or_false];rcases hb with rfl|hb
   ·exact zD (qa _)
   ·exact zD (qE hb)) e
  have old:∀ b o,h0.get? b=some o->h'.get? b=some o:=λb o e=>k' b o (.inr (by rw[<-hS];exact zz e)) (t0 b o e);refine⟨old,zs,e,?_,m⟩;obtain⟨o,es,ep,tt,g,r,d,q⟩:=t;refine⟨o,es,ep,tt,k' S o (.inl rfl) g,r,d,⟨?_,q.nd,q.tok,q.load,q.led,q.non⟩⟩;have key:∀ {zs:List (List Key×Addr)} {l:List (Int×Value)},Paired (TE X.prog X.w h) zs l->(∀ z∈zs,(.ref z.2:Value)∈its)->Paired (TE X.prog X.w h') zs l:=by
   intro zs l r
   induction r with
   |nil=>intro _;exact .nil
   |cons q _ ih=>
    intro m;refine .cons ⟨q.1,Uu q.2 λo e c=>?_⟩ (ih λz hz=>m z (zg _ hz));obtain⟨i,hi,ei⟩:=Q2 (m _ (zh ..));obtain⟨kk,_,tv⟩:=zA hs (show its[i]?=some _ by rw[z4 hi,ei]);obtain⟨b,eb,⟨ob,_,_,gb,_⟩⟩:=Pg X tv;cases eb;exact k' _ o (.inr (by rw[<-hS];exact zz gb)) e
  exact key q.rel m
 add:=λA E s i v ys Q hu hi hP hC hz h=>by
  obtain⟨t0,zs,e,t,m⟩:=hC;have hP:its[i]?=some v:=by simpa using hP
  obtain⟨ks,e1,tv⟩:=zA hs hP;have tv':=tv.keep t0;obtain⟨b,rfl,hk⟩:=Pg X tv';have hv:cY.getD i []=ks:=by simp[List.getD,e1]
  have hlen:its.length=cY.length:=hs.length.symm;have hyl:zs.length=ys.length:=by rw[<-e,zo]
  unfold setAdd;refine QN (zb (wpAny_pyHash_tuple hu hk ?_));refine ace (s:={ s with toks:=s.toks+(ks.length+1) }) hu t hk (hx ks (Z3 e1)) (by omega) λr h' zs' sb t' mm l=>?_;refine h r h' _ (zs'.map (·.1)) sb ⟨λc o g=>?_,zs',rfl,t',λz hz=>?_⟩ (λz=>?_) (by rw[zo];omega) (Nat.le_add_right _ _)
  ·rw[sb.2 c λq=>by subst q;have:=zz g;rw[hS] at this;exact jS _ this];exact t0 c o g
  ·rcases(mm z).mp hz with q|⟨q,_⟩
   ·exact m z q
   ·subst q;exact Z3 hP
  ·rw[hv,<-e,kP,kP];constructor
   ·rintro⟨y,hy,rfl⟩;rcases(mm y).mp hy with q|⟨q,_⟩
    ·exact .inl ⟨y,q,rfl⟩
    ·exact .inr (congrArg Prod.fst q)
   ·rintro(⟨y,hy,ey⟩|ez)
    ·exact⟨y,(mm y).mpr (.inl hy),ey⟩
    ·rw[ez];by_cases q:ks∈zs.map (·.1)
     ·obtain⟨y,hy,ey⟩:=List.mem_map.mp q;exact⟨y,(mm y).mpr (.inl hy),ey⟩
     ·exact⟨(ks,b),(mm _).mpr (.inr ⟨rfl,q⟩),rfl⟩
theorem acf (hc:X.calm=true) (hu:X.A.units+100 < cLine):fX X (.type "set") (ahk X):=by
 intro pins s σ H xs us Q I r h;obtain⟨v,b,ds,cY,rfl,rb,ed,ek,hl,hx,q⟩:=h;obtain⟨u,rfl,ru⟩:=vals1 r;obtain⟨p,vs,rfl,sq,rs⟩:=DK rb ed;have eds:=Bk ek;subst eds;cases ru;have hh:=I.ok.hd hc;have fin:∀ (h':Heap) (tk:Nat) (ys:List (List Key)) (its:List Value),Vals vs its->((∀ b o,s.heap.get? b=some o->h'.get? b=some o)/\CU X s.heap.objs.size its h' ys)->(∀ z,z∈ys↔∃ j,j < its.length/\z=cY.getD j [])->(∀ b ob,s.heap.get? b=some ob->h'.get? b=some ob)->EP X pins σ Q (.ref s.heap.objs.size) { s with heap:=h',toks:=tk }:=by
  intro h' tk ys its rv cu hm k;obtain⟨_,zs,e,t,m⟩:=cu;have hfr:=I.hok.fresh (zi s.heap.objs.size);have hlen:its.length=cY.length:=by rw[<-rv.length,rs.length,zo]
  have tv:=qx I rs rv;refine⟨.ref s.heap.objs.size,_,I.laid (t':=tk) (a:=s.heap.objs.size) (o:=hoU X s.heap.objs.size zs) k (zi _) ?_,rfl,q _ zs _ (bQ hfr) bG (λz=>?_) ?_ λz hz=>?_⟩
  ·obtain⟨o,es,ep,t',ho,_⟩:=id t;exact⟨Ts.of t,⟨o,ho⟩,λh1 h2 t1 k1=>Ts.keep t1 k1⟩
  ·rw[e,hm z];constructor
   ·rintro⟨j,hj,rfl⟩;rw[hlen] at hj;simp[List.getD,hj]
   ·intro hz;obtain⟨j,hj,e⟩:=Q2 hz;exact⟨j,by rw[hlen];exact hj,by simp[List.getD,hj,e]⟩
  ·obtain⟨o,es,ep,t',ho,_,_,x⟩:=t;exact x.nd
  ·obtain⟨o,es,ep,t',ho,_,_,x⟩:=t;obtain⟨i,hi,ei⟩:=Q2 hz;obtain⟨ee,_,te⟩:=zx x.rel (show zs[i]?=some z by rw[z4 hi,ei]);have tz:=Y5 X te.2;have hz':=m z hz;obtain⟨j,hj,ej⟩:=Q2 hz';obtain⟨kk,_,tv1⟩:=zA tv (show its[j]?=some (.ref z.2) by rw[z4 hj,ej]);have ek:kk=z.1:=(tv1.keep k).inj tz;obtain⟨w1,r1,r2⟩:=Bl I rs rv (Xe:=[kk]) (out:=[.ref z.2]) (.cons tv1 .nil) (λu hu=>by cases List.mem_singleton.mp hu;exact hz');cases r1 with
   |@cons w0 _ _ _ r0 r1=>
    cases r1;simp only[zr,ka,aK] at r2;obtain⟨v0,r',ev,q0,_⟩:=r2;simp only[JO] at ev;rw[<-ev.1] at q0;have hw:w0=V.ref z.2:=by
     have q1:=q0;simp only[tupK,Rep] at q1;obtain⟨a0,ws,e0,_⟩:=q1;subst e0;cases r0;rfl
    rw[<-ek,<-hw];exact q0.kp (.of (bQ hfr))
 have Y6:∀ h':Heap,h'.get? s.heap.objs.size=some (blank X.w)->∀ its:List Value,CU X s.heap.objs.size its h' []:=λh' e its=>
  ⟨[],rfl,⟨_,#[],0,_,e,⟨rfl,rfl,rfl⟩,rfl,⟨.nil,KI,{ mask:=.inl rfl,dum:=rfl,rise:=λi j _ hj=>absurd hj (js _),bd:=λj hj=>by simp[SetTable.fresh] at hj,full:=QI _,size:=rfl,reach:=λi j e h1=>by simp[SetTable.fresh] at h1 },(show 0 * 5 < 7 * 3 by decide),λq=>by simp[SetTable.fresh,q],λq=>absurd q (jS _)⟩⟩,λz hz=>by cases hz⟩
 rcases sq with sq|sq
 ·obtain⟨its,r',pl,hz⟩:=I.list sq;obtain⟨o,g,c,n,d⟩:=pl.isList;refine YH (by omega) (T := "list") hh g c (.inl rfl) (P:=λi v=>its.toArray[i]?=some v) (n:=its.length) (λA' E' Q' h0 hA k0 hq=>?_) (Ph (qx I rs r') hl hx rfl) (λh' e k=>⟨k,Y6 h' e its⟩) λh' tk zs tx hm k=>fin h' tk zs its r' tx hm k;refine wpAny_pyIter_list (items:=its.toArray) ⟨o,k0 _ _ g,c,n,d⟩ ?_;have hne:p≠h0.objs.size:=zD (zz (k0 _ _ g));refine hq _ (λi h=>h.IsListIter h0.objs.size p i/\h.IsList p its.toArray) (λA' hA=>by have:=Walks.list (prog:=X.prog) (w:=X.w) hA h0.objs.size p hne its.toArray;rw[zt] at this;exact this) ⟨⟨_,zv _ rfl,rfl,rfl⟩,⟨o,zd _ (k0 _ _ g),c,n,d⟩⟩ λb ob e=>zd _ e
 ·obtain⟨its,r',pl,hz⟩:=I.tuple sq;obtain⟨o,g,c,n,d⟩:=id pl;refine YH (by omega) (T := "tuple") hh g c (.inr rfl) (P:=λi v=>its.toArray[i]?=some v) (n:=its.length) (λA' E' Q' h0 hA k0 hq=>?_) (Ph (qx I rs r') hl hx rfl) (λh' e k=>⟨k,Y6 h' e its⟩) λh' tk zs tx hm k=>fin h' tk zs its r' tx hm k;refine wpAny_pyIter_tuple (items:=its.toArray) ⟨o,k0 _ _ g,c,n,d⟩ ?_;have hne:p≠h0.objs.size:=zD (zz (k0 _ _ g));refine hq _ (λi h=>h.IsTupleIter h0.objs.size p i/\h.IsTuple p its.toArray) (λA' hA=>by have:=Walks.tuple (prog:=X.prog) (w:=X.w) hA h0.objs.size p hne its.toArray;rw[zt] at this;exact this) ⟨⟨_,zv _ rfl,rfl,rfl⟩,⟨o,zd _ (k0 _ _ g),c,n,d⟩⟩ λb ob e=>zd _ e
theorem ae7 {pins:List (Addr×Obj)} {σ:L2.St} {H:Hp} {s:Shared} (I:Inv X pins σ H s) {a:Addr} {zs:List (List Key×Addr)} (h:H a=some (hoU X a zs)):Ts X.prog X.w s.heap a zs:=(I.hok _ _ h).1
def ahl (X:Cx):List V->Hp->VK->Prop:=λxs H Q=>∃ a zs,xs=[.ref a]/\H a=some (hoU X a zs)/\CQ (zs.map (·.1))=true/\(∀ z∈zs,Rep X.K H (tupK z.1) (.ref z.2))/\∀ l H' us,Same H H'->H l=none->H' l=some (.lst us)->aK X.K H' ((kY (zs.map (·.1))).map tupK) us->Q (.ref l) H'
theorem acg (hc:X.calm=true):fX X (.builtin "sorted") (ahl X):=by
 intro pins s σ H xs us Q I r h;obtain⟨a,zs,rfl,ha,hs,hrep,q⟩:=h;obtain⟨u,rfl,ru⟩:=vals1 r;cases ru;simp only[CQ,ZA,z5,ZY,Qr] at hs;obtain⟨h64,hne,hsh⟩:=hs;rw[zo] at h64;obtain⟨o,es,ep,t,ho,hex,hd,hl',ft,ai1,ahm⟩:=ae7 I ha;have hz:es.size=zs.length:=by rw[<-ZZ,hl',zo]
 have wk:Wk X.w s.heap a es ep t:=⟨⟨o,ho,hex.1,hd⟩,ft,ai1,λq=>ahm (by omega)⟩;have rs0:aK X.K H ((zs.map (·.1)).map tupK) (zs.map λz=>(V.ref z.2))/\Vals (zs.map λz=>(V.ref z.2)) (zs.map λz=>(.ref z.2:Value)):=by
  clear hl' ha q h64 hne hsh hz wk ahm
  induction zs with
  |nil=>exact⟨aK.nil,.nil⟩
  |cons z zs ih=>
   obtain⟨i1,i2⟩:=ih λy hy=>hrep y (zg _ hy);exact⟨aK.cons (hrep z (zh ..)) i1,.cons rfl i2⟩
 have tv0:=qx I rs0.1 rs0.2;have tz:∀ z∈zs,jN s.heap z.1 (.ref z.2):=λz hz'=>by
  have:=qx I (cY:=[z.1]) (vs:=[V.ref z.2]) (its:=[.ref z.2]) (aK.cons (hrep z hz') aK.nil) (.cons rfl .nil);cases this with
  |cons q' _=>exact q'
 refine R7 (λvs=>∃ ys:List (List Key×Addr),ys.Perm zs/\vs=ys.map λz=>(.ref z.2:Value)) (tuples' true) (λvs v=>rank (vs.map λu=>keyOf (zs.map (·.1)) (zs.map λz=>(.ref z.2:Value)) u) (keyOf (vs.map λu=>keyOf (zs.map (·.1)) (zs.map λz=>(.ref z.2:Value)) u) vs v))
  (λE' Q' hq=>O5 (by exact I.ok.hd hc) wk (by rw[hz,sizeLine_eq];omega) λord h1 d tk hp hle ext=>hq ord h1 d tk ?_ hle ext) ?_ ?_ ?_ ?_
 ·rw[hl',qV] at hp;have:∀ {ord vs:List Value},ord.Perm vs->∀ zs:List (List Key×Addr),vs=zs.map (λz=>(.ref z.2:Value))->∃ ys:List (List Key×Addr),ys.Perm zs/\ord=ys.map λz=>(.ref z.2:Value):=by
   intro ord vs hp
   induction hp with
   |nil=>intro zs e;cases zs with|nil=>exact⟨[],.refl _,rfl⟩|cons _ _=>cases e
   |cons y _ ih=>
    intro zs e;cases zs with
    |nil=>cases e
    |cons z zs=>
     rw[zr] at e;injection e with e1 e2;obtain⟨ys,p1,p2⟩:=ih zs e2;exact⟨z::ys,p1.cons _,by rw[zr,e1,p2]⟩
   |swap y1 y2 l=>
    intro zs e
    match zs,e with
    |z1::z2::zs,e=>
     simp only[zr,JO] at e;exact⟨z2::z1::zs,List.Perm.swap _ _ _,by simp only[zr];rw[e.1,e.2.1,e.2.2]⟩
    |[_],e=>simp at e
    |[],e=>cases e
   |trans _ _ ih1 ih2=>
    intro zs e;obtain⟨ys,p1,p2⟩:=ih2 zs e;obtain⟨us,q1,q2⟩:=ih1 ys p2;exact⟨us,q1.trans p1,q2⟩
  exact this hp zs rfl
 all_goals
  intro vs hG;obtain⟨ys,py,rfl⟩:=hG;have hm:∀ v∈(ys.map λz=>(.ref z.2:Value)),v∈(zs.map λz=>(.ref z.2:Value)):=λv hv=>((py.map _).mem_iff).mp hv;have tvK:∀ v∈(ys.map λz=>(.ref z.2:Value)),jN s.heap (keyOf (zs.map (·.1)) (zs.map λz=>(.ref z.2:Value)) v) v:=λv hv=>(lW tv0 v (hm v hv)).2;have tv:=xZ tvK;have eks:(ys.map λz=>(.ref z.2:Value)).map (λu=>keyOf (zs.map (·.1)) (zs.map λz=>(.ref z.2:Value)) u)=ys.map (·.1):=by
   rw[qV];refine jv λz hz=>?_;have hz':=py.mem_iff.mp hz;exact(tvK (.ref z.2) (List.mem_map.mpr ⟨z,hz,rfl⟩)).inj (tz z hz')
  have mk:∀ k∈(ys.map λz=>(.ref z.2:Value)).map (λu=>keyOf (zs.map (·.1)) (zs.map λz=>(.ref z.2:Value)) u),k∈zs.map (·.1):=λk hk=>by
   rw[eks] at hk;exact((py.map _).mem_iff).mp hk
 ·intro h2 E' A' s' k Q' hq;exact JC (Paired.imp' (λ_ _ z=>jN.keep z k) tv) (λk hk=>by have:=hne k (mk k hk);cases k with|nil=>cases this|cons _ _=>exact List.cons_ne_nil _ _) (λk hk l hl=>Ft (hsh k (mk k hk) l (mk l hl))) (by omega) hq
 ·intro A' s' k;exact Ov (Paired.imp' (λ_ _ z=>jN.keep z k) tv) λk hk l hl=>Ft (hsh k (mk k hk) l (mk l hl))
 ·rw[zo,py.length_eq];exact h64
 ·intro l h' d tk n st hp up hl ext hL;have out:=Ox tv hp up;have mem:∀ u∈((arrOf st).map (·.2)).toList,u∈(ys.map λz=>(.ref z.2:Value)):=λu hu=>by
   rw[Array.toList_map] at hu;obtain⟨pr,hpr,rfl⟩:=List.mem_map.mp hu;have ae2:pr∈(ys.map λz=>(.ref z.2:Value)).zip (ys.map λz=>(.ref z.2:Value)):=by rw[<-pairsOf_toList];exact(Array.perm_iff_toList_perm.mp hp).mem_iff.mp hpr
   have:=mem_zip_self ae2;rw[<-this.1];exact this.2
  have hH:H l=none:=I.hok.fresh hl;have back:∀ {Xe:List (List Key)} {out:List Value},Paired (jN s.heap) Xe out->(∀ u∈out,u∈(ys.map λz=>(.ref z.2:Value)))->∃ ws,Vals ws out/\aK X.K H (Xe.map tupK) ws:=by
   intro Xe out pr
   induction pr with
   |nil=>intro _;exact⟨[],.nil,aK.nil⟩
   |cons q0 _ ih=>
    intro hm';obtain⟨ws,w1,w2⟩:=ih λu hu=>hm' u (zg _ hu);obtain⟨z,hz,ez⟩:=List.mem_map.mp (hm' _ (zh ..));subst ez;have hz':=py.mem_iff.mp hz;have ek:=q0.inj (tz z hz');refine⟨.ref z.2::ws,.cons rfl w1,?_⟩;rw[zr,ek];exact aK.cons (hrep z hz') w2
  obtain⟨ws,w1,w2⟩:=back out mem;rw[eks] at w2;have es:kY (ys.map (·.1))=kY (zs.map (·.1)):=rT ((nF _).trans (py.map _)) (vG _);rw[es] at w2;have hzl:ws.length=zs.length:=by rw[w2.length,zo,(nF _).length_eq,zo]
  refine⟨.ref l,_,Wi (d:=d) (I.laid (t':=tk) (a:=l) (o:=.lst ws) ext hl ⟨by rw[hzl,sizeLine_eq];omega,_,n,w1,?_⟩),rfl,q _ _ ws (bQ hH) hH bG (w2.kp (.of (bQ hH)))⟩;rw[hL]
end
def HX {α:Type} [DecidableEq α]:List α->List α
 |[]=>[]
 |y::ys=>if y∈ys then HX ys else y::HX ys
section
variable {α:Type} [DecidableEq α]
theorem qy:∀ {ys:List α} {z:α},z∈HX ys↔z∈ys
 |[],z=>by simp[HX]
 |y::ys,z=>by
  unfold HX;split
  ·rename_i h;rw[qy,QR];exact⟨.inr,λq=>q.elim (λe=>e▸h) id⟩
  ·rw[QR,QR,qy]
theorem FN:∀ (ys:List α),(HX ys).Nodup
 |[]=>KI
 |y::ys=>by
  unfold HX;split
  ·exact FN ys
  ·rename_i h;exact List.nodup_cons.mpr ⟨λq=>h (qy.mp q),FN ys⟩
theorem zB:∀ (ys:List α),(HX ys).length<=ys.length
 |[]=>zi _
 |y::ys=>by
  have:=zB ys;unfold HX;split<;>simp<;>omega
theorem Lg {β:Type} [DecidableEq β] {f:α->β} (hi:∀ a b,f a=f b->a=b):∀ (ys:List α),HX (ys.map f)=(HX ys).map f
 |[]=>rfl
 |y::ys=>by
  have hm:f y∈ys.map f↔y∈ys:=⟨λq=>by obtain⟨z,hz,e⟩:=List.mem_map.mp q;rw[<-hi _ _ e];exact hz,λq=>List.mem_map.mpr ⟨y,q,rfl⟩⟩;rw[zr];unfold HX;by_cases q:y∈ys
  ·rw[zk q,zk (hm.mpr q),Lg hi ys]
  ·rw[zw q,zw λh=>q (hm.mp h),zr,Lg hi ys]
end
section
variable {X:Cx}
def Pj (ks:List Key):Bool:=ks.any λk=>k.isRight
theorem ae8 {ks:List Key} (h:Pj ks=true):Txs ks:=by
 unfold Pj at h;rw[j3] at h;obtain⟨k,hk,e⟩:=h;cases k with
 |inl i=>cases e
 |inr x=>exact⟨x,hk⟩
def tU (X:Cx) (f:Ev->Option (List (List Key))):L2.TE:=λσ H Q=>∃ H0 ρ cY,bN X.K H0 H σ ρ/\f ρ=some cY/\∀ a zs H',Same H H'->H' a=some (hoU X a zs)->(∀ k,k∈zs.map (·.1)↔k∈cY)->(zs.map (·.1)).Nodup->(∀ z∈zs,Rep X.K H' (tupK z.1) (.ref z.2))->Q (.ref a) H'
def PVU (X:Cx) (e:Expr) (f:Ev->Option (List (List Key))):Prop:=PE X e (tU X f)
structure QVU (X:Cx) (e:Expr) (f:Ev->Option (List (List Key))):Prop where
 run:PVU X e f
def adp (b:Bx):Option (List (List Key)):=(qZ b).bind λds=>(tL ds).bind λcY=>if cY.length<=64/\cY.all Pj=true then some cY else none
def R8 (f:Ev->Option Bx):Ev->Option (List (List Key)):=λρ=>(f ρ).bind adp
def FP (fs:Ev->Option (List (List Key))):Ev->Option Bx:=λρ=>(fs ρ).bind λcY=>if CQ cY=true then some (.o ((kY (HX cY)).map tupK)) else none
variable {e:Expr} {f:Ev->Option Bx} {fs:Ev->Option (List (List Key))} {p pos:Pos}
theorem Uv (hc:X.calm=true) (hu:X.A.units+100 < cLine) (hg:Gl X "set") (hm:X.mg "set" = none) (ha:QV X e f) (he:starEach (e::[]) X.env=(false,eval e X.env)::starEach [] X.env:=by rfl):QVU X (.Call (.Name "set" p) [e] [] pos) (R8 f):=by
 refine⟨Ds (Jl (T := "set") (acf hc hu) hg hm rfl (gY ha.run qW he) (he:=he)) λσ H Q h=>?_⟩;obtain⟨H0,ρ,cY,E,ef,q⟩:=h;obtain⟨b,eb,ef⟩:=bind_some ef;obtain⟨ds,ed,ef⟩:=bind_some ef;obtain⟨ks',ek,ef⟩:=bind_some ef;split at ef
 ·rename_i hl;cases ef;rw[ZY] at hl;exact⟨H0,ρ,b,E,eb,λv H1 s1 n1 r1=>⟨v,b,ds,cY,rfl,r1,ed,ek,hl.1,λk hk=>ae8 (hl.2 k hk),λa zs H2 s2 e2 m nd hz=>q a zs H2 (s1.trans s2) e2 m nd hz⟩⟩
 ·cases ef
theorem Y7 {cY Xe:List (List Key)} (h:CQ cY=true) (hl:Xe.length<=cY.length) (hm:∀ k∈Xe,k∈cY):CQ Xe=true:=by
 simp only[CQ,ZA,z5,ZY,Qr] at h ⊢;exact⟨by omega,λk hk=>h.2.1 k (hm k hk),λk hk l hl'=>h.2.2 k (hm k hk) l (hm l hl')⟩
theorem Uw (hc:X.calm=true) (hg:Gl X "sorted") (hm:X.mg "sorted" = none) (ha:QVU X e fs) (he:starEach (e::[]) X.env=(false,eval e X.env)::starEach [] X.env:=by rfl):QV X (.Call (.Name "sorted" p) [e] [] pos) (FP fs):=by
 refine⟨Ds (rK (id := "sorted") (acg hc) hg hm rfl (gY ha.run qW he) (he:=he)) λσ H Q h=>?_⟩;obtain⟨H0,ρ,b,E,ef,q⟩:=h;obtain⟨cY,ey,ef⟩:=bind_some ef;split at ef
 ·rename_i hl;cases ef;refine⟨H0,ρ,cY,E,ey,λa zs H1 s1 e1 m nd hy=>⟨a,zs,rfl,e1,?_,hy,λl H2 us s2 hfr e2 rp=>?_⟩⟩
  ·have e3:=(DP nd (FN cY) λz=>by rw[m z,qy]).length_eq;have:=zB cY;exact Y7 hl (by omega) λk hk=>(m k).mp hk
  ·have pm:=DP nd (FN cY) λz=>by rw[m z,qy]
   have es:kY (zs.map (·.1))=kY (HX cY):=rT ((nF _).trans pm) (vG _);rw[es] at rp;exact q _ H2 (s1.trans s2) (λa ea=>by cases ea;exact s1.free hfr) ⟨l,us,rfl,e2,rp⟩
 ·cases ef
end
end P1
end
section
namespace P1
open PySem PySem.Spec PyProof.Rows L2
def FQ:Bx->Bx->Option Bx
 |.z (.str k),.z d=>some (.z (.tup [.str k,d]))
 |_,_=>none
theorem R9 {a b:Bx} {y:Dt} (h:FQ a b=some (.z y)):∃ k d,a=.z (.str k)/\b=.z d/\y=.tup [.str k,d]:=by
 unfold FQ at h;split at h
 ·cases h;exact⟨_,_,rfl,rfl,rfl⟩
 ·cases h
def ae9 (kvs:List (Key×Dt)):Dt->List (Key×Dt)
 |.tup [.str k,d]=>K5 kvs (.inr k) d
 |_=>kvs
def dictOf (out:List Dt):List (Key×Dt):=out.foldl ae9 []
theorem Pk (out:List Dt) (k:Str) (d:Dt):dictOf (out++[.tup [.str k,d]])=K5 (dictOf out) (.inr k) d:=by
 unfold dictOf;rw[ya];rfl
section
variable {X:Cx} {pins:List (Addr×Obj)} {σ:L2.St} {H:Hp} {s:Shared} {a:Addr} {A:Around} {E:VP_}
theorem Wj {kvs:List (Key×V)} {k:Key} {v:V} {u r:Value} {Q:Unit->Shared->Prop} (I:L2.Inv X pins σ H s) (e:H a=some (.dK kvs)) (l:kvs.length < sizeLine) (ry:RelV (kV k) u) (rv:RelV v r) (h:∀ s',L2.Inv X pins σ (upd H a (.dK (putK kvs k v))) s'->Q () s') :
  wpAny (model X.prog X.w) A (dictSet a u r) Q E s:=by
 obtain⟨z,hd,vs,rel,dd⟩:=XF I.hok e;have hz:vs.length<=sizeLine:=by rw[<-rel.length];exact z
 have hl:(putK kvs k v).length<=sizeLine:=by have:=nA kvs k v;omega
 refine wpAny_dictSet_pairs (hsz:=hz) (El ry) dd λh' dd' hs=>h _ ?_;have he:∃ q,h'.get? a=some q:=let ⟨q,_,_,hq,_⟩:=dd';⟨q,hq⟩;exact Dr I (by rw[e];exact True.intro) hs he (Rk hl hd (rel.put k rv) dd')
end
section
variable {X:Cx} {kx vx tgt iter:Expr} {ifs:List Expr} {scope:Scope} {cl:List (Str×Addr)} {pos:Pos} {xs ts:LS_} {is:List Nat} {gt:Dt->Ev->Option Ev} {p:Ev->Option Bool} {fk fv:Ev->Option Bx} {fi:Ev->Option (List Dt)}
def AcD (K:FG_) (_:Addr) (H:Hp) (o1:List Dt) (o:HO):Prop:=∃ us,o=.dK us/\fM K H (dictOf o1) us/\us.length<=o1.length
theorem AcD.kp {K:FG_} {D:Addr} {H H':Hp} {o1:List Dt} {o:HO} (k:Kp H H'):AcD K D H o1 o->AcD K D H' o1 o:=λ⟨us,e,r,z⟩=>⟨us,e,r.kp k,z⟩
theorem ach {n:Nat} (hk:PV X kx fk) (hv:PV X vx fv):Ye X (λD env=>do let kv <-eval kx env;let vv <-holding [kv] (eval vx env);standAt { kx.pos with endLine:=vx.pos.endLine,endCol:=vx.pos.endCol };holding [kv,vv] (dictSet D kv vv)) (ag1 (b2 FQ fk fv)) (AcD X.K) 999 n:=by
 refine Yg λpins s σ H H0 ρ D o o1 ys I En eb hD ⟨us,e,r4,hl⟩ hi=>?_;subst e;obtain⟨b,e0,e1⟩:=bind_some eb;obtain⟨y,rfl,rfl⟩:=Ax e1;obtain⟨bk,ebk,eb⟩:=bind_some e0;obtain⟨bv,ebv,eb⟩:=bind_some eb;obtain⟨kt,dv,rfl,rfl,rfl⟩:=R9 eb;refine zb (qS (hk pins s σ H (λv H9=>Same H H9/\aU X.K H9 (.z (.str kt)) v) I ⟨H0,ρ,_,En,ebk,λv H9 s9 _ r9=>⟨s9,r9⟩⟩) (λkv s9a h9=>?_) λ_ _ z=>z);obtain⟨k',H9a,I9a,rk,ahn,r9a⟩:=h9;refine zb (QN (qS (hv pins s9a σ H9a (λv H9=>Same H9a H9/\Rep X.K H9 dv v) I9a ⟨H0,ρ,_,En.grow ahn,ebv,λv H9 s9 _ r9=>⟨s9,r9⟩⟩) (λv s9 h9=>?_) λ_ _ z=>z));obtain⟨v',H9,I9,rv,s9b,r9⟩:=h9;have s89:=ahn.trans s9b;have hD9:H9 D=some (.dK us):=s89 _ _ hD;obtain⟨rfl,hkl⟩:k'=.str kt/\kt.length<=sizeLine:=by simpa only[aU,Rep] using r9a
 have kp:Kp H9 (upd H9 D (.dK (putK us (Sum.inr kt) v'))):=.dk hD9;refine zb (yb (QN ?_));simp only[ky] at hi;refine Wj I9 hD9 (by have:(1000:Nat) < sizeLine:=(by decide);omega) (k:=Sum.inr kt) rk rv λs10 I10=>?_;have r5:=((r4.kp (.of s89)).put (x:=Sum.inr kt) r9 hkl).kp kp;exact⟨H9,_,I10,s89,kp,putK us (Sum.inr kt) v',rfl,by rw[Pk];exact r5,by have:=nA us (Sum.inr kt) v';simp;omega⟩
def Ux (fi:Ev->Option (List Dt)) (gt:Dt->Ev->Option Ev) (p:Ev->Option Bool) (fk fv:Ev->Option Bx) (is:List Nat) (n:Nat):Ev->Option Bx:=λρ=>(fi ρ).bind λds=>
 if ds.length < 1000 then(BP gt p (b2 FQ fk fv) (jQ is ρ++List.replicate n none) ds).bind λout=>some (.m (dictOf out) none) else none
theorem Y8 (hu:X.A.units+100 < cLine) (ts:LS_) (O:tH X scope cl xs is) (hcalm:X.calm=true) (hi:QIC X tgt iter fi)
  (Ni:∀ C s₀ H₀ fp,QTg (Hr X (xs++ts) scope cl C s₀ H₀ fp) tgt gt) (hif:∀ C s₀ H₀ fp,Ay (Hr X (xs++ts) scope cl C s₀ H₀ fp) ifs p) (hkx:∀ C s₀ H₀ fp,QV (Hr X (xs++ts) scope cl C s₀ H₀ fp) kx fk) (hvx:∀ C s₀ H₀ fp,QV (Hr X (xs++ts) scope cl C s₀ H₀ fp) vx fv) (htk:TgK is.length (is.length+ts.length) gt)
  (hs:∀ x,foldedSetIterable iter X.env x=pure x:=by intro _;rfl):QV X (.DictComp kx vx [⟨tgt,iter,ifs,0⟩] scope pos) (Ux fi gt p fk fv is ts.length):=⟨λpins s σ H Q I h=>by
 obtain⟨H0,ρ,b,E,e,q⟩:=h;obtain⟨ds,ed,e⟩:=bind_some e;split at e
 ·rename_i hlen;obtain⟨out,eo,e⟩:=bind_some e;cases e;rw[arm_eval_DictComp];refine kF (use:=none) rfl hs O.clos O.kind O.names ?_;refine jd (hi.run pins s σ H (λJ H'=>Same H H'/\Yields X.K J ds H') I ⟨H0,ρ,ds,E,ed,λJ H' s' y=>⟨s',y⟩⟩) λv s1 h1=>jd h1 λitv s2 h2=>?_;obtain⟨it,fp,tn,J,H2,rfl,I2,T,st,hf,s12,Y⟩:=h2;refine Jq (Ac:=AcD X.K) (O0:=.dK []) (N:=999) (RR:=λacc C=>compPost (model X.prog X.w) X.A X.xe none (EP X pins σ Q) acc C) (ts:=ts) (xs:=xs) O hcalm (λC s₀ H₀ fp=>(Ni C s₀ H₀ fp).run) (λC s₀ H₀ fp=>(hif C s₀ H₀ fp).run) (λC s₀ H₀ fp=>ach (hkx C s₀ H₀ fp).run (hvx C s₀ H₀ fp).run) htk (Nat.le_add_right ..) I2 ((E.grow s12).caps is ts.length) T st hf Y eo (Zs (wA eo) (Nat.le_of_lt_succ hlen)) ?_
   qq (λ_=>Ny s2.heap I2.big) (λ_=>⟨[],rfl,fM.nil,zi _⟩) AcD.kp (λ_ _ _=>rfl) codeAny_compStart_dict λh=>h
  rintro D C s' H' o hD I' fC ⟨m,hn⟩ s2' hD' ⟨us,rfl,rm,_⟩;refine⟨m,hn,λh' sb=>⟨.ref D,H',?_,rfl,q (.ref D) H' (s12.trans s2') (λa ea=>by cases ea;exact s12.free hD) ⟨D,us,rfl,hD',rm,λb hb=>by cases hb⟩⟩⟩;obtain⟨f0,f1,f2,f3,f4,f5⟩:=fC;exact I'.turned (t':=s'.toks) (λb o hb e=>(sb.2 b hb).trans e) f0 f1 f3 f4 f5
 ·cases e⟩
end
section
variable {X:Cx} {pins:List (Addr×Obj)} {σ:L2.St} {H:Hp} {s:Shared} {a:Addr} {ks:List (Key×V)} {o:Obj}
theorem Pn (hb:∀ ob u,X.H₀ a≠some (.sY ob u)) (I:L2.Inv X pins σ H s) (e:H a=some (.sY o (.dK ks))):L2.Inv X pins σ (upd H a (.dK ks)) s:=by
 have ne:∀ {b:Addr} {u:HO},H b=some u->u≠.sY o (.dK ks)->b≠a:=λq n z=>by subst z;rw[e] at q;cases q;exact n rfl
 have nn:∀ {b:Addr},H b=none->b≠a:=λq z=>by subst z;rw[e] at q;cases q
 refine⟨I.ok,I.os,I.bare,⟨I.base.keep,I.base.slot,λb ob q n hx=>?_,I.base.there,λb xs q=>?_,λb ob u q=>?_,λb ps q=>?_⟩,I.loc,I.cell,?_,λx c q=>?_,λp hp=>?_,λb ob q=>?_,I.len⟩
 ·have:=I.base.free b ob q n hx;rw[aR (nn this)];exact this
 ·have:=I.base.tups b xs q;rw[aR (ne this λz=>by cases z)];exact this
 ·have:=I.base.Cz b ob u q;rw[aR (λz=>by subst z;exact hb _ _ q)];exact this
 ·obtain⟨m,this⟩:=I.base.Hu b ps q;exact⟨m,by rw[aR (ne this λz=>by cases z)];exact this⟩
 ·have:=I.free;rw[aR (nn this)];exact this
 ·have:=I.qm x c q;rw[aR (nn this)];exact this
 ·obtain⟨p1,p2,p3⟩:=I.pin p hp;exact⟨p1,by rw[aR (nn p2)];exact p2,p3⟩
 ·have st:∀ {c:Addr} {w:HO},gQ X.prog X.w H s.heap c w->gQ X.prog X.w (upd H a (.dK ks)) s.heap c w:=λx=>
   x.stay (λ_ _ _ r=>r) (λd r=>by rw[aR (ne r λz=>by cases z)];exact r) λd xs r=>by rw[aR (ne r λz=>by cases z)];exact r
  by_cases hba:b=a
  ·subst hba;rw[bG] at q;cases q;exact st (I.hok _ _ e).2
  ·rw[aR hba] at q;exact st (I.hok _ _ q)
theorem aho (I:L2.Inv X pins σ H s) (e:H a=some (.dK ks)) (ho:s.heap.get? a=some o):L2.Inv X pins σ (upd H a (.sY o (.dK ks))) s:=by
 have:=I.write (t':=s.toks) (h':=s.heap) (x:=a) (e:=a) (o:=.sY o (.dK ks)) (by rw[e];exact True.intro) (.inl rfl) (λ_ _ _ z=>z) ⟨o,ho⟩ ⟨ho,(I.hok _ _ e).stay (λ_ _ _ r=>r) (λd r=>by rw[aR (oH r e (by intro z;cases z))];exact r) λd xs r=>by rw[aR (oH r e (by intro z;cases z))];exact r⟩;exact this
theorem aci (I:L2.Inv X pins σ H s) (e:H a=some (.dK ks)):∀ ob u,X.H₀ a≠some (.sY ob u):=λob u q=>by
 have:=I.base.Cz a ob u q;rw[e] at this;cases this
mutual
theorem Rep.Pn {K:FG_} (e:H a=some (.sY o (.dK ks))) (hk:ks≠[]):∀ {d:Dt} {v:V},Rep K H d v->Rep K (upd H a (.dK ks)) d v
 |.non,_,h=>by simpa only[Rep] using h
 |.bl _,_,h=>by simpa only[Rep] using h
 |.int _,_,h=>by simpa only[Rep] using h
 |.str _,_,h=>by simpa only[Rep] using h
 |.tup ds,_,h=>by
  simp only[Rep] at h ⊢;obtain⟨b,vs,e1,q,r⟩:=h;refine⟨b,vs,e1,?_,aK.Pn e hk r⟩;rcases q with (q|⟨ob,q⟩)|q
  ·exact .inl (.inl (by rw[aR (λz=>by subst z;rw[e] at q;cases q)];exact q))
  ·exact .inl (.inr ⟨ob,by rw[aR (λz=>by subst z;rw[e] at q;cases q)];exact q⟩)
  ·exact .inr q
 |.lst ds,_,h=>by
  simp only[Rep] at h ⊢;obtain⟨b,vs,e1,q,r⟩:=h;refine⟨b,vs,e1,?_,aK.Pn e hk r⟩;rcases q with⟨ob,q⟩|q
  ·exact .inl ⟨ob,by rw[aR (λz=>by subst z;rw[e] at q;cases q)];exact q⟩
  ·exact .inr q
 |.emp,_,h=>by
  simp only[Rep] at h ⊢;obtain⟨b,ob,e1,q⟩:=h;exact⟨b,ob,e1,by rw[aR (λz=>by subst z;rw[e] at q;cases q;exact hk rfl)];exact q⟩
theorem aK.Pn {K:FG_} (e:H a=some (.sY o (.dK ks))) (hk:ks≠[]):∀ {ds:List Dt} {vs:List V},aK K H ds vs->aK K (upd H a (.dK ks)) ds vs
 |[],_,h=>by simpa only[aK] using h
 |d::ds,_,h=>by
  simp only[aK] at h ⊢;obtain⟨v,r,e1,q,t⟩:=h;exact⟨v,r,e1,Rep.Pn e hk q,aK.Pn e hk t⟩
end
def Itd (a:Addr) (o:Obj) (ks:List (Key×V)):It:=
 ⟨λi H=>H a=some (.sY o (.dK ks))/\i < ks.length,λi H x H'=>H'=H/\(ks.map λk=>kV k.1)[i]?=some x,λi H=>H a=some (.sY o (.dK ks))/\ks.length<=i⟩
theorem Uy {P:Program} {w:World} {h:Heap} (x:gQ P w H h a (.sY o (.dK ks))) {es:Array DictEntry} {ep:Nat} (hd:o.data=.dict es ep):∃ vs,KV ks vs/\h.DictAt (aX P w) a vs ep:=by
 obtain⟨e,_,_,vs,kv,ob,es',ep',e2,c,d,r⟩:=x;rw[e] at e2;cases e2;rw[hd] at d;cases d;exact⟨vs,kv,o,es,e,c,hd,r⟩
theorem Y9:∀ {ks:List (Key×V)} {vs:List (Key×Value)},KV ks vs->∀ {i:Nat} {p},ks[i]?=some p->∃ x,vs[i]?=some (p.1,x)
 |_,_,.nil,i,p,q=>by simp at q
 |_,_,.cons h _,0,p,q=>by simp at q;subst q;exact⟨_,by rw[List.getElem?_cons_zero,h.1]⟩
 |_,_,.cons _ t,i+1,p,q=>by
  rw[ZT] at q;obtain⟨x,hx⟩:=Y9 t q;exact⟨x,by rw[ZT];exact hx⟩
theorem JL {P:Program} {w:World} {K:FG_} {tg:Expr} (it:Addr) {es:Array DictEntry} {ep:Nat} (hd:o.data=.dict es ep) (hne:a≠it):Turn P w K tg (Itd a o ks) [it] it (λi h=>h.IsKeyIter it a i ks.length ep) where
 mem:=by simp
 obj:=λi h st b hb=>by
  have e:b=it:=by simpa using hb
  subst e;obtain⟨ob,e,c,d⟩:=st;exact⟨ob,e,λv z=>by rw[d] at z;cases z⟩
 keep:=λi h h' st k=>st.at λob e=>k it (by simp) ob e
 item:=by
  intro X hP hw hK hc i pins s σ H E I hf st hg;subst hP hw hK;obtain⟨ha,hi⟩:=hg;obtain⟨vs,kv,dd⟩:=Uy (I.hok _ _ ha) hd;have hl:ks.length=vs.length:=kv.length;obtain⟨x,hx⟩:=Y9 kv (show ks[i]?=some ks[i] by simp[hi]);obtain⟨f0,f1,f2,f3,f4,f5⟩:=hf it (by simp);rw[hl] at st;refine wpAny_pyNext_dict_item st dd hx λkey h' hkey st' sb=>?_;rw[<-hl] at st';have I1:L2.Inv X pins σ H { s with heap:=h' }:=I.turned (t':=s.toks) (λb ob hb e=>(sb.2 b hb).trans e) f0 f1 f3 f4 f5;obtain⟨ob,e,c,d⟩:=id st';refine⟨key,rfl,Jg (s:={ s with heap:=h' }) e c d (by decide) ⟨kV (ks[i]).1,H,I1,?_,⟨rfl,by rw[Zl,z4 hi];rfl⟩,st',λb hb=>(hf b hb).1⟩⟩;have hk':kE (ks[i]).1 key=true:=hkey;rcases bL hk' with⟨j,t,e2,e3⟩|⟨z,t,e2,e3⟩
  ·rw[e2,e3];exact⟨t,rfl⟩
  ·rw[e2,e3];exact⟨t,rfl⟩
 done:=by
  intro X hP hw hK hc i pins s σ H E I hf st hg;subst hP hw hK;obtain⟨ha,hi⟩:=hg;obtain⟨vs,kv,dd⟩:=Uy (I.hok _ _ ha) hd;have hl:ks.length=vs.length:=kv.length;obtain⟨f0,f1,f2,f3,f4,f5⟩:=hf it (by simp);rw[hl] at st;exact wpAny_pyNext_dict_end (I.ok.hd hc) st dd (qB (by omega)) λh' eb=>⟨rfl,I.turned (t':=s.toks) (λb ob hb e=>eb b ob hb e) f0 f1 f3 f4 f5⟩
 self:=λ_ _ _ _ _ st h=>wpAny_pyIter_keyiter st h
def Sd:Key->Dt
 |.inl i=>.int i
 |.inr x=>.str x
theorem Za {K:FG_} {H:Hp} {k:Key} (h:okK k):Rep K H (Sd k) (kV k):=by
 cases k with
 |inl i=>unfold Sd Rep;rfl
 |inr x=>unfold Sd Rep;exact⟨rfl,h⟩
def keyB:Bx->Option (List Dt)
 |.n kvs=>some (kvs.map λp=>Sd p.1)
 |_=>none
theorem Wm {b:Bx} {ds:List Dt} (h:keyB b=some ds):∃ kvs,b=.n kvs/\ds=kvs.map λp=>Sd p.1:=by
 unfold keyB at h;split at h
 ·cases h;exact⟨_,rfl,rfl⟩
 ·cases h
theorem Ca {K:FG_} {Hs:Hp} {kvs:List (Key×Dt)} (ha:Hs a=some (.sY o (.dK ks))) (rm:fM K Hs kvs ks):Yields K (Itd a o ks) (kvs.map λp=>Sd p.1) Hs:=.of λi H s=>by
 have hl:=rm.len;refine⟨λd e=>?_,λe=>⟨s _ _ ha,by rw[zo] at e;omega⟩⟩;rw[Zl] at e;cases hp:kvs[i]? with
 |none=>rw[hp] at e;cases e
 |some p=>
  rw[hp] at e;cases e;have hi:i < kvs.length:=(List.getElem?_eq_some_iff.mp hp).1;refine⟨⟨s _ _ ha,by omega⟩,λx H' y=>?_⟩;obtain⟨y1,y2⟩:=y;refine⟨y1,?_⟩;have h1:(ks.map (·.1))[i]?=some p.1:=by rw[rm.1,Zl,hp];rfl
  rw[Zl] at h1 y2;cases hk:ks[i]? with
  |none=>rw[hk] at h1;cases h1
  |some q=>
   rw[hk] at h1 y2;cases y2;have:q.1=p.1:=by simpa using h1
   show Rep K H (Sd p.1) (kV q.1);rw[this];exact Za (rm.2.2 p (Z3 hp))
theorem Sg {K:FG_} {H1:Hp} {σ:L2.St} {ρ:Ev} {is:List Nat} {n:Nat} (e:H1 a=some (.dK ks)) (E:bN K H1 H1 (xR is σ++List.replicate n none) (jQ is ρ++List.replicate n none)):bN K (upd H1 a (.sY o (.dK ks))) (upd H1 a (.sY o (.dK ks))) (xR is σ++List.replicate n none) (jQ is ρ++List.replicate n none):=by
 have kp:Kp H1 (upd H1 a (.sY o (.dK ks))):=.dk e;have noO:∀ (j:Nat) c,(jQ is ρ++List.replicate n none)[j]?=some (some c)->uL c=false:=λj c e=>by
  by_cases hj:j < is.length
  ·rw[ZI (by simp[jQ];omega)] at e;unfold jQ at e;rw[Zl] at e;cases q:is[j]? with
   |none=>rw[q] at e;cases e
   |some i=>
    rw[q] at e;have:Av ρ i=some c:=by simpa using e
    exact yO this
  ·rw[qi (by simp[jQ];omega),QE] at e;split at e<;>cases e
 refine⟨E.len,λj b eb=>?_,λj k c a b e ec=>absurd ec (by rw[noO j c e];exact zI),Same.refl _,λj c a e ec=>absurd ec (by rw[noO j c e];exact zI)⟩;obtain⟨v,ev,r⟩:=E.val j b eb;refine⟨v,ev,?_⟩;cases b with
 |z d=>exact Rep.kp kp r
 |o ds=>have:=noO j _ eb;cases this
 |m ds _=>have:=noO j _ eb;cases this
 |l ds=>
  obtain⟨b,vs,e1,q,r⟩:=r;refine⟨b,vs,e1,?_,r.kp kp⟩;rcases q with q|⟨ob,q⟩
  ·exact .inl (by rw[aR (oH q e (by intro z;cases z))];exact q)
  ·exact .inr ⟨ob,by rw[aR (oH q e (by intro z;cases z))];exact q⟩
 |n ds=>
  obtain⟨b,vs,e1,q,r⟩:=r;refine⟨b,vs,e1,?_,r.kp kp⟩;by_cases hb:b=a
  ·subst hb;rcases q with q|⟨ob,q⟩
   ·rw[e] at q;cases q;exact .inr ⟨o,bG⟩
   ·rw[e] at q;cases q
  ·rcases q with q|⟨ob,q⟩
   ·exact .inl (by rw[aR hb];exact q)
   ·exact .inr ⟨ob,by rw[aR hb];exact q⟩
end
section
variable {X:Cx} {e elt tgt iter:Expr} {ifs:List Expr} {fd:Ev->Option Bx} {scope:Scope} {cl:List (Str×Addr)} {pos:Pos} {xs ts:LS_} {is:List Nat} {gt:Dt->Ev->Option Ev} {p:Ev->Option Bool} {fe:Ev->Option Bx}
def Pq (fd:Ev->Option Bx):Ev->Option (List Dt):=λρ=>(fd ρ).bind keyB
theorem Wn (ρ:Ev):BP gt p fe ρ []=some []:=rfl
theorem Pr (ts:LS_) (O:tH X scope cl xs is) (hcalm:X.calm=true) (hi:QV X iter fd)
  (Ni:∀ C s₀ H₀ fp,QTg (Hr X (xs++ts) scope cl C s₀ H₀ fp) tgt gt) (hif:∀ C s₀ H₀ fp,Ay (Hr X (xs++ts) scope cl C s₀ H₀ fp) ifs p) (helt:∀ C s₀ H₀ fp,QV (Hr X (xs++ts) scope cl C s₀ H₀ fp) elt fe) (htk:TgK is.length (is.length+ts.length) gt)
  (hs:∀ x,foldedSetIterable iter X.env x=pure x:=by intro _;rfl):QV X (.ListComp elt [⟨tgt,iter,ifs,0⟩] scope pos) (eE (Pq fd) gt p fe is ts.length):=⟨λpins s σ H Q I h=>by
 obtain⟨H0,ρ,b,E,e,q⟩:=h;obtain⟨ds,ed,e⟩:=bind_some e;split at e
 ·rename_i hlen;obtain⟨out,eo,e⟩:=bind_some e;cases e;obtain⟨bd,ebd,ed⟩:=bind_some ed;obtain⟨kvs,rfl,rfl⟩:=Wm ed;rw[eval_ListComp];refine kF (use:=none) rfl hs O.clos O.kind O.names ?_;refine jd (hi.run pins s σ H (λv H1=>Same H H1/\aU X.K H1 (.n kvs) v) I ⟨H0,ρ,_,E,ebd,λv H1 s1 _ r1=>⟨s1,r1⟩⟩) λv s1 ⟨v',H1,I1,rv,s01,r1⟩=>?_;obtain⟨a,ks,rfl,rd,rm⟩:=r1;cases rv;obtain⟨_,hsys,vs,kv,ob,es,ep,dd⟩:=uD I1.hok rd;have hob:=dd.1;have hdat:=dd.2.2.1;refine wpAny_pyIter_dict hsys (⟨ob,es,dd⟩:s1.heap.DictAt (aX X.prog X.w) a vs ep) ?_;have hlt:a < s1.heap.objs.size:=zz hob;have hl:ks.length=vs.length:=kv.length;have ahp:∀ {H':Hp},L2.Inv X pins σ H' s1->∀ b∈[s1.heap.objs.size],uQ X pins H' b:=λI' b hb=>by
   have e:b=s1.heap.objs.size:=by simpa using hb
   subst e;exact I'.Xn (zi _) (I'.hok.fresh (zi _))
  have st0:Heap.IsKeyIter (s1.heap.push { cls:=.type "dict_keyiterator", data:=.fields #[.ref a,.int 0 0,.int vs.length 0,.int ep 0] }) s1.heap.objs.size a 0 ks.length ep:=⟨_,zv _ rfl,rfl,by rw[hl];rfl⟩;rcases rd with rd|⟨o',rd⟩
  ·
   have I2:=aho I1 rd hob;have I3:L2.Inv X pins σ (upd H1 a (.sY ob (.dK ks))) { s1 with heap:=s1.heap.push { cls:=.type "dict_keyiterator", data:=.fields #[.ref a,.int 0 0,.int vs.length 0,.int ep 0] } }:=I2.kept (t':=s1.toks) λb o e=>zd _ e;have rm2:fM X.K (upd H1 a (.sY ob (.dK ks))) kvs ks:=rm.kp (.dk rd);refine yU (RR:=λacc C=>compPost (model X.prog X.w) X.A X.xe none (EP X pins σ Q) acc C) (ts:=ts) (xs:=xs) O hcalm (λC s₀ H₀ fp=>(Ni C s₀ H₀ fp).run) (λC s₀ H₀ fp=>(hif C s₀ H₀ fp).run) (λC s₀ H₀ fp=>(helt C s₀ H₀ fp).run) htk I3 (Sg rd ((E.grow s01).caps is ts.length)) (JL s1.heap.objs.size hdat (zD hlt)) st0 (ahp I2) (Ca bG rm2) hlen eo ?_;intro D C s' H' us hD I' fC ⟨m,hn⟩ s2' hD' r';have ha':H' a=some (.sY ob (.dK ks)):=s2' _ _ bG;have hDa:D≠a:=λz=>by subst z;rw[bG] at hD;cases hD
   have hD1:H1 D=none:=by rw[aR hDa] at hD;exact hD
   have sm:Same H1 (upd H' a (.dK ks)):=λb u e=>by
    by_cases hb:b=a
    ·subst hb;rw[rd] at e;cases e;exact bG
    ·rw[aR hb];exact s2' b u (by rw[aR hb];exact e)
   have rr:aK X.K (upd H' a (.dK ks)) out us:=by
    by_cases hk:ks=[]
    ·have:kvs=[]:=by have:=rm.len;rw[hk] at this;exact List.length_eq_zero_iff.mp (by simpa using this.symm)
     subst this;simp only[ka] at eo;rw[Wn] at eo;cases eo;simpa only[aK] using r'
    ·exact aK.Pn ha' hk r'
   refine⟨m,hn,λh' sb=>⟨.ref D,upd H' a (.dK ks),?_,rfl,q _ _ (s01.trans sm) (λa ea=>by cases ea;exact s01.free hD1) ⟨D,us,rfl,by rw[aR hDa];exact hD',rr⟩⟩⟩;obtain⟨f0,f1,f2,f3,f4,f5⟩:=fC;have hCa:C≠a:=λz=>by subst z;rw[ha'] at f0;cases f0
   exact(Pn (aci I1 rd) I' ha').turned (t':=s'.toks) (λb o hb e=>(sb.2 b hb).trans e) (by rw[aR hCa];exact f0) f1 f3 f4 f5
  ·have hoo:o'=ob:=by
    have:=(I1.hok _ _ rd).1;rw[hob] at this;cases this;rfl
   subst hoo;have I3:L2.Inv X pins σ H1 { s1 with heap:=s1.heap.push { cls:=.type "dict_keyiterator", data:=.fields #[.ref a,.int 0 0,.int vs.length 0,.int ep 0] } }:=I1.kept (t':=s1.toks) λb o e=>zd _ e;refine yU (RR:=λacc C=>compPost (model X.prog X.w) X.A X.xe none (EP X pins σ Q) acc C) (ts:=ts) (xs:=xs) O hcalm (λC s₀ H₀ fp=>(Ni C s₀ H₀ fp).run) (λC s₀ H₀ fp=>(hif C s₀ H₀ fp).run) (λC s₀ H₀ fp=>(helt C s₀ H₀ fp).run) htk I3 ((E.grow s01).caps is ts.length) (JL s1.heap.objs.size hdat (zD hlt)) st0 (ahp I1) (Ca rd rm) hlen eo ?_;intro D C s' H' us hD I' fC ⟨m,hn⟩ s2' hD' r';refine⟨m,hn,λh' sb=>⟨.ref D,H',?_,rfl,q _ _ (s01.trans s2') (λa ea=>by cases ea;exact s01.free hD) ⟨D,us,rfl,hD',r'⟩⟩⟩;obtain⟨f0,f1,f2,f3,f4,f5⟩:=fC;exact I'.turned (t':=s'.toks) (λb o hb e=>(sb.2 b hb).trans e) f0 f1 f3 f4 f5
 ·cases e⟩
end
section
variable {prog:Program} {w:World} {A:Around} {E:VP_} {s:Shared}
theorem Pu {R:Result->Shared->Prop} {d:Addr} {kvs:List (Key×Value)} {ep:Nat} (hh:A.handled=none) (hd:(d==sysModules)=false) (hm:s.heap.DictAt (aX prog w) d kvs ep) (hn:kvs.length<=sizeLine) (S:Addr) (hdS:d≠S) (res:Value) (c₀:Nat) (hS0:s.heap.get? S=some { cls:=.type "list", data:=.seq #[] c₀ })
  (hR:∀ h' tk acc' c',(∀ b o,b≠S->s.heap.get? b=some o->h'.get? b=some o)->h'.get? S=some { cls:=.type "list", dict:=none,data:=.seq acc' c',slots:=#[] } →
   ItemsOf (λi v=>∃ k x,kvs[i]?=some (k,x)/\(aX prog w).is k v=true) acc' kvs.length->R (.ok (.ret res)) { s with heap:=h',toks:=tk }) :
  wpAny (model prog w) A.in1 (Builtin.List.listExtendWith (.ref S) (.ref d) res)
   (λfin s'=>match fin with|.done f=>R (.ok f) s'|.again c'=>c'.quiet=true/\codeAny (model prog w) A c' R s') (λe s'=>R (.error e) s') s:=by
 have hlt:d < s.heap.objs.size:=by obtain⟨o,_,ho,_⟩:=hm;exact zz ho
 have hSlt:S < s.heap.objs.size:=zz hS0;unfold Builtin.List.listExtendWith;refine zb (QP (T := "dict") hm.dictOf.typeIs ?_);have h1:Builtin.List.listSameRef (.ref S) (.ref d)=false:=by simp[Builtin.List.listSameRef];exact λe=>hdS e.symm
 simp only[h1,show(Value.type "dict" == Value.type "list")=false by decide,show(Value.type "dict" == Value.type "tuple")=false by decide,Bool.or_false,zl,ZO];refine zb (wpAny_pyIter_dict hd hm ?_);refine zb (QN ?_);have hm2:=hm.at' (h':=s.heap.push { cls:=.type "dict_keyiterator", data:=.fields #[.ref d,.int 0 0,.int kvs.length 0,.int ep 0] }) λo e=>zd _ e;unfold Builtin.List.listLengthHint;refine zb (wpAny_specialOf (T := "dict") hm2.dictOf.typeIs F.slot_dict_len.lookup ?_)
 wp_delta
 refine zb (kf (T := "dict") (b:=true) hm2.dictOf.typeIs (by rw[isSubtype_type];kernel_rfl) ?_);show wpAny _ A.in1 (typeOf (Value.ref d) >>= _) _ _ _;refine zb (QP (T := "dict") hm2.dictOf.typeIs (ze ?_));rw[zk (by decide)];show wpAny _ A.in1 (Builtin.List.listTouch (Value.ref S) >>= λ_=>again (Code.builtin "list.extend.loop" ⟨[Value.ref S,Value.ref s.heap.objs.size,res],[]⟩)) _ _ _;generalize hG:s.heap.push { cls:=.type "dict_keyiterator", data:=.fields #[.ref d,.int 0 0,.int kvs.length 0,.int ep 0] }=G at hm2 ⊢;have hS:G.get? S=some { cls:=.type "list", data:=.seq #[] c₀ }:=by
  rw[<-hG];exact zd _ hS0
 have hI:G.get? s.heap.objs.size=some { cls:=.type "dict_keyiterator", data:=.fields #[.ref d,.int 0 0,.int kvs.length 0,.int ep 0] }:=by
  rw[<-hG];exact zv _ rfl
 unfold Builtin.List.listTouch;refine zb (zb (listUpdate_at hS rfl (listUpdate_at (get?_update_seq hS _) rfl ?_ (by show _<=_;decide) (by show _<=_;decide)) (by show _<=_;decide) (by show _<=_;decide)));have hIS:s.heap.objs.size≠S:=KB hSlt;have hS3:=get?_update_seq (get?_update_seq hS (λx=>x.push Value.none)) (λx=>x.pop);generalize hU:(G.update S (Obj.mapSeq λx=>x.push Value.none)).update S (Obj.mapSeq λx=>x.pop)=U at hS3;have keep:∀ b,b≠S->U.get? b=G.get? b:=λb hb=>by rw[<-hU,jI _ _ _ _ hb,jI _ _ _ _ hb]
 have st0:U.IsKeyIter s.heap.objs.size d 0 kvs.length ep/\U.DictAt (aX prog w) d kvs ep:=⟨⟨_,(keep _ hIS).trans hI,rfl,rfl⟩,hm2.at' λo e=>(keep d hdS).trans e⟩;show wpAny _ A.in1 (again _) _ _ { s with heap:=U };have hSf:S∉[s.heap.objs.size,d]:=λh=>by
  simp only[QR,j0,or_false] at h;rcases h with h|h
  ·exact hIS h.symm
  ·exact hdS h.symm
 refine ze ⟨plainId_quiet F.plain_extend_loop _,codeAny_extend_loopS (Walks.dictKeys (A:=A.in1) hh s.heap.objs.size d (zD hlt) kvs ep).toS hn S hSf _ kvs.length 0 { s with heap:=U } #[] _ rfl (QI _) st0 hS3 (ItemsOf.nil _) λs' acc' c' mv hS' hacc=>?_⟩;rw[Moved.eq_with mv];refine hR s'.heap s'.toks acc' c' (λb ob hb e=>?_) hS' hacc;have hb':=zz e;refine mv.heap b ob (λh=>?_) ((keep b hb).trans ?_)
 ·simp only[QR,j0,or_false] at h;rcases h with h|h
  ·exact hb h
  ·exact zD hb' h
 ·rw[<-hG];exact zd _ e
theorem FT {Q:VP_} {d:Addr} {kvs:List (Key×Value)} {ep:Nat} (hh:A.handled=none) (hd:(d==sysModules)=false) (hm:s.heap.DictAt (aX prog w) d kvs ep) (hn:kvs.length<=sizeLine)
  (hQ:∀ h' tk acc' c',(∀ b o,s.heap.get? b=some o->h'.get? b=some o) →
   h'.get? s.heap.objs.size=some { cls:=.type "list", dict:=none,data:=.seq acc' c',slots:=#[] }->ItemsOf (λi v=>∃ k x,kvs[i]?=some (k,x)/\(aX prog w).is k v=true) acc' kvs.length->Q (.ref s.heap.objs.size) { s with heap:=h',toks:=tk }) :
  wpAny (model prog w) A (call (.type "list") [.ref d]) Q E s:=by
 have hlt:d < s.heap.objs.size:=by obtain⟨o,_,ho,_⟩:=hm;exact zz ho
 refine callType_codes (Q₁:=λobj s₁=>obj=.ref s.heap.objs.size/\s₁={ s with heap:=s.heap.push { cls:=.type "list", data:=.seq #[] } }) F.called_list (F.typeCall_list_1 _) F.entry_list_init
  (code_list_new _ ⟨rfl,rfl⟩) λobj s₁ h₁=>?_
 obtain⟨rfl,rfl⟩:=h₁;have hS:(s.heap.push { cls:=.type "list", data:=.seq #[] }).get? s.heap.objs.size=some { cls:=.type "list", data:=.seq #[] }:=zv _ rfl;have hm1:=hm.at' (h':=s.heap.push { cls:=.type "list", data:=.seq #[] }) λo e=>zd _ e;refine⟨⟨_,hS,rfl⟩,F.args_list_init_2 _ _,?_⟩;generalize hH:s.heap.push { cls:=.type "list", data:=.seq #[] }=H at hS hm1 ⊢;show wpAny _ _ (do let old <-Builtin.List.listItems (.ref s.heap.objs.size);Builtin.List.listUpdate (.ref s.heap.objs.size) (λ_=>#[]);letGo old.toList.reverse;Builtin.List.listExtendWith (.ref s.heap.objs.size) (.ref d) .none) _ _ { s with heap:=H };refine zb ?_;unfold Builtin.List.listItems;refine zb (wpAny_seqItems hS rfl (ze ?_));show wpAny _ _ (updateSeq s.heap.objs.size (λ_=>#[]) >>= λ_=>letGo (#[]:Array Value).toList.reverse >>= λ_=>Builtin.List.listExtendWith (.ref s.heap.objs.size) (.ref d) .none) _ _ _;refine zb (wpAny_updateSeq hS rfl ?_);have hS₂:=k8 (Obj.mapSeq (λ_=>(#[]:Array Value))) hS rfl;have oth:∀ b o,b≠s.heap.objs.size->H.get? b=some o->(H.update s.heap.objs.size (Obj.mapSeq (λ_=>(#[]:Array Value)))).get? b=some o:=
  λb o hb e=>(Heap.get?_update_other _ _ (K0 hb)).trans e
 refine zb (wpAny_letGo ?_);refine Pu (A:=A.in1) hh hd (hm1.at' λo e=>oth d o (zD hlt) e) hn s.heap.objs.size (zD hlt) .none _ hS₂ λh' tk acc' c' hk hS' hacc=>?_;exact⟨rfl,hQ h' tk acc' c' (λb o e=>hk b o (zD (zz e)) (oth b o (zD (zz e)) (by rw[<-hH];exact zd _ e))) hS' hacc⟩
theorem afa {P:Nat->Value->Prop} (val:Nat->Str) (hval:∀ i v,P i v->∃ t,v=.str (val i) t):CmpOf prog w A .Lt P (λi j=>decide ((val i).cps.toList < (val j).cps.toList)):=λi j vi vj s Q E hi hj h=>by
 obtain⟨t,rfl⟩:=hval i vi hi;obtain⟨u,rfl⟩:=hval j vj hj;exact richCompare_gives (op:=.Lt) (typeIs_str s _ t) (typeIs_str s _ u) F.slot_str_lt F.entry_str_lt (F.args_str_lt_2 _ _) (gives_str_lt _ _ t u) (λx=>nomatch x) h
def two (a b:Str) (i:Nat):Str:=if i=0 then a else b
theorem afb {a b:Str} {t u:Tok} (i:Nat) (v:Value) (h:(#[Value.str a t,Value.str b u])[i]?=some v):∃ t',v=.str (two a b i) t':=by
 match i,h with
 |0,h=>cases h;exact⟨t,rfl⟩
 |1,h=>cases h;exact⟨u,rfl⟩
 |_+2,h=>simp at h
theorem Zb {a b:Str} {t u:Tok} {op:CmpOp} {Q:VP_} {bt:Nat->Nat->Bool} (hh:A.handled=none) (hc:CmpOf prog w A.in1 op (λi v=>(#[Value.str a t,Value.str b u])[i]?=some v) bt)
  (h:∀ h' tk,(∀ c o,s.heap.get? c=some o->h'.get? c=some o)->Q (if bt 1 0=true then .str b u else .str a t) { s with heap:=h',toks:=tk }) :
  wpAny (model prog w) A.in1 (pyIter (.ref s.heap.objs.size)) (λit s₂=>∃ I fp wr n P St bt,it=.ref I/\Walks prog w A.in1 I fp wr n P St/\St 0 s₂.heap/\(∀ b∈fp,b < s₂.heap.objs.size)/\0 < n/\CmpOf prog w A.in1 op P bt ∧
   ∀ v h' tk,P (argBest bt (n - 1)) v->(∀ b o,b∉wr->s₂.heap.get? b=some o->h'.get? b=some o)->Q v { s₂ with heap:=h',toks:=tk }) E
   { s with heap:=s.heap.push { cls:=.type "tuple", data:=.seq #[.str a t,.str b u] } }:=by
 have hT:(s.heap.push { cls:=.type "tuple", data:=.seq #[.str a t,.str b u] }).IsTuple s.heap.objs.size #[.str a t,.str b u]:=⟨_,zv _ rfl,rfl,0,rfl⟩;refine wpAny_pyIter_tuple hT ?_;have hsz:(s.heap.push { cls:=.type "tuple", data:=.seq #[.str a t,.str b u] }).objs.size=s.heap.objs.size+1:=qh ..;refine⟨_,[_,s.heap.objs.size],[_],_,_,_,bt,rfl,Walks.tuple (A:=A.in1) hh _ s.heap.objs.size (by rw[hsz];exact zD (qa _)) #[.str a t,.str b u],
  ⟨⟨_,zv _ rfl,rfl,rfl⟩,hT.push _⟩,λc hc=>?_,by simp,hc,λv h' tk hP hk=>?_⟩
 ·show c < ((s.heap.push _).push _).objs.size;rw[qh,hsz];rcases List.mem_cons.mp hc with rfl|hc
  ·rw[hsz];exact qa _
  ·rcases List.mem_cons.mp hc with rfl|hc
   ·exact qE (qa _)
   ·cases hc
 ·have hold:∀ c o,s.heap.get? c=some o->h'.get? c=some o:=λc o e=>by
   refine hk c o (λhm=>?_) (zd _ (zd _ e));rcases List.mem_cons.mp hm with e1|hm
   ·have:=zz e;rw[e1,hsz] at this;exact jS _ (Nat.lt_of_succ_lt this)
   ·cases hm
  have:=h h' tk hold;have hv:v=if bt 1 0=true then Value.str b u else Value.str a t:=by
   have hP':(#[Value.str a t,Value.str b u])[argBest bt 1]?=some v:=hP;unfold argBest argBest at hP';by_cases hba:bt 1 0=true
   ·rw[zk hba] at hP' ⊢;exact(by simpa using hP'.symm)
   ·rw[zw hba] at hP' ⊢;exact(by simpa using hP'.symm)
  rw[hv];exact this
end
section
variable {X:Cx}
def FW:List Bx->Option Bx
 |[.z (.str a),.z (.str b)]=>some (.z (.str (if afc b a=true then b else a)))
 |_=>none
where afc (x y:Str):Bool:=decide (x.cps.toList < y.cps.toList)
theorem acj (hc:X.calm=true):qp X (.builtin "min") FW:=by
 intro pins s σ H xs us Q I r h;obtain⟨bs,c,rb,e,q⟩:=h;unfold FW at e;split at e
 ·rename_i a b;cases e;obtain⟨v,w,rfl,r1,r2⟩:=Yt rb;obtain⟨rfl,h1⟩:=VN r1;obtain⟨rfl,h2⟩:=VN r2;obtain⟨u,u',rfl,ru,ru'⟩:=Vals.two r;obtain⟨t,rfl⟩:=ru;obtain⟨t',rfl⟩:=ru';refine call_min_two (Zb (I.ok.hd hc) (afa (two a b) afb) λh' tk kp=>?_);show EP X pins σ Q (if FW.afc b a=true then _ else _) _;by_cases hb:FW.afc b a=true
  ·rw[zk hb] at q ⊢;exact⟨.str b,H,I.kept kp,⟨_,rfl⟩,q _ H (Same.refl H) trivial r2⟩
  ·rw[zw hb] at q ⊢;exact⟨.str a,H,I.kept kp,⟨_,rfl⟩,q _ H (Same.refl H) trivial r1⟩
 ·cases e
def FZ:List Bx->Option Bx
 |[.n kvs]=>(V2 kvs).bind λys=>some (.o (ys.map Dt.str))
 |_=>none
theorem Zc (hc:X.calm=true):qp X (.type "list") FZ:=by
 intro pins s σ H xs us Q I r h;obtain⟨bs,c,rb,e,q⟩:=h;unfold FZ at e;split at e
 ·rename_i kvs;obtain⟨ys,ey,e⟩:=bind_some e;cases e;have hlen:kvs.length=ys.length:=by have:=congrArg List.length (wC ey);simpa using this
  obtain⟨v,rfl,r1⟩:=rep1 rb;obtain⟨a,ks,rfl,rd,rm⟩:=r1;obtain⟨u,rfl,ru⟩:=vals1 r;cases ru;obtain⟨hz,hsys,vs,kv,o,es,ep,dd⟩:=uD I.hok rd;have hk:vs.map (·.1)=ys.map Sum.inr:=by rw[Ui kv,rm.1];exact wC ey
  have hl:ks.length=vs.length:=kv.length;refine FT (I.ok.hd hc) hsys ⟨o,es,dd⟩ (by omega) λh' tk acc c' ext en hit=>?_;have z1:=RM hk hit;have hy:∀ y∈ys,y.length<=sizeLine:=abQ ey rm.2.2;have hfr:=I.hok.fresh (zi s.heap.objs.size);refine⟨.ref s.heap.objs.size,_,I.laid (t':=tk) (a:=s.heap.objs.size) (o:=.lst (ys.map V.str)) ext (zi _) ?_,rfl,q _ _ (bQ hfr) (λa ea=>by cases ea;exact hfr) ⟨_,_,rfl,bG,Fj hy⟩⟩;refine⟨by rw[zo,<-hlen,<-rm.len];exact hz,acc.toList,c',Bg z1,?_⟩;rw[en]
 ·cases e
end
def hole (H:Hp) (a:Addr):Hp:=λb=>if b=a then none else H b
theorem Uz {H:Hp} {a b:Addr} (h:b≠a):hole H a b=H b:=zw h
theorem UG {H:Hp} {a:Addr}:hole H a a=none:=zk rfl
def isZ:Bx->Bool
 |.z _=>true
 |_=>false
def spM (K:FG_) (n:Nat) (G:Addr->List (Key×Dt)->List Bx->Option (List (Key×Dt))):Sp:=λvs H Q _=>vs.length=n+1/\∃ a ks kvs rest bs kvs',vs=.ref a::rest/\H a=some (.dK ks)/\fM K H kvs ks/\rN K H bs rest/\bs.all isZ=true/\G a kvs bs=some kvs'/\∀ H' ks',Same (hole H a) H'->H' a=some (.dK ks')->fM K H' kvs' ks'->Q .non H'
def Px (n:Nat) (g:Ev->Option Out):Addr->List (Key×Dt)->List Bx->Option (List (Key×Dt)):=λa kvs bs=>(g ((Bx.m kvs (some a)::bs).map some++List.replicate (n - (bs.length+1)) none)).bind λr=>match r with
 |.nx ρ=>match ρ[0]? with
  |some (some (Bx.m kvs' (some b)))=>if b=a then some kvs' else none
  |_=>none
 |_=>none
theorem Sh {n:Nat} {g:Ev->Option Out} {a:Addr} {kvs kvs':List (Key×Dt)} {bs:List Bx} (h:Px n g a kvs bs=some kvs'):∃ ρ,g ((Bx.m kvs (some a)::bs).map some++List.replicate (n - (bs.length+1)) none)=some (.nx ρ)/\ρ[0]?=some (some (.m kvs' (some a))):=by
 obtain⟨r,er,h⟩:=bind_some h;cases r with
 |nx ρ=>
  dsimp only at h;split at h
  ·rename_i k b e;split at h
   ·rename_i hb;cases h;subst hb;exact⟨ρ,er,e⟩
   ·cases h
  ·cases h
 |rt _=>cases h
 |bk _=>cases h
 |ct _=>cases h
theorem Ga {α β:Type} {R:α->β->Prop}:∀ {xs:List α} {ys:List β},Paired R xs ys->∀ {i:Nat} {x:α},xs[i]?=some x->∃ y,ys[i]?=some y/\R x y
 |_,_,.nil,i,x,q=>by simp at q
 |_,_,.cons r _,0,x,q=>by simp at q;subst q;exact⟨_,rfl,r⟩
 |_,_,.cons _ t,i+1,x,q=>by
  rw[ZT] at q;obtain⟨y,y1,y2⟩:=Ga t q;exact⟨y,by rw[ZT];exact y1,y2⟩
theorem bN.startM {K:FG_} {H:Hp} {N:LS_} {bs:List Bx} {rest:List V} {a:Addr} {ks:List (Key×V)} {kvs:List (Key×Dt)} (ha:H a=some (.dK ks)) (rm:fM K H kvs ks) (r:rN K H bs rest) (hz:bs.all isZ=true):bN K (hole H a) H (L2.start N (.ref a::rest)) ((Bx.m kvs (some a)::bs).map some++List.replicate (N.length - (bs.length+1)) none):=by
 have hl:bs.length=rest.length:=Paired.length r;have r2:rN K H (.m kvs (some a)::bs) (.ref a::rest):=.cons ⟨a,ks,rfl,ha,rm,λb h=>by cases h;rfl⟩ r;have get:∀ (i:Nat) b,((Bx.m kvs (some a)::bs).map some++List.replicate (N.length - (bs.length+1)) none)[i]?=some (some b)->(Bx.m kvs (some a)::bs)[i]?=some b:=λi b e=>by
  by_cases hi:i < (Bx.m kvs (some a)::bs).length
  ·rw[ZI (by simpa using hi),Zl] at e;cases q:(Bx.m kvs (some a)::bs)[i]? with
   |none=>rw[q] at e;cases e
   |some b'=>rw[q] at e;simpa using e
  ·rw[qi (by simp at hi ⊢;omega),QE] at e;split at e<;>cases e
 have noz:∀ (i:Nat) b,((Bx.m kvs (some a)::bs).map some++List.replicate (N.length - (bs.length+1)) none)[i]?=some (some b)->i≠0->loose b=false:=λi b e hi=>by
  have e2:=get i b e;cases i with
  |zero=>exact absurd rfl hi
  |succ j=>
   rw[ZT] at e2;have:=List.all_eq_true.mp hz b (Z3 e2);cases b<;>first|rfl|cases this
 have ol:∀ c,uL c=true->loose c=true:=λc hc=>by cases c<;>first|rfl|cases hc
 have zero:∀ (i:Nat) c,((Bx.m kvs (some a)::bs).map some++List.replicate (N.length - (bs.length+1)) none)[i]?=some (some c)->loose c=true->i=0:=λi c e hc=>by
  by_cases hi:i=0
  ·exact hi
  ·rw[noz i c e hi] at hc;cases hc
 have st:∀ i v,(Value.ref a=Value.ref a)->(V.ref a::rest)[i]?=some v->(L2.start N (.ref a::rest))[i]?=some (some v):=λi v _ e=>by
  have hi:i < (V.ref a::rest).length:=(List.getElem?_eq_some_iff.mp e).1;unfold L2.start;rw[ZI (by simpa using hi),Zl,e];rfl
 refine⟨by unfold L2.start;simp[hl],λi b e=>?_,λi j c x b e1 ec _ e3 hb _=>?_,λb o e=>?_,λi c x e ec e2=>?_⟩
 ·obtain⟨v,e1,r1⟩:=Ga r2 (get i b e);exact⟨v,st i v rfl e1,r1⟩
 ·rw[zero i c e1 (ol c ec),zero j b e3 hb]
 ·by_cases hb:b=a
  ·subst hb;rw[UG] at e;cases e
  ·rw[Uz hb] at e;exact e
 ·have hi:=zero i c e (ol c ec);subst hi;rw[st 0 (.ref a) rfl rfl] at e2;cases e2;exact UG
theorem ai2 {P:Program} {w:World} {K:FG_} {mg:Str->Option Value} {base:Heap} {x qual:Str} {st:Stmt} {f:Addr} {fd:FuncData} {N ps:LS_} {k n m:Nat} {g:Ev->Option Out} (F:Fun K x qual st f fd) (S:bF N ps (aO st)) (hn:N.length=n) (hm:ps.length=m+1)
  (hbody:∀ (cdv:Value) (A:Around) (outer:List Env) (s:Shared) (H:Hp) (E:XK),nu k (A.deeper (envOfC qual (aO st) s.heap.objs.size f cdv))->Rp (Ei Ng P w K mg base N qual (aO st) f cdv A outer s H E).nox (jy st) g) :
  wM P w K mg base Ng (k+1) f fd ps (spM K m (Px n g)):=by
 subst hn;refine F.ok S (λvs H Q E h=>by rw[hm];exact h.1) λcdv A outer s H vs Q E hr h=>?_;obtain⟨hl,a,ks,kvs,rest,bs,kvs',rfl,ha,rm,rb,hz,e,q⟩:=h;refine⟨_,(hbody cdv A outer s H E hr).run,?_⟩;obtain⟨ρ,er,e0⟩:=Sh e;refine⟨hole H a,_,_,bN.startM ha rm rb hz,er,?_⟩;intro σ' H' E';obtain⟨v,ev,b,ks',rfl,hb,rm',tie⟩:=E'.val 0 _ e0;have:=tie a rfl;subst this;exact q H' ks' E'.base hb rm'
open Classical in
noncomputable def Gb (i n:Nat) (G:Addr->List (Key×Dt)->List Bx->Option (List (Key×Dt))) (fs:Ev->Option (List Bx)):Ev->Option Out:=λρ=>match ρ[i]? with
 |some (some (.m kvs w))=>(fs ρ).bind λbs=>if h:bs.length=n/\bs.all isZ=true/\∃ kvs',∀ a,G a kvs bs=some kvs' then some (.nx (ρ.set i (some (.m (Classical.choose h.2.2) w)))) else none
 |_=>none
theorem Sq {i n:Nat} {G:Addr->List (Key×Dt)->List Bx->Option (List (Key×Dt))} {fs:Ev->Option (List Bx)} {ρ:Ev} {r:Out} (h:Gb i n G fs ρ=some r):∃ kvs w bs kvs',ρ[i]?=some (some (.m kvs w))/\fs ρ=some bs/\bs.length=n/\bs.all isZ=true/\(∀ a,G a kvs bs=some kvs')/\r=.nx (ρ.set i (some (.m kvs' w))):=by
 unfold Gb at h;split at h
 ·rename_i kvs w e;obtain⟨bs,eb,h⟩:=bind_some h;split at h
  ·rename_i hh;cases h;exact⟨kvs,w,bs,_,e,eb,hh.1,hh.2.1,Classical.choose_spec hh.2.2,rfl⟩
  ·cases h
 ·cases h
theorem Zd {i n:Nat} {G:Addr->List (Key×Dt)->List Bx->Option (List (Key×Dt))} {fs:Ev->Option (List Bx)} {ρ:Ev} {kvs kvs':List (Key×Dt)} {w:Option Addr} {bs:List Bx} (e:ρ[i]?=some (some (.m kvs w))) (eb:fs ρ=some bs) (hl:bs.length=n) (hz:bs.all isZ=true) (hG:∀ a,G a kvs bs=some kvs'):Gb i n G fs ρ=some (.nx (ρ.set i (some (.m kvs' w)))):=by
 unfold Gb;rw[e];simp only[eb,ai4];have hh:bs.length=n/\bs.all isZ=true/\∃ kvs',∀ a,G a kvs bs=some kvs':=⟨hl,hz,kvs',hG⟩;rw[dif_pos hh];have:=Classical.choose_spec hh.2.2 0;rw[hG 0] at this;injection this with this;rw[<-this]
where ai4 {α β:Type} (a:α) (f:α->Option β):(some a).bind f=f a:=rfl
theorem bN.ahq {K:FG_} {H0 H H':Hp} {σ:L2.St} {ρ:Ev} {i:Nat} {a:Addr} {kvs kvs':List (Key×Dt)} {w:Option Addr} {ks ks':List (Key×V)} (E:bN K H0 H σ ρ) (h:ρ[i]?=some (some (.m kvs w))) (hs:σ[i]?=some (some (.ref a))) (ha:H a=some (.dK ks)) (sm:Same (hole H a) H') (ha':H' a=some (.dK ks')) (rm:fM K H' kvs' ks') (tie:∀ b,w=some b->b=a) :
  bN K H0 H' σ (ρ.set i (some (.m kvs' w))):=by
 have hi:i < ρ.length:=(List.getElem?_eq_some_iff.mp h).1;have hb:H0 a=none:=E.new i _ a h rfl hs;have sn:∀ b u,b≠a->H b=some u->H' b=some u:=λb u hne e=>sm b u (by rw[Uz hne];exact e);have kp:Kp H H':=⟨λb xs e=>sn b _ (oH e ha (by intro z;cases z)) e,λb ob u e=>sn b _ (oH e ha (by intro z;cases z)) e⟩;refine⟨by rw[ko];exact E.len,λj b' e=>?_,λj k' c a' b' e1 ec e2 e3 e4 e5=>?_,λc o e=>?_,λj c a' e1 ec e2=>?_⟩
 ·rcases getset e with⟨rfl,e',_⟩|⟨hne,e'⟩
  ·cases e';exact⟨_,hs,a,ks',rfl,ha',rm,tie⟩
  ·obtain⟨v,e1,r'⟩:=E.val j b' e';refine⟨v,e1,?_⟩;have away:∀ a',v=.ref a'->loose b'=true->a'≠a:=λa' ev hl z=>by
    subst z;exact hne (E.own i j _ _ _ h rfl hs e' hl (by rw[e1,ev])).symm
   cases b' with
   |z d=>exact Rep.kp kp r'
   |l ds'=>
    obtain⟨a',vs',rfl,q,rr⟩:=r';have hn:=away a' rfl rfl;exact⟨a',vs',rfl,q.imp (sn _ _ hn) λ⟨o,q⟩=>⟨o,sn _ _ hn q⟩,rr.kp kp⟩
   |o ds'=>
    obtain⟨a',vs',rfl,q,rr⟩:=r';exact⟨a',vs',rfl,sn _ _ (away a' rfl rfl) q,rr.kp kp⟩
   |n ds'=>
    obtain⟨a',vs',rfl,q,rr⟩:=r';have hn:=away a' rfl rfl;exact⟨a',vs',rfl,q.imp (sn _ _ hn) λ⟨o,q⟩=>⟨o,sn _ _ hn q⟩,rr.kp kp⟩
   |m ds' _=>
    obtain⟨a',vs',rfl,q,rr,tt⟩:=r';exact⟨a',vs',rfl,sn _ _ (away a' rfl rfl) q,rr.kp kp,tt⟩
 ·have back:∀ {j:Nat} {c:Bx},(ρ.set i (some (.m kvs' w)))[j]?=some (some c)->∃ c',ρ[j]?=some (some c')/\(uL c=true->uL c'=true)/\(loose c=true->loose c'=true):=λ{j c} e=>by
   rcases getset e with⟨rfl,e',_⟩|⟨_,e'⟩
   ·exact⟨_,h,λ_=>rfl,λ_=>rfl⟩
   ·exact⟨c,e',id,id⟩
  obtain⟨c',p1,p2,_⟩:=back e1;obtain⟨b2,q1,_,q3⟩:=back e3;exact E.own j k' c' a' b2 p1 (p2 ec) e2 q1 (q3 e4) e5
 ·have e2:=E.base c o e;exact sn c o (λz=>by subst z;rw[hb] at e;cases e) e2
 ·rcases getset e1 with⟨rfl,e',_⟩|⟨_,e'⟩
  ·exact E.new _ _ a' h rfl e2
  ·exact E.new j c a' e' ec e2
section
variable {X:Cx} {e:Expr} {es:List Expr} {fs:Ev->Option (List Bx)} {p px pos spos:Pos} {x y:Str} {k n:Nat} {f:Addr} {fd:FuncData} {ps:LS_} {G:Addr->List (Key×Dt)->List Bx->Option (List (Key×Dt))}
theorem acn (i:Nat) (F:wM X.prog X.w X.K X.mg X.base Ng k f fd ps (spM X.K n G)) (hr:nu k X.A) (hg:Gl X x) (hm:X.mg x=some (.ref f)) (hk:keepIn X.K (.ref f)=true) (hb:Binds X.K fd ps [])
  (ha:Xc X es fs) (hN:X.N[i]?=some y:=by rfl) (hv:Tv X.env.scope y:=by first|exact ja rfl|exact QA (ja rfl)|exact QA (QA rfl)) (hd:(y==("__debug__" : Str))=false:=by decide)
  (hcd:(y==("__classdict__" : Str))=false:=by decide) (hdb:(x==("__debug__" : Str))=false:=by decide) (he:starEach (.Name y px::es) X.env=(false,eval (.Name y px) X.env)::starEach es X.env:=by rfl) (hpl:(backTo pos (starEach es X.env)).any (·.1)=false:=by rfl) (hs:swapsWith (.Call (.Name x p) (.Name y px::es) [] pos) none spos.line X.env=pure false:=by rfl) :
  Nh X (.Expr (.Call (.Name x p) (.Name y px::es) [] pos) spos) (Gb i n G fs):=⟨Rn (Dm (TV F hr hg hm hk hb .nil ade (gY (sZ (i:=i) hN hv hd hcd) ha.run he) hdb he hpl) hs) λD σ H h=>by
 obtain⟨H0,ρ,r,E,e,q⟩:=h;obtain⟨kvs,w,bs,kvs',hρ,eb,hl,hz,hG,rfl⟩:=Sq e;obtain⟨v,e1,a,ks,rfl,haa,rm,tie⟩:=E.val i _ hρ;refine⟨_,e1,H0,ρ,bs,E,eb,λvs H1 s1 r1=>?_⟩;have ha1:=s1 _ _ haa;refine⟨by simp only[JP,ZH];rw[<-Paired.length r1,hl],a,ks,kvs,vs,bs,kvs',by simp,ha1,rm.kp (.of s1),r1,hz,hG a,λH' ks' sm hk' rm'=>?_⟩;exact q σ H' ((E.grow s1).ahq hρ e1 ha1 sm hk' rm' tie)⟩
end
def isT:Option Bool->Bool
 |some true=>true
 |_=>false
def Wo (x:Dt) (ys:List Dt):Option Bool:=if(ys.all λy=>(Aj y x).isSome&&decide (min (uY y) (uY x)<=60))=true then some (ys.any λy=>isT (Aj y x)) else none
def inX (a b:Bx):Option Bx:=match a with
 |.z d=>(qZ b).bind λys=>(Wo d ys).bind λk=>some (.z (.bl k))
 |_=>none
def Lh (a b:Bx):Option Bx:=match a with
 |.z d=>(qZ b).bind λys=>(Wo d ys).bind λk=>some (.z (.bl (!k)))
 |_=>none
section
variable {X:Cx} {pins:List (Addr×Obj)} {σ:L2.St} {H:Hp} {s:Shared}
theorem Li (I:L2.Inv X pins σ H s) (hu:X.A.units+100 < cLine) {d:Dt} {x:V} {u:Value} (rx:Rep X.K H d x) (ru:RelV x u) {ys:List Dt} {vs:List V} {its:List Value} (rs:aK X.K H ys vs) (rv:Vals vs its) {k:Bool} (hk:Wo d ys=some k) :
  ∃ e:Value->Bool,(∀ y,y∈its->SeqAt.EqAt X.A.in1 s y u (e y))/\its.any e=k:=by
 unfold Wo at hk;split at hk
 ·rename_i hall;injection hk with hk;rw[ZY] at hall;have at_:∀ (i:Nat) y,its[i]?=some y->∃ c,ys[i]?=some c/\SeqAt.EqAt X.A.in1 s y u (isT (Aj c d)):=λi y hy=>by
   have hl:=rv.length;have hl2:=rs.length;have hi:i < its.length:=(List.getElem?_eq_some_iff.mp hy).1;have hi':i < ys.length:=by omega
   obtain⟨v,ev,r1⟩:=rs.get (show ys[i]?=some ys[i] by simp[hi']);obtain⟨y',ey,r2⟩:=rv.get ev;rw[hy] at ey;cases ey;refine⟨ys[i],by simp[hi'],?_⟩;have hc:=hall ys[i] (ym hi');rw[ZA] at hc;obtain⟨b,hb⟩:=Option.isSome_iff_exists.mp hc.1;have:=adl I 60 (A:=X.A.in1) (qr hc.2) (by rw[units_in1];omega) r1 rx r2 ru hb;rw[hb];cases b<;>exact this
  classical
  refine⟨λy=>decide (∃ (i:Nat) (c:Dt),its[i]?=some y/\ys[i]?=some c/\isT (Aj c d)=true),λy hy=>?_,?_⟩
  ·dsimp only;by_cases q:∃ (i:Nat) (c:Dt),its[i]?=some y/\ys[i]?=some c/\isT (Aj c d)=true
   ·rw[Zp q];obtain⟨i,c,h1,h2,h3⟩:=q;obtain⟨c',e1,e2⟩:=at_ i y h1;rw[h2] at e1;cases e1;rw[h3] at e2;exact e2
   ·rw[ZE q];obtain⟨i,hi,ei⟩:=Q2 hy;have h1:its[i]?=some y:=by rw[z4 hi,ei]
    obtain⟨c,e1,e2⟩:=at_ i y h1;have:isT (Aj c d)=false:=by
     cases hq:isT (Aj c d) with
     |false=>rfl
     |true=>exact absurd ⟨i,c,h1,e1,hq⟩ q
    rw[this] at e2;exact e2
  ·rw[<-hk,JU,j3,j3];constructor
   ·rintro⟨y,hy,h⟩;obtain⟨i,c,h1,h2,h3⟩:=qr h;exact⟨c,Z3 h2,h3⟩
   ·rintro⟨c,hc,h3⟩;obtain⟨i,hi,ei⟩:=Q2 hc;have hl:=rv.length;have hl2:=rs.length;have hi':i < its.length:=by omega
    exact⟨its[i],ym hi',Zp ⟨i,c,by simp[hi'],by rw[z4 hi,ei],h3⟩⟩
 ·cases hk
theorem Bp (hu:X.A.units+100 < cLine):CJ X (compareOp .In) inX:=by
 intro pins s σ H x y v u Q I rx ry h;obtain⟨a,b,c,ra,rb,e,q⟩:=h;unfold inX at e;split at e
 ·rename_i d;obtain⟨ys,ey,e⟩:=bind_some e;obtain⟨k,ek,e⟩:=bind_some e;cases e;obtain⟨p,vs,rfl,sq,rs⟩:=DK rb ey;cases ry;rcases sq with sq|sq
  ·obtain⟨its,r',pl,hz⟩:=I.list sq;obtain⟨f,f1,f2⟩:=Li I hu ra rx rs r' ek;refine SeqAt.in_listAt f pl.isList (λw hw=>f1 w (by simpa using hw)) ⟨.bl k,H,I,by rw[show its.toArray.any f=its.any f by simp,f2];rfl,q _ H (Same.refl H) trivial (by simp only[aU,Rep])⟩
  ·obtain⟨its,r',pl,hz⟩:=I.tuple sq;obtain⟨f,f1,f2⟩:=Li I hu ra rx rs r' ek;refine SeqAt.in_tupleAt f pl (λw hw=>f1 w (by simpa using hw)) ⟨.bl k,H,I,by rw[show its.toArray.any f=its.any f by simp,f2];rfl,q _ H (Same.refl H) trivial (by simp only[aU,Rep])⟩
 ·cases e
theorem Lj (hu:X.A.units+100 < cLine):CJ X (compareOp .NotIn) Lh:=by
 intro pins s σ H x y v u Q I rx ry h;obtain⟨a,b,c,ra,rb,e,q⟩:=h;unfold Lh at e;split at e
 ·rename_i d;obtain⟨ys,ey,e⟩:=bind_some e;obtain⟨k,ek,e⟩:=bind_some e;cases e;obtain⟨p,vs,rfl,sq,rs⟩:=DK rb ey;cases ry;rcases sq with sq|sq
  ·obtain⟨its,r',pl,hz⟩:=I.list sq;obtain⟨f,f1,f2⟩:=Li I hu ra rx rs r' ek;refine SeqAt.notIn_listAt f pl.isList (λw hw=>f1 w (by simpa using hw)) ⟨.bl (!k),H,I,by rw[show its.toArray.any f=its.any f by simp,f2];rfl,q _ H (Same.refl H) trivial (by simp only[aU,Rep])⟩
  ·obtain⟨its,r',pl,hz⟩:=I.tuple sq;obtain⟨f,f1,f2⟩:=Li I hu ra rx rs r' ek;refine SeqAt.notIn_tupleAt f pl (λw hw=>f1 w (by simpa using hw)) ⟨.bl (!k),H,I,by rw[show its.toArray.any f=its.any f by simp,f2];rfl,q _ H (Same.refl H) trivial (by simp only[aU,Rep])⟩
 ·cases e
end
section
variable {X:Cx} {g:Ev->Option Out} {st:List Stmt} {i:Nat}
def afd (i:Nat) (ρ:Ev):Option Ev:=match ρ[i]? with
 |some (some (.o ds))=>some (ρ.set i (some (.z (.lst ds))))
 |_=>none
def fzG (i:Nat) (g:Ev->Option Out):Ev->Option Out:=λρ=>(afd i ρ).bind g
theorem afe (h:TJ X st g):TJ X st (fzG i g):=by
 intro pins s σ H D I q;obtain⟨H0,ρ,r,E,e,f⟩:=q;obtain⟨ρ',e1,e2⟩:=bind_some e;unfold afd at e1;split at e1
 ·rename_i ds hr;cases e1;obtain⟨v,hv,a,vs,rfl,ha,rs⟩:=E.val i _ hr;obtain⟨o,I2⟩:=Er I ha;have kp:Kp H (upd H a (.sY o (.lst vs))):=.lst ha;refine h pins s σ _ D I2 ⟨H0,_,r,E.aeC hr rfl hv kp ?_,e2,f⟩;simp only[aU,Rep];exact⟨a,vs,rfl,.inl ⟨o,bG⟩,rs.kp kp⟩
 ·cases e1
theorem Ze (h:Rp X st g):Rp X st (fzG i g):=⟨afe h.run⟩
end
open AutoSeq1 (wpAny_loadPart')
open SeqAt
section
variable {X:Cx} {pins:List (Addr×Obj)} {σ:L2.St} {H:Hp} {s:Shared}
end
section
variable {X:Cx} {o e:Expr} {fo fx:Ev->Option Bx}
end
section
variable {X:Cx} {c:Expr} {body:List Stmt} {t:Ev->Option Bool} {g:Ev->Option Out} {pos:Pos}
def Wq (t:Ev->Option Bool) (g:Ev->Option Out):Nat->Ev->Option Out
 |0,_=>none
 |n+1,ρ=>(t ρ).bind λb=>if b=true then(g ρ).bind λr=>match r with
  |.nx ρ'=>Wq t g n ρ'
  |.ct ρ'=>Wq t g n ρ'
  |.bk ρ'=>some (.nx ρ')
  |.rt b=>some (.rt b)
  else some (.nx ρ)
theorem Zf (n:Nat) (hp:PassesOwn (model X.prog X.w) X.A X.env X.xe) (hc:PB X c t) (hb:TJ X body g):PG1 X (.While c body [] pos) (Wq t g n):=
 Rn (Xm hp hc hb) λD σ H q=>by
  obtain⟨H0,ρ,r,E,e,f⟩:=q;refine⟨λm σ H=>∃ H0 ρ r,bN X.K H0 H σ ρ/\Wq t g m ρ=some r/\Ro X.K H0 D r,⟨n,H0,ρ,r,E,e,f⟩,?_⟩;rintro m σ H ⟨H0,ρ,r,E,e,f⟩;cases m with
  |zero=>cases e
  |succ m=>
   obtain⟨b,eb,e⟩:=bind_some e;refine⟨H0,ρ,b,E,eb,λH1 s1=>?_⟩;cases b with
   |false=>
    rw[zw (by decide)] at e ⊢;cases e;exact f σ H1 (E.grow s1)
   |true=>
    rw[zk rfl] at e ⊢;obtain⟨r',er,e⟩:=bind_some e;refine⟨λσ' H'=>∃ m',m' < m+1/\∃ H0 ρ r,bN X.K H0 H' σ' ρ/\Wq t g m' ρ=some r/\Ro X.K H0 D r,λσ' H' z=>z,H0,ρ,r',E.grow s1,er,?_⟩;cases r' with
    |nx ρ'=>exact λσ' H' E'=>⟨m,qa m,H0,ρ',r,E',e,f⟩
    |ct ρ'=>exact λσ' H' E'=>⟨m,qa m,H0,ρ',r,E',e,f⟩
    |bk ρ'=>cases e;exact λσ' H' E'=>f σ' H' E'
    |rt b=>cases e;exact f
theorem Py (n:Nat) (hp:PassesOwn (model X.prog X.w) X.A X.env X.xe) (hc:QB X c t) (hb:Rp X body g):Nh X (.While c body [] pos) (Wq t g n):=⟨Zf n hp hc.run hb.run⟩
end
section
variable {X:Cx} {pins:List (Addr×Obj)} {σ:L2.St} {H:Hp} {s:Shared} {h':Heap}
end
section
variable {X:Cx} {elts:List Expr} {x1:Nat} {tpos p pos:Pos} {e:Expr} {fs:Ev->Option (List Bx)}
end
section
variable {X:Cx} {e:Expr} {f:Ev->Option Bx} {pos:Pos}
def Zg (j i:Nat) (f:Ev->Option Bx):Ev->Option Out:=λρ=>(f ρ).bind λb=>match b with
 |.z (.int k)=>match ρ[i]? with
  |some (some (.o ds))=>if -(2 ^ 62)<=k/\k < 2 ^ 62 then(seqIndex? k ds.length).bind λm=>(ds[m]?).bind λd=>(VD (ρ.set i (some (.o (ds.eraseIdx m)))) j (.z d)).bind λρ'=>some (.nx ρ') else none
  |_=>none
 |_=>none
theorem Ge {K:FG_} {H:Hp}:∀ (m:Nat) {ds:List Dt} {vs:List V},aK K H ds vs->aK K H (ds.eraseIdx m) (vs.eraseIdx m)
 |m,[],vs,h=>by
  cases vs with
  |nil=>exact h
  |cons v vs=>have:=h.length;simp at this
 |m,d::ds,vs,h=>by
  cases vs with
  |nil=>have:=h.length;simp at this
  |cons v vs=>
   obtain⟨v',r,e,q,t⟩:∃ v' r,v::vs=v'::r/\Rep K H d v'/\aK K H ds r:=by
    simpa only[aK] using h
   cases e;cases m with
   |zero=>exact t
   |succ m=>exact aK.cons q (Ge m t)
theorem afg (j i:Nat) {x y:Str} {p p2 apos cpos:Pos} (nd:X.N.Nodup) (he:PV X e f) (hN:X.N[i]?=some x:=by rfl) (hv:Tv X.env.scope x:=by first|exact ja rfl|exact QA (ja rfl)|exact QA (QA rfl)) (hd:(x==("__debug__" : Str))=false:=by decide)
  (hcd:(x==("__classdict__" : Str))=false:=by decide) (hst:starEach [e] X.env=[(false,eval e X.env)]:=by rfl)
  (hbase:attributeBase (.Name x p) "pop" X.env (eval (.Name x p) X.env)=eval (.Name x p) X.env:=by rfl)
  (hfew:((backTo cpos (starEach [e] X.env)).all (λx=>!x.1)&&(backToKw cpos (keywordEach [] X.env)).all (λx=>x.1.isSome)
   && decide ([e].length+([]:List Keyword).length+(if([]:List Keyword).isEmpty then 0 else 1) < 30))=true:=by rfl)
  (hline:(apos.endLine==cpos.line)=true:=by rfl) (hj:X.N[j]?=some y:=by rfl) (hy:Loc X.env.scope y:=by first|exact ja rfl|exact QA rfl)
  (hs:swapsWith (.Call (.Attribute (.Name x p) "pop" apos) [e] [] cpos) (some (.Name y p2)) pos.line X.env=pure false:=by rfl) (hf:X.fn y=true\/X.env.scope.names.lookup y=some .local:=by first|exact .inl rfl|exact .inr rfl) :
  PG1 X (.Assign [.Name y p2] (.Call (.Attribute (.Name x p) "pop" apos) [e] [] cpos) pos) (Zg j i f):=
 Rn (Xl nd hj hy (T4 yo PySem.F.slot_list_pop PySem.F.type_list_pop XD (sZ (i:=i) hN hv hd hcd) (gY he qW (by rw[hst]<;>rfl)) hbase hfew hline (by rw[hst]<;>rfl) rfl) hs hf) λD σ H h=>by
  obtain⟨H0,ρ,r,E,e,q⟩:=h;obtain⟨b,eb,e⟩:=bind_some e;split at e
  ·rename_i k;split at e
   ·rename_i ds hρ;split at e
    ·rename_i hb;obtain⟨m,em,e⟩:=bind_some e;obtain⟨d,ed,e⟩:=bind_some e;obtain⟨ρ',eρ,e⟩:=bind_some e;cases e;obtain⟨v,e1,a,vs,rfl,ha,rs⟩:=E.val i _ hρ;refine⟨_,e1,.inl ⟨rfl,vs,.inl (.inl ha)⟩,H0,ρ,_,E,eb,λu H1 s1 n1 r1=>?_⟩;have E1:=E.grow s1;have rs1:=rs.kp (.of s1);obtain⟨w,ew,rw1⟩:=rs1.get ed;have hu:u=.int k:=by simpa only[aU,Rep] using r1
     subst hu;have ha1:=s1 _ _ ha;refine⟨a,vs,k,m,w,rfl,rfl,ha1,by omega,by omega,by rw[rs.length];exact em,ew,?_⟩;have E2:=E1.Rj hρ e1 ha1 (Ge m rs1);have kp:Kp H1 (upd H1 a (.lst (vs.eraseIdx m))):=.lst ha1;exact q _ _ (T8 E2 (Same.refl _) (b:=.z d) (by simp only[aU];exact Rep.kp kp rw1) trivial eρ)
    ·cases e
   ·cases e
  ·cases e
theorem afh (j i:Nat) {x y:Str} {p p2 apos cpos:Pos} (nd:X.N.Nodup) (he:QV X e f) (hN:X.N[i]?=some x:=by rfl) (hv:Tv X.env.scope x:=by first|exact ja rfl|exact QA (ja rfl)|exact QA (QA rfl)) (hd:(x==("__debug__" : Str))=false:=by decide)
  (hcd:(x==("__classdict__" : Str))=false:=by decide) (hst:starEach [e] X.env=[(false,eval e X.env)]:=by rfl)
  (hbase:attributeBase (.Name x p) "pop" X.env (eval (.Name x p) X.env)=eval (.Name x p) X.env:=by rfl)
  (hfew:((backTo cpos (starEach [e] X.env)).all (λx=>!x.1)&&(backToKw cpos (keywordEach [] X.env)).all (λx=>x.1.isSome)
   && decide ([e].length+([]:List Keyword).length+(if([]:List Keyword).isEmpty then 0 else 1) < 30))=true:=by rfl)
  (hline:(apos.endLine==cpos.line)=true:=by rfl) (hj:X.N[j]?=some y:=by rfl) (hy:Loc X.env.scope y:=by first|exact ja rfl|exact QA rfl)
  (hs:swapsWith (.Call (.Attribute (.Name x p) "pop" apos) [e] [] cpos) (some (.Name y p2)) pos.line X.env=pure false:=by rfl) (hf:X.fn y=true\/X.env.scope.names.lookup y=some .local:=by first|exact .inl rfl|exact .inr rfl) :
  Nh X (.Assign [.Name y p2] (.Call (.Attribute (.Name x p) "pop" apos) [e] [] cpos) pos) (Zg j i f):=
 ⟨afg j i nd he.run hN hv hd hcd hst hbase hfew hline hj hy hs hf⟩
end
section
variable {X:Cx}
end
section
variable {X:Cx} {e:Expr} {f:Ev->Option Bx} {pos:Pos}
def aco (ρ:Ev) (i:Nat):Bx->Option Out
 |.o zs=>match ρ[i]? with
  |some (some (.o ds))=>if ds.length+zs.length<=sizeLine then some (.nx (ρ.set i (some (.o (ds++zs))))) else none
  |_=>none
 |_=>none
def Zh (i:Nat) (f:Ev->Option Bx):Ev->Option Out:=λρ=>(f ρ).bind (aco ρ i)
theorem afi (i:Nat) {x:Str} {p apos cpos:Pos} (he:PV X e f) (hN:X.N[i]?=some x:=by rfl) (hv:Tv X.env.scope x:=by first|exact ja rfl|exact QA (ja rfl)|exact QA (QA rfl)) (hd:(x==("__debug__" : Str))=false:=by decide)
  (hcd:(x==("__classdict__" : Str))=false:=by decide) (hst:starEach [e] X.env=[(false,eval e X.env)]:=by rfl)
  (hbase:attributeBase (.Name x p) "extend" X.env (eval (.Name x p) X.env)=eval (.Name x p) X.env:=by rfl)
  (hfew:((backTo cpos (starEach [e] X.env)).all (λx=>!x.1)&&(backToKw cpos (keywordEach [] X.env)).all (λx=>x.1.isSome)
   && decide ([e].length+([]:List Keyword).length+(if([]:List Keyword).isEmpty then 0 else 1) < 30))=true:=by rfl)
  (hline:(apos.endLine==cpos.line)=true:=by rfl) (hs:swapsWith (.Call (.Attribute (.Name x p) "extend" apos) [e] [] cpos) none pos.line X.env=pure false:=by rfl) :
  PG1 X (.Expr (.Call (.Attribute (.Name x p) "extend" apos) [e] [] cpos) pos) (Zh i f):=
 Rn (Dm (T4 yo PySem.F.slot_list_extend PySem.F.type_list_extend Vv (sZ (i:=i) hN hv hd hcd) (gY he qW (by rw[hst]<;>rfl)) hbase hfew hline (by rw[hst]<;>rfl) rfl) hs) λD σ H h=>by
  obtain⟨H0,ρ,r,E,e,q⟩:=h;obtain⟨b,eb,e⟩:=bind_some e;cases b with
  |o zs=>
   simp only[aco] at e;split at e
   ·rename_i ds hρ;split at e
    ·rename_i hl;cases e;obtain⟨v,e1,a,vs,rfl,ha,rs⟩:=E.val i _ hρ;refine⟨_,e1,.inl ⟨rfl,vs,.inl (.inl ha)⟩,H0,ρ,_,E,eb,λu H1 s1 n1 r1=>?_⟩;have E1:=E.grow s1;obtain⟨b,ws,rfl,hb,rw1⟩:=r1;refine⟨a,b,vs,ws,rfl,rfl,s1 _ _ ha,hb,by rw[rs.length,rw1.length];exact hl,q _ _ ?_⟩;exact E1.Rj hρ e1 (s1 _ _ ha) ((rs.kp (.of s1)).append rw1)
    ·cases e
   ·cases e
  |_=>cases e
theorem afj (i:Nat) {x:Str} {p apos cpos:Pos} (he:QV X e f) (hN:X.N[i]?=some x:=by rfl) (hv:Tv X.env.scope x:=by first|exact ja rfl|exact QA (ja rfl)|exact QA (QA rfl)) (hd:(x==("__debug__" : Str))=false:=by decide)
  (hcd:(x==("__classdict__" : Str))=false:=by decide) (hst:starEach [e] X.env=[(false,eval e X.env)]:=by rfl)
  (hbase:attributeBase (.Name x p) "extend" X.env (eval (.Name x p) X.env)=eval (.Name x p) X.env:=by rfl)
  (hfew:((backTo cpos (starEach [e] X.env)).all (λx=>!x.1)&&(backToKw cpos (keywordEach [] X.env)).all (λx=>x.1.isSome)
   && decide ([e].length+([]:List Keyword).length+(if([]:List Keyword).isEmpty then 0 else 1) < 30))=true:=by rfl)
  (hline:(apos.endLine==cpos.line)=true:=by rfl) (hs:swapsWith (.Call (.Attribute (.Name x p) "extend" apos) [e] [] cpos) none pos.line X.env=pure false:=by rfl) :
  Nh X (.Expr (.Call (.Attribute (.Name x p) "extend" apos) [e] [] cpos) pos) (Zh i f):=⟨afi i he.run hN hv hd hcd hst hbase hfew hline hs⟩
end
section
variable {X:Cx} {e ek ev:Expr} {f fk fv:Ev->Option Bx} {pos:Pos} {st:Stmt}
def noG:Ev->Option Out:=λ_=>none
theorem acp:Nh X st noG:=⟨λD pins s σ H I q=>by
 obtain⟨H0,ρ,r,E,e,q⟩:=q;cases e⟩
def UJ (f:Ev->Option Bx):Ev->Option Out:=λρ=>(f ρ).bind λ_=>some (.nx ρ)
theorem acq (he:QV X e f) (hs:swapsWith e none pos.line X.env=pure false:=by rfl):Nh X (.Expr e pos) (UJ f):=⟨Rn (Dm he.run hs) λD σ H h=>by
 obtain⟨H0,ρ,r,E,e,q⟩:=h;obtain⟨b,eb,e⟩:=bind_some e;cases e;exact⟨H0,ρ,b,E,eb,λv H1 s1 n1 r1=>q _ _ (E.grow s1)⟩⟩
def JN:Bx->Bx->Option Bx
 |.z (.str x),.z d=>some (.m [(.inr x,d)] none)
 |_,_=>none
theorem Ss {a b c:Bx} (h:JN a b=some c):∃ x d,a=.z (.str x)/\b=.z d/\c=.m [(.inr x,d)] none:=by
 unfold JN at h;split at h
 ·cases h;exact⟨_,_,rfl,rfl,rfl⟩
 ·cases h
theorem Zi (hk:QV X ek fk) (hv:QV X ev fv):QV X (.Dict [some ek] [ev] pos) (b2 JN fk fv):=⟨Ds (abm (XM hk.run hv.run abl) rfl rfl (by simp) (zC rfl)) λσ H Q h=>by
 obtain⟨H0,ρ,c,E,e,q⟩:=h;obtain⟨a,ea,e⟩:=bind_some e;obtain⟨b,eb,e⟩:=bind_some e;intro p hp;have s0:Same H (upd H p (.dK [])):=bQ hp;refine⟨H0,ρ,a,E.grow s0,ea,λv H1 s1 n1 r1=>⟨H0,ρ,b,(E.grow s0).grow s1,eb,λw H2 s2 n2 r2=>?_⟩⟩;obtain⟨x,d,rfl,rfl,rfl⟩:=Ss e;obtain⟨rfl,hx⟩:v=.str x/\x.length<=sizeLine:=by simpa only[aU,Rep] using r1
 have hp2:H2 p=some (.dK []):=s2 _ _ (s1 _ _ bG);have kp:Kp H2 (upd H2 p (.dK (Ar [] [(Sum.inr x,w)]))):=.dk hp2;refine⟨hp2,[(Sum.inr x,w)],rfl,zC rfl,q _ _ ?_ (λa ea=>by cases ea;exact hp) ⟨p,_,rfl,bG,?_,λb h=>by cases h⟩⟩
 ·intro b o hb;have hbp:b≠p:=λz=>by rw[z,hp] at hb;cases hb
  rw[aR hbp];exact s2 _ _ (s1 _ _ (s0 _ _ hb))
 ·exact fM.cons (p:=(Sum.inr x,d)) (Rep.kp kp r2) hx fM.nil⟩
def Zj {α:Type} (kvs:List (Key×α)) (x:Key):Bool:=kvs.any λkv=>decide (kv.1=x)
def Wr (a:Bx):Bx->Option Bx
 |.n kvs=>(kyB a).bind λx=>some (.z (.bl (!Zj kvs x)))
 |_=>none
theorem fM.ai6 {K:FG_} {H:Hp} {p:Addr} {kvs:List (Key×Dt)} {ks:List (Key×V)} (rd:Rd H p (.dK ks)) (rm:fM K H kvs ks) (x:Key):∃ o,XH H p (kV x) o/\o.isSome=Zj kvs x:=by
 refine⟨Ao ks x,.inl ⟨ks,x,rd,rfl,rfl⟩,?_⟩;unfold Zj Ao;rw[<-rm.any,Option.isSome_map,JU,List.find?_isSome,j3]
theorem UL (hu:X.A.units+100 < cLine):CJ X (compareOp .NotIn) Wr:=by
 intro pins s σ H x y v u Q I rx ry h;obtain⟨a,b,c,ra,rb,e,q⟩:=h;unfold Wr at e;split at e
 ·rename_i kvs;obtain⟨k,ek,e⟩:=bind_some e;cases e;obtain⟨p,ks,rfl,rd,rm⟩:=rb;obtain⟨rfl,_⟩:=K6 ek ra;cases ry;obtain⟨o,g,ho⟩:=rm.ai6 rd k;exact abf (by omega) I g rx λs' I'=>⟨.bl (!o.isSome),H,I',rfl,q _ H (Same.refl H) trivial (by simp only[aU,Rep];rw[ho])⟩
 ·cases e
end
section
variable {X:Cx} {e st:Expr} {f fs:Ev->Option Bx} {pos p2:Pos}
def Ws (a b:Bx):Option Bx:=(qj a).bind λds=>match b with
 |.z (.int i)=>if i = -1 then some (.o ds.reverse) else none
 |_=>none
theorem Wt {a b c:Bx} (h:Ws a b=some c):∃ ds,qj a=some ds/\b=.z (.int (-1))/\c=.o ds.reverse:=by
 unfold Ws at h;obtain⟨ds,ed,h'⟩:=bind_some h;clear h;split at h'
 ·split at h'
  ·rename_i hi;subst hi;injection h' with h';exact⟨ds,ed,rfl,h'.symm⟩
  ·cases h'
 ·cases h'
theorem acr (he:QV X e f) (hst:QV X st fs) (hsub:∀ v i:Value,subscripted (.Slice none none (some st) p2) false v i=operate [v,i] (getItem v i):=by intro _ _;with_unfolding_all rfl):QV X (.Subscript e (.Slice none none (some st) p2) pos) (b2 Ws f fs):=by
 refine⟨?_⟩;intro pins s σ H Q I h;obtain⟨H0,ρ,c,E,ee,q⟩:=h;obtain⟨a,ea,ee⟩:=bind_some ee;obtain⟨b,eb,ee⟩:=bind_some ee;refine Subscript_ (jd (he.run pins s σ H (λx H1=>Same H H1/\aU X.K H1 a x) I ⟨H0,ρ,a,E,ea,λv H1 s1 n1 r1=>⟨s1,r1⟩⟩) λv s1 ⟨x,H1,I1,r1,sm1,rep1⟩=>?_);refine wpAny_Slice ?_;rw[evalPart_none];refine ze ?_;refine ze ?_;rw[evalPart_some];refine jd (hst.run pins s1 σ H1 (λy H2=>Same H1 H2/\aU X.K H2 b y) I1 ⟨H0,ρ,b,E.grow sm1,eb,λv H2 s2 n2 r2=>⟨s2,r2⟩⟩) λvk s2 ⟨y,H2,I2,r2,sm2,rep2⟩=>?_;obtain⟨ds,ed,rfl,rfl⟩:=Wt ee;have hy:y=.int (-1):=by simpa only[aU,Rep] using rep2
 subst hy;obtain⟨tk,rfl⟩:=r2;obtain⟨p,vs,rfl,sq,rs⟩:=(rep1.same sm2).Hx ed;cases r1;have I4:L2.Inv X pins σ H2 { s2 with heap:=s2.heap.push { cls:=.type "slice", data:=.fields #[.none,.none,.int (-1) tk] } }:=I2.kept (t':=s2.toks) λb ob q=>zd _ q;obtain⟨its,r,hq,hz⟩:=I4.list sq;show wpAny (model X.prog X.w) X.A (subscriptTail e (.Slice none none (some st) p2) (.ref p) (.ref s2.heap.objs.size)) (EP X pins σ Q) X.xe { s2 with heap:=s2.heap.push { cls:=.type "slice", data:=.fields #[.none,.none,.int (-1) tk] } };refine tail_any (ops:=[.ref p,.ref s2.heap.objs.size]) hq.isList.typeIs list_getitem_lookup (wpAny_getItem_list_slice hq.isList (Heap.IsSliceOf.new ..) .none .none (.int _ _) (by decide) ?_ (by rw[zt,<-r.length];exact hz)) (hsub _ _);rw[PySem.W.krv_pick];have hf:=I4.hok.fresh (zi _);refine⟨.ref _,_,I4.laid (t':=s2.toks) (o:=.lst vs.reverse) (λb ob q=>zd _ q) (zi _) ?_,rfl,q _ _ ((sm1.trans sm2).trans (bQ hf)) (λa z=>by cases z;exact(sm1.trans sm2).free hf) ?_⟩
 ·exact⟨by rw[List.length_reverse];exact hz,its.reverse,0,r.reverse,zv _ rfl⟩
 ·exact⟨_,_,rfl,bG,(aK.rev rs).kp (.of (bQ hf))⟩
end
section
variable {prog:Program} {w:World} {A:Around} {E:VP_} {s:Shared}
theorem ad {a b:Nat} (h:a≠b):@Ne Addr a b:=h
end
section
variable {prog:Program} {w:World} {A:Around} {E:VP_} {s:Shared} {K:Type} [DecidableEq K] {knd:KeyKind prog w K}
end
section
variable {X:Cx} {ea eb:Expr} {fa fb:Ev->Option Bx} {p1 p2 pos1 pos2:Pos}
end
section
variable {X:Cx}
end
theorem rY {X:Cx} {scope:Scope} {cl:List (Str×Addr)} (xs:LS_) (is:List Nat) (clos:closureFor scope X.env=pure cl:=by with_unfolding_all rfl) (kind:scope.kind=.function:=by rfl) (cell:scope.names.all (λy=>decide (y.2≠.cell)||(cl.lookup y.1).isNone)=true:=by rfl)
  (names:scope.names.all (λy=>decide (y.2=.local->scope.names.lookup y.1=some .local))=true:=by decide +kernel) (sub:SubL X.env.cells cl:=by repeat (first|exact trivial|refine⟨rfl,?_⟩))
  (has:(relabel scope X.env).names.all (λy=>!(y.2==.cell||y.2==.free)||(cl.lookup y.1).isSome||scope.names.contains (y.1,.cell))=true:=by rfl) (cap:HB X scope cl xs is:=by repeat (first|exact aeW|refine abN rfl (by first|exact .inl rfl|exact .inr rfl) (by first|exact .inl rfl|exact .inr rfl) ⟨_,rfl⟩ ?_)):tH X scope cl xs is:=aeX clos kind cell names sub has cap
theorem kZ {N ps:LS_} {sc:Scope} (h1:sc.kind=.function:=by rfl) (h2:sc.isCoroutine=false:=by rfl) (h3:sc.isGenerator=false:=by rfl) (h4:N.Nodup:=by decide +kernel) (h5:N.take ps.length=ps:=by rfl) (h6:∀ x∈ps,sc.names.lookup x=some .local\/sc.names.lookup x=some .cell:=by decide +kernel) (h7:∀ y∈sc.names,y.2≠.free:=by decide +kernel):bF N ps sc:=⟨h1,h2,h3,h4,h5,h6,h7⟩
instance:Inhabited Dt:=⟨.non⟩
theorem bnd {α β:Type} (a:α) (f:α->Option β):(some a).bind f=f a:=(Option.bind_some a f).trans (Eq.refl _)
def hold:Option Prop->Prop
 |none=>True
 |some p=>p
def aW:Option Prop->Option Prop->Option Prop
 |none,q=>q
 |some p,none=>some p
 |some p,some q=>some (p/\q)
def Gf (c:Prop):Option Prop->Option Prop
 |none=>none
 |some p=>some (c->p)
theorem aB {p q:Option Prop} (h:hold (aW p q)):hold p/\hold q:=by
 cases p with
 |none=>exact⟨trivial,h⟩
 |some p=>cases q with
  |none=>exact⟨h,trivial⟩
  |some q=>exact h
theorem lg {c:Prop} {p:Option Prop} (h:hold (Gf c p)) (hc:c):hold p:=by
 cases p with
 |none=>trivial
 |some p=>exact h hc
structure R {α β:Type} (f:Ev->Option β) (ρ:Ev) (c:α->β) where
 v:α
 D:Option Prop
 ok:hold D->f ρ=some (c v)
abbrev zE {α:Type} (e:α->Dt):α->Bx:=λa=>.z (e a)
abbrev oE {α:Type} (e:α->Dt):List α->Bx:=λxs=>.o (xs.map e)
abbrev lE {α:Type} (e:α->Dt):List α->Bx:=λxs=>.l (xs.map e)
abbrev tE:Bool->Bool:=λb=>b
abbrev iE {α:Type} (e:α->Dt):List α->List Dt:=λxs=>xs.map e
abbrev eI:Int->Dt:=Dt.int
abbrev eB:Bool->Dt:=Dt.bl
abbrev eS:Str->Dt:=Dt.str
abbrev eD:Dt->Dt:=λd=>d
abbrev eN:Unit->Dt:=λ_=>.non
abbrev eL {α:Type} (e:α->Dt):List α->Dt:=λxs=>.lst (xs.map e)
abbrev eT {α:Type} (e:α->Dt):List α->Dt:=λxs=>.tup (xs.map e)
abbrev eO {α:Type} (e:α->Dt):Option α->Dt:=λo=>match o with|none=>.non|some a=>e a
abbrev eP1 {α:Type} (a:α->Dt):α->Dt:=λx=>.tup [a x]
abbrev Zk {α β:Type} (a:α->Dt) (b:β->Dt):α×β->Dt:=λx=>.tup [a x.1,b x.2]
abbrev eP3 {α β γ:Type} (a:α->Dt) (b:β->Dt) (c:γ->Dt):α×β×γ->Dt:=λx=>.tup [a x.1,b x.2.1,c x.2.2]
abbrev eP4 {α β γ δ:Type} (a:α->Dt) (b:β->Dt) (c:γ->Dt) (d:δ->Dt):α×β×γ×δ->Dt:=λx=>.tup [a x.1,b x.2.1,c x.2.2.1,d x.2.2.2]
structure RL {α:Type} (f:Ev->Option Bx) (ρ:Ev) (e:α->Dt) where
 v:List α
 D:Option Prop
 b:Bx
 lk:qj b=some (v.map e)
 ok:hold D->f ρ=some b
section
variable {α β γ δ:Type} {ρ:Ev} {f fa fb fc:Ev->Option Bx} {fs:Ev->Option (List Bx)} {e:α->Dt} {e':β->Dt}
def kj (a:R f ρ (oE e)):RL f ρ e:=⟨a.v,a.D,_,rfl,a.ok⟩
def jh (a:R f ρ (lE e)):RL f ρ e:=⟨a.v,a.D,_,rfl,a.ok⟩
def tM (a:R f ρ (zE (eL e))):RL f ρ e:=⟨a.v,a.D,_,rfl,a.ok⟩
def Lp (b:Bx) (ds:List Dt):Prop:=b=.z (.lst ds)\/b=.l ds
theorem Lp.Hx {b:Bx} {ds:List Dt} (h:Lp b ds):qj b=some ds:=by rcases h with rfl|rfl<;>rfl
theorem Lp.get {b:Bx} {ds:List Dt} {i:Nat} (h:Lp b ds) (hi:ρ[i]?=some (some b)):Av ρ i=some b:=by
 rcases h with rfl|rfl<;>(unfold Av;rw[hi])
theorem JQ {b:Bx} {ds:List Dt} (h:qj b=some ds):Lp (P1.lend b) ds:=by
 cases b with
 |z d=>cases d<;>cases h;exact .inl rfl
 |l d=>cases h;exact .inr rfl
 |o d=>cases h;exact .inr rfl
 |n d=>cases h
 |m d _=>cases h
def ao (i:Nat) (c:α->Bx) (a:α) (h:Av ρ i=some (c a)):R (gv i) ρ c:=⟨a,none,λ_=>h⟩
def nG (i:Nat) (e:α->Dt) (a:List α) {b:Bx} (h:Lp b (a.map e)) (hi:ρ[i]?=some (some b)):RL (gv i) ρ e:=⟨a,none,b,h.Hx,λ_=>h.get hi⟩
def rZ (d:Dt) (e:α->Dt) (a:α) (h:d=e a):R (cB d) ρ (zE e):=⟨a,none,λ_=>by rw[h];rfl⟩
def uF (a:R f ρ (zE e)):R f ρ (zE eD):=⟨e a.v,a.D,a.ok⟩
def yc (a:R f ρ (zE e)):R f ρ (zE (eO e)):=⟨some a.v,a.D,a.ok⟩
def Ln {e:α->Dt}:R (cB .non) ρ (zE (eO e)):=⟨none,none,λ_=>rfl⟩
def zF [Inhabited α] (a:R f ρ (zE (eO e))):R f ρ (zE e):=⟨a.v.getD default,aW a.D (some (a.v.isSome=true)),λh=>by
 obtain⟨h1,h2⟩:=aB h;rw[a.ok h1];have h2:a.v.isSome=true:=h2;cases hv:a.v with
 |none=>rw[hv] at h2;cases h2
 |some x=>rfl⟩
def acs (a:R f ρ (oE e)):R (b1 Du f) ρ (zE (eL e)):=⟨a.v,a.D,λh=>by simp only[b1,a.ok h,bnd,Du]⟩
def pW (a:R f ρ (zE e)):R (b1 Du f) ρ (zE e):=⟨a.v,a.D,λh=>by simp only[b1,a.ok h,bnd,Du]⟩
def nH (a:R fa ρ (zE eI)) (b:R fb ρ (zE eI)):R (b2 jK fa fb) ρ (zE eI):=⟨a.v+b.v,aW a.D b.D,λh=>by
 obtain⟨h1,h2⟩:=aB h;simp only[b2,a.ok h1,b.ok h2,bnd,jK]⟩
def Zm (a:R fa ρ (zE eI)) (b:R fb ρ (zE eI)):R (b2 subB fa fb) ρ (zE eI):=⟨a.v - b.v,aW a.D b.D,λh=>by
 obtain⟨h1,h2⟩:=aB h;simp only[b2,a.ok h1,b.ok h2,bnd,i2]⟩
def Mul (a b:Int):Prop:=(-18446744073709551616 < a/\a < 18446744073709551616)\/(-18446744073709551616 < b/\b < 18446744073709551616)
def adw (a:R fa ρ (zE eI)) (b:R fb ρ (zE eI)):R (b2 yW fa fb) ρ (zE eI):=⟨a.v * b.v,aW (aW a.D b.D) (some (Mul a.v b.v)),λh=>by
 obtain⟨h,h3⟩:=aB h;obtain⟨h1,h2⟩:=aB h;simp only[b2,a.ok h1,b.ok h2,bnd];exact zk h3⟩
def Sv (n:Int) (hn : -18446744073709551616 < n/\n < 18446744073709551616) (b:R fb ρ (zE eI)):R (b2 yW (cB (.int n)) fb) ρ (zE eI):=⟨n * b.v,b.D,λh=>by
 simp only[b2,b.ok h,bnd,cB];exact zk (.inl hn)⟩
def UW (a:R fa ρ (zE eI)) (n:Int) (hn : -18446744073709551616 < n/\n < 18446744073709551616):R (b2 yW fa (cB (.int n))) ρ (zE eI):=⟨a.v * n,a.D,λh=>by
 simp only[b2,a.ok h,bnd,cB];exact zk (.inr hn)⟩
def Lq (a:R fa ρ (zE eI)) (n:Int) (hn:0 < n/\n < 1073741824):R (b2 Oh fa (cB (.int n))) ρ (zE eI):=⟨a.v / n,a.D,λh=>by
 simp only[b2,a.ok h,bnd,i2,cB,zk hn]⟩
def Pz (a:R fa ρ (zE eI)) (b:R fb ρ (zE eI)):R (b2 kh fa fb) ρ (zE eI):=⟨a.v % b.v,aW (aW a.D b.D) (some (0 < b.v)),λh=>by
 obtain⟨h,h3⟩:=aB h;obtain⟨h1,h2⟩:=aB h;have h3:0 < b.v:=h3;simp only[b2,a.ok h1,b.ok h2,bnd,i2,zk h3]⟩
def gA (a:R fa ρ (zE eI)) (n:Int) (hn:0 < n):R (b2 kh fa (cB (.int n))) ρ (zE eI):=⟨a.v % n,a.D,λh=>by
 simp only[b2,a.ok h,bnd,i2,cB,zk hn]⟩
def afk (a b:Int) (n:Nat) (h:0<=b/\b<=1000/\a.natAbs < 18446744073709551616) (hb:b.toNat=n):R (b2 aeM (cB (.int a)) (cB (.int b))) ρ (zE eI):=⟨a ^ n,none,λ_=>by
 simp only[b2,bnd,cB];show((if 0<=b/\b<=1000/\a.natAbs < 2 ^ 64 then some (Dt.int (a ^ b.toNat)) else none).bind λd=>some (Bx.z d))=_;rw[zk h,hb];rfl⟩
def acu (a:R fa ρ (zE eI)) (b:R fb ρ (zE eI)):R (b2 leB fa fb) ρ (zE eB):=⟨decide (a.v<=b.v),aW a.D b.D,λh=>by
 obtain⟨h1,h2⟩:=aB h;simp only[b2,a.ok h1,b.ok h2,bnd,i2]⟩
def ai9 (a:R fa ρ (zE eI)) (b:R fb ρ (zE eI)):R (b2 gtB fa fb) ρ (zE eB):=⟨decide (b.v < a.v),aW a.D b.D,λh=>by
 obtain⟨h1,h2⟩:=aB h;simp only[b2,a.ok h1,b.ok h2,bnd,i2]⟩
def x_ge (a:R fa ρ (zE eI)) (b:R fb ρ (zE eI)):R (b2 geB fa fb) ρ (zE eB):=⟨decide (b.v<=a.v),aW a.D b.D,λh=>by
 obtain⟨h1,h2⟩:=aB h;simp only[b2,a.ok h1,b.ok h2,bnd,i2]⟩
def adx (a:R fa ρ (zE eI)) (b:R fb ρ (zE eI)):R (b2 ltA fa fb) ρ (zE eB):=⟨decide (a.v < b.v),aW a.D b.D,λh=>by
 obtain⟨h1,h2⟩:=aB h;simp only[b2,a.ok h1,b.ok h2,bnd,ltA]⟩
def vK (x y:Str):Bool:=decide (x.cps.toList < y.cps.toList)
def ady (a:R fa ρ (zE eS)) (b:R fb ρ (zE eS)):R (b2 ltA fa fb) ρ (zE eB):=⟨vK a.v b.v,aW a.D b.D,λh=>by
 obtain⟨h1,h2⟩:=aB h;simp only[b2,a.ok h1,b.ok h2,bnd,ltA,vK]⟩
end
class Eqs {α:Type} [DecidableEq α] (e:α->Dt) (n:outParam Nat):Prop where
 eq:∀ a b,Aj (e a) (e b)=some (decide (a=b))
 dp:∀ a,uY (e a)<=n
class Non {α:Type} (e:α->Dt):Prop where
 l:∀ a,Aj .non (e a)=some false
 r:∀ a,Aj (e a) .non=some false
instance:Eqs eI 1:=⟨λa b=>rfl,λa=>by simp[uY]⟩
instance:Eqs eB 1:=⟨λa b=>rfl,λa=>by simp[uY]⟩
instance:Eqs eS 1:=⟨λa b=>rfl,λa=>by simp[uY]⟩
instance:Non eI:=⟨λa=>rfl,λa=>rfl⟩
instance:Non eB:=⟨λa=>rfl,λa=>rfl⟩
instance:Non eS:=⟨λa=>rfl,λa=>rfl⟩
section
variable {α β γ δ:Type} [DecidableEq α] [DecidableEq β] [DecidableEq γ] [DecidableEq δ] {e:α->Dt} {e':β->Dt} {e'':γ->Dt} {e3:δ->Dt} {n m k l:Nat}
theorem Gg [Eqs e n]:∀ xs ys:List α,lU (xs.map e) (ys.map e)=some (decide (xs=ys))
 |[],[]=>by simp[lU]
 |[],y::ys=>by simp[lU]
 |x::xs,[]=>by simp[lU]
 |x::xs,y::ys=>by
  simp only[zr,lU,Eqs.eq,Gg xs ys];congr 1;by_cases h:x=y<;>by_cases h':xs=ys<;>simp[h,h']
theorem Gh [Eqs e n]:∀ xs:List α,uZ (xs.map e)<=n
 |[]=>by simp[uZ]
 |x::xs=>by
  have:=Eqs.dp (e:=e) x;have:=Gh xs;simp only[zr,uZ];omega
instance [Eqs e n]:Eqs (eL e) (n+1):=⟨λa b=>Gg a b,λa=>by simp only[uY];have:=Gh (e:=e) a;omega⟩
instance [Eqs e n]:Eqs (eT e) (n+1):=⟨λa b=>Gg a b,λa=>by simp only[uY];have:=Gh (e:=e) a;omega⟩
instance:Non (eL e):=⟨λa=>rfl,λa=>rfl⟩
instance:Non (eT e):=⟨λa=>rfl,λa=>rfl⟩
instance:Non (eP1 e):=⟨λa=>rfl,λa=>rfl⟩
instance:Non (Zk e e'):=⟨λa=>rfl,λa=>rfl⟩
instance:Non (eP3 e e' e''):=⟨λa=>rfl,λa=>rfl⟩
instance:Non (eP4 e e' e'' e3):=⟨λa=>rfl,λa=>rfl⟩
instance [Eqs e n]:Eqs (eP1 e) (n+1):=⟨λa b=>by
 simp only[Dw,lU,Eqs.eq,Kb],λa=>by
 have:=Eqs.dp (e:=e) a;simp only[uY,uZ];omega⟩
instance [Eqs e n] [Eqs e' m]:Eqs (Zk e e') (max n m+1):=⟨λa b=>by
 obtain⟨a,a'⟩:=a;obtain⟨b,b'⟩:=b;simp only[Dw,lU,Eqs.eq,Prod.mk.injEq,Bool.decide_and,Kb],λa=>by
 have:=Eqs.dp (e:=e) a.1;have:=Eqs.dp (e:=e') a.2;simp only[uY,uZ];omega⟩
instance [Eqs e n] [Eqs e' m] [Eqs e'' k]:Eqs (eP3 e e' e'') (max n (max m k)+1):=⟨λa b=>by
 obtain⟨a,a',a2⟩:=a;obtain⟨b,b',b2⟩:=b;simp only[Dw,lU,Eqs.eq,Prod.mk.injEq,Bool.decide_and,Kb],λa=>by
 have:=Eqs.dp (e:=e) a.1;have:=Eqs.dp (e:=e') a.2.1;have:=Eqs.dp (e:=e'') a.2.2;simp only[uY,uZ];omega⟩
instance [Eqs e n] [Eqs e' m] [Eqs e'' k] [Eqs e3 l]:Eqs (eP4 e e' e'' e3) (max n (max m (max k l))+1):=⟨λa b=>by
 obtain⟨a,a',a2,a3⟩:=a;obtain⟨b,b',b2,b3⟩:=b;simp only[Dw,lU,Eqs.eq,Prod.mk.injEq,Bool.decide_and,Kb],λa=>by
 have:=Eqs.dp (e:=e) a.1;have:=Eqs.dp (e:=e') a.2.1;have:=Eqs.dp (e:=e'') a.2.2.1;have:=Eqs.dp (e:=e3) a.2.2.2;simp only[uY,uZ];omega⟩
instance [Eqs e n] [Non e]:Eqs (eO e) (n+1):=⟨λa b=>by
 cases a with
 |none=>cases b with
  |none=>exact rfl
  |some b=>exact(Non.l (e:=e) b).trans (by simp)
 |some a=>cases b with
  |none=>exact(Non.r (e:=e) a).trans (by simp)
  |some b=>exact(Eqs.eq (e:=e) a b).trans (by simp),λa=>by
 cases a with
 |none=>show uY .non<=n+1;simp[uY]
 |some a=>exact Nat.le_succ_of_le (Eqs.dp (e:=e) a)⟩
end
section
variable {α β γ δ:Type} {ρ:Ev} {f fa fb fc:Ev->Option Bx} {p q:Ev->Option Bool} {fs:Ev->Option (List Bx)} {e:α->Dt} {e':β->Dt}
def x_eq [DecidableEq α] {n:Nat} [Eqs e n] (hn:n<=100) (a:R fa ρ (zE e)) (b:R fb ρ (zE e)):R (b2 eqB fa fb) ρ (zE eB):=⟨decide (a.v=b.v),aW a.D b.D,λh=>by
 obtain⟨h1,h2⟩:=aB h;have:=Eqs.dp (e:=e) a.v;simp only[b2,a.ok h1,b.ok h2,bnd,eqB,lV,toD,zl,or_self,ZO,Eqs.eq];rw[zk (by omega)]⟩
def PJ [DecidableEq α] {n:Nat} [Eqs e n] (hn:n<=100) (a:R fa ρ (zE e)) (b:R fb ρ (zE e)):R (b2 Og fa fb) ρ (zE eB):=⟨!decide (a.v=b.v),aW a.D b.D,λh=>by
 obtain⟨h1,h2⟩:=aB h;have:=Eqs.dp (e:=e) a.v;simp only[b2,a.ok h1,b.ok h2,bnd,Og,lV,toD,zl,or_self,ZO,Eqs.eq];rw[zk (by omega)]⟩
theorem DW {b:Bx} {ds:List Dt} (h:qj b=some ds):toD b=.lst ds/\lV b=false:=by
 cases b with
 |z d=>cases d<;>cases h;exact⟨rfl,rfl⟩
 |l d=>cases h;exact⟨rfl,rfl⟩
 |o d=>cases h;exact⟨rfl,rfl⟩
 |n d=>cases h
 |m d _=>cases h
def Zn [DecidableEq α] {n:Nat} [Eqs e n] (hn:n+1<=100) (a:RL fa ρ e) (b:RL fb ρ e):R (b2 Og fa fb) ρ (zE eB):=⟨!decide (a.v=b.v),aW a.D b.D,λh=>by
 obtain⟨h1,h2⟩:=aB h;simp only[b2,a.ok h1,b.ok h2,bnd,Og,(DW a.lk).1,(DW a.lk).2,(DW b.lk).1,(DW b.lk).2,zl,or_self,ZO];have e1:=Eqs.eq (e:=eL e) a.v b.v;rw[zk (Zs (Nat.min_le_left _ _) (Zs (Eqs.dp (e:=eL e) a.v) hn)),e1,bnd]⟩
def eqX (a b:Dt):Bool:=(Aj a b).getD false
def EqX (a b:Dt):Prop:=(Aj a b).isSome=true/\min (uY a) (uY b)<=100
def adz (a:R fa ρ (zE eD)) (b:R fb ρ (zE eD)):R (b2 eqB fa fb) ρ (zE eB):=⟨eqX a.v b.v,aW (aW a.D b.D) (some (EqX a.v b.v)),λh=>by
 obtain⟨h,h3⟩:=aB h;obtain⟨h1,h2⟩:=aB h;obtain⟨h3,h4⟩:EqX a.v b.v:=h3;simp only[b2,a.ok h1,b.ok h2,bnd,eqB,lV,toD,zl,or_self,ZO,zk h4];cases hd:Aj a.v b.v with
 |none=>rw[hd] at h3;cases h3
 |some k=>simp only[eqX,hd,bnd,Option.getD_some];exact zk h4⟩
def ahr (a:R fa ρ (zE (eO e))) (hn:∀ x,Fb (.z (e x))=false):R (b2 isB fa (cB .non)) ρ (zE eB):=⟨a.v.isNone,a.D,λh=>by
 simp only[b2,a.ok h,bnd,cB,isB];cases hv:a.v with
 |none=>rfl
 |some x=>simp only[Option.isNone_some,hn]⟩
def Lr (a:R fa ρ (zE (eO e))) (hn:∀ x,Fb (.z (e x))=false):R (b2 Fd fa (cB .non)) ρ (zE eB):=⟨a.v.isSome,a.D,λh=>by
 simp only[b2,a.ok h,bnd,cB,Fd];cases hv:a.v with
 |none=>rfl
 |some x=>simp only[KS,hn,kz]⟩
def su (a:R fa ρ (zE eB)) (b:R fb ρ (zE eB)):R (xO fa fb) ρ (zE eB):=⟨a.v&&b.v,aW a.D (Gf (a.v=true) b.D),λh=>by
 obtain⟨h1,h2⟩:=aB h;simp only[xO,a.ok h1,bnd,Eo];cases hv:a.v with
 |true=>simp only[qA,ye];exact b.ok (lg h2 hv)
 |false=>simp only[zl,ZO,KO]⟩
def ahs (a:R fa ρ (zE eB)):R (abr fa) ρ (zE eB):=⟨!a.v,a.D,λh=>by simp only[abr,a.ok h,bnd,Eo]⟩
def Wu (a:R fa ρ (zE eB)):R (tV fa) ρ tE:=⟨a.v,a.D,λh=>by simp only[tV,a.ok h,bnd,X6]⟩
def aht (a:RL fa ρ e):R (tV fa) ρ tE:=⟨!a.v.isEmpty,a.D,λh=>by
 have:X6 a.b=some (!(a.v.map e).isEmpty):=by
  have:=a.lk;generalize a.v.map e=ds at this
  revert this
  generalize a.b=b;intro this;cases b with
  |z d=>cases d<;>cases this;rfl
  |l d=>cases this;rfl
  |o d=>cases this;rfl
  |n d=>cases this
  |m d _=>cases this
 simp only[tV,a.ok h,bnd,this,List.isEmpty_map]⟩
def cV {g:Bx->Bx->Option Bx} (a:R (b2 g fa fb) ρ (zE eB)):R (qe g fa fb) ρ tE:=⟨a.v,a.D,λh=>by simp only[qe,a.ok h,bnd,Eo]⟩
def JR (a:R p ρ tE) (b:R q ρ tE):R (Hy p q) ρ tE:=⟨a.v&&b.v,aW a.D (Gf (a.v=true) b.D),λh=>by
 obtain⟨h1,h2⟩:=aB h;simp only[Hy,a.ok h1,bnd];cases hv:a.v with
 |true=>simp only[qA,ye];exact b.ok (lg h2 hv)
 |false=>simp only[zl,ZO,KO]⟩
def Wv (a:R p ρ tE) (b:R q ρ tE):R (orT p q) ρ tE:=⟨a.v||b.v,aW a.D (Gf (a.v=false) b.D),λh=>by
 obtain⟨h1,h2⟩:=aB h;simp only[orT,a.ok h1,bnd];cases hv:a.v with
 |true=>simp only[qA,Bool.true_or]
 |false=>simp only[zl,ZO,Bool.false_or];exact b.ok (lg h2 hv)⟩
def PK (a:R p ρ tE):R (NT p) ρ tE:=⟨!a.v,a.D,λh=>by simp only[NT,a.ok h,bnd]⟩
def ahu {g g':Bx->Bx->Option Bx} (ab:R (b2 g fa fb) ρ (zE eB)) (bc:R (b2 g' fb fc) ρ (zE eB)):R (ch3 g g' fa fb fc) ρ (zE eB):=⟨ab.v&&bc.v,aW ab.D (Gf (ab.v=true) bc.D),λh=>by
 obtain⟨h1,h3⟩:=aB h;have e1:=ab.ok h1;simp only[b2] at e1;obtain⟨x,ex,e1⟩:=bind_some e1;obtain⟨y,ey,e1⟩:=bind_some e1;simp only[ch3,ex,ey,bnd,e1,Eo];cases hv:ab.v with
 |true=>
  have e2:=bc.ok (lg h3 hv);simp only[b2,ey,bnd] at e2;simp only[qA,ye];exact e2
 |false=>simp only[zl,ZO,KO]⟩
end
section
variable {α β γ δ ε:Type} {ρ:Ev} {f fa fb fc fd:Ev->Option Bx} {p q:Ev->Option Bool} {fs:Ev->Option (List Bx)} {e:α->Dt} {e':β->Dt} {e'':γ->Dt} {e3:δ->Dt}
def Zo (e:α->Dt):R (c7 kO aJ) ρ (zE (eT e)):=⟨[],none,λ_=>rfl⟩
def afl (a:R fa ρ (zE e)) (b:R fb ρ (zE e')):R (c7 kO (aq fa (aq fb aJ))) ρ (zE (Zk e e')):=⟨(a.v,b.v),aW a.D b.D,λh=>by
 obtain⟨h1,h2⟩:=aB h;simp only[c7,aq,aJ,a.ok h1,b.ok h2,bnd];rfl⟩
def tO (a:R fa ρ (zE e)) (b:R fb ρ (zE e')) (c:R fc ρ (zE e'')):R (c7 kO (aq fa (aq fb (aq fc aJ)))) ρ (zE (eP3 e e' e'')):=⟨(a.v,b.v,c.v),aW a.D (aW b.D c.D),λh=>by
 obtain⟨h1,h⟩:=aB h;obtain⟨h2,h3⟩:=aB h;simp only[c7,aq,aJ,a.ok h1,b.ok h2,c.ok h3,bnd];rfl⟩
def Zq (a:R fa ρ (zE e)) (b:R fb ρ (zE e')) (c:R fc ρ (zE e'')) (d:R fd ρ (zE e3)):R (c7 kO (aq fa (aq fb (aq fc (aq fd aJ))))) ρ (zE (eP4 e e' e'' e3)):=⟨(a.v,b.v,c.v,d.v),aW a.D (aW b.D (aW c.D d.D)),λh=>by
 obtain⟨h1,h⟩:=aB h;obtain⟨h2,h⟩:=aB h;obtain⟨h3,h4⟩:=aB h;simp only[c7,aq,aJ,a.ok h1,b.ok h2,c.ok h3,d.ok h4,bnd];rfl⟩
def eF (e:α->Dt):R aJ ρ (λxs:List α=>xs.map (zE e)):=⟨[],none,λ_=>rfl⟩
def cH (a:R fa ρ (zE e)) (t:R fs ρ (λxs:List α=>xs.map (zE e))):R (aq fa fs) ρ (λxs:List α=>xs.map (zE e)):=⟨a.v::t.v,aW a.D t.D,λh=>by
 obtain⟨h1,h2⟩:=aB h;simp only[aq,a.ok h1,t.ok h2,bnd,zr]⟩
theorem Gi:∀ xs:List α,Kr (xs.map (zE e))=some (xs.map e)
 |[]=>rfl
 |x::xs=>by simp only[zr,Kr,Gi xs,bnd]
def lq (t:R fs ρ (λxs:List α=>xs.map (zE e))) (hl:t.v.length<=1000):R (c7 nC fs) ρ (oE e):=⟨t.v,t.D,λh=>by
 simp only[c7,t.ok h,bnd,nC,zo,zk hl,Gi]⟩
def Gj (t:R fs ρ (λxs:List Dt=>xs.map (zE eD))) (hl:t.v.length<=1000):R (c7 kO fs) ρ (zE eD):=⟨.tup t.v,t.D,λh=>by
 simp only[c7,t.ok h,bnd,kO,zo,zk hl,Gi,List.map_id_fun',id]⟩
def at' [Inhabited α] (xs:List α) (i:Int):α:=(Ek xs i).getD default
def In (n:Nat) (i:Int):Prop:=-(n:Int)<=i/\i < n
theorem wF {xs:List α} {i:Int} (h:In xs.length i):∃ x,Ek xs i=some x:=by
 obtain⟨h1,h2⟩:=h;unfold Ek ixN;by_cases h0:0<=i
 ·rw[zk h0,zk h2];exact⟨xs[i.toNat]'(by omega),z4 (by omega)⟩
 ·rw[zw h0,zk h1];exact⟨xs[(i+xs.length).toNat]'(by omega),z4 (by omega)⟩
theorem afm {xs:List α} {i:Int} {x:α} (h:Ek xs i=some x):Ek (xs.map e) i=some (e x):=by
 unfold Ek at h ⊢;rw[zo];obtain⟨j,ej,h⟩:=bind_some h;rw[ej,bnd,Zl,h];rfl
theorem afn [Inhabited α] {xs:List α} {i:Int} (h:In xs.length i):Ek (xs.map e) i=some (e (at' xs i)):=by
 obtain⟨x,hx⟩:=wF h;rw[afm hx];unfold at';rw[hx];rfl
theorem acv {b:Bx} {ds:List Dt} {i:Int} (h:qj b=some ds):gK b (.z (.int i))=(Ek ds i).bind λd=>some (.z d):=by
 cases b with
 |z d=>cases d<;>cases h;rfl
 |l d=>cases h;rfl
 |o d=>cases h;rfl
 |n d=>cases h
 |m d _=>cases h
def jO [Inhabited α] (a:RL fa ρ e) (b:R fb ρ (zE eI)):R (b2 gK fa fb) ρ (zE e):=⟨at' a.v b.v,aW (aW a.D b.D) (some (In a.v.length b.v)),λh=>by
 obtain⟨h,h3⟩:=aB h;obtain⟨h1,h2⟩:=aB h;simp only[b2,a.ok h1,b.ok h2,bnd,acv a.lk,afn (show In a.v.length b.v from h3)]⟩
def ch (x:Str) (i:Int):Str:=⟨#[(Ek x.cps.toList i).getD 0]⟩
def Zr (a:R fa ρ (zE eS)) (b:R fb ρ (zE eI)):R (b2 gK fa fb) ρ (zE eS):=⟨ch a.v b.v,aW (aW a.D b.D) (some (In a.v.length b.v)),λh=>by
 obtain⟨h,h3⟩:=aB h;obtain⟨h1,h2⟩:=aB h;obtain⟨x,hx⟩:=wF (xs:=a.v.cps.toList) (i:=b.v) (show In a.v.length b.v from h3);simp only[b2,a.ok h1,b.ok h2,bnd,gK,hx,ch,Option.getD_some]⟩
def Q0 (d:Dt) (i:Int):Dt:=match gK (.z d) (.z (.int i)) with|some (.z y)=>y|_=>.non
def IxD (d:Dt) (i:Int):Prop:=match d with
 |.tup ds=>In ds.length i
 |.lst ds=>In ds.length i
 |.str x=>In x.length i
 |_=>False
def adA (a:R fa ρ (zE eD)) (b:R fb ρ (zE eI)):R (b2 gK fa fb) ρ (zE eD):=⟨Q0 a.v b.v,aW (aW a.D b.D) (some (IxD a.v b.v)),λh=>by
 obtain⟨h,h3⟩:=aB h;obtain⟨h1,h2⟩:=aB h;have h3:IxD a.v b.v:=h3;simp only[b2,a.ok h1,b.ok h2,bnd];show gK (.z a.v) (.z (.int b.v))=some (.z (Q0 a.v b.v));unfold Q0;cases hv:a.v with
 |tup ds=>
  rw[hv] at h3;obtain⟨x,hx⟩:=wF (show In ds.length b.v from h3);simp only[gK,qZ,bnd,hx]
 |lst ds=>
  rw[hv] at h3;obtain⟨x,hx⟩:=wF (show In ds.length b.v from h3);simp only[gK,qZ,bnd,hx]
 |str x=>
  rw[hv] at h3;obtain⟨c,hx⟩:=wF (xs:=x.cps.toList) (show In x.length b.v from h3);simp only[gK,bnd,hx]
 |non=>rw[hv] at h3;exact absurd h3 id
 |bl _=>rw[hv] at h3;exact absurd h3 id
 |int _=>rw[hv] at h3;exact absurd h3 id
 |emp=>rw[hv] at h3;exact absurd h3 id⟩
def dX (a:R fa ρ (zE e)) (g:α->β) (e':β->Dt) (i:Int) (h:∀ x,gK (.z (e x)) (.z (.int i))=some (.z (e' (g x)))):R (b2 gK fa (cB (.int i))) ρ (zE e'):=⟨g a.v,a.D,λhd=>by
 simp only[b2,a.ok hd,bnd,cB,h]⟩
def cut (xs:List α) (lo hi:Option Int):List α:=(xs.drop (HT.jx xs.length 0 lo)).take (HT.jx xs.length xs.length hi - HT.jx xs.length 0 lo)
theorem acw (xs:List α) (lo hi:Option Int):cutD (xs.map e) lo hi=(cut xs lo hi).map e:=by
 unfold cutD cut;rw[zo,List.map_take,List.map_drop]
abbrev pE:Option Int->Option Int:=λo=>o
def afo:R Bd ρ pE:=⟨none,none,λ_=>rfl⟩
def afp (a:R fa ρ (zE eI)):R (Fe fa) ρ pE:=⟨some a.v,a.D,λh=>by simp only[Fe,a.ok h,bnd,aeT]⟩
variable {fl fh:Ev->Option (Option Int)}
theorem acy {b:Bx} {ds:List Dt} {lo hi:Option Int} (h:qj b=some ds):slB b lo hi=some (.o (cutD ds lo hi)):=by
 cases b with
 |z d=>cases d<;>cases h;rfl
 |l d=>cases h;rfl
 |o d=>cases h;rfl
 |n d=>cases h
 |m d _=>cases h
def aja (a:RL fa ρ e) (l:R fl ρ pE) (u:R fh ρ pE):R (Yp fa fl fh) ρ (oE e):=⟨cut a.v l.v u.v,aW a.D (aW l.D u.D),λh=>by
 obtain⟨h1,h⟩:=aB h;obtain⟨h2,h3⟩:=aB h;simp only[Yp,a.ok h1,l.ok h2,u.ok h3,bnd,acy a.lk,acw]⟩
def adB (a:R fa ρ (zE eS)) (l:R fl ρ pE) (u:R fh ρ pE):R (Yp fa fl fh) ρ (zE eS):=⟨Txt.slice a.v l.v u.v,aW a.D (aW l.D u.D),λh=>by
 obtain⟨h1,h⟩:=aB h;obtain⟨h2,h3⟩:=aB h;simp only[Yp,a.ok h1,l.ok h2,u.ok h3,bnd,slB]⟩
def U0:Dt->List Dt
 |.tup ds=>ds
 |.lst ds=>ds
 |_=>[]
def Ht (n:Nat):Prop:=n<=1000000
def Zt (a:R fa ρ (zE eS)) (b:R fb ρ (zE eS)):R (b2 jK fa fb) ρ (zE eS):=⟨a.v++b.v,aW (aW a.D b.D) (some (Ht (a.v.length+b.v.length))),λh=>by
 obtain⟨h,h3⟩:=aB h;obtain⟨h1,h2⟩:=aB h;simp only[b2,a.ok h1,b.ok h2,bnd,jK,zk (show a.v.length+b.v.length<=VP from h3)]⟩
def afq (a:R fa ρ (zE eD)) (b:R fb ρ (zE eD)):R (b2 jK fa fb) ρ (zE eD):=⟨.tup (U0 a.v++U0 b.v),aW (aW a.D b.D) (some (is_tuple a.v=true/\is_tuple b.v=true/\Ht ((U0 a.v).length+(U0 b.v).length))),λh=>by
 obtain⟨h,h3⟩:=aB h;obtain⟨h1,h2⟩:=aB h;obtain⟨h3,h4,h5⟩:is_tuple a.v=true/\is_tuple b.v=true/\Ht ((U0 a.v).length+(U0 b.v).length):=h3;simp only[b2,a.ok h1,b.ok h2,bnd]
 revert h3 h4 h5
 show is_tuple a.v=true->is_tuple b.v=true->Ht ((U0 a.v).length+(U0 b.v).length)->jK (.z a.v) (.z b.v)=some (.z (.tup (U0 a.v++U0 b.v)));generalize a.v=x;generalize b.v=y;intro h3 h4 h5;cases x<;>first|(cases h3;done)|skip;cases y<;>first|(cases h4;done)|skip;exact zk h5⟩
theorem Zu {b b':Bx} {ds ds':List Dt} (h:qj b=some ds) (h':qj b'=some ds') (hl:ds.length+ds'.length<=VP):jK b b'=some (.o (ds++ds')):=by
 cases b with
 |z d=>
  cases d<;>cases h;cases b' with
  |z d'=>cases d'<;>cases h';exact zk hl
  |l d'=>cases h';exact zk hl
  |o d'=>cases h';exact zk hl
  |n d'=>cases h'
  |m d'=>cases h'
 |l d=>
  cases h;cases b' with
  |z d'=>cases d'<;>cases h';exact zk hl
  |l d'=>cases h';exact zk hl
  |o d'=>cases h';exact zk hl
  |n d'=>cases h'
  |m d'=>cases h'
 |o d=>
  cases h;cases b' with
  |z d'=>cases d'<;>cases h';exact zk hl
  |l d'=>cases h';exact zk hl
  |o d'=>cases h';exact zk hl
  |n d'=>cases h'
  |m d'=>cases h'
 |n d=>cases h
 |m d _=>cases h
def Zv (a:RL fa ρ e) (b:RL fb ρ e):R (b2 jK fa fb) ρ (oE e):=⟨a.v++b.v,aW (aW a.D b.D) (some (Ht (a.v.length+b.v.length))),λh=>by
 obtain⟨h,h3⟩:=aB h;obtain⟨h1,h2⟩:=aB h;simp only[b2,a.ok h1,b.ok h2,bnd];rw[Zu a.lk b.lk (by rw[zo,zo];exact h3)];simp only[oE,qo]⟩
def afr (a:R fa ρ (zE eS)) (b:R fb ρ (zE eI)):R (b2 yW fa fb) ρ (zE eS):=⟨Txt.mul a.v b.v,aW (aW a.D b.D) (some (b.v<=1000 ∧ -1000<=b.v/\a.v.length<=1000)),λh=>by
 obtain⟨h,h3⟩:=aB h;obtain⟨h1,h2⟩:=aB h;simp only[b2,a.ok h1,b.ok h2,bnd];exact zk h3⟩
theorem Zw {b:Bx} {ds:List Dt} (h:qj b=some ds):q9 [b]=some (.z (.int ds.length)):=by
 cases b with
 |z d=>cases d<;>cases h;rfl
 |l d=>cases h;rfl
 |o d=>cases h;rfl
 |n d=>cases h
 |m d _=>cases h
theorem Zx {b:Bx} {ds:List Dt} (h:qj b=some ds):qZ b=some ds:=by
 cases b with
 |z d=>cases d<;>cases h;rfl
 |l d=>cases h;rfl
 |o d=>cases h;rfl
 |n d=>cases h
 |m d _=>cases h
def x_len (a:RL fa ρ e):R (c7 q9 (aq fa aJ)) ρ (zE eI):=⟨(a.v.length:Int),a.D,λh=>by
 simp only[c7,aq,aJ,a.ok h,bnd,Zw a.lk,zo]⟩
def afs (a:R fa ρ (zE (eT e))):R (c7 q9 (aq fa aJ)) ρ (zE eI):=⟨(a.v.length:Int),a.D,λh=>by
 simp only[c7,aq,aJ,a.ok h,bnd,q9,qZ,zo]⟩
def Sw (a:R fa ρ (zE eS)):R (c7 q9 (aq fa aJ)) ρ (zE eI):=⟨(a.v.length:Int),a.D,λh=>by
 simp only[c7,aq,aJ,a.ok h,bnd,q9]⟩
def qz (a:RL fa ρ e):R (c7 jR (aq fa aJ)) ρ (zE (eT e)):=⟨a.v,a.D,λh=>by
 simp only[c7,aq,aJ,a.ok h,bnd,jR,Zx a.lk]⟩
def acz (a:R fa ρ (zE (eT e))):R (c7 Om (aq fa aJ)) ρ (oE e):=⟨a.v,a.D,λh=>by
 simp only[c7,aq,aJ,a.ok h,bnd,Om,qZ]⟩
def ahv (a:R fa ρ (zE eI)):R (c7 Yq (aq fa aJ)) ρ (zE eI):=⟨if a.v < 0 then -a.v else a.v,a.D,λh=>by
 simp only[c7,aq,aJ,a.ok h,bnd,Yq]⟩
def Sx (a:R fa ρ (zE eB)):R (c7 RB (aq fa aJ)) ρ (zE eI):=⟨if a.v=true then 1 else 0,a.D,λh=>by
 simp only[c7,aq,aJ,a.ok h,bnd,RB]⟩
theorem JT:∀ l:List Bool,Jx (l.map eB)=some l
 |[]=>rfl
 |a::l=>by simp only[zr,Jx,JT l,bnd]
def Zy (a:RL fa ρ eB):R (c7 allB (aq fa aJ)) ρ (zE eB):=⟨a.v.all id,a.D,λh=>by
 simp only[c7,aq,aJ,a.ok h,bnd,allB,a.lk,JT]⟩
def JV (a:R fa ρ (zE eI)) (b:R fb ρ (zE eI)):R (c7 HJ (aq fa (aq fb aJ))) ρ (zE eI):=⟨if b.v > a.v then b.v else a.v,aW a.D b.D,λh=>by
 obtain⟨h1,h2⟩:=aB h;simp only[c7,aq,aJ,a.ok h1,b.ok h2,bnd,HJ]⟩
def adC (a:R fa ρ (zE eI)) (b:R fb ρ (zE eI)):R (c7 V1 (aq fa (aq fb aJ))) ρ (zE eI):=⟨if b.v < a.v then b.v else a.v,aW a.D b.D,λh=>by
 obtain⟨h1,h2⟩:=aB h;simp only[c7,aq,aJ,a.ok h1,b.ok h2,bnd,V1]⟩
def PL (P:Dt->Bool) (a:R fa ρ (zE e)):R (Jy P fa) ρ (zE eB):=⟨P (e a.v),a.D,λh=>by
 simp only[Jy,b1,a.ok h,bnd,lV,toD,zl,ZO]⟩
theorem strs_map:∀ l:LS_,Fi (l.map eS)=some l
 |[]=>rfl
 |a::l=>by simp only[zr,Fi,strs_map l,bnd]
def aft (s:Str) (a:RL fa ρ eS):R (b1 (Oq s) fa) ρ (zE eS):=⟨Txt.join s a.v,aW a.D (some ((a.v.map (·.length)).sum+a.v.length * s.length<=100000)),λh=>by
 obtain⟨h,h4⟩:=aB h;simp only[b1,a.ok h,bnd,Oq,a.lk,strs_map];exact zk h4⟩
def U3 (a:RL fa ρ eS):R (c7 Fl (aq fa aJ)) ρ (oE eS):=⟨qu a.v,aW a.D (some (a.v.length < 64)),λh=>by
 obtain⟨h,h4⟩:=aB h;simp only[c7,aq,aJ,a.ok h,bnd,Fl,a.lk,strs_map];exact zk h4⟩
def ahw (a:R fa ρ (zE e)) (g:α->β) (e':β->Dt) (lo hi:Option Int) (hl:fl ρ=some lo) (hh:fh ρ=some hi) (h:∀ x,slB (.z (e x)) lo hi=some (.z (e' (g x)))):R (Yp fa fl fh) ρ (zE e'):=⟨g a.v,a.D,λhd=>by
 simp only[Yp,a.ok hd,hl,hh,bnd,h]⟩
def Ww:Dt->Str
 |.str x=>x
 |_=>⟨#[]⟩
def Ls (a:R f ρ (zE eD)) (g:Dt->α) (e:α->Dt):R f ρ (zE e):=⟨g a.v,aW a.D (some (a.v=e (g a.v))),λhd=>by
 obtain⟨h1,h2⟩:=aB hd;have h2:a.v=e (g a.v):=h2;rw[a.ok h1];show some (Bx.z a.v)=some (Bx.z (e (g a.v)));rw[<-h2]⟩
class Flat {α:Type} (e:α->Dt):Prop where
 f:∀ a,yX (e a)=true
instance:Flat eI:=⟨λ_=>rfl⟩
instance:Flat eB:=⟨λ_=>rfl⟩
instance:Flat eS:=⟨λ_=>rfl⟩
theorem Gk [DecidableEq α] {n:Nat} [Eqs e n] [Flat e] (x:α) (ys:List α):memD (e x) (ys.map e)=some (decide (x∈ys)):=by
 unfold memD;rw[zk ⟨Flat.f x,by rw[KF];exact List.all_eq_true.mpr λy _=>Flat.f y⟩,List.any_map];congr 1;rw[JU,j3,decide_eq_true_iff];constructor
 ·rintro⟨y,hy,h⟩;simp only[Function.comp,Eqs.eq] at h;by_cases e1:y=x
  ·rw[<-e1];exact hy
  ·simp only[e1,kA] at h;cases h
 ·intro h;exact⟨x,h,by simp only[Function.comp,Eqs.eq,Ki]⟩
theorem acA {b:Bx} {d:Dt} {ds:List Dt} (h:qj b=some ds):inB (.z d) b=memD d ds:=by
 cases b with
 |z d'=>cases d'<;>cases h;cases d<;>rfl
 |l d'=>cases h;cases d<;>rfl
 |o d'=>cases h;cases d<;>rfl
 |n d'=>cases h
 |m d'=>cases h
theorem U4 {d:Dt} {ds:List Dt}:inB (.z d) (.z (.tup ds))=memD d ds:=by cases d<;>rfl
def afu [DecidableEq α] {n:Nat} [Eqs e n] [Flat e] (a:R fa ρ (zE e)) (b:RL fb ρ e):R (b2 inF fa fb) ρ (zE eB):=⟨decide (a.v∈b.v),aW a.D b.D,λh=>by
 obtain⟨h1,h2⟩:=aB h;simp only[b2,a.ok h1,b.ok h2,bnd,inF,acA b.lk,Gk]⟩
def adD [DecidableEq α] {n:Nat} [Eqs e n] [Flat e] (a:R fa ρ (zE e)) (b:R fb ρ (zE (eT e))):R (b2 inF fa fb) ρ (zE eB):=⟨decide (a.v∈b.v),aW a.D b.D,λh=>by
 obtain⟨h1,h2⟩:=aB h;simp only[b2,a.ok h1,b.ok h2,bnd,inF,U4,Gk]⟩
def afv [DecidableEq α] {n:Nat} [Eqs e n] [Flat e] (a:R fa ρ (zE e)) (b:R fb ρ (zE (eT e))):R (b2 abF fa fb) ρ (zE eB):=⟨!decide (a.v∈b.v),aW a.D b.D,λh=>by
 obtain⟨h1,h2⟩:=aB h;simp only[b2,a.ok h1,b.ok h2,bnd,abF,U4,Gk]⟩
def ahx (a:R fa ρ (zE eS)) (b:R fb ρ (zE eS)):R (b2 inF fa fb) ρ (zE eB):=⟨Js a.v b.v,aW a.D b.D,λh=>by
 obtain⟨h1,h2⟩:=aB h;simp only[b2,a.ok h1,b.ok h2,bnd,inF,inB]⟩
end
structure AR {γ:Type} (cA:γ->List Bx->Prop) (fs:Ev->Option (List Bx)) (ρ:Ev) where
 v:γ
 D:Option Prop
 bs:List Bx
 h:cA v bs
 ok:hold D->fs ρ=some bs
section
variable {α β γ δ ε σ:Type} {ρ:Ev} {f fa fb fc fd:Ev->Option Bx} {p q:Ev->Option Bool} {fs:Ev->Option (List Bx)} {e:α->Dt} {e':β->Dt} {e'':γ->Dt} {e3:δ->Dt}
def aN:Unit->List Bx->Prop:=λ_ bs=>bs=[]
def aZ (e:α->Dt) (t:γ->List Bx->Prop):α×γ->List Bx->Prop:=λx bs=>∃ r,bs=.z (e x.1)::r/\t x.2 r
def aL (e:α->Dt) (t:γ->List Bx->Prop):List α×γ->List Bx->Prop:=λx bs=>∃ b r,bs=b::r/\qj b=some (x.1.map e)/\t x.2 r
def bx:AR aN aJ ρ:=⟨(),none,[],rfl,λ_=>rfl⟩
def bW {t:γ->List Bx->Prop} (a:R fa ρ (zE e)) (r:AR t fs ρ):AR (aZ e t) (aq fa fs) ρ:=⟨(a.v,r.v),aW a.D r.D,_,⟨_,rfl,r.h⟩,λh=>by
 obtain⟨h1,h2⟩:=aB h;simp only[aq,a.ok h1,r.ok h2,bnd]⟩
def CV {t:γ->List Bx->Prop} (a:RL fa ρ e) (r:AR t fs ρ):AR (aL e t) (aq fa fs) ρ:=⟨(a.v,r.v),aW a.D r.D,_,⟨_,_,rfl,a.lk,r.h⟩,λh=>by
 obtain⟨h1,h2⟩:=aB h;simp only[aq,a.ok h1,r.ok h2,bnd]⟩
def x_call {cA:γ->List Bx->Prop} {F:List Bx->Option Bx} {n:Nat} {c:α->Bx} {T:γ->α} {Df:γ->Option Prop} (S:∀ v bs,cA v bs->bs.length=n/\(hold (Df v)->F (bs.map lend)=some (c (T v)))) (a:AR cA fs ρ):R (bV n F fs) ρ c:=⟨T a.v,aW a.D (Df a.v),λh=>by
 obtain⟨h1,h2⟩:=aB h;obtain⟨h3,h4⟩:=S a.v a.bs a.h;simp only[bV,a.ok h1,bnd,zk h3,h4 h2]⟩
theorem afw {g:Ev->Option Out} {n:Nat} {bs:List Bx} {c:α->Bx} (x:R g (bs.map some++List.replicate (n - bs.length) none) (λr=>Out.rt (c r))) (h:hold x.D):dN n g bs=some (c x.v):=by
 unfold dN;rw[x.ok h];rfl
variable {fi:Ev->Option (List Dt)} {gt:Dt->Ev->Option Ev} {fe:Ev->Option Bx} {is:List Nat} {n:Nat}
def ahy (xs:List α) (P:α->Option Prop):Option Prop:=some (∀ x∈xs,hold (P x))
theorem PN {fs:Ev->Option (List Dt)} {ρ1:Ev} {g:α->List Dt} {π:α->Bool}:∀ xs:List α,(∀ x∈xs,∃ ρ2,gt (e x) ρ1=some ρ2/\p ρ2=some (π x)/\(π x=true->fs ρ2=some (g x)))->CN gt p fs ρ1 (xs.map e)=some ((xs.filter π).flatMap g)
 |[],_=>rfl
 |x::xs,h=>by
  obtain⟨ρ2,h1,h2,h3⟩:=h x (zh ..);have ih:=PN (g:=g) (π:=π) xs λy hy=>h y (zg _ hy);cases hp:π x with
  |true=>simp only[zr,CN,h1,bnd,h2,hp,qA,h3 hp,ih,kC,List.flatMap_cons]
  |false=>simp only[zr,CN,h1,bnd,h2,hp,ih,kC,zl,ZO]
theorem PX {g:α->β}:∀ xs:List α,xs.flatMap (λx=>[e' (g x)])=(xs.map g).map e'
 |[]=>rfl
 |x::xs=>by rw[List.flatMap_cons,PX xs];rfl
theorem Gm {ρ1:Ev} {g:α->β} {π:α->Bool} (xs:List α) (h:∀ x∈xs,∃ ρ2,gt (e x) ρ1=some ρ2/\p ρ2=some (π x)/\(π x=true->fe ρ2=some (.z (e' (g x))))):BP gt p fe ρ1 (xs.map e)=some (((xs.filter π).map g).map e'):=by
 rw[<-PX];exact PN xs λx hx=>let ⟨ρ2,h1,h2,h3⟩:=h x hx;⟨ρ2,h1,h2,λhp=>by rw[h3 hp];rfl⟩
theorem comp_map {ρ1:Ev} {g:α->β} (xs:List α) (h:∀ x∈xs,∃ ρ2,gt (e x) ρ1=some ρ2/\fe ρ2=some (.z (e' (g x)))):BP gt xU fe ρ1 (xs.map e)=some ((xs.map g).map e'):=
 (Gm (π:=λ_=>true) xs λx hx=>let ⟨ρ2,h1,h2⟩:=h x hx;⟨ρ2,h1,rfl,λ_=>h2⟩).trans (by rw[List.filter_eq_self.mpr λ_ _=>rfl])
def Zz (it:R fi ρ (iE e)) (ρ2:α->Ev) (hg:∀ x,gt (e x) (jQ is ρ++List.replicate n none)=some (ρ2 x)) (b:∀ x,R fe (ρ2 x) (zE e')):R (eE fi gt xU fe is n) ρ (oE e'):=⟨it.v.map λx=>(b x).v,aW (aW it.D (some (it.v.length<=100000))) (ahy it.v λx=>(b x).D),λh=>by
 obtain⟨h,h3⟩:=aB h;obtain⟨h1,h2⟩:=aB h;have h3:∀ x∈it.v,hold (b x).D:=h3;simp only[eE,it.ok h1,bnd,zo,zk (show it.v.length<=100000 from h2),comp_map it.v λx hx=>⟨ρ2 x,hg x,(b x).ok (h3 x hx)⟩]⟩
def qC (it:R fi ρ (iE e)) (ρ2:α->Ev) (hg:∀ x,gt (e x) (jQ is ρ++List.replicate n none)=some (ρ2 x)) (b:∀ x,R fe (ρ2 x) (zE e')) (hb:∀ x,(b x).D=none):R (eE fi gt xU fe is n) ρ (oE e'):=⟨it.v.map λx=>(b x).v,aW it.D (some (it.v.length<=100000)),λh=>by
 obtain⟨h1,h2⟩:=aB h;simp only[eE,it.ok h1,bnd,zo,zk (show it.v.length<=100000 from h2),comp_map it.v λx hx=>⟨ρ2 x,hg x,(b x).ok (by rw[hb x];trivial)⟩]⟩
def Lx (it:R fi ρ (iE e)) (ρ2:α->Ev) (hg:∀ x,gt (e x) (jQ is ρ++List.replicate n none)=some (ρ2 x)) (t:∀ x,R p (ρ2 x) tE) (b:∀ x,R fe (ρ2 x) (zE e')):R (eE fi gt p fe is n) ρ (oE e'):=⟨(it.v.filter λx=>(t x).v).map λx=>(b x).v,aW (aW it.D (some (it.v.length<=100000))) (ahy it.v λx=>aW (t x).D (Gf ((t x).v=true) (b x).D)),λh=>by
 obtain⟨h,h3⟩:=aB h;obtain⟨h1,h2⟩:=aB h;have h3:∀ x∈it.v,hold (aW (t x).D (Gf ((t x).v=true) (b x).D)):=h3;simp only[eE,it.ok h1,bnd,zo,zk (show it.v.length<=100000 from h2),Gm it.v λx hx=>⟨ρ2 x,hg x,(t x).ok (aB (h3 x hx)).1,λht=>(b x).ok (lg (aB (h3 x hx)).2 ht)⟩]⟩
def pX (it:R fi ρ (iE e)) (ρ2:α->Ev) (hg:∀ x,gt (e x) (jQ is ρ++List.replicate n none)=some (ρ2 x)) (t:∀ x,R p (ρ2 x) tE) (b:∀ x,R fe (ρ2 x) (zE e')) (ht:∀ x,(t x).D=none) (hb:∀ x,(b x).D=none):R (eE fi gt p fe is n) ρ (oE e'):=⟨(it.v.filter λx=>(t x).v).map λx=>(b x).v,aW it.D (some (it.v.length<=100000)),λh=>by
 obtain⟨h1,h2⟩:=aB h;simp only[eE,it.ok h1,bnd,zo,zk (show it.v.length<=100000 from h2),Gm it.v λx hx=>⟨ρ2 x,hg x,(t x).ok (by rw[ht x];trivial),λ_=>(b x).ok (by rw[hb x];trivial)⟩]⟩
def Ly (a:RL fa ρ e):R (DG fa) ρ (iE e):=⟨a.v,a.D,λh=>by
 have:Yi a.b=some (a.v.map e):=by
  have:=a.lk
  revert this
  generalize a.b=b;generalize a.v.map e=ds;intro this;cases b with
  |z d=>cases d<;>cases this;rfl
  |l d=>cases this;rfl
  |o d=>cases this;rfl
  |n d=>cases this
  |m d _=>cases this
 simp only[DG,a.ok h,bnd,this]⟩
def Qa (a:R fa ρ (zE (eT e))):R (DG fa) ρ (iE e):=⟨a.v,a.D,λh=>by simp only[DG,a.ok h,bnd,Yi]⟩
def chars (x:Str):LS_:=x.cps.toList.map λc=>⟨#[c]⟩
theorem ZC (x:Str):signs x=(chars x).map eS:=by
 unfold signs chars;rw[qV];rfl
def ajb (a:R fa ρ (zE eS)):R (DG fa) ρ (iE eS):=⟨chars a.v,a.D,λh=>by simp only[DG,a.ok h,bnd,Yi,ZC]⟩
def ahz (a:R fa ρ (oE e)):R (itF fa) ρ (iE e):=⟨a.v,a.D,λh=>by simp only[itF,a.ok h,bnd,VF]⟩
def ajc (a:R fa ρ (zE (eL e))):R (itF fa) ρ (iE e):=⟨a.v,a.D,λh=>by simp only[itF,a.ok h,bnd,VF]⟩
def ajd (a:R fa ρ (zE (eT e))):R (itF fa) ρ (iE e):=⟨a.v,a.D,λh=>by simp only[itF,a.ok h,bnd,VF]⟩
def rng (i:Int) (n:Nat):List Int:=(List.range n).map λk:Nat=>i+(k:Int)
theorem acB (i:Int) (n:Nat):N6 i n=(rng i n).map eI:=by
 unfold N6 rng;rw[qV];rfl
def Rg (j:Int):Prop:=-4611686018427387904<=j/\j < 4611686018427387904
def Qc (a:R fa ρ (zE eI)):R (Yr (aq fa aJ)) ρ (iE eI):=⟨rng 0 a.v.toNat,aW a.D (some (Rg a.v)),λh=>by
 obtain⟨h,h4⟩:=aB h;simp only[Yr,aq,aJ,a.ok h,bnd];show(if -(2 ^ 62)<=a.v/\a.v < 2 ^ 62 then some (N6 0 a.v.toNat) else none)=_;exact(zk h4).trans (by rw[acB])⟩
end
section
variable {α β γ δ ε σ τ:Type} {ρ:Ev} {f fa fb fc fd:Ev->Option Bx} {p q:Ev->Option Bool} {fs:Ev->Option (List Bx)} {e:α->Dt} {e':β->Dt} {g g1 g2 k:Ev->Option Out} {cO:γ->Out} {gt:Dt->Ev->Option Ev}
theorem jL {ρ':Ev} (h:g1 ρ=some (.nx ρ')):aC g1 k ρ=k ρ':=by
 unfold aC;rw[h];rfl
def aY (x:R (aC g (aC g1 k)) ρ cO):R (aC (aC g g1) k) ρ cO:=⟨x.v,x.D,λh=>by
 rw[<-x.ok h];unfold aC;cases g ρ with
 |none=>rfl
 |some o=>cases o<;>rfl⟩
def bR (x:R k ρ cO):R (aC d7 k) ρ cO:=⟨x.v,x.D,λh=>x.ok h⟩
def bJ {is:List Nat} (x:γ) (h:cO x=.nx (kill is ρ)):R (dB is) ρ cO:=⟨x,none,λ_=>by rw[h];rfl⟩
def cZ {c:α->Bx} (inj:α->γ) (a:R f ρ c) (h:∀ x,cO (inj x)=.rt (c x)) (hc:∀ x,X7 (c x)=some (.rt (c x))):R (aC (fQ f) k) ρ cO:=⟨inj a.v,a.D,λhd=>by
 have:fQ f ρ=some (.rt (c a.v)):=by unfold fQ;rw[a.ok hd,bnd,hc]
 unfold aC;rw[this,h];rfl⟩
def Sy {c:α->Bx} (i:Nat) (inj:α->γ) (a:α) (hi:ρ[i]?=some (some (c a))) (h:∀ x,cO (inj x)=.rt (c x)) (hc:∀ x,X7 (c x)=some (.rt (c x))):R (aC (Hz i) k) ρ cO:=⟨inj a,none,λhd=>by
 have:Hz i ρ=some (.rt (c a)):=by unfold Hz;rw[hi];exact hc a
 unfold aC;rw[this,h];rfl⟩
def cF {c:α->Bx} (i:Nat) (a:R f ρ c) (hc:∀ x,VD ρ i (c x)=some (ρ.set i (some (c x)))) (K:∀ x,R k (ρ.set i (some (c x))) cO):R (aC (setG i f) k) ρ cO:=⟨(K a.v).v,aW a.D (K a.v).D,λhd=>by
 obtain⟨h1,h2⟩:=aB hd;rw[jL (ρ':=ρ.set i (some (c a.v))) (by unfold setG;rw[a.ok h1,bnd,hc,bnd])];exact(K a.v).ok h2⟩
def Gn (a:R f ρ (zE e)) (ρ2:α->Ev) (hg:∀ x,gt (e x) ρ=some (ρ2 x)) (K:∀ x,R k (ρ2 x) cO):R (aC (KR gt f) k) ρ cO:=⟨(K a.v).v,aW a.D (K a.v).D,λhd=>by
 obtain⟨h1,h2⟩:=aB hd;rw[jL (ρ':=ρ2 a.v) (by unfold KR;rw[a.ok h1,bnd];simp only[hg,bnd])];exact(K a.v).ok h2⟩
def adE (i j:Nat) (a:R fa ρ (zE e)) (b:R fb ρ (zE e')) (K:∀ x y,R k ((ρ.set i (some (.z (e x)))).set j (some (.z (e' y)))) cO):R (aC (abM i j (aq fa (aq fb aJ))) k) ρ cO:=⟨(K a.v b.v).v,aW (aW a.D b.D) (K a.v b.v).D,λhd=>by
 obtain⟨h1,h3⟩:=aB hd;obtain⟨h1,h2⟩:=aB h1;rw[jL (ρ':=(ρ.set i (some (.z (e a.v)))).set j (some (.z (e' b.v)))) (by unfold abM;simp only[aq,aJ,a.ok h1,b.ok h2,bnd,abv])];exact(K a.v b.v).ok h3⟩
def Cd (i:Nat) (xs:List α) (hi:ρ[i]?=some (some (.o (xs.map e)))) (a:R f ρ (zE e)) (K:∀ ys:List α,R k (ρ.set i (some (.o (ys.map e)))) cO):R (aC (HF i f) k) ρ cO:=⟨(K (xs++[a.v])).v,aW (aW a.D (some (Ht xs.length))) (K (xs++[a.v])).D,λhd=>by
 obtain⟨h1,h3⟩:=aB hd;obtain⟨h1,h2⟩:=aB h1;have h2:xs.length<=1000000:=h2;rw[jL (ρ':=ρ.set i (some (.o ((xs++[a.v]).map e)))) (by
  unfold HF;rw[a.ok h1,bnd];simp only[abw,hi,zo,qo,zr,ka];rw[zk (kK h2 (by decide))])]
 exact(K _).ok h3⟩
def jY (t:R p ρ tE) (a:R (aC g1 k) ρ cO) (b:R (aC g2 k) ρ cO):R (aC (wN p g1 g2) k) ρ cO:=⟨if t.v=true then a.v else b.v,aW t.D (aW (Gf (t.v=true) a.D) (Gf (t.v=false) b.D)),λhd=>by
 obtain⟨h1,h2⟩:=aB hd;obtain⟨h2,h3⟩:=aB h2;have e1:∀ c,t.v=c->aC (wN p g1 g2) k ρ=aC (if c=true then g1 else g2) k ρ:=λc hc=>by
  unfold aC wN;rw[t.ok h1,bnd,hc];cases c<;>rfl
 cases hv:t.v with
 |true=>rw[e1 true hv];simp only[qA];exact a.ok (lg h2 hv)
 |false=>rw[e1 false hv];simp only[zl,ZO];exact b.ok (lg h3 hv)⟩
def zG (E:σ->Ev) (t:R p ρ tE) (a:R g1 ρ (λs=>Out.nx (E s))) (b:R g2 ρ (λs=>Out.nx (E s))) (K:∀ s,R k (E s) cO):R (aC (wN p g1 g2) k) ρ cO:=⟨(K (if t.v=true then a.v else b.v)).v,aW (aW t.D (aW (Gf (t.v=true) a.D) (Gf (t.v=false) b.D))) (K (if t.v=true then a.v else b.v)).D,λhd=>by
 obtain⟨h,h4⟩:=aB hd;obtain⟨h1,h2⟩:=aB h;obtain⟨h2,h3⟩:=aB h2;rw[jL (ρ':=E (if t.v=true then a.v else b.v)) (by
  unfold wN;rw[t.ok h1,bnd];cases hv:t.v with
  |true=>simp only[qA];exact a.ok (lg h2 hv)
  |false=>simp only[zl,ZO];exact b.ok (lg h3 hv))]
 exact(K _).ok h4⟩
def tW (step:σ->α->σ) (P:σ->α->Option Prop):List α->σ->Prop
 |[],_=>True
 |x::xs,s=>hold (P s x)/\tW step P xs (step s x)
theorem zH {gb:Ev->Option Out} (E:σ->Ev) (ρ2:σ->α->Ev) (hg:∀ s x,gt (e x) (E s)=some (ρ2 s x)) (body:∀ s x,R gb (ρ2 s x) (λs=>Out.nx (E s))):∀ (xs:List α) (s:σ),tW (λs x=>(body s x).v) (λs x=>(body s x).D) xs s->qY gt gb (xs.map e) (E s)=some (.nx (E (xs.foldl (λs x=>(body s x).v) s)))
 |[],s,_=>rfl
 |x::xs,s,h=>by
  simp only[zr,qY,hg,bnd,(body s x).ok h.1,QO];exact zH E ρ2 hg body xs _ h.2
variable {fi:Ev->Option (List Dt)} {gb:Ev->Option Out}
def Qd (E:σ->Ev) (s0:σ) (hE:ρ=E s0) (it:R fi ρ (iE e)) (ρ2:σ->α->Ev) (hg:∀ s x,gt (e x) (E s)=some (ρ2 s x)) (body:∀ s x,R gb (ρ2 s x) (λs=>Out.nx (E s))) (K:∀ s,R k (E s) cO):R (aC (rR fi gt gb) k) ρ cO:=⟨(K (it.v.foldl (λs x=>(body s x).v) s0)).v,aW (aW it.D (some (tW (λs x=>(body s x).v) (λs x=>(body s x).D) it.v s0))) (K (it.v.foldl (λs x=>(body s x).v) s0)).D,λhd=>by
 obtain⟨h,h4⟩:=aB hd;obtain⟨h1,h2⟩:=aB h;rw[jL (ρ':=E (it.v.foldl (λs x=>(body s x).v) s0)) (by
  unfold rR;rw[it.ok h1,bnd];subst hE;exact zH E ρ2 hg body it.v s0 h2)]
 exact(K _).ok h4⟩
def afx (E:σ->Ev) (s0:σ) (hE:ρ=E s0) (it:R fi ρ (iE e)) (ρ2:σ->α->Ev) (hg:∀ s x,gt (e x) (E s)=some (ρ2 s x)) (body:∀ s x,R gb (ρ2 s x) (λs=>Out.nx (E s))) (hb:∀ s x,(body s x).D=none) (K:∀ s,R k (E s) cO):R (aC (rR fi gt gb) k) ρ cO:=⟨(K (it.v.foldl (λs x=>(body s x).v) s0)).v,aW it.D (K (it.v.foldl (λs x=>(body s x).v) s0)).D,λhd=>by
 obtain⟨h1,h4⟩:=aB hd;have h2:∀ (xs:List α) (s:σ),tW (λs x=>(body s x).v) (λs x=>(body s x).D) xs s:=λxs=>by
  induction xs with
  |nil=>intro s;trivial
  |cons x xs ih=>intro s;exact⟨by show hold (body s x).D;rw[hb s x];trivial,ih _⟩
 rw[jL (ρ':=E (it.v.foldl (λs x=>(body s x).v) s0)) (by
  unfold rR;rw[it.ok h1,bnd];subst hE;exact zH E ρ2 hg body it.v s0 (h2 _ _))]
 exact(K _).ok h4⟩
inductive ji (σ τ:Type) where
 |nx (s:σ)|rt (r:τ)|bk (s:σ)|ct (s:σ)
def cC (E:σ->Ev) (c:τ->Bx):ji σ τ->Out
 |.nx s=>.nx (E s)
 |.rt r=>.rt (c r)
 |.bk s=>.bk (E s)
 |.ct s=>.ct (E s)
def jC (step:σ->α->ji σ τ):List α->σ->ji σ τ
 |[],s=>.nx s
 |x::xs,s=>match step s x with
  |.nx s'=>jC step xs s'
  |.ct s'=>jC step xs s'
  |.bk s'=>.nx s'
  |.rt r=>.rt r
def uG (step:σ->α->ji σ τ) (P:σ->α->Option Prop):List α->σ->Prop
 |[],_=>True
 |x::xs,s=>hold (P s x)/\match step s x with
  |.nx s'=>uG step P xs s'
  |.ct s'=>uG step P xs s'
  |.bk _=>True
  |.rt _=>True
theorem DX {c:τ->Bx} (E:σ->Ev) (ρ2:σ->α->Ev) (hg:∀ s x,gt (e x) (E s)=some (ρ2 s x)) (body:∀ s x,R gb (ρ2 s x) (cC E c)):∀ (xs:List α) (s:σ),uG (λs x=>(body s x).v) (λs x=>(body s x).D) xs s->qY gt gb (xs.map e) (E s)=some (cC E c (jC (λs x=>(body s x).v) xs s))
 |[],s,_=>rfl
 |x::xs,s,h=>by
  obtain⟨h1,h2⟩:=h;dsimp only at h2;simp only[zr,qY,hg,bnd,(body s x).ok h1,jC]
  revert h2
  cases(body s x).v with
  |nx s'=>intro h2;exact DX E ρ2 hg body xs s' h2
  |ct s'=>intro h2;exact DX E ρ2 hg body xs s' h2
  |bk s'=>intro _;rfl
  |rt r=>intro _;rfl
theorem zJ (step:σ->α->ji σ τ):∀ (xs:List α) (s:σ),(∃ s',jC step xs s=.nx s')\/∃ r,jC step xs s=.rt r
 |[],s=>.inl ⟨s,rfl⟩
 |x::xs,s=>by
  unfold jC;cases step s x with
  |nx s'=>exact zJ step xs s'
  |ct s'=>exact zJ step xs s'
  |bk s'=>exact .inl ⟨s',rfl⟩
  |rt r=>exact .inr ⟨r,rfl⟩
def behind (r:ji σ τ) (inj:τ->γ) (K:σ->γ):γ:=match r with
 |.rt r=>inj r
 |.nx s=>K s
 |.bk s=>K s
 |.ct s=>K s
def jP (r:ji σ τ) (K:σ->Prop):Prop:=match r with
 |.rt _=>True
 |.nx s=>K s
 |.bk s=>K s
 |.ct s=>K s
def Lz (r:ji σ τ) (K:σ->Option Prop):Option Prop:=some (jP r λs=>hold (K s))
def ZD {c:τ->Bx} (E:σ->Ev) (s0:σ) (hE:ρ=E s0) (it:R fi ρ (iE e)) (ρ2:σ->α->Ev) (hg:∀ s x,gt (e x) (E s)=some (ρ2 s x)) (body:∀ s x,R gb (ρ2 s x) (cC E c)) (inj:τ->γ) (hj:∀ r,cO (inj r)=.rt (c r)) (K:∀ s,R k (E s) cO):R (aC (rR fi gt gb) k) ρ cO:=⟨behind (jC (λs x=>(body s x).v) it.v s0) inj λs=>(K s).v,aW (aW it.D (some (uG (λs x=>(body s x).v) (λs x=>(body s x).D) it.v s0))) (Lz (jC (λs x=>(body s x).v) it.v s0) λs=>(K s).D),λhd=>by
 obtain⟨h,h4⟩:=aB hd;obtain⟨h1,h2⟩:=aB h;have e1:rR fi gt gb ρ=some (cC E c (jC (λs x=>(body s x).v) it.v s0)):=by
  unfold rR;rw[it.ok h1,bnd];subst hE;exact DX E ρ2 hg body it.v s0 h2
 rcases zJ (λs x=>(body s x).v) it.v s0 with⟨s',es⟩|⟨r,es⟩
 ·rw[es] at e1 h4 ⊢;rw[jL e1];exact(K s').ok h4
 ·rw[es] at e1 ⊢;show aC (rR fi gt gb) k ρ=some (cO (inj r));unfold aC;rw[e1,hj];rfl⟩
theorem afy {i:Nat} {ds:List Dt} (h:ρ[i]?=some (some (.l ds))):ql i gt gb ρ=qY gt gb ds ρ:=by unfold ql;rw[h]
theorem Gp {i:Nat} {ds:List Dt} (h:ρ[i]?=some (some (.z (.tup ds)))):ql i gt gb ρ=qY gt gb ds ρ:=by unfold ql;rw[h];rfl
theorem ZF {i:Nat} {ds:List Dt} (h:ρ[i]?=some (some (.z (.lst ds)))):ql i gt gb ρ=qY gt gb ds ρ:=by unfold ql;rw[h];rfl
theorem afz {i:Nat} {ds:List Dt} {b:Bx} (hp:Lp b ds) (h:ρ[i]?=some (some b)):ql i gt gb ρ=qY gt gb ds ρ:=by
 rcases hp with rfl|rfl
 ·exact ZF h
 ·exact afy h
def LC (i:Nat) {ρ':Ev} (xs:List α) (hv:ql i gt gb ρ=qY gt gb (xs.map e) ρ') (E:σ->Ev) (s0:σ) (hE:ρ'=E s0) (ρ2:σ->α->Ev) (hg:∀ s x,gt (e x) (E s)=some (ρ2 s x)) (body:∀ s x,R gb (ρ2 s x) (λs=>Out.nx (E s))) (K:∀ s,R k (E s) cO):R (aC (ql i gt gb) k) ρ cO:=⟨(K (xs.foldl (λs x=>(body s x).v) s0)).v,aW (some (tW (λs x=>(body s x).v) (λs x=>(body s x).D) xs s0)) (K (xs.foldl (λs x=>(body s x).v) s0)).D,λhd=>by
 obtain⟨h2,h4⟩:=aB hd;rw[jL (ρ':=E (xs.foldl (λs x=>(body s x).v) s0)) (by
  rw[hv,hE];exact zH E ρ2 hg body xs s0 h2)]
 exact(K _).ok h4⟩
def LK {c:τ->Bx} (i:Nat) {ρ':Ev} (xs:List α) (hv:ql i gt gb ρ=qY gt gb (xs.map e) ρ') (E:σ->Ev) (s0:σ) (hE:ρ'=E s0) (ρ2:σ->α->Ev) (hg:∀ s x,gt (e x) (E s)=some (ρ2 s x)) (body:∀ s x,R gb (ρ2 s x) (cC E c)) (inj:τ->γ) (hj:∀ r,cO (inj r)=.rt (c r)) (K:∀ s,R k (E s) cO):R (aC (ql i gt gb) k) ρ cO:=⟨behind (jC (λs x=>(body s x).v) xs s0) inj λs=>(K s).v,aW (some (uG (λs x=>(body s x).v) (λs x=>(body s x).D) xs s0)) (Lz (jC (λs x=>(body s x).v) xs s0) λs=>(K s).D),λhd=>by
 obtain⟨h2,h4⟩:=aB hd;have e1:ql i gt gb ρ=some (cC E c (jC (λs x=>(body s x).v) xs s0)):=by
  rw[hv,hE];exact DX E ρ2 hg body xs s0 h2
 rcases zJ (λs x=>(body s x).v) xs s0 with⟨s',es⟩|⟨r,es⟩
 ·rw[es] at e1 h4 ⊢;rw[jL e1];exact(K s').ok h4
 ·rw[es] at e1 ⊢;show aC (ql i gt gb) k ρ=some (cO (inj r));unfold aC;rw[e1,hj];rfl⟩
class Ky {κ:Type} (c:κ->Key):Prop where
 inj:∀ a b,c a=c b->a=b
abbrev kS:Str->Key:=Sum.inr
abbrev kI:Int->Key:=Sum.inl
instance:Ky kS:=⟨λ_ _ h=>by cases h;rfl⟩
instance:Ky kI:=⟨λ_ _ h=>by cases h;rfl⟩
abbrev mE (e:α->Dt):List (Str×α)->Bx:=λm=>.m (m.map λq=>(kS q.1,e q.2)) none
abbrev nE (e:α->Dt):List (Str×α)->Bx:=λm=>.n (m.map λq=>(kS q.1,e q.2))
section
variable {κ:Type} [DecidableEq κ] {c:κ->Key}
def look [Inhabited α] (m:List (κ×α)) (x:κ):α:=((m.find? λq=>decide (q.1=x)).map (·.2)).getD default
def has (m:List (κ×α)) (x:κ):Bool:=m.any λq=>decide (q.1=x)
def put (m:List (κ×α)) (x:κ) (a:α):List (κ×α):=if has m x=true then m.map (λq=>if q.1=x then(q.1,a) else q) else m++[(x,a)]
theorem ZG [Ky c] (a b:κ):decide (c a=c b)=decide (a=b):=by
 by_cases h:a=b
 ·rw[h];simp
 ·rw[ZE h,ZE λz=>h (Ky.inj (c:=c) _ _ z)]
theorem ZJ [Ky c] (m:List (κ×α)) (x:κ):Fo (m.map λq=>(c q.1,e q.2)) (c x)=((m.find? λq=>decide (q.1=x)).map (·.2)).map e:=by
 unfold Fo;rw[List.find?_map];simp only[Option.map_map,Function.comp_def,ZG]
theorem ZK [Ky c] [Inhabited α] {m:List (κ×α)} {x:κ} (h:has m x=true):Fo (m.map λq=>(c q.1,e q.2)) (c x)=some (e (look m x)):=by
 rw[ZJ];unfold look;unfold has at h;rw[j3] at h;obtain⟨q,hq,hx⟩:=h;cases hf:m.find? λq=>decide (q.1=x) with
 |none=>exact absurd hx (by simpa using List.find?_eq_none.mp hf q hq)
 |some q=>rfl
theorem U5 [Ky c] (m:List (κ×α)) (x:κ) (a:α):K5 (m.map λq=>(c q.1,e q.2)) (c x) (e a)=(put m x a).map λq=>(c q.1,e q.2):=by
 unfold K5 put has;rw[List.any_map];simp only[Function.comp_def,ZG];by_cases h:(m.any λq=>decide (q.1=x))=true
 ·rw[zk h,zk h];rw[qV,qV];refine jv λq _=>?_;simp only[Function.comp];by_cases hq:q.1=x
  ·simp[hq]
  ·have h':¬ c q.1=c x:=λz=>hq (Ky.inj (c:=c) _ _ z);simp[hq,h']
 ·rw[zw h,zw h];simp
end
theorem Qe:∀ m:List (Str×α),V2 (m.map λq=>(kS q.1,e q.2))=some (m.map (·.1))
 |[]=>rfl
 |q::m=>by rw[zr,V2,Qe m,bnd];rfl
def lX [Inhabited α] (a:R fa ρ (nE e)) (b:R fb ρ (zE eS)):R (b2 lM fa fb) ρ (zE e):=⟨look a.v b.v,aW (aW a.D b.D) (some (has a.v b.v=true)),λh=>by
 obtain⟨h,h3⟩:=aB h;obtain⟨h1,h2⟩:=aB h;simp only[b2,a.ok h1,b.ok h2,bnd,lM,kyB,ZK (c:=kS) (show has a.v b.v=true from h3)]⟩
end
section
variable {α β:Type} {ρ:Ev} {fa f:Ev->Option Bx} {fs:Ev->Option LS_} {fi:Ev->Option (List Dt)} {e:α->Dt}
theorem zK {b:Bx} {ds:List Dt} (h:qj b=some ds):qZ b=some ds:=by
 cases b with
 |z d=>cases d<;>first|exact h|(cases h;done)
 |l _=>exact h
 |o _=>exact h
 |n _=>cases h
 |m _ _=>cases h
end
end P1
end
section
namespace P1
open PySem PySem.Spec PyProof.Rows L2 S1 S6
class qD {α:Type} (e:α->Dt) where
 k:α->Key
 ok:∀ a,abV (e a)=some (k a)
 inj:∀ a b,k a=k b->a=b
 same:∀ a b,Uk (k a) (k b)=true
instance:qD eI:=⟨λi=>.inl i,λ_=>rfl,λa b h=>by cases h;rfl,λ_ _=>rfl⟩
instance:qD eS:=⟨λi=>.inr i,λ_=>rfl,λa b h=>by cases h;rfl,λ_ _=>rfl⟩
class rA {α:Type} (e:α->Dt) where
 k:α->List Key
 ok:∀ a,Fq (e a)=some (k a)
 inj:∀ a b,k a=k b->a=b
 shp:∀ a b,K8 (k a) (k b)=true
 ne:∀ a,(k a).isEmpty=false
class ZL {α:Type} (e:α->Dt) [rA e]:Prop where
 tx:∀ a,Pj (rA.k e a)=true
section
variable {α β γ δ:Type} {e:α->Dt} {e':β->Dt} {e'':γ->Dt} {e3:δ->Dt}
instance [qD e] [qD e']:rA (Zk e e'):=⟨λq=>[qD.k e q.1,qD.k e' q.2],λq=>by simp only[Fq,BX,qD.ok,bnd],λa b h=>by
 simp only[JO,and_true] at h;exact Prod.ext (qD.inj _ _ h.1) (qD.inj _ _ h.2),λa b=>by simp[K8,qD.same],λ_=>rfl⟩
instance [qD e] [qD e'] [qD e'']:rA (eP3 e e' e''):=⟨λq=>[qD.k e q.1,qD.k e' q.2.1,qD.k e'' q.2.2],λq=>by simp only[Fq,BX,qD.ok,bnd],λa b h=>by
 simp only[JO,and_true] at h;exact Prod.ext (qD.inj _ _ h.1) (Prod.ext (qD.inj _ _ h.2.1) (qD.inj _ _ h.2.2)),λa b=>by simp[K8,qD.same],λ_=>rfl⟩
instance [qD e] [qD e'] [qD e''] [qD e3]:rA (eP4 e e' e'' e3):=⟨λq=>[qD.k e q.1,qD.k e' q.2.1,qD.k e'' q.2.2.1,qD.k e3 q.2.2.2],λq=>by simp only[Fq,BX,qD.ok,bnd],λa b h=>by
 simp only[JO,and_true] at h;exact Prod.ext (qD.inj _ _ h.1) (Prod.ext (qD.inj _ _ h.2.1) (Prod.ext (qD.inj _ _ h.2.2.1) (qD.inj _ _ h.2.2.2))),λa b=>by simp[K8,qD.same],λ_=>rfl⟩
instance [qD e]:ZL (Zk e eS):=⟨λa=>by simp[rA.k,Pj,qD.k]⟩
instance [qD e] [qD e']:ZL (eP3 e eS e'):=⟨λa=>by simp[rA.k,Pj,qD.k]⟩
instance [qD e] [qD e'] [qD e'']:ZL (eP4 e eS e' e''):=⟨λa=>by simp[rA.k,Pj,qD.k]⟩
variable {ρ:Ev} {fa f:Ev->Option Bx} {fs:Ev->Option (List (List Key))}
theorem yd [rA e]:∀ xs:List α,tL (xs.map e)=some (xs.map (rA.k e))
 |[]=>rfl
 |x::xs=>by simp only[zr,tL,rA.ok,bnd,yd xs]
def leT (e:α->Dt) [rA e] (a b:α):Bool:=vD (rA.k e a) (rA.k e b)
def lN (e:α->Dt) [rA e] (xs:List α):List α:=xs.mergeSort (leT e)
theorem fD [rA e] (xs:List α):(lN e xs).Perm xs:=KA ..
theorem tX [rA e] (xs:List α):(lN e xs).Pairwise (λa b=>leT e a b=true):=kN (le:=leT e) (λa b c=>xX (rA.k e a) (rA.k e b) (rA.k e c)) (λa b=>xY (rA.k e a) (rA.k e b)) xs
theorem ZM [rA e] {a b:α} (h:leT e a b=true) (h':leT e b a=true):a=b:=rA.inj _ _ (Bj h h')
theorem Qf [rA e] {xs out:List α} (hp:out.Perm xs) (hs:out.Pairwise (λa b=>leT e a b=true)):out=lN e xs:=qw (λ_ _=>ZM) (hp.trans (fD xs).symm) hs (tX xs)
theorem JW [rA e] (xs:List α):kY (xs.map (rA.k e))=(lN e xs).map (rA.k e):=by
 refine(rT ((fD xs).map _) (List.pairwise_map.mpr (tX xs))).symm
theorem ZP [rA e] (xs:List α):(xs.map (rA.k e)).map tupK=xs.map e:=by
 rw[qV];exact jv λa _=>(OD (rA.ok a)).symm
theorem Qg [rA e] (xs:List α) (h:xs.length < 64):CQ (xs.map (rA.k e))=true:=by
 simp only[CQ,ZA,z5,ZY,Qr,zo,kP,forall_exists_index,and_imp,forall_apply_eq_imp_iff₂];exact⟨h,λa _=>rA.ne a,λa _ b _=>rA.shp a b⟩
def afA [rA e] (a:RL fa ρ e):R (c7 vH (aq fa aJ)) ρ (oE e):=⟨lN e a.v,aW a.D (some (a.v.length < 64)),λh=>by
 obtain⟨h,h4⟩:=aB h;simp only[c7,aq,aJ,a.ok h,bnd,vH,zK a.lk,yd,Qg a.v h4,qA,JW,ZP]⟩
abbrev uE (e:α->Dt) [rA e]:List α->List (List Key):=λxs=>xs.map (rA.k e)
def ZQ [rA e] [ZL e] (a:RL fa ρ e):R (R8 fa) ρ (uE e):=⟨a.v,aW a.D (some (a.v.length<=64)),λh=>by
 obtain⟨h,h4⟩:=aB h;have h4:a.v.length<=64:=h4;have ht:(a.v.map (rA.k e)).all Pj=true:=by
  rw[KF,ZY];exact λx _=>ZL.tx x
 simp only[R8,a.ok h,bnd,adp,zK a.lk,yd];rw[zk ⟨by rw[zo];exact h4,ht⟩]⟩
def ZR [DecidableEq α] [rA e] (a:R fs ρ (uE e)):R (FP fs) ρ (oE e):=⟨lN e (HX a.v),aW a.D (some (a.v.length < 64)),λh=>by
 obtain⟨h,h4⟩:=aB h;simp only[FP,a.ok h,bnd,Qg a.v h4,qA,Lg rA.inj,JW,ZP]⟩
end
end P1
end
section
namespace P1
open PySem PySem.Spec PyProof.Rows L2
section
variable {α β γ:Type} {ρ:Ev} {fa fb fd f fk fv:Ev->Option Bx} {fs:Ev->Option (List Bx)} {fi:Ev->Option (List Dt)} {e:α->Dt} {e':β->Dt} {g k:Ev->Option Out} {cO:γ->Out} {gt:Dt->Ev->Option Ev} {p:Ev->Option Bool} {is:List Nat} {n:Nat}
abbrev mW (w:Option Addr) (e:α->Dt):List (Str×α)->Bx:=λm=>.m (m.map λq=>(kS q.1,e q.2)) w
def aM (e:α->Dt) (t:γ->List Bx->Prop):List (Str×α)×γ->List Bx->Prop:=λx bs=>∃ b r,bs=b::r/\(b=nE e x.1\/b=mE e x.1)/\t x.2 r
def acC {t:γ->List Bx->Prop} (a:R fa ρ (nE e)) (r:AR t fs ρ):AR (aM e t) (aq fa fs) ρ:=⟨(a.v,r.v),aW a.D r.D,_,⟨_,_,rfl,.inl rfl,r.h⟩,λh=>by
 obtain⟨h1,h2⟩:=aB h;simp only[aq,a.ok h1,r.ok h2,bnd]⟩
def U6 (w:Option Addr) (i:Nat) (m:List (Str×α)) (hi:ρ[i]?=some (some (mW w e m))) (a:R fa ρ (zE e)) (b:R fb ρ (zE eS)) (K:∀ m':List (Str×α),R k (ρ.set i (some (mW w e m'))) cO):R (aC (Ug i fa fb) k) ρ cO:=⟨(K (put m b.v a.v)).v,aW (aW (aW a.D b.D) (some (m.length < 1000))) (K (put m b.v a.v)).D,λhd=>by
 obtain⟨h,h4⟩:=aB hd;obtain⟨h,h3⟩:=aB h;obtain⟨h1,h2⟩:=aB h;rw[jL (ρ':=ρ.set i (some (mW w e (put m b.v a.v)))) (by
  unfold Ug;rw[a.ok h1,bnd,b.ok h2,bnd];simp only[Ot,kyB,bnd,hi,mW,zo,zk (show m.length < 1000 from h3),U5])]
 exact(K _).ok h4⟩
def mkD (qs:List (Str×β)):List (Str×β):=qs.foldl (λm q=>put m q.1 q.2) []
theorem SJ (qs:List (Str×β)):dictOf (qs.map (Zk eS e'))=(mkD qs).map λq=>(kS q.1,e' q.2):=by
 unfold dictOf mkD;have:∀ (qs:List (Str×β)) (m:List (Str×β)),(qs.map (Zk eS e')).foldl ae9 (m.map λq=>(kS q.1,e' q.2))=(qs.foldl (λm q=>put m q.1 q.2) m).map λq=>(kS q.1,e' q.2):=by
  intro qs
  induction qs with
  |nil=>intro m;rfl
  |cons q qs ih=>
   intro m;rw[zr,QO,QO];show(qs.map (Zk eS e')).foldl ae9 (K5 (m.map λq=>(kS q.1,e' q.2)) (kS q.1) (e' q.2))=_;rw[U5 (c:=kS)];exact ih _
 exact this qs []
def acD (a:R fk ρ (zE eS)) (b:R fv ρ (zE e)):R (b2 FQ fk fv) ρ (zE (Zk eS e)):=⟨(a.v,b.v),aW a.D b.D,λh=>by
 obtain⟨h1,h2⟩:=aB h;simp only[b2,a.ok h1,b.ok h2,bnd,FQ]⟩
def acE (i:R fi ρ (iE e)) (a:R (eE fi gt p (b2 FQ fk fv) is n) ρ (oE (Zk eS e'))):R (Ux fi gt p fk fv is n) ρ (mE e'):=⟨mkD a.v,aW (aW i.D (some (i.v.length < 1000))) a.D,λh=>by
 obtain⟨h,h3⟩:=aB h;obtain⟨h1,h2⟩:=aB h;have h2:i.v.length < 1000:=h2;have ha:=a.ok h3;unfold eE at ha;unfold Ux;rw[i.ok h1,bnd] at ha ⊢;rw[zk (by rw[zo];omega)] at ha;rw[zk (by rw[zo];exact h2)];obtain⟨out,eo,ha⟩:=bind_some ha;rw[eo,bnd];injection ha with ha;injection ha with ha;rw[ha,SJ]⟩
def ahB (a:R fd ρ (nE e)):R (Pq fd) ρ (iE eS):=⟨a.v.map (·.1),a.D,λh=>by
 simp only[Pq,a.ok h,bnd,keyB,qV];rfl⟩
def acF (a:R fa ρ (nE e)):R (c7 FZ (aq fa aJ)) ρ (oE eS):=⟨a.v.map (·.1),a.D,λh=>by
 simp only[c7,aq,aJ,a.ok h,bnd,FZ,Qe]⟩
def afB (a:R fa ρ (zE eS)) (b:R fb ρ (zE eS)):R (c7 FW (aq fa (aq fb aJ))) ρ (zE eS):=⟨if vK b.v a.v=true then b.v else a.v,aW a.D b.D,λh=>by
 obtain⟨h1,h2⟩:=aB h;simp only[c7,aq,aJ,a.ok h1,b.ok h2,bnd,FW];rfl⟩
theorem acG {n:Nat} {bs:List Bx} {a:Addr} {m:List (Str×α)} {ρ2:List (Str×α)->Ev} (x:R g ((mW (some a) e m::bs).map some++List.replicate (n - (bs.length+1)) none) (λm'=>Out.nx (ρ2 m'))) (h:hold x.D) (h0:∀ m',(ρ2 m')[0]?=some (some (mW (some a) e m'))):Px n g a (m.map λq=>(kS q.1,e q.2)) bs=some (x.v.map λq=>(kS q.1,e q.2)):=by
 unfold Px;rw[x.ok h,bnd];simp only[h0,qA]
def afC {cA:γ->List Bx->Prop} {δ:Type} {cO:δ->Out} {G:Addr->List (Key×Dt)->List Bx->Option (List (Key×Dt))} {n:Nat} {T:List (Str×α)->γ->List (Str×α)} {Df:List (Str×α)->γ->Option Prop} (w:Option Addr) (i:Nat) (m:List (Str×α)) (hi:ρ[i]?=some (some (mW w e m)))
  (S:∀ m v bs,cA v bs->bs.length=n/\bs.all isZ=true/\(hold (Df m v)->∀ a,G a (m.map λq=>(kS q.1,e q.2)) bs=some ((T m v).map λq=>(kS q.1,e q.2)))) (a:AR cA fs ρ) (K:∀ m':List (Str×α),R k (ρ.set i (some (mW w e m'))) cO):R (aC (Gb i n G fs) k) ρ cO:=⟨(K (T m a.v)).v,aW (aW a.D (Df m a.v)) (K (T m a.v)).D,λhd=>by
 obtain⟨h,h4⟩:=aB hd;obtain⟨h1,h2⟩:=aB h;obtain⟨s1,s2,s3⟩:=S m a.v a.bs a.h;rw[jL (Zd hi (a.ok h1) s1 s2 (s3 h2))];exact(K _).ok h4⟩
end
section
variable {α:Type} {ρ:Ev} {fa fb:Ev->Option Bx} {e:α->Dt}
def gB [DecidableEq α] (x:α) (ys:List α):Bool:=decide (x∈ys)
theorem nJ [DecidableEq α] {x:α} {ys:List α}:gB x ys=true↔x∈ys:=by unfold gB;rw[z5]
theorem Gq [DecidableEq α] {n:Nat} [Eqs e n] (hn:n<=60) (x:α) (ys:List α):Wo (e x) (ys.map e)=some (decide (x∈ys)):=by
 unfold Wo;rw[zk]
 ·congr 1;rw[List.any_map,JU,j3,z5];constructor
  ·rintro⟨y,hy,h⟩;simp only[Function.comp,Eqs.eq] at h;by_cases q:y=x
   ·exact q▸hy
   ·simp[q,isT] at h
  ·intro h;exact⟨x,h,by simp[Function.comp,Eqs.eq,isT]⟩
 ·rw[KF,ZY];intro y _;have:=Eqs.dp (e:=e) y;simp only[Function.comp,Eqs.eq,KS,ye,z5];omega
def JX [DecidableEq α] {n:Nat} [Eqs e n] (hn:n<=60) (a:R fa ρ (zE e)) (b:RL fb ρ e):R (b2 inX fa fb) ρ (zE eB):=⟨gB a.v b.v,aW a.D b.D,λh=>by
 obtain⟨h1,h2⟩:=aB h;simp only[b2,a.ok h1,b.ok h2,bnd,inX,zK b.lk,Gq hn,gB]⟩
def ZS [DecidableEq α] {n:Nat} [Eqs e n] (hn:n<=60) (a:R fa ρ (zE e)) (b:RL fb ρ e):R (b2 Lh fa fb) ρ (zE eB):=⟨!gB a.v b.v,aW a.D b.D,λh=>by
 obtain⟨h1,h2⟩:=aB h;simp only[b2,a.ok h1,b.ok h2,bnd,Lh,zK b.lk,Gq hn,gB]⟩
def acH [DecidableEq α] {n:Nat} [Eqs e n] (hn:n<=60) (a:R fa ρ (zE e)) (b:R fb ρ (zE (eT e))):R (b2 Lh fa fb) ρ (zE eB):=⟨!gB a.v b.v,aW a.D b.D,λh=>by
 obtain⟨h1,h2⟩:=aB h;simp only[b2,a.ok h1,b.ok h2,bnd,Lh,qZ,eT,Gq hn,gB]⟩
end
end P1
end
section
namespace P1
open PySem PySem.Spec PyProof.Rows L2 S1 S6
section
variable {ρ:Ev} {fa:Ev->Option Bx}
def kT (xs:LS_):List Key:=xs.map Sum.inr
theorem afD {a b:LS_} (h:kT a=kT b):a=b:=by
 unfold kT at h
 induction a generalizing b with
 |nil=>cases b with|nil=>rfl|cons _ _=>simp at h
 |cons x a ih=>cases b with
  |nil=>simp at h
  |cons y b=>
   simp only[zr,JO] at h;rw[Sum.inr.inj h.1,ih h.2]
theorem Qh:∀ (xs:LS_),BX (xs.map eS)=some (kT xs)
 |[]=>rfl
 |x::xs=>by simp only[zr,BX,abV,bnd,Qh xs];rfl
theorem JZ:∀ (xss:List LS_),tL (xss.map (eT eS))=some (xss.map kT)
 |[]=>rfl
 |x::xss=>by simp only[zr,tL,Fq,eT,Qh,bnd,JZ xss]
def Qi (a b:LS_):Bool:=vD (kT a) (kT b)
def fG (xss:List LS_):List LS_:=xss.mergeSort Qi
theorem dY (xs:List LS_):(fG xs).Perm xs:=KA ..
theorem Ce (xs:List LS_):(fG xs).Pairwise (λa b=>Qi a b=true):=kN (le:=Qi) (λa b c=>xX (kT a) (kT b) (kT c)) (λa b=>xY (kT a) (kT b)) xs
theorem Wx {a b:LS_} (h:Qi a b=true) (h':Qi b a=true):a=b:=afD (Bj h h')
theorem Wy {xs out:List LS_} (hp:out.Perm xs) (hs:out.Pairwise (λa b=>Qi a b=true)):out=fG xs:=qw (λ_ _=>Wx) (hp.trans (dY xs).symm) hs (Ce xs)
theorem SM (xs:List LS_):kY (xs.map kT)=(fG xs).map kT:=(rT ((dY xs).map _) (List.pairwise_map.mpr (Ce xs))).symm
theorem acI (xs:List LS_):(xs.map kT).map tupK=xs.map (eT eS):=by
 rw[qV];refine jv λa _=>?_;show Dt.tup ((kT a).map dK)=Dt.tup (a.map eS);unfold kT;rw[qV];rfl
theorem afE (a b:LS_):K8 (kT a) (kT b)=true:=by
 unfold K8 kT;rw[ZY];rintro⟨x,y⟩ h;obtain⟨h1,h2⟩:=List.of_mem_zip h;obtain⟨p,_,rfl⟩:=List.mem_map.mp h1;obtain⟨q,_,rfl⟩:=List.mem_map.mp h2;rfl
theorem acJ (xs:List LS_) (h:xs.length < 64) (hn:∀ x∈xs,x.isEmpty=false):CQ (xs.map kT)=true:=by
 simp only[CQ,ZA,z5,ZY,Qr,zo,kP,forall_exists_index,and_imp,forall_apply_eq_imp_iff₂];refine⟨h,λa ha=>?_,λa _ b _=>afE a b⟩;have:=hn a ha;cases a with
 |nil=>cases this
 |cons _ _=>rfl
def acK (a:RL fa ρ (eT eS)):R (c7 vH (aq fa aJ)) ρ (oE (eT eS)):=⟨fG a.v,aW a.D (some (a.v.length < 64/\∀ x∈a.v,x.isEmpty=false)),λh=>by
 obtain⟨h,h4⟩:=aB h;obtain⟨h4,h5⟩:a.v.length < 64/\∀ x∈a.v,x.isEmpty=false:=h4;simp only[c7,aq,aJ,a.ok h,bnd,vH,zK a.lk,JZ,acJ a.v h4 h5,qA,SM,acI]⟩
end
section
variable {α:Type} {ρ:Ev} {f:Ev->Option Bx} {e:α->Dt}
theorem map_some (e:α->Dt) (xs:List α):(xs.map some).map (eO e)=xs.map e:=by rw[qV];rfl
end
end P1
end
section
namespace P1
open PySem PySem.Spec PyProof.Rows L2
section
variable {α:Type} {k g:Ev->Option Out} {ρ:Ev} {cO:α->Out}
def ahC (i:Nat) (E:Ev) (hE:afd i ρ=some E) (K:R k E cO):R (fzG i k) ρ cO:=⟨K.v,K.D,λh=>by
 unfold fzG;rw[hE];exact K.ok h⟩
end
section
variable {α:Type} {e:α->Dt} {ρ:Ev} {fa fb:Ev->Option Bx}
end
section
variable {σ τ γ:Type} {p:Ev->Option Bool} {gb k:Ev->Option Out} {ρ:Ev} {cO:γ->Out}
def Q5 (cond:σ->Bool) (step:σ->ji σ τ):Nat->σ->ji σ τ
 |0,s=>.nx s
 |n+1,s=>if cond s=true then(match step s with
  |.nx s'=>Q5 cond step n s'
  |.ct s'=>Q5 cond step n s'
  |.bk s'=>.nx s'
  |.rt r=>.rt r) else .nx s
def whD (cond:σ->Bool) (cD:σ->Option Prop) (step:σ->ji σ τ) (P:σ->Option Prop):Nat->σ->Prop
 |0,_=>False
 |n+1,s=>hold (cD s)/\(cond s=true->hold (P s)/\match step s with
  |.nx s'=>whD cond cD step P n s'
  |.ct s'=>whD cond cD step P n s'
  |.bk _=>True
  |.rt _=>True)
theorem DY (cond:σ->Bool) (step:σ->ji σ τ):∀ (n:Nat) (s:σ),(∃ s',Q5 cond step n s=.nx s')\/∃ r,Q5 cond step n s=.rt r
 |0,s=>.inl ⟨s,rfl⟩
 |n+1,s=>by
  unfold Q5;split
  ·cases step s with
   |nx s'=>exact DY cond step n s'
   |ct s'=>exact DY cond step n s'
   |bk s'=>exact .inl ⟨s',rfl⟩
   |rt r=>exact .inr ⟨r,rfl⟩
  ·exact .inl ⟨s,rfl⟩
theorem SN {c:τ->Bx} (E:σ->Ev) (test:∀ s,R p (E s) tE) (body:∀ s,R gb (E s) (cC E c)):∀ (n:Nat) (s:σ),whD (λs=>(test s).v) (λs=>(test s).D) (λs=>(body s).v) (λs=>(body s).D) n s->Wq p gb n (E s)=some (cC E c (Q5 (λs=>(test s).v) (λs=>(body s).v) n s))
 |0,s,h=>absurd h id
 |n+1,s,h=>by
  obtain⟨h1,h2⟩:=h;have ht:p (E s)=some (test s).v:=(test s).ok h1;unfold Wq Q5;rw[ht,bnd];cases hc:(test s).v with
  |false=>rfl
  |true=>
   obtain⟨h3,h4⟩:=h2 hc;rw[zk rfl,zk rfl,(body s).ok h3,bnd];cases hb:(body s).v with
   |nx s'=>dsimp only at h4;rw[hb] at h4;exact SN E test body n s' h4
   |ct s'=>dsimp only at h4;rw[hb] at h4;exact SN E test body n s' h4
   |bk s'=>rfl
   |rt r=>rfl
def U7 {c:τ->Bx} (n:Nat) (E:σ->Ev) (s0:σ) (hE:ρ=E s0) (test:∀ s,R p (E s) tE) (body:∀ s,R gb (E s) (cC E c)) (inj:τ->γ) (hj:∀ r,cO (inj r)=.rt (c r)) (K:∀ s,R k (E s) cO):R (aC (Wq p gb n) k) ρ cO:=
 ⟨behind (Q5 (λs=>(test s).v) (λs=>(body s).v) n s0) inj λs=>(K s).v,aW (some (whD (λs=>(test s).v) (λs=>(test s).D) (λs=>(body s).v) (λs=>(body s).D) n s0)) (Lz (Q5 (λs=>(test s).v) (λs=>(body s).v) n s0) λs=>(K s).D),λhd=>by
 obtain⟨h2,h4⟩:=aB hd;have e1:Wq p gb n ρ=some (cC E c (Q5 (λs=>(test s).v) (λs=>(body s).v) n s0)):=by
  subst hE;exact SN E test body n s0 h2
 rcases DY (λs=>(test s).v) (λs=>(body s).v) n s0 with⟨s',es⟩|⟨r,es⟩
 ·rw[es] at e1 h4 ⊢;rw[jL e1];exact(K s').ok h4
 ·rw[es] at e1 ⊢;show aC (Wq p gb n) k ρ=some (cO (inj r));unfold aC;rw[e1,hj];rfl⟩
end
section
variable {α:Type} {e:α->Dt} {ρ:Ev} {fa:Ev->Option Bx}
end
section
variable {α β σ τ:Type}
theorem zL {step:σ->α->σ} {P:σ->α->Option Prop} (I:Nat->σ->Prop):∀ (xs:List α) (m:Nat) (s0:σ),I m s0->(∀ k x s,xs[k]?=some x->I (m+k) s->hold (P s x)/\I (m+k+1) (step s x))->tW step P xs s0/\I (m+xs.length) (xs.foldl step s0)
 |[],m,s0,h0,_=>⟨trivial,h0⟩
 |x::xs,m,s0,h0,hs=>by
  obtain⟨h1,h2⟩:=hs 0 x s0 rfl h0;have:=zL I xs (m+1) (step s0 x) h2 λk y s e h=>by
   have:=hs (k+1) y s (by simpa using e) (by rw[show m+(k+1)=m+1+k by omega];exact h);rw[show m+(k+1)+1=m+1+k+1 by omega] at this;exact this
  refine⟨⟨h1,this.1⟩,?_⟩;rw[ZH,show m+(xs.length+1)=m+1+xs.length by omega];exact this.2
theorem acL {i:Int} {n k:Nat} {x:Int} (h:(rng i n)[k]?=some x):x=i+k/\k < n:=by
 unfold rng at h;rw[Zl] at h;cases hk:(List.range n)[k]? with
 |none=>rw[hk] at h;cases h
 |some j=>
  rw[hk] at h;have hl:k < n:=by simpa using(List.getElem?_eq_some_iff.mp hk).1
  have:j=k:=by
   rw[List.getElem?_range hl] at hk;cases hk;rfl
  subst this;cases h;exact⟨rfl,hl⟩
theorem zM (i:Int) (n:Nat):(rng i n).length=n:=by unfold rng;simp
theorem zN {step:σ->Int->σ} {P:σ->Int->Option Prop} (I:Nat->σ->Prop) (n:Nat) (s0:σ) (h0:I 0 s0) (hs:∀ (k:Nat) s,k < n->I k s->hold (P s k)/\I (k+1) (step s k)):tW step P (rng 0 n) s0/\I n ((rng 0 n).foldl step s0):=by
 have:=zL (P:=P) I (rng 0 n) 0 s0 h0 λk x s e h=>by
  obtain⟨rfl,hk⟩:=acL e;rw[JY] at h ⊢;rw[Int.zero_add];exact hs k s hk h
 rw[zM,JY] at this;exact this
theorem zO {step:Unit->α->ji Unit Bool} {P:Unit->α->Option Prop}:∀ xs:List α,(∀ x∈xs,hold (P () x)/\(step () x=.nx ()\/step () x=.ct ()))->jC step xs ()=.nx ()/\uG step P xs ()
 |[],_=>⟨rfl,trivial⟩
 |x::xs,h=>by
  obtain⟨h1,h2⟩:=h x (zh ..);have ih:=zO (P:=P) xs λy hy=>h y (zg _ hy);rcases h2 with h2|h2
  ·exact⟨by unfold jC;rw[h2];exact ih.1,h1,by rw[h2];exact ih.2⟩
  ·exact⟨by unfold jC;rw[h2];exact ih.1,h1,by rw[h2];exact ih.2⟩
theorem vL [Inhabited α] {xs:List α} {i:Int} (h:In xs.length i):at' xs i∈xs:=by
 obtain⟨x,hx⟩:=wF h;unfold at';rw[hx];unfold Ek at hx;obtain⟨j,_,hx⟩:=bind_some hx;exact Z3 hx
theorem SQ [Inhabited α] {xs:List α} {k:Nat} {x:α} (h:xs[k]?=some x):at' xs (k:Int)=x:=by
 have hl:k < xs.length:=(List.getElem?_eq_some_iff.mp h).1;unfold at' Ek ixN;rw[zk (by omega),zk (by omega),bnd,k4,h];rfl
theorem ZV [Inhabited α] (xs:List α) (k:Nat) (h:k < xs.length):at' xs (k:Int)=xs[k]:=SQ (z4 h)
theorem in_of {n:Nat} {i:Int} (h0:0<=i) (h1:i < n):In n i:=⟨by omega,h1⟩
theorem SX {n k:Nat} (h:k < n):In n (k:Int):=⟨by omega,by omega⟩
theorem yg {n:Nat} {x m:Int} (hm:0 < m) (h:m<=n):In n (x % m):=in_of (Int.emod_nonneg _ (by omega)) (Int.lt_of_lt_of_le (Int.emod_lt_of_pos _ hm) h)
theorem jk (x:Int) {m:Int} (hm:0 < m):0<=x % m/\x % m < m:=⟨Int.emod_nonneg _ (by omega),Int.emod_lt_of_pos _ hm⟩
theorem Qj {j:Int} (h0:0<=j) (h1:j<=1000000):Rg j:=⟨by omega,by omega⟩
theorem adG {a b:Int} (h0:0<=a) (h1:a < 18446744073709551616):Mul a b:=.inl ⟨by omega,h1⟩
theorem vM (x y:Str):(x++y).length=x.length+y.length:=by
 show(x.cps++y.cps).size=_;rw[k5];rfl
theorem Gs (x:Str) (i:Int):(ch x i).length=1:=rfl
theorem slice_le (x:Str) (l u:Option Int):(Txt.slice x l u).length<=x.length:=PyProof.Txt.length_slice_le x l u
theorem Wz (x:Str):(chars x).length=x.length:=by unfold chars;rw[zo,ZZ];rfl
end
section
variable {α γ:Type} [Inhabited α] {e:α->Dt} {ρ:Ev} {f:Ev->Option Bx} {k:Ev->Option Out} {cO:γ->Out}
def afF (j i:Nat) (xs:List α) (hi:ρ[i]?=some (some (.o (xs.map e)))) (a:R f ρ (zE eI)) (K:∀ (ys:List α) (y:α),R k ((ρ.set i (some (.o (ys.map e)))).set j (some (zE e y))) cO):R (aC (Zg j i f) k) ρ cO:=
 ⟨(K (xs.drop 1) (at' xs 0)).v,aW (aW a.D (some (a.v=0/\0 < xs.length))) (K (xs.drop 1) (at' xs 0)).D,λhd=>by
 obtain⟨h1,h3⟩:=aB hd;obtain⟨h1,h2⟩:=aB h1;obtain⟨h0,hl⟩:a.v=0/\0 < xs.length:=h2;rw[jL (ρ':=(ρ.set i (some (.o ((xs.drop 1).map e)))).set j (some (zE e (at' xs 0)))) (by
  unfold Zg;rw[a.ok h1,bnd];show(match (Bx.z (Dt.int a.v)) with|.z (.int k)=>_|_=>none)=_;dsimp only;rw[hi];dsimp only;rw[h0];cases xs with
  |nil=>simp at hl
  |cons x xs=>
   have e1:at' (x::xs) 0=x:=SQ (xs:=x::xs) (k:=0) rfl;rw[e1,zk (by decide)];have e2:seqIndex? 0 ((x::xs).map e).length=some 0:=by
    rw[PySem.seqIndex_of (by decide) (by simp)];rfl
   rw[e2];rfl)]
 exact(K (xs.drop 1) (at' xs 0)).ok h3⟩
end
section
variable {ρ:Ev} {fa:Ev->Option Bx}
end
section
variable {α γ:Type} {e:α->Dt} {ρ:Ev} {f:Ev->Option Bx} {k:Ev->Option Out} {cO:γ->Out}
def ahD (i:Nat) (xs:List α) (hi:ρ[i]?=some (some (.o (xs.map e)))) (a:R f ρ (oE e)) (K:∀ ys:List α,R k (ρ.set i (some (.o (ys.map e)))) cO):R (aC (Zh i f) k) ρ cO:=⟨(K (xs++a.v)).v,aW (aW a.D (some (Ht (xs.length+a.v.length)))) (K (xs++a.v)).D,λhd=>by
 obtain⟨h1,h3⟩:=aB hd;obtain⟨h1,h2⟩:=aB h1;have h2:xs.length+a.v.length<=1000000:=h2;rw[jL (ρ':=ρ.set i (some (.o ((xs++a.v).map e)))) (by
  unfold Zh;rw[a.ok h1,bnd];show aco ρ i (.o (a.v.map e))=_;simp only[aco,hi,zo,qo];rw[zk (Zs h2 (by decide))])]
 exact(K _).ok h3⟩
end
section
variable {α β γ:Type} {e:α->Dt} {f fa fb:Ev->Option Bx} {k g:Ev->Option Out} {ρ:Ev} {cO:γ->Out}
def acM [Inhabited γ]:R (aC noG k) ρ cO:=⟨default,some False,λh=>absurd h id⟩
def afG {c:α->Bx} (a:R f ρ c) (K:R k ρ cO):R (aC (UJ f) k) ρ cO:=⟨K.v,aW a.D K.D,λhd=>by
 obtain⟨h1,h2⟩:=aB hd;rw[jL (ρ':=ρ) (by unfold UJ;rw[a.ok h1,bnd])];exact K.ok h2⟩
def acN (a:R fa ρ (zE eS)) (b:R fb ρ (zE e)):R (b2 JN fa fb) ρ (mE e):=⟨[(a.v,b.v)],aW a.D b.D,λh=>by
 obtain⟨h1,h2⟩:=aB h;simp only[b2,a.ok h1,b.ok h2,bnd,JN];rfl⟩
theorem ZW {κ:Type} [DecidableEq κ] {c:κ->Key} [Ky c] (m:List (κ×α)) (x:κ):Zj (m.map λq=>(c q.1,e q.2)) (c x)=has m x:=by
 unfold Zj has;rw[List.any_map];simp only[Function.comp_def,ZG]
def ZX (a:R fa ρ (zE eS)) (b:R fb ρ (nE e)):R (b2 Wr fa fb) ρ (zE eB):=⟨!has b.v a.v,aW a.D b.D,λh=>by
 obtain⟨h1,h2⟩:=aB h;simp only[b2,a.ok h1,b.ok h2,bnd,Wr,kyB,nE,ZW]⟩
theorem acO {n:Nat} {bs:List Bx} {ρ2:γ->Ev} (x:R g (bs.map some++List.replicate (n - bs.length) none) (λr=>Out.nx (ρ2 r))) (h:hold x.D):dN n g bs=some (.z .non):=by
 unfold dN;rw[x.ok h];rfl
end
section
variable {α:Type} {e:α->Dt} {f fa fb:Ev->Option Bx} {ρ:Ev}
def afH (a:RL fa ρ e):R (b2 Ws fa (b1 Yk (cB (.int 1)))) ρ (oE e):=⟨a.v.reverse,a.D,λh=>by
 simp only[b2,b1,a.ok h,bnd,cB,Yk,Ws,a.lk,qA,oE,List.map_reverse]⟩
def Z0 (a:R fa ρ (zE e)) (n:Nat) (h:∀ x,∃ ds,e x=.tup ds/\ds.length=n):R (c7 q9 (aq fa aJ)) ρ (zE eI):=⟨(n:Int),a.D,λhd=>by
 obtain⟨ds,e1,e2⟩:=h a.v;simp only[c7,aq,aJ,a.ok hd,bnd,zE,e1,q9,qZ,e2]⟩
end
section
variable {α β γ:Type} {e:α->Dt} {e':β->Dt} {fa fb:Ev->Option Bx} {ρ:Ev}
end
def RP {α β:Type} (f:Ev->Option β) (ρ:Ev) (c:α->β) (v:α) (D:Option Prop):Prop:=hold D->f ρ=some (c v)
theorem R.tp {α β:Type} {f:Ev->Option β} {ρ:Ev} {c:α->β} {v':α} {D':Option Prop} (x:R f ρ c) (hv:x.v=v':=by kernel_rfl) (hD:x.D=D':=by kernel_rfl):RP f ρ c v' D':=λh=>by
 subst hv hD;exact x.ok h
def RP.r {α β:Type} {f:Ev->Option β} {ρ:Ev} {c:α->β} {v:α} {D:Option Prop} (h:RP f ρ c v D):R f ρ c:=⟨v,D,h⟩
theorem len1 {α:Type} {p:List α->Prop} (h:∀ a,p [a]):∀ us:List α,us.length=1->p us
 |[a],_=>h a
theorem len2 {α:Type} {p:List α->Prop} (h:∀ a b,p [a,b]):∀ us:List α,us.length=2->p us
 |[a,b],_=>h a b
theorem aje {α:Type} {p:List α->Prop} (h:∀ a b c,p [a,b,c]):∀ us:List α,us.length=3->p us
 |[a,b,c],_=>h a b c
theorem ajf {α:Type} {p:List α->Prop} (h:∀ a b c d,p [a,b,c,d]):∀ us:List α,us.length=4->p us
 |[a,b,c,d],_=>h a b c d
theorem ajg {α:Type} {p:List α->Prop} (h:∀ a b c d e,p [a,b,c,d,e]):∀ us:List α,us.length=5->p us
 |[a,b,c,d,e],_=>h a b c d e
end P1
end
section
namespace P1
open PySem PySem.Spec PyProof.Rows L2 S1
section
variable {prog:Program} {w:World} {A:Around} {E:VP_} {s:Shared}
end
section
variable {X:Cx}
end
section
variable {fa:Ev->Option Bx} {ρ:Ev}
end
end P1
end
section
namespace P1
open PySem PySem.Spec PyProof.Rows L2
section
variable {i n:Nat} {is:List Nat} {f:Ev->Option Bx} {fs:Ev->Option (List Bx)} {p:Ev->Option Bool} {gt:Dt->Ev->Option Ev} {g1 g2 gb:Ev->Option Out}
end
section
variable {X:Cx} {st:Stmt} {rest:List Stmt} {g1 g2:Ev->Option Out}
end
section
variable {P:Program} {w:World} {K:FG_} {mg:Str->Option Value} {base:Heap}
end
section
variable {X:Cx} {pins:List (Addr×Obj)} {σ:L2.St} {H:Hp} {s:Shared} {a:Addr} {ks:List V} {o:Obj}
end
section
variable {X:Cx} {i:Nat} {M0 M1 M2 er:Expr} {f0 f2 f:Ev->Option Bx} {d0 d2:Dt} {z0 z1 z2 z3:Pos}
end
section
variable {X:Cx} {st:List Stmt} {g:Ev->Option Out} {f fr fe:Ev->Option Bx} {p:Ev->Option Bool} {i i':Nat} {W:List Nat} {c e:Expr} {pos z:Pos}
end
section
variable {a b c g g1 g2 gb:Ev->Option Out} {f:Ev->Option Bx} {p:Ev->Option Bool} {i k:Nat} {gt:Dt->Ev->Option Ev}
end
end P1
end
section
namespace P1
open PySem PySem.Spec PyProof.Rows L2 S6
section
variable {X:Cx} {elt kx vx t1 i1 t2 i2:Expr} {f1 f2:List Expr} {scope:Scope} {cl:List (Str×Addr)} {pos:Pos} {xs:LS_} {is:List Nat} {g1 g2:Dt->Ev->Option Ev} {p1 p2:Ev->Option Bool} {fe fk fv:Ev->Option Bx} {fi1 fi2:Ev->Option (List Dt)} {fs:Ev->Option (List Dt)} {N m:Nat} {Ac:Addr->Hp->List Dt->HO->Prop} {el:Addr->Env->Sem Unit}
def cls2 (fi:Ev->Option (List Dt)) (gt:Dt->Ev->Option Ev) (p:Ev->Option Bool) (fs:Ev->Option (List Dt)) (is:List Nat) (n:Nat):Ev->Option (List Dt):=λρ=>(fi ρ).bind λds=>CN gt p fs (jQ is ρ++List.replicate n none) ds
end
end P1
end
section
namespace P1
open PySem PySem.Spec PyProof.Rows L2
section
variable {α β:Type} {ρ:Ev} {e:α->Dt} {e':β->Dt} {p:Ev->Option Bool} {fi fs:Ev->Option (List Dt)} {gt:Dt->Ev->Option Ev} {fe:Ev->Option Bx} {is:List Nat} {n:Nat}
end
section
variable {X:Cx}
end
section
variable {ρ:Ev} {fa fb:Ev->Option Bx}
end
def hx (h:Heap) (a:Addr):HO:=.ext λh'=>h'.get? a=h.get? a
section
variable {X:Cx} {pins:List (Addr×Obj)} {σ:L2.St} {H H2:Hp} {s:Shared} {as:List Addr}
end
section
variable {X:Cx} {pins:List (Addr×Obj)} {σ:L2.St} {H:Hp} {s:Shared}
end
section
variable {K:FG_} {H:Hp} {D l:Addr} {gs:List (Int×Addr×List Dt)} {k:Int} {x:Dt} {u:V}
end
section
variable {X:Cx} {iter e1 e2 c ev:Expr} {fi:Ev->Option (List Dt)} {f1 f2 fv:Ev->Option Bx} {p:Ev->Option Bool} {x y w:Str} {pw py py2 py3 px p1 p2 p3 p4 pl a1 a2 c1 c2 pos:Pos}
end
end P1
end
section
namespace P1
open PySem PySem.Spec PyProof.Rows L2 S6
section
variable {X:Cx} {kx vx t1 i1 t2 i2:Expr} {f1 f2:List Expr} {scope:Scope} {cl:List (Str×Addr)} {pos:Pos} {xs:LS_} {is:List Nat} {g1 g2:Dt->Ev->Option Ev} {p1 p2:Ev->Option Bool} {fk fv:Ev->Option Bx} {fi1 fi2:Ev->Option (List Dt)} {m:Nat}
end
end P1
end
section
namespace P1
open PySem PySem.Spec PyProof.Rows L2
section
variable {α β γ:Type} {ρ:Ev} {e:α->Dt} {e0:β->Dt} {fa fb fd f1 f2 fv:Ev->Option Bx} {p:Ev->Option Bool} {fi:Ev->Option (List Dt)} {kk:Ev->Option Out} {cO:γ->Out}
end
section
variable {X:Cx}
end
section
variable {α β:Type} {e:α->Dt} {ρ:Ev} {fa:Ev->Option Bx} {p:Ev->Option Bool} {fi fs:Ev->Option (List Dt)} {gt:Dt->Ev->Option Ev} {is:List Nat} {n:Nat}
end
section
variable {X:Cx} {a:Expr} {fa:Ev->Option Bx} {pos:Pos}
end
theorem cM {α:Type} {g:Ev->Option Out} {n:Nat} {bs:List Bx} {c:α->Bx} {v:α} {D:Option Prop} (x:RP g (bs.map some++List.replicate (n - bs.length) none) (λr=>Out.rt (c r)) v D) (h:hold D):dN n g bs=some (c v):=afw x.r h
section
variable {α:Type} {e:α->Dt} {ρ:Ev} {fa:Ev->Option Bx}
end
open PySem.Builtin PySem.Builtin.Str
section
variable {X:Cx}
variable {o e:Expr} {fo fx:Ev->Option Bx}
end
section
variable {ρ:Ev} {fa fb:Ev->Option Bx} {g:Ev->Option Str}
end
section
variable {X:Cx}
end
section
variable {X:Cx} {iter e1 e2 e3 c:Expr} {fi:Ev->Option (List Dt)} {f1 fe:Ev->Option Bx} {p:Ev->Option Bool} {gr:Ev->Option Out} {fx:Ev->Option Dt} {tR tQ:TS} {x xr xj y1 y2:Str} {rest no:List Stmt} {kk:Nat} {p0 p00 p01 p02 q1 q2 pt pj pa px pb pif pf2 px3 a1 c1 pe1 pr a2 pj2 c2 pe2 pos:Pos}
end
section
variable {α β γ δ:Type} {ρ:Ev} {e:α->Dt} {ea:β->Dt} {eb:δ->Dt} {f1 fe:Ev->Option Bx} {p:Ev->Option Bool} {fi:Ev->Option (List Dt)} {kk:Ev->Option Out} {cO:γ->Out}
end
end P1
end
section
namespace P1
open PySem PySem.Spec PyProof.Rows L2 S1
section
variable {prog:Program} {w:World} {A:Around} {E:VP_} {s:Shared}
end
section
variable {X:Cx}
end
section
variable {X:Cx} {k n:Nat} {f:Addr} {fd:FuncData} {ps:LS_} {F:List Bx->Option Bx} {x:Str} {p pos:Pos}
end
end P1
end
section
namespace P1
open PySem PySem.Spec PyProof.Rows L2 S1 S6
theorem len0 {α:Type} {p:List α->Prop} (h:p []):∀ us:List α,us.length=0->p us
 |[],_=>h
section
variable {α β:Type} {e:α->Dt} {ρ:Ev} {f g fa fb:Ev->Option Bx} {c:α->Bx}
end
section
variable {ρ:Ev}
def x_k (d:Dt):R (cB d) ρ (zE eD):=rZ d eD d rfl
def x_i (i:Int):R (cB (.int i)) ρ (zE eI):=rZ (.int i) eI i rfl
def x_s (s:Str):R (cB (.str s)) ρ (zE eS):=rZ (.str s) eS s rfl
end
abbrev Nn (K:FG_) (n:Str) (f:Addr):Prop:=nsIn K mainGlobals n=some (some (.ref f))
abbrev Lk (K:FG_) (f:Addr) (n:Str) (st:Stmt) (oc:Value) (od:Option Addr) (sl:Array (Option Value)) (kV dc pm:Value) (an:Option Addr) (cd ct:Value):Prop:=K.lookup f=some ⟨oc,od,.func (fnOf n n (tB st) (jy st) (aO st) .none kV dc pm an cd ct),sl⟩
end P1
end
section
namespace P1
open PySem PySem.Spec PyProof.Rows L2
section
variable {α:Type} {ρ:Ev} {fa fb:Ev->Option Bx} {e:α->Dt}
end
section
variable {M:Model} {A:Around} {Ex:VP_} {s:Shared} {base:Heap} {env:Env} {outer:List Env} {L e T:Addr} {C fl:Value} {dx:Option Addr} {Q:Unit->Shared->Prop}
end
section
variable {X:Cx} {σ:L2.St} {H H':Hp} {s:Shared} {h':Heap} {ch:List Addr}
end
section
variable {prog:Program} {w:World} {A:Around} {E:VP_} {h:Heap} {g:Array GenState} {d:Drawn} {t:Nat} {os:OsState} {C fI e:Addr} {rest bmB:List Value} {K:FG_} {B newId initId:String}
end
section
variable {prog:Program} {w:World} {A:Around} {E:VP_} {h:Heap} {g:Array GenState} {d:Drawn} {t:Nat} {os:OsState} {C e:Addr} {K:FG_} {name:Str}
end
section
variable {prog:Program} {w:World} {A:Around} {E:VP_} {h:Heap} {g:Array GenState} {d:Drawn} {t:Nat} {os:OsState} {C e dx:Addr} {K:FG_} {name:Str} {v:Value} {vs:Array Value} {sl:Array (Option Value)} {m:Str->Option Value}
end
section
variable {X:Cx} {pins:List (Addr×Obj)} {σ:L2.St} {H:Hp} {s:Shared} {C a:Addr} {o value:Expr} {ta tv:TE} {f:Str} {pos pos' p apos:Pos} {B newId initId:String} {bmB:List Value} {e:Expr} {es:List Expr} {t:TA} {x:Str}
end
section
variable {X:Cx} {pins:List (Addr×Obj)} {σ:L2.St} {H:Hp} {s:Shared} {C a:Addr} {f:Str} {pos cpos p:Pos} {B newId initId:String} {bmB:List Value} {e:Expr} {x:Str} {te:TE}
end
section
variable {M:Model} {A:Around} {E:VP_} {s:Shared}
end
section
variable {X:Cx} {pins:List (Addr×Obj)} {σ:L2.St} {H:Hp} {s:Shared}
end
section
variable {X:Cx} {pins:List (Addr×Obj)} {σ:L2.St} {H:Hp} {s:Shared} {E:XK}
end
section
variable {X:Cx} {pins:List (Addr×Obj)} {σ:L2.St} {H:Hp} {s:Shared} {a:Addr}
end
section
variable {X:Cx} {C Cn f:Addr} {iv iy k:Nat} {n cn x y:Str} {np hp p py pa cpos pos:Pos} {b0:Stmt} {suite:List Stmt} {ts:TS} {tf:TE} {t:TA} {sp:Sp} {fd:FuncData} {ps:LS_} {e:Expr} {es:List Expr}
end
section
variable {X:Cx} {pins:List (Addr×Obj)} {σ:L2.St} {H:Hp} {s:Shared} {C a d:Addr} {fs:List (Str×V)} {f:Str} {o:Expr} {ta:TE} {pos:Pos}
end
section
variable {X:Cx} {C:Addr} {f x:Str} {E:XK} {e c tg iter:Expr} {fe:Ev->Option Bx} {gx gy:Ev->Option Dt} {g:Ev->Option Out} {pos cpos p:Pos} {st:Stmt} {rest body a b:List Stmt} {B newId initId:String} {bmB:List Value} {pc:Ev->Option Bool}
end
section
variable {P:Program} {w:World} {K:FG_} {mg:Str->Option Value} {base:Heap}
end
section
variable {X:Cx} {k n:Nat} {f h:Addr} {fd:FuncData} {ps:LS_} {F:List Bx->Option Bx} {fs:Ev->Option (List Bx)} {x y:Str} {p q pos:Pos} {e:Expr} {es:List Expr}
end
end P1
end
section
namespace P1
open PySem PySem.Spec PyProof.Rows L2 S6
section
variable {X:Cx} {elt tgt iter:Expr} {ifs:List Expr} {scope:Scope} {cl:List (Str×Addr)} {pos:Pos} {xs ts:LS_} {is:List Nat} {gt:Dt->Ev->Option Ev} {p:Ev->Option Bool} {fe:Ev->Option Bx} {fi:Ev->Option (List Dt)}
end
section
variable {X:Cx} {x y:Str} {e2 se iter:Expr} {fS:Ev->Option LS_} {fe:Ev->Option Bx} {fx:Ev->Option Dt} {fi:Ev->Option (List Dt)} {no rest:List Stmt} {tR tQ:TS} {p0 p02 px pb pif pos pk:Pos} {C:Addr} {f:Str} {E:XK} {g:Ev->Option Out} {gx:Ev->Option Dt}
end
end P1
end
section
namespace P1
open PySem PySem.Spec PyProof.Rows L2
section
variable {X:Cx} {iter e1 e2 e3 c:Expr} {fi:Ev->Option (List Dt)} {f1 fe:Ev->Option Bx} {p:Ev->Option Bool} {gr:Ev->Option Out} {x xr xj y1 y2:Str} {rest no:List Stmt} {kk:Nat} {p0 p00 p01 p02 q1 q2 pt pj pa px pb pif pf2 px3 a1 c1 pe1 pr a2 pj2 c2 pe2 pos:Pos} {fx:Ev->Option Dt} {C:Addr} {f:Str} {E:XK}
end
section
variable {X:Cx} {C Cn f:Addr} {iv k:Nat} {n cn x:Str} {np hp p pa cpos pos:Pos} {b0:Stmt} {suite:List Stmt} {ts:TS} {tf:TE} {t:TA} {sp:Sp} {fd:FuncData} {ps:LS_} {e:Expr} {es:List Expr}
end
section
variable {X:Cx} {fx:Ev->Option Bx}
end
section
variable {prog:Program} {w:World} {A:Around} {E:VP_} {it l:Addr} {xs:Array Value}
end
section
variable {X:Cx} {pos:Pos}
theorem wg:∀ {its:List Value} {ns:List Int},IntsAre its ns->Vals (ns.map V.int) its
 |_,_,.nil=>.nil
 |_,_,.cons y t h=>.cons ⟨t,rfl⟩ (wg h)
end
section
variable {X:Cx}
end
section
variable {α:Type} {e:α->Dt} {ρ:Ev} {fa:Ev->Option Bx}
end
section
variable {α β δ:Type} {ρ:Ev} {e:α->Dt} {ea:β->Dt} {eb:δ->Dt} {f1 fe:Ev->Option Bx} {p:Ev->Option Bool} {fi:Ev->Option (List Dt)} {fx:Ev->Option Dt} {d:Dt}
end
section
variable {X:Cx} {e:Expr} {f:Ev->Option Bx}
end
section
variable {X:Cx}
end
section
variable {ρ:Ev} {fa:Ev->Option Bx}
end
section
variable {α β γ:Type} {ρ:Ev} {e:α->Dt} {fa fb:Ev->Option Bx} {g:Ev->Option β} {c:γ->β}
end
section
variable {X:Cx} {E:XK}
end
section
variable {X:Cx} {C:Addr} {f x:Str} {E:XK} {e:Expr} {es:List Expr} {elts:List Expr} {x1:Nat} {fs:Ev->Option (List Bx)} {gx gy:Ev->Option Dt} {p p1 cpos pos tpos epos:Pos} {body:List Stmt} {st:Stmt} {rest:List Stmt}
end
section
variable {X:Cx} {o:Expr} {fo:Ev->Option Bx}
def Z1:Dt->Bool
 |.non=>true
 |.tup _=>true
 |_=>false
def ahE:Dt->Bool
 |.non=>true
 |_=>false
end
section
variable {X:Cx} {o e l:Expr} {es:List Expr} {fo f:Ev->Option Bx} {fs:Ev->Option (List Bx)} {x y z:Str}
end
instance {σ τ:Type} [Inhabited σ]:Inhabited (ji σ τ):=⟨.nx default⟩
section
variable {α:Type} {ρ:Ev} {e:α->Dt} {fa fb:Ev->Option Bx}
theorem Z2 (ht:∀ x,∃ ds,e x=.tup ds) (ys:List (Option α)):(ys.map (eO e)).all Z1=true/\(ahE ∘ eO e)=Option.isNone:=by
 refine⟨?_,?_⟩
 ·rw[ZY];intro d hd;obtain⟨o,_,rfl⟩:=List.mem_map.mp hd;cases o with
  |none=>rfl
  |some x=>obtain⟨ds,q⟩:=ht x;show Z1 (e x)=true;rw[q];rfl
 ·funext o;cases o with
  |none=>rfl
  |some x=>obtain⟨ds,q⟩:=ht x;show ahE (e x)=false;rw[q];rfl
end
section
variable {X:Cx} {o e e2:Expr} {fo fx fy:Ev->Option Bx}
end
section
variable {ρ:Ev} {fa fb:Ev->Option Bx}
end
section
variable {X:Cx} {C:Addr} {f x:Str} {E:XK} {gx gy:Ev->Option Dt} {st:Stmt} {sts rest:List Stmt} {p0 p00 p01 p02:Pos}
end
section
variable {P:Program} {w:World} {K:FG_} {mg:Str->Option Value} {base:Heap}
structure DQ (K:FG_) (mg:Str->Option Value) (x:Str) (st:Stmt) (ps:LS_) where
 f:Addr
 fd:FuncData
 F:Fun K x x st f fd
 b:Binds K fd ps []
 m:mg x=some (.ref f)
 k:keepIn K (.ref f)=true
def lu {x:Str} {st:Stmt} {ps:LS_} {f:Addr} {od an:Option Addr} {sl:Array (Option Value)} {oc kV dc pm cd ct:Value} {h:Heap} (X:K.In h) (G:h.Ns mainGlobals mg) (a:Nn K x f) (l:Lk K f x st oc od sl kV dc pm an cd ct) (c:codeIn K cd x=true) (k:keepIn K (.ref f)=true)
  (hb:∀ (kV doc pm:Value) (an:Option Addr) (cdv ct:Value) (us:List Value),us.length=ps.length->bindArgs (fnOf x x (tB st) (jy st) (aO st) .none kV doc pm an cdv ct) ⟨us,[]⟩=pure (ps.zip us):=by intro _ _ _ _ _ _;first|exact P1.len1 λ_=>rfl|exact P1.len2 λ_ _=>rfl|exact P1.aje λ_ _ _=>rfl|exact P1.ajf λ_ _ _ _=>rfl|exact P1.ajg λ_ _ _ _ _=>rfl|exact P1.len0 rfl):DQ K mg x st ps:=
 ⟨f,_,XS l c k,(XS l c k).binds hb,mg_of X G a,k⟩
theorem mgT {h:Heap} {x:Str} {v:Tok->Value} {tk:Tok} (X:K.In h) (G:h.Ns mainGlobals mg) (c:nsIn K mainGlobals x=some (some (v tk))):∃ tk,mg x=some (v tk):=⟨tk,mg_of X G c⟩
abbrev Ok (P:Program) (w:World) (base:Heap) {x:Str} {st:Stmt} {ps:LS_} (d:DQ K mg x st ps) (k n:Nat) (F:List Bx->Option Bx):Prop:=wM P w K mg base Ng k d.f d.fd ps (spF K n F)
theorem Ak {x:Str} {st:Stmt} {N ps:LS_} {k n m:Nat} {g:Ev->Option Out} (d:DQ K mg x st ps) (S:bF N ps (aO st))
  (hbody:∀ (cdv:Value) (A:Around) (outer:List Env) (s:Shared) (H:Hp) (E:XK),nu k (A.deeper (envOfC x (aO st) s.heap.objs.size d.f cdv))->(A.deeper (envOfC x (aO st) s.heap.objs.size d.f cdv)).units+100 < cLine->N.Nodup->Rp (Ei Ng P w K mg base N x (aO st) d.f cdv A outer s H E).nox (jy st) g)
  (hn:N.length=n:=by rfl) (hm:ps.length=m:=by rfl):Ok P w base d (k+1) m (dN n g):=aiR d.F S hn hm λcdv A outer s H E hr=>hbody cdv A outer s H E hr (Ue hr) S.nd
end
section
variable {X:Cx} {k m n:Nat} {x:Str} {st:Stmt} {ps:LS_} {F:List Bx->Option Bx} {fs:Ev->Option (List Bx)} {e:Expr} {es:List Expr} {p pos:Pos}
theorem cI (d:DQ X.K X.mg x st ps) (G:Ok X.prog X.w X.base d k n F) (hr:nu m X.A) (ha:Xc X (e::es) fs) (hg:Gl X x:=by rfl) (hl:k<=m:=by decide) (hdb:(x==("__debug__" : Str))=false:=by decide) (he:starEach (e::es) X.env=(false,eval e X.env)::starEach es X.env:=by rfl) (hpl:(backTo pos (starEach es X.env)).any (·.1)=false:=by rfl):QV X (.Call (.Name x p) (e::es) [] pos) (bV n F fs):=
 abB G (hr.mono hl) hg d.m d.k d.b ha hdb he hpl
end
theorem walkT {l:PySem.W.OpenLaw} {q:Program} {loose:LS_} {XP:(Str->Option Value)->Heap->Prop} {YP:World->Heap->Prop} {d:DefRec} {K:Params->FG_} {T:FG_->(Str->Option Value)->Type} {k:Nat} {x:Str} {st:Stmt} {F_law:List Bx->Option Bx} (dq:∀ {K mg},T K mg->DQ K mg "law" st [x]) (hk:nu k callerA) (hd:d.name = "law")
  (G:∀ (w:World) (mg:Str->Option Value) (base:Heap) (t:T (K w.params) mg),Ok l.prog w base (dq t) k 1 F_law) (hn:l.most=some 63) (hdf:d.params.defaults=[])
  (h1:∀ ns:List Int,ns.length<=63->F_law [.z (.lst (ns.map .int))]=some (.z (.bl true))) (h2:∀ ns:List Int,ns.length<=63->F_law [.l (ns.map .int)]=some (.z (.bl true)))
  (hb:∀ (kV doc pm:Value) (an:Option Addr) (cdv ct u:Value),bindArgs (fnOf "law" "law" (tB st) (jy st) (aO st) .none kV doc pm an cdv ct) ⟨[u],[]⟩=pure [(x,u)])
  (hY:∀ (w:World) (h:Heap),YP w h->(K w.params).In h)
  (F:∀ (w:World) (mg:Str->Option Value) (h:Heap),(K w.params).In h->h.Ns mainGlobals mg->T (K w.params) mg) :
  PySem.W.WalkO q loose XP YP l.row.toRowW d [] (λf vs=>PySem.call f vs):=
 L2.XR (n:=63) (k:=k) (x:=x) (CX:=Ng) (sp:=λK=>spF K 1 F_law) hn (by decide) hdf hk hY (λw mg fa h X N e=>by
  have t:=F w mg h X N;have em:=(dq t).m;rw[hd,em] at e;cases e;refine⟨(dq t).fd,λs u=>?_,λbase _ _=>G w mg base t⟩;obtain⟨oc,od,kV,doc,pm,an,cdv,ct,osl,e,lk,hcd⟩:=(dq t).F.ex;rw[e];exact .of_eq (hb kV doc pm an cdv ct u)) (λK H a ns hl hO hS=>aeY h1 h2 K H a ns hl hO hS) λ_ _ _ _ z=>z
theorem acP (x y:Str):eqX (.str x) (.str y)=(x==y):=by
 rfl
theorem acQ (x y:Str):EqX (.str x) (.str y):=⟨by rfl,by simp[uY]⟩
theorem acR {ds:List Dt} {k:Nat} {d:Dt} (h:ds[k]?=some d):Q0 (.tup ds) (k:Int)=d:=by
 have hl:k < ds.length:=(List.getElem?_eq_some_iff.mp h).1;have:Ek ds (k:Int)=some d:=by
  unfold Ek ixN;rw[zk (by omega),zk (by omega),bnd,k4,h]
 unfold Q0;simp only[gK,qZ,bnd,this]
theorem U8 (a:Dt) (r:List Dt):Q0 (.tup (a::r)) 0=a:=acR (k:=0) rfl
theorem lt_iff (a b:Str):vK a b=true↔sX a b/\a≠b:=by
 unfold vK sX;rw[ltCps_eq];simp only[z5,QU];constructor
 ·intro h;exact⟨List.lt_asymm h,λe=>by subst e;exact List.lt_irrefl _ h⟩
 ·intro⟨h,hn⟩;by_cases q:a.cps.toList < b.cps.toList
  ·exact q
  ·exact absurd (vB (a:=a) (b:=b) (by unfold sX;rw[ltCps_eq];simpa using h) (by unfold sX;rw[ltCps_eq];simpa using q)) hn
theorem U9 {n:Nat} {i:Int} (h:i∈rng 0 n):∃ k:Nat,k < n/\i=(k:Int):=by
 unfold rng at h;obtain⟨k,hk,rfl⟩:=List.mem_map.mp h;exact⟨k,List.mem_range.mp hk,by omega⟩
end P1
end
section
namespace P1
open PySem PySem.Spec PyProof.Rows L2 S1 S6
theorem Gu {α:Type} [DecidableEq α]:∀ {xs ys:List α},xs.Nodup->(∀ x∈xs,x∈ys)->xs.length<=ys.length
 |[],_,_,_=>QI _
 |x::xs,ys,nd,h=>by
  obtain⟨h1,h2⟩:=List.nodup_cons.mp nd;have hx:=h x (zh ..);have:=Gu (ys:=ys.erase x) h2 λy hy=>(Kk λe=>h1 (by rw[<-e];exact hy)).mpr (h y (zg _ hy));rw[yi hx] at this;have:=k6 hx;simp only[ZH];omega
def same (w:List LS_) (x y:Str):Prop:=∃ s∈w,x∈s/\y∈s
section
variable {α β:Type}
end
end P1
end
section
set_option maxHeartbeats 1000000
namespace P1
open PySem PySem.Spec PyProof.Rows L2
open PySem.Builtin PySem.Builtin.Str
abbrev cs (s:Str):List Nat:=s.cps.toList
theorem LQ (a b:Str):cs (a++b)=cs a++cs b:=Array.toList_append
theorem Gv (a:Str):a.length=(cs a).length:=by simp[Str.length]
theorem acS (y p q:Str) (ps:LS_):Str.join y (p::q::ps)=p++y++Str.join y (q::ps):=rfl
theorem WD {c:Nat} {s:Str} (h:c∈cs s):Js ⟨#[c]⟩ s=true:=by
 unfold Js;obtain⟨i,hi⟩:=(mem_iff_at s c).mp h;rcases StrLaws.occ_head s ⟨#[c]⟩ 1 (zi 1) with⟨h0,hn⟩|⟨i,r,h0,_,_⟩
 ·exact absurd hi (hn i)
 ·rw[h0];rfl
theorem Z4 {x:Str} {n:Nat} (h:n<=x.length):cs (Txt.slice x (some (n:Int)) none)=(cs x).drop n:=by
 rw[slice_from_eq (b:=x.length) (by omega) (by omega) rfl];show((cs x).drop ((n:Int).toNat)).take _=_;rw[k4,List.take_of_length_le (by rw[kB,<-Gv];omega)]
theorem Z5 {x:Str} {n:Nat} (h:n<=x.length):cs (Txt.slice x none (some (n:Int)))=(cs x).take n:=by
 have:=slice_closes_to (x:=x) (j:=(n:Int)) ⟨by omega,by rw[show x.cps.toList.length=x.length by simp[Str.length]];omega⟩;rw[eq_of_beq this];show((cs x).drop 0).take _=_;simp
theorem Z6 (x:Str):chars x=(cs x).map λc=>⟨#[c]⟩:=rfl
theorem acT:∀ (y p:Str) (ps:LS_),cs (Txt.join y (p::ps))=cs p++ps.flatMap λq=>cs y++cs q:=by
 intro y p ps;rw[show Txt.join y (p::ps)=Str.join y (p::ps) from StrLaws.glued_eq_join y _]
 induction ps generalizing p with
 |nil=>simp[Str.join]
 |cons q ps ih=>rw[acS,LQ,LQ,ih,List.flatMap_cons,Q4,Q4]
end P1
end
section
set_option maxHeartbeats 1000000
namespace P1
open PySem PySem.Spec PyProof.Rows L2 S1 S6
section
variable {α:Type} [Inhabited α]
end
theorem Z7 (a b c:Str) (h1:vK a b=true) (h2:vK b c=true):vK a c=true:=by
 unfold vK at *
 simp only[z5] at *
 exact List.lt_trans h1 h2
section
variable {α:Type} {e:α->Dt} [rA e]
end
end P1
end
section
namespace P1
open PySem PySem.Spec PyProof.Rows L2
open PySem.Builtin PySem.Builtin.Str
end P1
end
section
set_option maxHeartbeats 1000000
namespace P1
open PySem PySem.Spec PyProof.Rows L2
open PySem.Builtin PySem.Builtin.Str
end P1
end
section
set_option synthInstance.maxSize 100000
namespace G72
open PySem PySem.Spec PyProof.Rows L2 P1
noncomputable section
abbrev LD_:=List P1.Dt
abbrev aF:Type:=Int×Str×Str×Int
abbrev aG:aF->Dt:=eP4 eI eS eS eI
abbrev bh:Type:=Str×Str×Int
abbrev bw:bh->Dt:=eP3 eS eS eI
abbrev jD:Type:=LS_×(List aF)×(List bh)
abbrev cU:jD->Dt:=eP3 (eT eS) (eT aG) (eT bw)
abbrev dU:Type:=aF×(Option bh)
abbrev oM:dU->Dt:=Zk aG (eO bw)
abbrev vN:Type:=(List LS_)×(List aF)×(List dU)
abbrev je:vN->Dt:=eP3 (eL (eT eS)) (eL aG) (eL oM)
def top (i:Nat):Stmt:=PySem.Challenge.pw_onefolk_k72_whole_joinings_and_bars.main.body.getD i (.Pass ⟨0,0,0,0⟩)
abbrev Gw:Stmt:=top 33
abbrev wZ:Stmt:=top 34
abbrev Cg:Stmt:=top 35
abbrev zP:Stmt:=top 36
abbrev zQ:Stmt:=top 18
abbrev w5:Stmt:=top 29
abbrev zR:Stmt:=top 19
abbrev w6:Stmt:=top 21
abbrev zT:Stmt:=top 20
abbrev zU:Stmt:=top 28
abbrev Gx:Stmt:=top 5
abbrev Gy:Stmt:=top 4
abbrev Ci:Stmt:=top 13
abbrev zV:Stmt:=top 10
abbrev J0:Stmt:=top 9
abbrev Qk:Stmt:=top 16
abbrev Cj:Stmt:=top 15
abbrev pY:Stmt:=top 26
abbrev Ck:Stmt:=top 25
abbrev Gz:Stmt:=top 24
abbrev Ql:Stmt:=top 23
abbrev xg:Stmt:=top 31
abbrev J1:Stmt:=top 30
abbrev qF:Stmt:=top 38
abbrev Cm:Stmt:=top 37
abbrev sy:Stmt:=top 39
abbrev qG:Stmt:=top 40
abbrev pZ:Stmt:=top 41
abbrev s_law:Stmt:=top 42
def fuel:Nat:=4
def xu:Ev->Option Out:=(aC (aC (setG 2 (b2 kh (b2 jK (b2 yW (gv 2) (cB (.int 69621))) (gv 3)) (cB (.int 2147483647)))) d7) (dB [3]))
def tY:Ev->Option Out:=(aC (wN (qe ltA (gv 1) (c7 q9 (aq (gv 0) aJ))) (aC (fQ (b2 gK (gv 0) (gv 1))) d7) d7) (aC (setG 2 (b2 kh (b2 yW (cB (.int 48271)) (b2 jK (b2 jK (b2 yW (gv 1) (gv 1)) (b2 yW (cB (.int 7)) (gv 1))) (cB (.int 11)))) (cB (.int 2147483647)))) (aC (rR (itF (Yp (gv 0) Bd (Fe (cB (.int 3))))) (jf 3) xu) (aC (fQ (gv 2)) d7))))
def jl:List Bx->Option Bx:=dN 4 tY
def lY:Ev->Option Out:=(aC (aC (setG 3 (b2 kh (b2 jK (b2 jK (b2 yW (gv 3) (b2 jK (b2 kh (gv 3) (cB (.int 65521))) (cB (.int 40487)))) (b2 yW (cB (.int 7)) (gv 5))) (cB (.int 5))) (cB (.int 1999999973)))) (aC (HF 2 (b2 gK (c7 nC (aq (gv 3) (aq (b2 kh (gv 4) (cB (.int 1000000))) aJ))) (c7 RB (aq (b2 gtB (gv 4) (cB (.int 0))) aJ)))) (aC (setG 4 (b2 Oh (gv 4) (cB (.int 1000000)))) d7))) (dB [5]))
def mL:Ev->Option Out:=(aC (setG 2 (c7 nC aJ)) (aC (setG 3 (b2 kh (b2 yW (b2 jK (b2 kh (gv 0) (cB (.int 1999999973))) (cB (.int 31))) (cB (.int 765432101))) (cB (.int 1999999973)))) (aC (setG 4 (cB (.int 0))) (aC (wN (orT (qe ltA (gv 0) (cB (.int 0))) (qe geB (gv 0) (b2 aeM (cB (.int 10)) (cB (.int 18))))) (aC (aC (setG 4 (c7 Yq (aq (gv 0) aJ))) d7) (dB [])) (aC d7 (dB []))) (aC (rR (Yr (aq (gv 1) aJ)) (jf 5) lY) (aC (Hz 2) d7))))))
def eU:List Bx->Option Bx:=dN 6 mL
def p7:Ev->Option Out:=(aC (aC (setG 7 (b2 gK (gv 2) (b2 kh (b2 jK (gv 6) (b2 gK (gv 0) (cB (.int 2)))) (cB (.int 15))))) (aC (setG 8 (b2 jK (b2 jK (Yp (gv 3) Bd (Fe (gv 4))) (gv 7)) (Yp (gv 3) (Fe (gv 4)) Bd))) (aC (wN (qe eqB (b2 kh (b2 gK (gv 0) (cB (.int 3))) (cB (.int 3))) (cB (.int 1))) (aC (aC (setG 8 (b2 yW (b2 gK (gv 2) (b2 Oh (gv 6) (cB (.int 8)))) (b2 jK (cB (.int 1)) (b2 kh (gv 6) (cB (.int 8)))))) d7) (dB [])) (aC d7 (dB []))) (aC (HF 5 (gv 8)) d7)))) (dB [6,7,8]))
def qH:Ev->Option Out:=(aC (setG 2 (cB (.str "abcdefghijklmnopqrstuvwxyz"))) (aC (setG 3 (b1 (Oq "") (eE (Yr (aq (b2 kh (b2 gK (gv 0) (cB (.int 0))) (cB (.int 6))) aJ)) (jf 2) xU (b2 gK (gv 0) (b2 kh (b2 Oh (b2 gK (gv 1) (gv 2)) (cB (.int 40))) (cB (.int 26)))) [2,0] 1))) (aC (setG 4 (b2 kh (b2 gK (gv 0) (cB (.int 1))) (b2 jK (c7 q9 (aq (gv 3) aJ)) (cB (.int 1))))) (aC (setG 5 (c7 nC aJ)) (aC (rR (Yr (aq (gv 1) aJ)) (jf 6) p7) (aC (Hz 5) d7))))))
def nM:List Bx->Option Bx:=dN 9 qH
def n6:Ev->Option Out:=(aC (aC (setG 9 (bV 2 eU (aq (b1 Du (bV 2 jl (aq (gv 0) (aq (b1 Du (b2 jK (b2 jK (gv 1) (cB (.int 1))) (gv 8))) aJ)))) (aq (cB (.int 4)) aJ)))) (aC (abM 10 11 (aq (b2 kh (b2 gK (gv 9) (cB (.int 0))) (c7 HJ (aq (cB (.int 1)) (aq (gv 2) aJ)))) (aq (b2 kh (b2 gK (gv 9) (cB (.int 1))) (c7 HJ (aq (cB (.int 1)) (aq (gv 2) aJ)))) aJ))) (aC (setG 12 (b2 gK (c7 nC (aq (b1 Du (b2 jK (cB (.int 1)) (b2 kh (b2 gK (gv 9) (cB (.int 2))) (cB (.int 3))))) (aq (b1 Du (b2 jK (cB (.int 1)) (b2 kh (b2 gK (gv 9) (cB (.int 2))) (cB (.int 9))))) (aq (b1 Du (b2 jK (cB (.int 1)) (b2 kh (b2 gK (gv 9) (cB (.int 2))) (cB (.int 1000))))) aJ)))) (b2 kh (b2 gK (gv 5) (cB (.int 4))) (cB (.int 3))))) (aC (wN (qe Og (gv 10) (gv 11)) (aC (aC (HF 7 (c7 kO (aq (b2 subB (cB (.int 0)) (gv 12)) (aq (b2 gK (gv 6) (c7 V1 (aq (gv 10) (aq (gv 11) aJ)))) (aq (b2 gK (gv 6) (c7 HJ (aq (gv 10) (aq (gv 11) aJ)))) (aq (b2 gK (c7 nC (aq (cB (.int 0)) (aq (cB (.int 2)) (aq (cB (.int 10)) aJ)))) (b2 kh (b2 gK (gv 9) (cB (.int 3))) (cB (.int 3)))) aJ)))))) d7) (dB [])) (aC d7 (dB []))) d7)))) (dB [8,9,10,11,12]))
def n8:Ev->Option Out:=(aC (aC (setG 9 (bV 2 eU (aq (b1 Du (bV 2 jl (aq (gv 0) (aq (b1 Du (b2 jK (b2 jK (gv 1) (cB (.int 1))) (gv 8))) aJ)))) (aq (cB (.int 8)) aJ)))) (aC (abM 10 11 (aq (b2 kh (b2 gK (gv 9) (cB (.int 5))) (c7 HJ (aq (cB (.int 1)) (aq (gv 2) aJ)))) (aq (b2 kh (b2 gK (gv 9) (cB (.int 6))) (c7 HJ (aq (cB (.int 1)) (aq (gv 2) aJ)))) aJ))) (aC (wN (qe Og (gv 10) (gv 11)) (aC (aC (HF 14 (c7 kO (aq (b2 gK (gv 6) (c7 V1 (aq (gv 10) (aq (gv 11) aJ)))) (aq (b2 gK (gv 6) (c7 HJ (aq (gv 10) (aq (gv 11) aJ)))) (aq (b2 gK (c7 nC (aq (cB (.int 2)) (aq (cB (.int 10)) aJ))) (b2 kh (b2 gK (gv 9) (cB (.int 7))) (cB (.int 2)))) aJ))))) d7) (dB [])) (aC d7 (dB []))) d7))) (dB [8,9,10,11]))
def oN:Ev->Option Out:=(aC (setG 5 (bV 2 eU (aq (b1 Du (bV 2 jl (aq (gv 0) (aq (gv 1) aJ)))) (aq (cB (.int 6)) aJ)))) (aC (setG 6 (c7 Fl (aq (bV 2 nM (aq (gv 5) (aq (gv 2) aJ))) aJ))) (aC (setG 7 (c7 nC aJ)) (aC (rR (Yr (aq (gv 3) aJ)) (jf 8) n6) (aC (setG 13 (eE (DG (FP (R8 (gv 7)))) (pR 4 (bZ (jf 0) (bZ (jf 1) (bZ (jf 2) (bZ (jf 3) rP))))) xU (c7 kO (aq (b2 subB (cB (.int 0)) (gv 0)) (aq (gv 1) (aq (gv 2) (aq (gv 3) aJ))))) [] 4)) (aC (setG 14 (c7 nC aJ)) (aC (rR (Yr (aq (gv 4) aJ)) (jf 8) n8) (aC (fQ (c7 kO (aq (c7 jR (aq (gv 6) aJ)) (aq (c7 jR (aq (gv 13) aJ)) (aq (c7 jR (aq (FP (R8 (gv 14))) aJ)) aJ))))) d7))))))))
def oO:List Bx->Option Bx:=dN 15 oN
def oR:Ev->Option Out:=(aC (fQ (Ux (DG (gv 0)) (jf 0) xU (gv 0) (gv 0) [] 1)) d7)
def oU:List Bx->Option Bx:=dN 1 oR
def sE:Ev->Option Out:=(aC (aC (wN (orT (Hy (qe eqB (b2 lM (gv 1) (b2 gK (gv 4) (cB (.int 0)))) (gv 2)) (qe eqB (b2 lM (gv 1) (b2 gK (gv 4) (cB (.int 1)))) (gv 3))) (Hy (qe eqB (b2 lM (gv 1) (b2 gK (gv 4) (cB (.int 0)))) (gv 3)) (qe eqB (b2 lM (gv 1) (b2 gK (gv 4) (cB (.int 1)))) (gv 2)))) (aC (fQ (gv 4)) d7) d7) d7) (dB [4]))
def mO:Ev->Option Out:=(aC (ql 0 (jf 4) sE) (aC (fQ (cB .non)) d7))
def mQ:List Bx->Option Bx:=dN 5 mO
def uH:Ev->Option Out:=(aC (aC (wN (orT (qe eqB (b2 lM (gv 0) (gv 4)) (gv 1)) (qe eqB (b2 lM (gv 0) (gv 4)) (gv 2))) (aC (aC (Ug 0 (gv 3) (gv 4)) d7) (dB [])) (aC d7 (dB []))) d7) (dB [4]))
def oV:Ev->Option Out:=(aC (aC (setG 3 (c7 FW (aq (gv 1) (aq (gv 2) aJ)))) (aC (rR (itF (c7 FZ (aq (gv 0) aJ))) (jf 4) uH) d7)) (dB [3,4]))
def lA:Addr->List (Key×Dt)->List Bx->Option (List (Key×Dt)):=Px 5 oV
def mR:Ev->Option Out:=(aC (fQ (c7 jR (aq (eE (Pq (gv 0)) (jf 2) (qe eqB (b2 lM (gv 1) (gv 2)) (gv 0)) (gv 2) [1,0] 1) aJ))) d7)
def mU:List Bx->Option Bx:=dN 2 mR
def oW:Ev->Option Out:=(aC (fQ (eE (Pq (gv 0)) (jf 1) (qe eqB (b2 lM (gv 0) (gv 1)) (gv 1)) (b1 Du (bV 2 mU (aq (gv 0) (aq (gv 1) aJ)))) [0] 1)) d7)
def oX:List Bx->Option Bx:=dN 1 oW
def uI:Ev->Option Out:=(aC (aC (setG 8 (b2 lM (gv 4) (b2 gK (gv 7) (cB (.int 1))))) (aC (setG 9 (b2 lM (gv 4) (b2 gK (gv 7) (cB (.int 2))))) (aC (wN (qe Og (gv 8) (gv 9)) (aC (aC (setG 10 (bV 4 mQ (aq (gv 3) (aq (gv 4) (aq (gv 8) (aq (gv 9) aJ)))))) (aC (wN (qe isB (gv 10) (cB .non)) (aC (aC (Gb 4 2 lA (aq (gv 8) (aq (gv 9) aJ))) (aC (HF 5 (gv 7)) d7)) (dB [])) (aC (aC (HF 6 (c7 kO (aq (gv 7) (aq (gv 10) aJ)))) d7) (dB []))) d7)) (dB [10])) (aC d7 (dB [10]))) d7))) (dB [7,8,9,10]))
def oY:Ev->Option Out:=(aC (KR (pR 3 (bZ (jf 1) (bZ (jf 2) (bZ (jf 3) rP)))) (gv 0)) (aC (setG 4 (bV 1 oU (aq (gv 1) aJ))) (aC (setG 5 (c7 nC aJ)) (aC (setG 6 (c7 nC aJ)) (aC (ql 2 (jf 7) uI) (fzG 5 (fzG 6 (aC (fQ (c7 kO (aq (b1 Du (bV 1 oX (aq (gv 4) aJ))) (aq (gv 5) (aq (gv 6) aJ))))) d7))))))))
def cg:List Bx->Option Bx:=dN 11 oY
def lZ:Ev->Option Out:=(aC (fQ (xO (Jy is_tuple (gv 0)) (b2 eqB (c7 q9 (aq (gv 0) aJ)) (gv 1)))) d7)
def jT:List Bx->Option Bx:=dN 2 lZ
def tZ:Ev->Option Out:=(aC (fQ (xO (Jy Bc (gv 0)) (abr (Jy is_bool (gv 0))))) d7)
def mj:List Bx->Option Bx:=dN 1 tZ
def qI:Ev->Option Out:=(aC (fQ (xO (bV 1 mj (aq (gv 0) aJ)) (ch3 leB leB (cB (.int 1)) (gv 0) (cB (.int 1000))))) d7)
def qJ:List Bx->Option Bx:=dN 1 qI
def oZ:Ev->Option Out:=(aC (fQ (xO (Jy xT (gv 0)) (xO (ch3 leB leB (cB (.int 1)) (c7 q9 (aq (gv 0) aJ)) (gv 2)) (c7 allB (aq (eE (DG (gv 0)) (jf 1) xU (b2 inF (gv 1) (gv 0)) [1] 1) aJ))))) d7)
def o7:List Bx->Option Bx:=dN 3 oZ
def wG:Ev->Option Out:=(aC (fQ (bV 3 o7 (aq (gv 0) (aq (cB (.str "abcdefghijklmnopqrstuvwxyz")) (aq (cB (.int 8)) aJ))))) d7)
def sI:List Bx->Option Bx:=dN 1 wG
def zW:Ev->Option Out:=(aC (wN (NT (tV (bV 2 jT (aq (gv 0) (aq (cB (.int 3)) aJ))))) (aC (fQ (cB (.bl false))) d7) d7) (aC (KR (pR 3 (bZ (jf 1) (bZ (jf 2) (bZ (jf 3) rP)))) (gv 0)) (aC (fQ (xO (bV 1 sI (aq (gv 1) aJ)) (xO (bV 1 sI (aq (gv 2) aJ)) (xO (b2 ltA (gv 1) (gv 2)) (xO (bV 1 mj (aq (gv 3) aJ)) (b2 geB (gv 3) (cB (.int 0)))))))) d7)))
def zX:List Bx->Option Bx:=dN 4 zW
def qK:Ev->Option Out:=(aC (fQ (xO (bV 2 jT (aq (gv 0) (aq (cB (.int 4)) aJ))) (xO (bV 1 qJ (aq (b2 gK (gv 0) (cB (.int 0))) aJ)) (bV 1 zX (aq (b1 Du (Yp (gv 0) (Fe (cB (.int 1))) Bd)) aJ))))) d7)
def qL:List Bx->Option Bx:=dN 1 qK
def ig:Ev->Option Out:=(aC (aC (wN (orT (NT (tV (bV 1 qL (aq (gv 1) aJ)))) (qe Lh (gv 1) (b2 gK (gv 0) (cB (.int 1))))) (aC noG d7) d7) d7) (dB []))
def iu:List Bx->Option Bx:=dN 2 ig
def jZ:Ev->Option Out:=(aC (wN (qe eqB (b2 gK (gv 0) (cB (.int 1))) (gv 1)) (aC (fQ (b2 gK (gv 0) (cB (.int 2)))) d7) d7) (aC (wN (qe eqB (b2 gK (gv 0) (cB (.int 2))) (gv 1)) (aC (fQ (b2 gK (gv 0) (cB (.int 1)))) d7) d7) (aC (fQ (cB .non)) d7)))
def jo:List Bx->Option Bx:=dN 2 jZ
def xG:Ev->Option Out:=(aC (aC (HF 2 (b2 lM (gv 0) (gv 3))) (aC (setG 3 (bV 2 jo (aq (b2 lM (gv 0) (gv 3)) (aq (gv 3) aJ)))) d7)) (dB []))
def uc:Ev->Option Out:=(aC (setG 2 (c7 nC aJ)) (aC (setG 3 (gv 1)) (aC (Wq (qe Fd (b2 lM (gv 0) (gv 3)) (cB .non)) xG 70) (aC (Hz 2) d7))))
def ud:List Bx->Option Bx:=dN 4 uc
def Cp:Ev->Option Out:=(aC (aC (setG 7 (bV 2 jo (aq (gv 6) (aq (gv 5) aJ)))) (aC (wN (Hy (qe Fd (gv 7) (cB .non)) (qe Wr (gv 7) (gv 3))) (aC (aC (Ug 3 (gv 6) (gv 7)) (aC (HF 4 (gv 7)) d7)) (dB [])) (aC d7 (dB []))) d7)) (dB [6,7]))
def Cq:Ev->Option Out:=(aC (aC (Zg 5 4 (cB (.int 0))) (aC (ql 0 (jf 6) Cp) d7)) (dB [5,6,7]))
def zY:Ev->Option Out:=(aC (setG 3 (b2 JN (gv 1) (cB .non))) (aC (setG 4 (c7 nC (aq (gv 1) aJ))) (aC (Wq (tV (gv 4)) Cq 70) (aC (wN (qe Wr (gv 2) (gv 3)) (aC (fQ (cB .non)) d7) d7) (aC (fQ (b1 Du (b2 Ws (bV 2 ud (aq (gv 3) (aq (gv 2) aJ))) (b1 Yk (cB (.int 1)))))) d7)))))
def lB:List Bx->Option Bx:=dN 8 zY
def mV:Ev->Option Out:=(aC (setG 3 (bV 3 lB (aq (gv 0) (aq (b2 gK (gv 1) (cB (.int 1))) (aq (b2 gK (gv 2) (cB (.int 0))) aJ))))) (aC (wN (qe Fd (gv 3) (cB .non)) (aC (fQ (c7 kO (aq (gv 3) (aq (b1 Du (bV 3 lB (aq (gv 0) (aq (b2 gK (gv 1) (cB (.int 2))) (aq (b2 gK (gv 2) (cB (.int 1))) aJ))))) aJ)))) d7) d7) (aC (fQ (c7 kO (aq (b1 Du (bV 3 lB (aq (gv 0) (aq (b2 gK (gv 1) (cB (.int 1))) (aq (b2 gK (gv 2) (cB (.int 1))) aJ))))) (aq (b1 Du (bV 3 lB (aq (gv 0) (aq (b2 gK (gv 1) (cB (.int 2))) (aq (b2 gK (gv 2) (cB (.int 0))) aJ))))) aJ)))) d7)))
def mX:List Bx->Option Bx:=dN 4 mV
def zZ:Ev->Option Out:=(aC (aC (wN (qe eqB (gv 5) (gv 1)) (aC (fQ (b2 jK (c7 kO (aq (cB (.str "barred")) (aq (gv 6) aJ))) (bV 3 mX (aq (gv 3) (aq (gv 1) (aq (gv 6) aJ)))))) d7) d7) d7) (dB [5,6]))
def wH:Ev->Option Out:=(aC (UJ (bV 2 iu (aq (gv 0) (aq (gv 1) aJ)))) (aC (KR (pR 3 (bZ (jf 2) (bZ (jf 3) (bZ (jf 4) rP)))) (bV 1 cg (aq (gv 0) aJ))) (aC (wN (qe inX (gv 1) (gv 3)) (aC (fQ (c7 kO (aq (cB (.str "kept")) aJ))) d7) d7) (aC (ql 4 (pR 2 (bZ (jf 5) (bZ (jf 6) rP))) zZ) (aC (fQ (c7 kO (aq (cB (.str "beside")) (aq (b1 Du (bV 3 lB (aq (gv 3) (aq (b2 gK (gv 1) (cB (.int 1))) (aq (b2 gK (gv 1) (cB (.int 2))) aJ))))) aJ)))) d7)))))
def pN:List Bx->Option Bx:=dN 7 wH
def nO:Ev->Option Out:=(aC (aC (setG 7 (b2 gK (bV 2 pN (aq (gv 0) (aq (gv 6) aJ))) (cB (.int 0)))) (aC (wN (qe Og (gv 7) (b2 gK (c7 nC (aq (b2 gK (c7 nC (aq (cB (.str "beside")) (aq (cB (.str "barred")) aJ))) (c7 RB (aq (b2 inX (gv 6) (gv 5)) aJ))) (aq (cB (.str "kept")) aJ))) (c7 RB (aq (b2 inX (gv 6) (gv 3)) aJ)))) (aC (fQ (cB (.bl false))) d7) d7) (aC (wN (Hy (qe inX (gv 6) (gv 3)) (qe inX (gv 6) (gv 5))) (aC (fQ (cB (.bl false))) d7) d7) d7))) (dB [6,7]))
def iR:Ev->Option Out:=(aC (KR (pR 3 (bZ (jf 2) (bZ (jf 3) (bZ (jf 4) rP)))) (gv 1)) (aC (setG 5 (eE (DG (gv 4)) (jf 0) xU (b2 gK (gv 0) (cB (.int 0))) [] 1)) (aC (rR (itF (b2 gK (gv 0) (cB (.int 1)))) (jf 6) nO) (aC (fQ (b2 eqB (c7 q9 (aq (gv 3) aJ)) (b2 subB (c7 q9 (aq (b2 gK (gv 0) (cB (.int 0))) aJ)) (c7 q9 (aq (gv 2) aJ))))) d7))))
def iT:List Bx->Option Bx:=dN 8 iR
def vO:Ev->Option Out:=(aC (aC (setG 7 (b2 gK (eE (DG (gv 2)) (jf 1) (qe inF (gv 0) (gv 1)) (gv 1) [4] 1) (cB (.int 0)))) (aC (setG 8 (b2 gK (eE (DG (gv 2)) (jf 1) (qe inF (gv 0) (gv 1)) (gv 1) [5] 1) (cB (.int 0)))) (aC (wN (qe Og (gv 7) (gv 8)) (aC (aC (setG 2 (b2 jK (eE (DG (gv 2)) (jf 2) (qe Lh (gv 2) (c7 nC (aq (gv 0) (aq (gv 1) aJ)))) (gv 2) [7,8] 1) (c7 nC (aq (b1 Du (c7 Fl (aq (b2 jK (gv 7) (gv 8)) aJ))) aJ)))) d7) (dB [])) (aC d7 (dB []))) d7))) (dB [3,4,5,6,7,8]))
def qM:Ev->Option Out:=(aC (setG 2 (eE (DG (gv 0)) (jf 0) xU (b1 Du (c7 nC (aq (gv 0) aJ))) [] 1)) (aC (ql 1 (pR 4 (bZ (jf 3) (bZ (jf 4) (bZ (jf 5) (bZ (jf 6) rP))))) vO) (aC (fQ (c7 vH (aq (eE (DG (gv 2)) (jf 0) xU (c7 jR (aq (gv 0) aJ)) [] 1) aJ))) d7)))
def j4:List Bx->Option Bx:=dN 9 qM
def oJ:Ev->Option Out:=(aC (aC (wN (qe Og (c7 q9 (aq (eE (DG (gv 4)) (jf 1) (tV (c7 allB (aq (eE (DG (gv 0)) (jf 1) xU (b2 inF (gv 1) (gv 0)) [1] 1) aJ))) (gv 1) [6] 1) aJ)) (cB (.int 1))) (aC (fQ (cB (.bl false))) d7) d7) d7) (dB [6]))
def jE:Ev->Option Out:=(aC (KR (pR 3 (bZ (jf 1) (bZ (jf 2) (bZ (jf 3) rP)))) (gv 0)) (aC (setG 4 (bV 2 j4 (aq (gv 1) (aq (gv 2) aJ)))) (aC (setG 5 (bV 1 cg (aq (c7 kO (aq (gv 1) (aq (gv 2) (aq (c7 kO aJ) aJ)))) aJ))) (aC (wN (orT (qe Og (b2 gK (gv 5) (cB (.int 0))) (gv 4)) (qe Og (b2 gK (gv 5) (cB (.int 2))) (c7 nC aJ))) (aC (fQ (cB (.bl false))) d7) d7) (aC (wN (NT (tV (c7 allB (aq (eE (DG (gv 2)) (jf 2) xU (b2 inF (b2 gK (bV 2 pN (aq (c7 kO (aq (gv 0) (aq (gv 1) (aq (c7 kO aJ) aJ)))) (aq (gv 2) aJ))) (cB (.int 0))) (c7 nC (aq (cB (.str "kept")) (aq (cB (.str "beside")) aJ)))) [1,2] 1) aJ)))) (aC (fQ (cB (.bl false))) d7) d7) (aC (rR (itF (b2 gK (bV 1 cg (aq (gv 0) aJ)) (cB (.int 0)))) (jf 6) oJ) (aC (fQ (b2 geB (c7 q9 (aq (b2 gK (bV 1 cg (aq (gv 0) aJ)) (cB (.int 0))) aJ)) (c7 q9 (aq (gv 4) aJ)))) d7)))))))
def jF:List Bx->Option Bx:=dN 7 jE
def nP:Ev->Option Out:=(aC (aC (setG 7 (c7 jR (aq (eE (DG (gv 4)) (jf 1) (qe Og (gv 1) (gv 0)) (gv 1) [6] 1) aJ))) (aC (wN (Hy (qe Lh (gv 6) (gv 5)) (qe Og (bV 1 cg (aq (c7 kO (aq (gv 2) (aq (gv 3) (aq (gv 7) aJ)))) aJ)) (gv 1))) (aC (fQ (cB (.bl false))) d7) d7) d7)) (dB [6,7]))
def iU:Ev->Option Out:=(aC (KR (pR 3 (bZ (jf 2) (bZ (jf 3) (bZ (jf 4) rP)))) (gv 0)) (aC (setG 5 (eE (DG (b2 gK (gv 1) (cB (.int 2)))) (jf 0) xU (b2 gK (gv 0) (cB (.int 1))) [] 1)) (aC (wN (qe Og (bV 1 cg (aq (c7 kO (aq (gv 2) (aq (gv 3) (aq (c7 jR (aq (eE (DG (gv 4)) (jf 1) (qe inX (gv 1) (gv 0)) (gv 1) [5] 1) aJ)) aJ)))) aJ)) (gv 1)) (aC (fQ (cB (.bl false))) d7) d7) (aC (ql 4 (jf 6) nP) (aC (fQ (cB (.bl true))) d7)))))
def iV:List Bx->Option Bx:=dN 8 iU
def lO:Ev->Option Out:=(aC (aC (setG 7 (b2 gK (eE (DG (bV 2 j4 (aq (gv 2) (aq (gv 3) aJ)))) (jf 1) (qe inF (gv 0) (gv 1)) (gv 1) [6] 1) (cB (.int 0)))) (aC (Zh 5 (eE (DG (gv 2)) (jf 2) (Hy (qe ltA (gv 0) (gv 2)) (qe abF (gv 2) (gv 1))) (c7 kO (aq (gv 0) (aq (gv 2) (aq (cB (.int 50)) aJ)))) [6,7] 1)) d7)) (dB [6,7]))
def iw:Ev->Option Out:=(aC (KR (pR 3 (bZ (jf 2) (bZ (jf 3) (bZ (jf 4) rP)))) (gv 0)) (aC (setG 5 (c7 Om (aq (gv 4) aJ))) (aC (ql 2 (jf 6) lO) (aC (fQ (b2 eqB (bV 1 cg (aq (c7 kO (aq (gv 2) (aq (gv 3) (aq (c7 jR (aq (c7 vH (aq (gv 5) aJ)) aJ)) aJ)))) aJ)) (gv 1))) d7))))
def iz:List Bx->Option Bx:=dN 8 iw
def Va:Ev->Option Out:=(aC (setG 1 (bV 2 eU (aq (b1 Du (bV 2 jl (aq (gv 0) (aq (cB (.int 0)) aJ)))) (aq (cB (.int 9)) aJ)))) (aC (setG 2 (bV 5 oO (aq (gv 0) (aq (cB (.int 0)) (aq (b2 kh (b2 gK (gv 1) (cB (.int 6))) (cB (.int 10))) (aq (b2 kh (b2 gK (gv 1) (cB (.int 7))) (cB (.int 15))) (aq (b2 kh (b2 gK (gv 1) (cB (.int 8))) (cB (.int 7))) aJ))))))) (aC (setG 3 (bV 1 cg (aq (gv 2) aJ))) (aC (wN (orT (NT (tV (bV 2 iT (aq (gv 2) (aq (gv 3) aJ))))) (NT (tV (bV 1 jF (aq (gv 2) aJ))))) (aC (fQ (cB (.bl false))) d7) d7) (aC (fQ (xO (bV 2 iV (aq (gv 2) (aq (gv 3) aJ))) (bV 2 iz (aq (gv 2) (aq (gv 3) aJ))))) d7)))))
def F_law:List Bx->Option Bx:=dN 4 Va
end
end G72
end
section
set_option synthInstance.maxSize 100000
namespace G72
open PySem PySem.Spec PyProof.Rows L2 P1
structure T (K:FG_) (mg:Str->Option Value) where
 jq:DQ K mg "_law_cell" Gw ["_law_script", "_law_k"]
 eV:DQ K mg "_law_numbers" wZ ["_law_cell_here", "_law_many"]
 qN:DQ K mg "_law_names" Cg ["_law_xs", "_law_many"]
 o8:DQ K mg "_law_ground" zP ["_law_script", "_law_at", "_law_many", "_law_reasons", "_law_bars"]
 o9:DQ K mg "lone_heads" zQ ["names"]
 mY:DQ K mg "bar_between" w5 ["bars", "heads", "one", "other"]
 fZ:DQ K mg "join_heads" zR ["heads", "one", "other"]
 mZ:DQ K mg "names_under" w6 ["heads", "head"]
 pq:DQ K mg "sets_under" zT ["heads"]
 cj:DQ K mg "joining_of" zU ["ground"]
 mz:DQ K mg "is_tuple" Gx ["thing", "many"]
 mC:DQ K mg "is_whole" Gy ["thing"]
 qO:DQ K mg "is_weight" Ci ["thing"]
 pA:DQ K mg "is_text_of" zV ["thing", "signs", "longest"]
 sJ:DQ K mg "is_name" J0 ["thing"]
 z6:DQ K mg "is_bar" Qk ["thing"]
 qP:DQ K mg "is_reason" Cj ["thing"]
 iB:DQ K mg "refuse_no_reason" pY ["ground", "reason"]
 j5:DQ K mg "other_end" Ck ["reason", "name"]
 uf:DQ K mg "way_back" Gz ["came_by", "end"]
 lC:DQ K mg "way_by" Ql ["reasons", "start", "end"]
 m5:DQ K mg "ways_to_bar" xg ["kept", "reason", "bar"]
 pP:DQ K mg "fate_of" J1 ["ground", "reason"]
 iW:DQ K mg "_law_fates_right" qF ["_law_ground_here", "_law_told"]
 j6:DQ K mg "_law_parts" Cm ["_law_names_here", "_law_reasons"]
 jG:DQ K mg "_law_free_right" sy ["_law_ground_here"]
 iY:DQ K mg "_law_fewer_right" qG ["_law_ground_here", "_law_told"]
 iD:DQ K mg "_law_across_right" pZ ["_law_ground_here", "_law_told"]
 x_law:DQ K mg "law" s_law ["_law_script"]
 ahF:mg "abs" = none
 Z8:mg "all" = none
 afJ:mg "bool" = none
 Vb:mg "int" = none
 pB:mg "isinstance" = none
 xH:mg "len" = none
 Z9:mg "list" = none
 J2:mg "max" = none
 aac:mg "min" = none
 z7:mg "range" = none
 adH:mg "set" = none
 sO:mg "sorted" = none
 ahG:mg "str" = none
 pC:mg "tuple" = none
 WK:∃ tk,mg "LETTERS" = some (.str "abcdefghijklmnopqrstuvwxyz" tk)
 GC:∃ tk,mg "LONGEST_NAME" = some (.int 8 tk)
 HY:∃ tk,mg "MOST_WEIGHT" = some (.int 1000 tk)
section
variable {P:Program} {w:World} {K:FG_} {mg:Str->Option Value} {base:Heap} (t:T K mg)
theorem Qm:bF ["_law_script", "_law_k", "_law_state", "_law_cell_here"] ["_law_script", "_law_k"] (aO Gw):=kZ
theorem Qn:Ok P w base t.jq 1 2 jl:=Ak (g:=tY) t.jq Qm λ_ _ _ _ _ _ hr hu nd=>(au (gM (bM KZ (aj 1) (bT rz rfl t.xH q8 (ak (aj 0) aA)) (cG _)) (au (bU (bB (aj 0) (aj 1))) aH) aH) (au (bC 2 nd (bH dW (bH u9 aD (bH fP (bH fP (bH u9 (aj 1) (aj 1)) (bH u9 aD (aj 1))) aD)) aD)) (au (uX PassesOwn.never rfl (Dv (Ud (aj 0) yZ (za aD))) (aP 3 nd) (aV [3] (au (bC 2 nd (bH dW (bH fP (bH u9 (aj 2) aD) (aj 3)) aD)) aH))) (au (bU (aj 2)) aH))))
theorem GD:bF ["_law_cell_here", "_law_many", "_law_found", "_law_state", "_law_digits", "_law_k"] ["_law_cell_here", "_law_many"] (aO wZ):=kZ
theorem GF:Ok P w base t.eV 1 2 eU:=Ak (g:=mL) t.eV GD λ_ _ _ _ _ _ hr hu nd=>(au (bC 2 nd (g8 aA)) (au (bC 3 nd (bH dW (bH u9 (bH fP (bH dW (aj 0) aD) aD) aD) aD)) (au (bC 4 nd aD) (au (gM (CK (Aw (bM KZ (aj 0) aD (cG _)) (wj (bM Yj (aj 0) (bH aeN aD aD) (cG _))))) (aV [] (au (bC 4 nd (bT aeV rfl t.ahF aeS (ak (aj 0) aA))) aH)) (aV [] aH)) (au (uX PassesOwn.never rfl (uW rfl t.z7 (ak (aj 1) aA)) (aP 5 nd) (aV [5] (au (bC 3 nd (bH dW (bH fP (bH fP (bH u9 (aj 3) (bH fP (bH dW (aj 3) aD) aD)) (bH u9 aD (aj 5))) aD) aD)) (au (uV 2 (bB (g8 (ak (aj 3) (ak (bH dW (aj 4) aD) aA))) (fu RD rfl t.Vb KN (ak (nW ag7 (aj 4) aD (cG _)) aA)))) (au (bC 4 nd (bH KC (aj 4) aD)) aH))))) (au (Ku 2) aH))))))
theorem LR:bF ["_law_xs", "_law_many", "_law_letters", "_law_stem", "_law_at", "_law_found", "_law_k", "_law_mark", "_law_name"] ["_law_xs", "_law_many"] (aO Cg):=kZ
theorem Ma:Ok P w base t.qN 1 2 nM:=Ak (g:=qH) t.qN LR λ_ _ _ _ _ _ hr hu nd=>(au (bC 2 nd tK) (au (bC 3 nd (abP (iQ ["_law_k"] (rY ["_law_letters", "_law_xs"] [2,0]) rfl (aeK (uW rfl t.z7 (ak (bH dW (bB (aj 0) aD) aD) aA))) (λ_ _ _ _=>(aP 2 (by show List.Nodup (_++_);decide +kernel))) (λ_ _ _ _=>gq) (λ_ _ _ _=>(bB (aj 0) (bH dW (bH KC (bB (aj 1) (aj 2)) aD) aD))) (dF)))) (au (bC 4 nd (bH dW (bB (aj 0) aD) (bH fP (bT rz rfl t.xH q8 (ak (aj 3) aA)) aD))) (au (bC 5 nd (g8 aA)) (au (uX PassesOwn.never rfl (uW rfl t.z7 (ak (aj 1) aA)) (aP 6 nd) (aV [6,7,8] (au (bC 7 nd (bB (aj 2) (bH dW (bH fP (aj 6) (bB (aj 0) aD)) aD))) (au (bC 8 nd (bH fP (bH fP (Ud (aj 3) yZ (za (aj 4))) (aj 7)) (Ud (aj 3) (za (aj 4)) yZ))) (au (gM (bM (of_eq hu) (bH dW (bB (aj 0) aD) aD) aD (cG _)) (aV [] (au (bC 8 nd (bH u9 (bB (aj 2) (bH KC (aj 6) aD)) (bH fP aD (bH dW (aj 6) aD)))) aH)) (aV [] aH)) (au (uV 5 (aj 8)) aH)))))) (au (Ku 5) aH))))))
theorem Ia:bF ["_law_script", "_law_at", "_law_many", "_law_reasons", "_law_bars", "_law_head", "_law_names_here", "_law_told", "_law_k", "_law_xs", "_law_a", "_law_b", "_law_weight", "_law_found", "_law_shut"] ["_law_script", "_law_at", "_law_many", "_law_reasons", "_law_bars"] (aO zP):=kZ
theorem Ib (jr:Ok P w base t.jq 1 2 jl) (vP:Ok P w base t.qN 1 2 nM) (eX:Ok P w base t.eV 1 2 eU):Ok P w base t.o8 2 5 oO:=Ak (g:=oN) t.o8 Ia λ_ _ _ _ _ _ hr hu nd=>(au (bC 5 nd (cI t.eV eX hr (ak (kJ (cI t.jq jr hr (ak (aj 0) (ak (aj 1) aA)))) (ak aD aA)))) (au (bC 6 nd (bT Jz rfl t.sO wB (ak (cI t.qN vP hr (ak (aj 5) (ak (aj 2) aA))) aA))) (au (bC 7 nd (g8 aA)) (au (uX PassesOwn.never rfl (uW rfl t.z7 (ak (aj 3) aA)) (aP 8 nd) (aV [8,9,10,11,12] (au (bC 9 nd (cI t.eV eX hr (ak (kJ (cI t.jq jr hr (ak (aj 0) (ak (kJ (bH fP (bH fP (aj 1) aD) (aj 8))) aA)))) (ak aD aA)))) (au (X8 10 11 rfl nd (ak (bH dW (bB (aj 9) aD) (bT (Bh rfl) rfl t.J2 Bb (ak aD (ak (aj 2) aA)))) (ak (bH dW (bB (aj 9) aD) (bT (Bh rfl) rfl t.J2 Bb (ak aD (ak (aj 2) aA)))) aA))) (au (bC 12 nd (bB (g8 (ak (kJ (bH fP aD (bH dW (bB (aj 9) aD) aD))) (ak (kJ (bH fP aD (bH dW (bB (aj 9) aD) aD))) (ak (kJ (bH fP aD (bH dW (bB (aj 9) aD) aD))) aA)))) (bH dW (bB (aj 5) aD) aD))) (au (gM (bM (u6 hu) (aj 10) (aj 11) (cG _)) (aV [] (au (uV 7 (gZ (ak (bH Rv aD (aj 12)) (ak (bB (aj 6) (bT (Yu rfl) rfl t.aac Rx (ak (aj 10) (ak (aj 11) aA)))) (ak (bB (aj 6) (bT (Bh rfl) rfl t.J2 Bb (ak (aj 10) (ak (aj 11) aA)))) (ak (bB (g8 (ak aD (ak aD (ak aD aA)))) (bH dW (bB (aj 9) aD) aD)) aA)))))) aH)) (aV [] aH)) aH)))))) (au (Kw 13 ["_law_weight", "_law_a", "_law_b", "_law_k"] (rY [] []) rfl nd (fY (Uw rfl rfl t.sO (Uv rfl hu rfl t.adH (aj 7)))) (λ_ _ _ _=>(qX rfl (bI (aP 0 (by show List.Nodup (_++_);decide +kernel)) (bI (aP 1 (by show List.Nodup (_++_);decide +kernel)) (bI (aP 2 (by show List.Nodup (_++_);decide +kernel)) (bI (aP 3 (by show List.Nodup (_++_);decide +kernel)) mJ)))))) (λ_ _ _ _=>gq) (λ_ _ _ _=>(gZ (ak (bH Rv aD (aj 0)) (ak (aj 1) (ak (aj 2) (ak (aj 3) aA)))))) (aeG (yR (dF) (yR (dF) (yR (dF) (yR (dF) aby)))))) (au (bC 14 nd (g8 aA)) (au (uX PassesOwn.never rfl (uW rfl t.z7 (ak (aj 4) aA)) (aP 8 nd) (aV [8,9,10,11] (au (bC 9 nd (cI t.eV eX hr (ak (kJ (cI t.jq jr hr (ak (aj 0) (ak (kJ (bH fP (bH fP (aj 1) aD) (aj 8))) aA)))) (ak aD aA)))) (au (X8 10 11 rfl nd (ak (bH dW (bB (aj 9) aD) (bT (Bh rfl) rfl t.J2 Bb (ak aD (ak (aj 2) aA)))) (ak (bH dW (bB (aj 9) aD) (bT (Bh rfl) rfl t.J2 Bb (ak aD (ak (aj 2) aA)))) aA))) (au (gM (bM (u6 hu) (aj 10) (aj 11) (cG _)) (aV [] (au (uV 14 (gZ (ak (bB (aj 6) (bT (Yu rfl) rfl t.aac Rx (ak (aj 10) (ak (aj 11) aA)))) (ak (bB (aj 6) (bT (Bh rfl) rfl t.J2 Bb (ak (aj 10) (ak (aj 11) aA)))) (ak (bB (g8 (ak aD (ak aD aA))) (bH dW (bB (aj 9) aD) aD)) aA))))) aH)) (aV [] aH)) aH))))) (au (bU (gZ (ak (fu nD rfl t.pC kW (ak (aj 6) aA)) (ak (fu nD rfl t.pC kW (ak (aj 13) aA)) (ak (fu nD rfl t.pC kW (ak (Uw rfl rfl t.sO (Uv rfl hu rfl t.adH (aj 14))) aA)) aA))))) aH))))))))
theorem Ie:bF ["names"] ["names"] (aO zQ):=kZ
theorem Ig:Ok P w base t.o9 1 1 oU:=Ak (g:=oR) t.o9 Ie λ_ _ _ _ _ _ hr hu nd=>(au (bU (Y8 hu ["name"] (rY [] []) rfl (fY (aj 0)) (λ_ _ _ _=>(aP 0 (by show List.Nodup (_++_);decide +kernel))) (λ_ _ _ _=>gq) (λ_ _ _ _=>(aj 0)) (λ_ _ _ _=>(aj 0)) (dF))) aH)
theorem GJ:bF ["bars", "heads", "one", "other", "bar"] ["bars", "heads", "one", "other"] (aO w5):=kZ
theorem GK:Ok P w base t.mY 1 4 mQ:=Ak (g:=mO) t.mY GJ λ_ _ _ _ _ _ hr hu nd=>(au (tD 0 PassesOwn.never rfl (aP 4 nd) (aV [4] (au (gM (CK (Aw (CK (wz (bM (of_eq hu) (jA hu (aj 1) (bB (aj 4) aD)) (aj 2) (cG _)) (rO (bM (of_eq hu) (jA hu (aj 1) (bB (aj 4) aD)) (aj 3) (cG _))))) (wj (CK (wz (bM (of_eq hu) (jA hu (aj 1) (bB (aj 4) aD)) (aj 3) (cG _)) (rO (bM (of_eq hu) (jA hu (aj 1) (bB (aj 4) aD)) (aj 2) (cG _)))))))) (au (bU (aj 4)) aH) aH) aH))) (au (bU uU) aH))
theorem xJ:bF ["heads", "one", "other", "head", "name"] ["heads", "one", "other"] (aO zR):=kZ
theorem Ih:wM P w K mg base Ng 1 t.fZ.f t.fZ.fd ["heads", "one", "other"] (spM K 2 lA):=by
 unfold lA;refine ai2 (k:=0) (g:=oV) t.fZ.F xJ rfl rfl λcdv A outer s H E hr=>?_;have hu:=Ue hr;have nd:=xJ.nd;exact(aV [3,4] (au (bC 3 nd (bT (acj rfl) rfl t.aac Rx (ak (aj 1) (ak (aj 2) aA)))) (au (uX PassesOwn.never rfl (Dv (fu (Zc rfl) rfl t.Z9 Uc (ak (aj 0) aA))) (aP 4 nd) (aV [4] (au (gM (CK (Aw (bM (of_eq hu) (jA hu (aj 0) (aj 4)) (aj 1) (cG _)) (wj (bM (of_eq hu) (jA hu (aj 0) (aj 4)) (aj 2) (cG _))))) (aV [] (au (Uh 0 hu (aj 3) (aj 4)) aH)) (aV [] aH)) aH))) aH)))
theorem GP:bF ["heads", "head"] ["heads", "head"] (aO w6):=kZ
theorem GQ:Ok P w base t.mZ 1 2 mU:=Ak (g:=mR) t.mZ GP λ_ _ _ _ _ _ hr hu nd=>(au (bU (fu nD rfl t.pC kW (ak (Pr ["name"] (rY ["head", "heads"] [1,0]) rfl (aj 0) (λ_ _ _ _=>(aP 2 (by show List.Nodup (_++_);decide +kernel))) (λ_ _ _ _=>(gw (bM (of_eq hu) (jA hu (aj 1) (aj 2)) (aj 0) (cG _)))) (λ_ _ _ _=>(aj 2)) (dF)) aA))) aH)
theorem Ii:bF ["heads"] ["heads"] (aO zT):=kZ
theorem Ij (rB:Ok P w base t.mZ 1 2 mU):Ok P w base t.pq 2 1 oX:=Ak (g:=oW) t.pq Ii λ_ _ _ _ _ _ hr hu nd=>(au (bU (Pr ["name"] (rY ["heads"] [0]) rfl (aj 0) (λ_ _ _ _=>(aP 1 (by show List.Nodup (_++_);decide +kernel))) (λ_ _ _ _=>(gw (bM (of_eq hu) (jA hu (aj 0) (aj 1)) (aj 1) (cG _)))) (λ_ _ _ _=>(kJ (cI t.mZ rB hr (ak (aj 0) (ak (aj 1) aA))))) (dF))) aH)
theorem Ik:bF ["ground", "names", "reasons", "bars", "heads", "kept", "barred", "reason", "one", "other", "bar"] ["ground"] (aO zU):=kZ
theorem Il (rC:Ok P w base t.mY 1 4 mQ) (ug:wM P w K mg base Ng 1 t.fZ.f t.fZ.fd ["heads", "one", "other"] (spM K 2 lA)) (uh:Ok P w base t.o9 1 1 oU) (um:Ok P w base t.pq 2 1 oX):Ok P w base t.cj 3 1 cg:=Ak (g:=oY) t.cj Ik λ_ _ _ _ _ _ hr hu nd=>(au (xQ (aj 0) (qX rfl (bI (aP 1 nd) (bI (aP 2 nd) (bI (aP 3 nd) mJ))))) (au (bC 4 nd (cI t.o9 uh hr (ak (aj 1) aA))) (au (bC 5 nd (g8 aA)) (au (bC 6 nd (g8 aA)) (au (tD 2 PassesOwn.never rfl (aP 7 nd) (aV [7,8,9,10] (au (bC 8 nd (jA hu (aj 4) (bB (aj 7) aD))) (au (bC 9 nd (jA hu (aj 4) (bB (aj 7) aD))) (au (gM (bM (u6 hu) (aj 8) (aj 9) (cG _)) (aV [10] (au (bC 10 nd (cI t.mY rC hr (ak (aj 3) (ak (aj 4) (ak (aj 8) (ak (aj 9) aA)))))) (au (gM (bM of_is (aj 10) uU (cG _)) (aV [] (au (acn 4 ug (hr.mono (by decide)) rfl t.fZ.m t.fZ.k t.fZ.b (ak (aj 8) (ak (aj 9) aA))) (au (uV 5 (aj 7)) aH))) (aV [] (au (uV 6 (gZ (ak (aj 7) (ak (aj 10) aA)))) aH))) aH))) (aV [10] aH)) aH))))) (Ze (i:=5) (Ze (i:=6) (au (bU (gZ (ak (kJ (cI t.pq um hr (ak (aj 4) aA))) (ak (aj 5) (ak (aj 6) aA))))) aH))))))))
theorem Qo:bF ["thing", "many"] ["thing", "many"] (aO Gx):=kZ
theorem Qp:Ok P w base t.mz 1 2 jT:=Ak (g:=lZ) t.mz Qo λ_ _ _ _ _ _ hr hu nd=>(au (bU (nY (KQ (aj 0) rfl t.pB rfl t.pC) (xP (nW (of_eq hu) (bT rz rfl t.xH q8 (ak (aj 0) aA)) (aj 1) (cG _))))) aH)
theorem Qq:bF ["thing"] ["thing"] (aO Gy):=kZ
theorem Qs:Ok P w base t.mC 1 1 mj:=Ak (g:=tZ) t.mC Qq λ_ _ _ _ _ _ hr hu nd=>(au (bU (nY (Ry (aj 0) rfl t.pB rfl t.Vb) (xP (aeB (Oj (aj 0) rfl t.pB rfl t.afJ))))) aH)
theorem Mf:bF ["thing"] ["thing"] (aO Ci):=kZ
theorem Mg (mD:Ok P w base t.mC 1 1 mj):Ok P w base t.qO 2 1 qJ:=Ak (g:=qI) t.qO Mf λ_ _ _ _ _ _ hr hu nd=>by
 obtain⟨aad,Im⟩:=t.HY;exact(au (bU (nY (cI t.mC mD hr (ak (aj 0) aA)) (xP (NK of_le of_le aD (aj 0) (NQ rfl Im))))) aH)
theorem Io:bF ["thing", "signs", "longest"] ["thing", "signs", "longest"] (aO zV):=kZ
theorem Ip:Ok P w base t.pA 1 3 o7:=Ak (g:=oZ) t.pA Io λ_ _ _ _ _ _ hr hu nd=>(au (bU (nY (Rz (aj 0) rfl t.pB rfl t.ahG) (nY (NK of_le of_le aD (bT rz rfl t.xH q8 (ak (aj 0) aA)) (aj 2)) (xP (bT (RG rfl) rfl t.Z8 Rw (ak (iQ ["sign"] (rY ["signs"] [1]) rfl (fY (aj 0)) (λ_ _ _ _=>(aP 1 (by show List.Nodup (_++_);decide +kernel))) (λ_ _ _ _=>gq) (λ_ _ _ _=>(nW Jv (aj 1) (aj 0) (by with_unfolding_all rfl))) (dF)) aA)))))) aH)
theorem S5:bF ["thing"] ["thing"] (aO J0):=kZ
theorem S7 (uo:Ok P w base t.pA 1 3 o7):Ok P w base t.sJ 2 1 sI:=Ak (g:=wG) t.sJ S5 λ_ _ _ _ _ _ hr hu nd=>by
 obtain⟨afK,WL⟩:=t.WK;obtain⟨Xf,GR⟩:=t.GC;exact(au (bU (cI t.pA uo hr (ak (aj 0) (ak (X5 rfl WL) (ak (NQ rfl GR) aA))))) aH)
theorem WQ:bF ["thing", "one", "other", "number"] ["thing"] (aO Qk):=kZ
theorem WR (wI:Ok P w base t.sJ 2 1 sI) (mF:Ok P w base t.mz 1 2 jT) (mD:Ok P w base t.mC 1 1 mj):Ok P w base t.z6 3 1 zX:=Ak (g:=zW) t.z6 WQ λ_ _ _ _ _ _ hr hu nd=>(au (gM (Ep (xM (cI t.mz mF hr (ak (aj 0) (ak aD aA))))) (au (bU wX) aH) aH) (au (xQ (aj 0) (qX rfl (bI (aP 1 nd) (bI (aP 2 nd) (bI (aP 3 nd) mJ))))) (au (bU (nY (cI t.sJ wI hr (ak (aj 1) aA)) (nY (cI t.sJ wI hr (ak (aj 2) aA)) (nY (nW KZ (aj 1) (aj 2) (cG _)) (nY (cI t.mC mD hr (ak (aj 3) aA)) (xP (nW Yj (aj 3) aD (cG _)))))))) aH)))
theorem Mh:bF ["thing"] ["thing"] (aO Cj):=kZ
theorem Mi (GX:Ok P w base t.z6 3 1 zX) (mF:Ok P w base t.mz 1 2 jT) (vQ:Ok P w base t.qO 2 1 qJ):Ok P w base t.qP 4 1 qL:=Ak (g:=qK) t.qP Mh λ_ _ _ _ _ _ hr hu nd=>(au (bU (nY (cI t.mz mF hr (ak (aj 0) (ak aD aA))) (nY (cI t.qO vQ hr (ak (bB (aj 0) aD) aA)) (xP (cI t.z6 GX hr (ak (kJ (Ud (aj 0) (za aD) yZ)) aA)))))) aH)
theorem wO:bF ["ground", "reason"] ["ground", "reason"] (aO pY):=kZ
theorem wQ (vR:Ok P w base t.qP 4 1 qL):Ok P w base t.iB 5 2 iu:=Ak (g:=ig) t.iB wO λ_ _ _ _ _ _ hr hu nd=>(aV [] (au (gM (CK (Aw (Ep (xM (cI t.qP vR hr (ak (aj 1) aA)))) (wj (bM (Lj hu) (aj 1) (bB (aj 0) aD) (by with_unfolding_all rfl))))) (au acp aH) aH) aH))
theorem Mj:bF ["reason", "name"] ["reason", "name"] (aO Ck):=kZ
theorem Ml:Ok P w base t.j5 1 2 jo:=Ak (g:=jZ) t.j5 Mj λ_ _ _ _ _ _ hr hu nd=>(au (gM (bM (of_eq hu) (bB (aj 0) aD) (aj 1) (cG _)) (au (bU (bB (aj 0) aD)) aH) aH) (au (gM (bM (of_eq hu) (bB (aj 0) aD) (aj 1) (cG _)) (au (bU (bB (aj 0) aD)) aH) aH) (au (bU uU) aH)))
theorem Qt:bF ["came_by", "end", "way", "here"] ["came_by", "end"] (aO Gz):=kZ
theorem Qu (j7:Ok P w base t.j5 1 2 jo):Ok P w base t.uf 2 2 ud:=Ak (g:=uc) t.uf Qt λ_ _ _ _ _ _ hr hu nd=>(au (bC 2 nd (g8 aA)) (au (bC 3 nd (aj 1)) (au (Py 70 PassesOwn.never (bM KJ (jA hu (aj 0) (aj 3)) uU (cG _)) (aV [] (au (uV 2 (jA hu (aj 0) (aj 3))) (au (bC 3 nd (cI t.j5 j7 hr (ak (jA hu (aj 0) (aj 3)) (ak (aj 3) aA)))) aH)))) (au (Ku 2) aH))))
theorem WT:bF ["reasons", "start", "end", "came_by", "reached", "here", "reason", "there"] ["reasons", "start", "end"] (aO Ql):=kZ
theorem WW (j7:Ok P w base t.j5 1 2 jo) (yh:Ok P w base t.uf 2 2 ud):Ok P w base t.lC 3 3 lB:=Ak (g:=zY) t.lC WT λ_ _ _ _ _ _ hr hu nd=>(au (bC 3 nd (Zi (aj 1) uU)) (au (bC 4 nd (g8 (ak (aj 1) aA))) (au (Py 70 PassesOwn.never (xM (aj 4)) (aV [5,6,7] (au (afh 5 4 nd aD) (au (tD 0 PassesOwn.never rfl (aP 6 nd) (aV [6,7] (au (bC 7 nd (cI t.j5 j7 hr (ak (aj 6) (ak (aj 5) aA)))) (au (gM (CK (wz (bM KJ (aj 7) uU (cG _)) (rO (bM (UL hu) (aj 7) (aj 3) (by with_unfolding_all rfl))))) (aV [] (au (Uh 3 hu (aj 6) (aj 7)) (au (uV 4 (aj 7)) aH))) (aV [] aH)) aH)))) aH)))) (au (gM (bM (UL hu) (aj 2) (aj 3) (by with_unfolding_all rfl)) (au (bU uU) aH) aH) (au (bU (kJ (acr (cI t.uf yh hr (ak (aj 3) (ak (aj 2) aA))) (agS aeO aD)))) aH)))))
theorem GZ:bF ["kept", "reason", "bar", "one"] ["kept", "reason", "bar"] (aO xg):=kZ
theorem G3 (lD:Ok P w base t.lC 3 3 lB):Ok P w base t.m5 4 3 mX:=Ak (g:=mV) t.m5 GZ λ_ _ _ _ _ _ hr hu nd=>(au (bC 3 nd (cI t.lC lD hr (ak (aj 0) (ak (bB (aj 1) aD) (ak (bB (aj 2) aD) aA))))) (au (gM (bM KJ (aj 3) uU (cG _)) (au (bU (gZ (ak (aj 3) (ak (kJ (cI t.lC lD hr (ak (aj 0) (ak (bB (aj 1) aD) (ak (bB (aj 2) aD) aA))))) aA)))) aH) aH) (au (bU (gZ (ak (kJ (cI t.lC lD hr (ak (aj 0) (ak (bB (aj 1) aD) (ak (bB (aj 2) aD) aA))))) (ak (kJ (cI t.lC lD hr (ak (aj 0) (ak (bB (aj 1) aD) (ak (bB (aj 2) aD) aA))))) aA)))) aH)))
theorem S8:bF ["ground", "reason", "sets", "kept", "barred", "other", "bar"] ["ground", "reason"] (aO J1):=kZ
theorem S9 (bK:Ok P w base t.cj 3 1 cg) (jU:Ok P w base t.iB 5 2 iu) (lD:Ok P w base t.lC 3 3 lB) (rD:Ok P w base t.m5 4 3 mX):Ok P w base t.pP 6 2 pN:=Ak (g:=wH) t.pP S8 λ_ _ _ _ _ _ hr hu nd=>(au (acq (cI t.iB jU hr (ak (aj 0) (ak (aj 1) aA)))) (au (xQ (cI t.cj bK hr (ak (aj 0) aA)) (qX rfl (bI (aP 2 nd) (bI (aP 3 nd) (bI (aP 4 nd) mJ))))) (au (gM (bM (Bp hu) (aj 1) (aj 3) (by with_unfolding_all rfl)) (au (bU (gZ (ak tK aA))) aH) aH) (au (tD 4 PassesOwn.never rfl (qX rfl (bI (aP 5 nd) (bI (aP 6 nd) mJ))) (aV [5,6] (au (gM (bM (of_eq hu) (aj 5) (aj 1) (cG _)) (au (bU (bH fP (gZ (ak tK (ak (aj 6) aA))) (cI t.m5 rD hr (ak (aj 3) (ak (aj 1) (ak (aj 6) aA)))))) aH) aH) aH))) (au (bU (gZ (ak tK (ak (kJ (cI t.lC lD hr (ak (aj 3) (ak (bB (aj 1) aD) (ak (bB (aj 1) aD) aA))))) aA)))) aH)))))
theorem yj:bF ["_law_ground_here", "_law_told", "_law_sets", "_law_kept", "_law_barred", "_law_shut", "_law_reason", "_law_fate"] ["_law_ground_here", "_law_told"] (aO qF):=kZ
theorem yp (pQ:Ok P w base t.pP 6 2 pN):Ok P w base t.iW 7 2 iT:=Ak (g:=iR) t.iW yj λ_ _ _ _ _ _ hr hu nd=>(au (xQ (aj 1) (qX rfl (bI (aP 2 nd) (bI (aP 3 nd) (bI (aP 4 nd) mJ))))) (au (Kw 5 ["_law_row"] (rY [] []) rfl nd (fY (aj 4)) (λ_ _ _ _=>(aP 0 (by show List.Nodup (_++_);decide +kernel))) (λ_ _ _ _=>gq) (λ_ _ _ _=>(bB (aj 0) aD)) (dF)) (au (uX PassesOwn.never rfl (Dv (bB (aj 0) aD)) (aP 6 nd) (aV [6,7] (au (bC 7 nd (bB (cI t.pP pQ hr (ak (aj 0) (ak (aj 6) aA))) aD)) (au (gM (bM (u6 hu) (aj 7) (bB (g8 (ak (bB (g8 (ak tK (ak tK aA))) (fu RD rfl t.Vb KN (ak (nW (Bp hu) (aj 6) (aj 5) (by with_unfolding_all rfl)) aA))) (ak tK aA))) (fu RD rfl t.Vb KN (ak (nW (Bp hu) (aj 6) (aj 3) (by with_unfolding_all rfl)) aA))) (cG _)) (au (bU wX) aH) aH) (au (gM (CK (wz (bM (Bp hu) (aj 6) (aj 3) (by with_unfolding_all rfl)) (rO (bM (Bp hu) (aj 6) (aj 5) (by with_unfolding_all rfl))))) (au (bU wX) aH) aH) aH))))) (au (bU (nW (of_eq hu) (bT rz rfl t.xH q8 (ak (aj 3) aA)) (bH Rv (bT rz rfl t.xH q8 (ak (bB (aj 0) aD) aA)) (bT rz rfl t.xH q8 (ak (aj 2) aA))) (cG _))) aH))))
theorem Mp:bF ["_law_names_here", "_law_reasons", "_law_found", "_law_weight", "_law_a", "_law_b", "_law_k", "_law_one", "_law_other"] ["_law_names_here", "_law_reasons"] (aO Cm):=kZ
theorem Mq:Ok P w base t.j6 1 2 j4:=Ak (g:=qM) t.j6 Mp λ_ _ _ _ _ _ hr hu nd=>(au (Kw 2 ["_law_name"] (rY [] []) rfl nd (fY (aj 0)) (λ_ _ _ _=>(aP 0 (by show List.Nodup (_++_);decide +kernel))) (λ_ _ _ _=>gq) (λ_ _ _ _=>(kJ (g8 (ak (aj 0) aA)))) (dF)) (au (tD 1 PassesOwn.never rfl (qX rfl (bI (aP 3 nd) (bI (aP 4 nd) (bI (aP 5 nd) (bI (aP 6 nd) mJ))))) (aV [3,4,5,6,7,8] (au (bC 7 nd (bB (iQ ["_law_part"] (rY ["_law_a"] [4]) rfl (fY (aj 2)) (λ_ _ _ _=>(aP 1 (by show List.Nodup (_++_);decide +kernel))) (λ_ _ _ _=>(gw (bM Jv (aj 0) (aj 1) (by with_unfolding_all rfl)))) (λ_ _ _ _=>(aj 1)) (dF)) aD)) (au (bC 8 nd (bB (iQ ["_law_part"] (rY ["_law_b"] [5]) rfl (fY (aj 2)) (λ_ _ _ _=>(aP 1 (by show List.Nodup (_++_);decide +kernel))) (λ_ _ _ _=>(gw (bM Jv (aj 0) (aj 1) (by with_unfolding_all rfl)))) (λ_ _ _ _=>(aj 1)) (dF)) aD)) (au (gM (bM (u6 hu) (aj 7) (aj 8) (cG _)) (aV [] (au (bC 2 nd (bH fP (iQ ["_law_part"] (rY ["_law_one", "_law_other"] [7,8]) rfl (fY (aj 2)) (λ_ _ _ _=>(aP 2 (by show List.Nodup (_++_);decide +kernel))) (λ_ _ _ _=>(gw (bM (Lj hu) (aj 2) (g8 (ak (aj 0) (ak (aj 1) aA))) (by with_unfolding_all rfl)))) (λ_ _ _ _=>(aj 2)) (dF)) (g8 (ak (kJ (bT Jz rfl t.sO wB (ak (bH fP (aj 7) (aj 8)) aA))) aA)))) aH)) (aV [] aH)) aH))))) (au (bU (bT OJ rfl t.sO wB (ak (iQ ["_law_part"] (rY [] []) rfl (fY (aj 2)) (λ_ _ _ _=>(aP 0 (by show List.Nodup (_++_);decide +kernel))) (λ_ _ _ _=>gq) (λ_ _ _ _=>(fu nD rfl t.pC kW (ak (aj 0) aA))) (dF)) aA))) aH)))
theorem z8:bF ["_law_ground_here", "_law_names_here", "_law_reasons", "_law_bars", "_law_parts_here", "_law_free", "_law_some"] ["_law_ground_here"] (aO sy):=kZ
theorem z9 (j8:Ok P w base t.j6 1 2 j4) (pQ:Ok P w base t.pP 6 2 pN) (bK:Ok P w base t.cj 3 1 cg):Ok P w base t.jG 7 1 jF:=Ak (g:=jE) t.jG z8 λ_ _ _ _ _ _ hr hu nd=>(au (xQ (aj 0) (qX rfl (bI (aP 1 nd) (bI (aP 2 nd) (bI (aP 3 nd) mJ))))) (au (bC 4 nd (cI t.j6 j8 hr (ak (aj 1) (ak (aj 2) aA)))) (au (bC 5 nd (cI t.cj bK hr (ak (gZ (ak (aj 1) (ak (aj 2) (ak (gZ aA) aA)))) aA))) (au (gM (CK (Aw (bM (u6 hu) (bB (aj 5) aD) (aj 4) (cG _)) (wj (bM (u6 hu) (bB (aj 5) aD) (g8 aA) (cG _))))) (au (bU wX) aH) aH) (au (gM (Ep (xM (bT (RG rfl) rfl t.Z8 Rw (ak (iQ ["_law_reason"] (rY ["_law_names_here", "_law_reasons"] [1,2]) rfl (fY (aj 2)) (λ_ _ _ _=>(aP 2 (by show List.Nodup (_++_);decide +kernel))) (λ_ _ _ _=>gq) (λ_ _ _ _=>(nW Jv (bB (cI t.pP pQ hr (ak (gZ (ak (aj 0) (ak (aj 1) (ak (gZ aA) aA)))) (ak (aj 2) aA))) aD) (g8 (ak tK (ak tK aA))) (by with_unfolding_all rfl))) (dF)) aA)))) (au (bU wX) aH) aH) (au (uX PassesOwn.never rfl (Dv (bB (cI t.cj bK hr (ak (aj 0) aA)) aD)) (aP 6 nd) (aV [6] (au (gM (bM (u6 hu) (bT rz rfl t.xH q8 (ak (iQ ["_law_part"] (rY ["_law_some"] [6]) rfl (fY (aj 4)) (λ_ _ _ _=>(aP 1 (by show List.Nodup (_++_);decide +kernel))) (λ_ _ _ _=>(gw (xM (bT (RG rfl) rfl t.Z8 Rw (ak (iQ ["_law_name"] (rY ["_law_part"] [1]) rfl (fY (aj 0)) (λ_ _ _ _=>(aP 1 (by show List.Nodup (_++_);decide +kernel))) (λ_ _ _ _=>gq) (λ_ _ _ _=>(nW Jv (aj 1) (aj 0) (by with_unfolding_all rfl))) (dF)) aA))))) (λ_ _ _ _=>(aj 1)) (dF)) aA)) aD (cG _)) (au (bU wX) aH) aH) aH))) (au (bU (nW Yj (bT rz rfl t.xH q8 (ak (bB (cI t.cj bK hr (ak (aj 0) aA)) aD) aA)) (bT rz rfl t.xH q8 (ak (aj 4) aA)) (cG _))) aH)))))))
theorem yq:bF ["_law_ground_here", "_law_told", "_law_names_here", "_law_reasons", "_law_bars", "_law_used", "_law_bar", "_law_fewer"] ["_law_ground_here", "_law_told"] (aO qG):=kZ
theorem yr (bK:Ok P w base t.cj 3 1 cg):Ok P w base t.iY 4 2 iV:=Ak (g:=iU) t.iY yq λ_ _ _ _ _ _ hr hu nd=>(au (xQ (aj 0) (qX rfl (bI (aP 2 nd) (bI (aP 3 nd) (bI (aP 4 nd) mJ))))) (au (bC 5 nd (iQ ["_law_row"] (rY [] []) rfl (fY (bB (aj 1) aD)) (λ_ _ _ _=>(aP 0 (by show List.Nodup (_++_);decide +kernel))) (λ_ _ _ _=>gq) (λ_ _ _ _=>(bB (aj 0) aD)) (dF))) (au (gM (bM (u6 hu) (cI t.cj bK hr (ak (gZ (ak (aj 2) (ak (aj 3) (ak (fu nD rfl t.pC kW (ak (iQ ["_law_bar"] (rY ["_law_used"] [5]) rfl (fY (aj 4)) (λ_ _ _ _=>(aP 1 (by show List.Nodup (_++_);decide +kernel))) (λ_ _ _ _=>(gw (bM (Bp hu) (aj 1) (aj 0) (by with_unfolding_all rfl)))) (λ_ _ _ _=>(aj 1)) (dF)) aA)) aA)))) aA)) (aj 1) (cG _)) (au (bU wX) aH) aH) (au (tD 4 PassesOwn.never rfl (aP 6 nd) (aV [6,7] (au (bC 7 nd (fu nD rfl t.pC kW (ak (iQ ["_law_other"] (rY ["_law_bar"] [6]) rfl (fY (aj 4)) (λ_ _ _ _=>(aP 1 (by show List.Nodup (_++_);decide +kernel))) (λ_ _ _ _=>(gw (bM (u6 hu) (aj 1) (aj 0) (cG _)))) (λ_ _ _ _=>(aj 1)) (dF)) aA))) (au (gM (CK (wz (bM (Lj hu) (aj 6) (aj 5) (by with_unfolding_all rfl)) (rO (bM (u6 hu) (cI t.cj bK hr (ak (gZ (ak (aj 2) (ak (aj 3) (ak (aj 7) aA)))) aA)) (aj 1) (cG _))))) (au (bU wX) aH) aH) aH)))) (au (bU wX) aH)))))
theorem wR:bF ["_law_ground_here", "_law_told", "_law_names_here", "_law_reasons", "_law_bars", "_law_more", "_law_a", "_law_part"] ["_law_ground_here", "_law_told"] (aO pZ):=kZ
theorem wU (j8:Ok P w base t.j6 1 2 j4) (bK:Ok P w base t.cj 3 1 cg):Ok P w base t.iD 4 2 iz:=Ak (g:=iw) t.iD wR λ_ _ _ _ _ _ hr hu nd=>(au (xQ (aj 0) (qX rfl (bI (aP 2 nd) (bI (aP 3 nd) (bI (aP 4 nd) mJ))))) (au (bC 5 nd (fu abL rfl t.Z9 Uc (ak (aj 4) aA))) (au (tD 2 PassesOwn.never rfl (aP 6 nd) (aV [6,7] (au (bC 7 nd (bB (iQ ["_law_some"] (rY ["_law_a"] [6]) rfl (fY (cI t.j6 j8 hr (ak (aj 2) (ak (aj 3) aA)))) (λ_ _ _ _=>(aP 1 (by show List.Nodup (_++_);decide +kernel))) (λ_ _ _ _=>(gw (bM Jv (aj 0) (aj 1) (by with_unfolding_all rfl)))) (λ_ _ _ _=>(aj 1)) (dF)) aD)) (au (afj 5 (iQ ["_law_b"] (rY ["_law_a", "_law_part"] [6,7]) rfl (fY (aj 2)) (λ_ _ _ _=>(aP 2 (by show List.Nodup (_++_);decide +kernel))) (λ_ _ _ _=>(gw (CK (wz (bM KZ (aj 0) (aj 2) (cG _)) (rO (bM Ym (aj 2) (aj 1) (by with_unfolding_all rfl))))))) (λ_ _ _ _=>(gZ (ak (aj 0) (ak (aj 2) (ak aD aA))))) (dF))) aH)))) (au (bU (nW (of_eq hu) (cI t.cj bK hr (ak (gZ (ak (aj 2) (ak (aj 3) (ak (fu nD rfl t.pC kW (ak (bT OJ rfl t.sO wB (ak (aj 5) aA)) aA)) aA)))) aA)) (aj 1) (cG _))) aH))))
theorem afL:bF ["_law_script", "_law_xs", "_law_ground_here", "_law_told"] ["_law_script"] (aO s_law):=kZ
theorem afM (jV:Ok P w base t.iD 4 2 iz) (jr:Ok P w base t.jq 1 2 jl) (lF:Ok P w base t.iW 7 2 iT) (lG:Ok P w base t.iY 4 2 iV) (mG:Ok P w base t.jG 7 1 jF) (uq:Ok P w base t.o8 2 5 oO) (eX:Ok P w base t.eV 1 2 eU) (bK:Ok P w base t.cj 3 1 cg):Ok P w base t.x_law 8 1 F_law:=Ak (g:=Va) t.x_law afL λ_ _ _ _ _ _ hr hu nd=>(au (bC 1 nd (cI t.eV eX hr (ak (kJ (cI t.jq jr hr (ak (aj 0) (ak aD aA)))) (ak aD aA)))) (au (bC 2 nd (cI t.o8 uq hr (ak (aj 0) (ak aD (ak (bH dW (bB (aj 1) aD) aD) (ak (bH dW (bB (aj 1) aD) aD) (ak (bH dW (bB (aj 1) aD) aD) aA))))))) (au (bC 3 nd (cI t.cj bK hr (ak (aj 2) aA))) (au (gM (CK (Aw (Ep (xM (cI t.iW lF hr (ak (aj 2) (ak (aj 3) aA))))) (wj (Ep (xM (cI t.jG mG hr (ak (aj 2) aA))))))) (au (bU wX) aH) aH) (au (bU (nY (cI t.iY lG hr (ak (aj 2) (ak (aj 3) aA))) (xP (cI t.iD jV hr (ak (aj 2) (ak (aj 3) aA)))))) aH)))))
theorem all_ok:Ok P w base t.x_law 8 1 F_law:=by
 have jr:=Qn (P:=P) (w:=w) (base:=base) t;have eX:=GF (P:=P) (w:=w) (base:=base) t;have vP:=Ma (P:=P) (w:=w) (base:=base) t;have uq:=Ib (P:=P) (w:=w) (base:=base) t jr vP eX;have uh:=Ig (P:=P) (w:=w) (base:=base) t;have rC:=GK (P:=P) (w:=w) (base:=base) t;have ug:=Ih (P:=P) (w:=w) (base:=base) t;have rB:=GQ (P:=P) (w:=w) (base:=base) t;have um:=Ij (P:=P) (w:=w) (base:=base) t rB;have bK:=Il (P:=P) (w:=w) (base:=base) t rC ug uh um;have mF:=Qp (P:=P) (w:=w) (base:=base) t;have mD:=Qs (P:=P) (w:=w) (base:=base) t;have vQ:=Mg (P:=P) (w:=w) (base:=base) t mD;have uo:=Ip (P:=P) (w:=w) (base:=base) t;have wI:=S7 (P:=P) (w:=w) (base:=base) t uo;have GX:=WR (P:=P) (w:=w) (base:=base) t wI mF mD;have vR:=Mi (P:=P) (w:=w) (base:=base) t GX mF vQ;have jU:=wQ (P:=P) (w:=w) (base:=base) t vR;have j7:=Ml (P:=P) (w:=w) (base:=base) t;have yh:=Qu (P:=P) (w:=w) (base:=base) t j7;have lD:=WW (P:=P) (w:=w) (base:=base) t j7 yh;have rD:=G3 (P:=P) (w:=w) (base:=base) t lD;have pQ:=S9 (P:=P) (w:=w) (base:=base) t bK jU lD rD;have lF:=yp (P:=P) (w:=w) (base:=base) t pQ;have j8:=Mq (P:=P) (w:=w) (base:=base) t;have mG:=z9 (P:=P) (w:=w) (base:=base) t j8 pQ bK;have lG:=yr (P:=P) (w:=w) (base:=base) t bK;have jV:=wU (P:=P) (w:=w) (base:=base) t j8 bK;have ahH:=afM (P:=P) (w:=w) (base:=base) t jV jr lF lG mG uq eX bK;exact ahH
end
end G72
end
section
set_option synthInstance.maxSize 100000
namespace G72
open PySem PySem.Spec PyProof.Rows L2 P1
noncomputable section
def xK  (v3:Int) (v4:Int):Int:=(let v3:=(((v3 * (69621:Int))+v4) % (2147483647:Int));v3)
theorem Ir (v0:LI_) {iK:Bx} (lQ:Lp iK (v0.map eI)) (v2:Int) (v3:Int) (v4:Int):RP xu [some iK,some ((zE eI) v2),some ((zE eI) v3),some ((zE eI) v4)] (λs=>Out.nx ((λv3:Int=>[some iK,some ((zE eI) v2),some ((zE eI) v3),none]) s)) (xK  v3 v4) (none):=R.tp (aY (cF 2 (gA (nH (UW (ao 2 (zE eI) v3 rfl) 69621 (by decide)) (ao 3 (zE eI) v4 rfl)) 2147483647 (by decide)) (λ_=>rfl) λv3=>(bR (bJ v3 rfl))))
def bA (v0:LI_) (v2:Int):Int:=(if(decide (v2 < (v0.length:Int)))=true then(at' v0 v2) else(let v3:=(((48271:Int) * (((v2 * v2)+((7:Int) * v2))+(11:Int))) % (2147483647:Int));(let v3:Int:=((cut v0 none (some (3:Int))).foldl (λ(v3:Int) (v4:Int)=>(xK  v3 v4)) v3);v3)))
def jt (v0:LI_) (v2:Int):Prop:=(((decide (v2 < (v0.length:Int)))=true->In v0.length v2)/\((decide (v2 < (v0.length:Int)))=false->Mul v2 v2))
theorem Tc (v0:LI_) {iK:Bx} (lQ:Lp iK (v0.map eI)) (v2:Int):RP tY [some iK,some ((zE eI) v2),none,none] (λr=>Out.rt ((zE eI) r)) (bA v0 v2) (some (jt v0 v2)):=R.tp (jY (cV (adx (ao 1 (zE eI) v2 rfl) (x_len (nG 0 eI v0 lQ rfl)))) (aY (cZ (λr=>r) (jO (nG 0 eI v0 lQ rfl) (ao 1 (zE eI) v2 rfl)) (λ_=>rfl) λ_=>rfl)) (bR (cF 2 (gA (Sv 48271 (by decide) (nH (nH (adw (ao 1 (zE eI) v2 rfl) (ao 1 (zE eI) v2 rfl)) (Sv 7 (by decide) (ao 1 (zE eI) v2 rfl))) (x_i 11))) 2147483647 (by decide)) (λ_=>rfl) λv3=>(afx (λv3:Int=>[some iK,some ((zE eI) v2),some ((zE eI) v3),none]) v3 rfl (ahz (aja (nG 0 eI v0 lQ rfl) afo (afp (x_i 3)))) _ (λ_ _=>rfl) (λ(v3:Int) (v4:Int)=>(Ir v0 lQ v2 v3 v4).r) (λ_ _=>rfl) λv3=>(cZ (λr=>r) (ao 2 (zE eI) v3 rfl) (λ_=>rfl) λ_=>rfl)))))
theorem ur:∀ v bs,(aL eI (aZ eI aN)) v bs->bs.length=2/\(hold (some (jt v.1 v.2.1))->jl (bs.map lend)=some ((zE eI) (bA v.1 v.2.1))):=by
 rintro⟨v0,v2,_⟩ _ ⟨iK,_,rfl,lQ,⟨_,rfl,rfl⟩⟩;exact⟨rfl,λh=>cM (g:=tY) (n:=4) (bs:=[lend iK,.z (eI v2)]) (Tc v0 (JQ lQ) v2) h⟩
def cW  (s1:Int×LI_×Int) (v2:Int):Int×LI_×Int:=(let v3:=((((s1.1 * ((s1.1 % (65521:Int))+(40487:Int)))+((7:Int) * v2))+(5:Int)) % (1999999973:Int));(let v6:=s1.2.1++[(at' [v3,(s1.2.2 % (1000000:Int))] (if(decide ((0:Int) < s1.2.2))=true then(1:Int) else 0))];(let v7:=(s1.2.2 / (1000000:Int));(v3,v6,v7))))
def jH  (s1:Int×LI_×Int) (v2:Int):Prop:=(Mul s1.1 ((s1.1 % (65521:Int))+(40487:Int))/\(let v3:=((((s1.1 * ((s1.1 % (65521:Int))+(40487:Int)))+((7:Int) * v2))+(5:Int)) % (1999999973:Int));(In [v3,(s1.2.2 % (1000000:Int))].length (if(decide ((0:Int) < s1.2.2))=true then(1:Int) else 0)/\Ht s1.2.1.length)))
theorem Bq (v4:Int) (v5:Int) (s1:Int×LI_×Int) (v2:Int):RP lY [some ((zE eI) v4),some ((zE eI) v5),some ((oE eI) s1.2.1),some ((zE eI) s1.1),some ((zE eI) s1.2.2),some ((zE eI) v2)] (λs=>Out.nx ((λs1:Int×LI_×Int=>[some ((zE eI) v4),some ((zE eI) v5),some ((oE eI) s1.2.1),some ((zE eI) s1.1),some ((zE eI) s1.2.2),none]) s)) (cW  s1 v2) (some (jH  s1 v2)):=R.tp (aY (cF 3 (gA (nH (nH (adw (ao 3 (zE eI) s1.1 rfl) (nH (gA (ao 3 (zE eI) s1.1 rfl) 65521 (by decide)) (x_i 40487))) (Sv 7 (by decide) (ao 5 (zE eI) v2 rfl))) (x_i 5)) 1999999973 (by decide)) (λ_=>rfl) λv3=>(aY (Cd 2 s1.2.1 rfl (jO (kj (lq (cH (ao 3 (zE eI) v3 rfl) (cH (gA (ao 4 (zE eI) s1.2.2 rfl) 1000000 (by decide)) (eF eI))) (zC rfl))) (Sx (ai9 (ao 4 (zE eI) s1.2.2 rfl) (x_i 0)))) λv6=>(aY (cF 4 (Lq (ao 4 (zE eI) s1.2.2 rfl) 1000000 (by decide)) (λ_=>rfl) λv7=>(bR (bJ (v3,v6,v7) rfl))))))))
def jJ (v4:Int) (v5:Int) (v6:LI_) (v3:Int) (v7:Int):LI_:=(let s1:Int×LI_×Int:=((rng 0 v5.toNat).foldl (λ(s1:Int×LI_×Int) (v2:Int)=>(cW  s1 v2)) (v3,v6,v7));s1.2.1)
def mH (v4:Int) (v5:Int) (v6:LI_) (v3:Int) (v7:Int):Prop:=(Rg v5/\tW (λ(s1:Int×LI_×Int) (v2:Int)=>(cW  s1 v2)) (λ(s1:Int×LI_×Int) (v2:Int)=>some (jH  s1 v2)) (rng 0 v5.toNat) (v3,v6,v7))
def Br:Ev->Option Out:=(aC (rR (Yr (aq (gv 1) aJ)) (jf 5) lY) (aC (Hz 2) d7))
theorem Bt (v4:Int) (v5:Int) (v6:LI_) (v3:Int) (v7:Int):RP Br [some ((zE eI) v4),some ((zE eI) v5),some ((oE eI) v6),some ((zE eI) v3),some ((zE eI) v7),none] (λr=>Out.rt ((oE eI) r)) (jJ v4 v5 v6 v3 v7) (some (mH v4 v5 v6 v3 v7)):=R.tp (Qd (λs1:Int×LI_×Int=>[some ((zE eI) v4),some ((zE eI) v5),some ((oE eI) s1.2.1),some ((zE eI) s1.1),some ((zE eI) s1.2.2),none]) (v3,v6,v7) rfl (Qc (ao 1 (zE eI) v5 rfl)) _ (λ_ _=>rfl) (λ(s1:Int×LI_×Int) (v2:Int)=>(Bq v4 v5 s1 v2).r) λs1=>(Sy 2 (λr=>r) s1.2.1 rfl (λ_=>rfl) λ_=>rfl))
def bf (v4:Int) (v5:Int):LI_:=(let v6:=([]:List Int);(let v3:=((((v4 % (1999999973:Int))+(31:Int)) * (765432101:Int)) % (1999999973:Int));(let v7:=(0:Int);(let v7:Int:=(if((decide (v4 < (0:Int)))||(decide (((10:Int) ^ 18)<=v4)))=true then(let v7:=(if v4 < 0 then -v4 else v4);v7) else v7);(jJ v4 v5 v6 v3 v7)))))
def gC (v4:Int) (v5:Int):Prop:=(let v6:=([]:List Int);(let v3:=((((v4 % (1999999973:Int))+(31:Int)) * (765432101:Int)) % (1999999973:Int));(let v7:=(0:Int);(let v7:Int:=(if((decide (v4 < (0:Int)))||(decide (((10:Int) ^ 18)<=v4)))=true then(let v7:=(if v4 < 0 then -v4 else v4);v7) else v7);(mH v4 v5 v6 v3 v7)))))
theorem Iu (v4:Int) (v5:Int):RP mL [some ((zE eI) v4),some ((zE eI) v5),none,none,none,none] (λr=>Out.rt ((oE eI) r)) (bf v4 v5) (some (gC v4 v5)):=R.tp (cF 2 (lq (eF eI) (zC rfl)) (λ_=>rfl) λv6=>(cF 3 (gA (UW (nH (gA (ao 0 (zE eI) v4 rfl) 1999999973 (by decide)) (x_i 31)) 765432101 (by decide)) 1999999973 (by decide)) (λ_=>rfl) λv3=>(cF 4 (x_i 0) (λ_=>rfl) λv7=>(zG (λv7:Int=>[some ((zE eI) v4),some ((zE eI) v5),some ((oE eI) v6),some ((zE eI) v3),some ((zE eI) v7),none]) (Wv (cV (adx (ao 0 (zE eI) v4 rfl) (x_i 0))) (cV (x_ge (ao 0 (zE eI) v4 rfl) (afk 10 18 18 (by decide) rfl)))) (aY (cF 4 (ahv (ao 0 (zE eI) v4 rfl)) (λ_=>rfl) λv7=>(bR (bJ v7 rfl)))) (bR (bJ v7 rfl)) λv7=>(Bt v4 v5 v6 v3 v7).r))))
theorem m9:∀ v bs,(aZ eI (aZ eI aN)) v bs->bs.length=2/\(hold (some (gC v.1 v.2.1))->eU (bs.map lend)=some ((oE eI) (bf v.1 v.2.1))):=by
 rintro⟨v4,v5,_⟩ _ ⟨_,rfl,⟨_,rfl,rfl⟩⟩;exact⟨rfl,λh=>cM (g:=mL) (n:=6) (bs:=[.z (eI v4),.z (eI v5)]) (Iu v4 v5) h⟩
def fH (v1:LI_) (ve:Str) (vf:Str) (v9:Int) (v6:LS_) (v2:Int):LS_:=(let vg:=(ch ve ((v2+(at' v1 (2:Int))) % (15:Int)));(let vh:=(((Txt.slice vf none (some v9))++vg)++(Txt.slice vf (some v9) none));(let vh:Str:=(if(decide (((at' v1 (3:Int)) % (3:Int))=(1:Int)))=true then(let vh:=(Txt.mul (ch ve (v2 / (8:Int))) ((1:Int)+(v2 % (8:Int))));vh) else vh);(let v6:=v6++[vh];v6))))
def lH (v1:LI_) (ve:Str) (vf:Str) (v9:Int) (v6:LS_) (v2:Int):Prop:=((In v1.length (2:Int)/\In ve.length ((v2+(at' v1 (2:Int))) % (15:Int)))/\(let vg:=(ch ve ((v2+(at' v1 (2:Int))) % (15:Int)));((Ht ((Txt.slice vf none (some v9)).length+vg.length)/\Ht (((Txt.slice vf none (some v9))++vg).length+(Txt.slice vf (some v9) none).length))/\(let vh:=(((Txt.slice vf none (some v9))++vg)++(Txt.slice vf (some v9) none));((In v1.length (3:Int)/\((decide (((at' v1 (3:Int)) % (3:Int))=(1:Int)))=true->(In ve.length (v2 / (8:Int))/\(((1:Int)+(v2 % (8:Int)))<=1000 ∧ -1000<=((1:Int)+(v2 % (8:Int)))/\(ch ve (v2 / (8:Int))).length<=1000))))/\(let vh:Str:=(if(decide (((at' v1 (3:Int)) % (3:Int))=(1:Int)))=true then(let vh:=(Txt.mul (ch ve (v2 / (8:Int))) ((1:Int)+(v2 % (8:Int))));vh) else vh);Ht v6.length))))))
theorem G4 (v1:LI_) {iK:Bx} (lQ:Lp iK (v1.map eI)) (v5:Int) (ve:Str) (vf:Str) (v9:Int) (v6:LS_) (v2:Int):RP p7 [some iK,some ((zE eI) v5),some ((zE eS) ve),some ((zE eS) vf),some ((zE eI) v9),some ((oE eS) v6),some ((zE eI) v2),none,none] (λs=>Out.nx ((λv6:LS_=>[some iK,some ((zE eI) v5),some ((zE eS) ve),some ((zE eS) vf),some ((zE eI) v9),some ((oE eS) v6),none,none,none]) s)) (fH v1 ve vf v9 v6 v2) (some (lH v1 ve vf v9 v6 v2)):=R.tp (aY (cF 7 (Zr (ao 2 (zE eS) ve rfl) (gA (nH (ao 6 (zE eI) v2 rfl) (jO (nG 0 eI v1 lQ rfl) (x_i 2))) 15 (by decide))) (λ_=>rfl) λvg=>(aY (cF 8 (Zt (Zt (adB (ao 3 (zE eS) vf rfl) afo (afp (ao 4 (zE eI) v9 rfl))) (ao 7 (zE eS) vg rfl)) (adB (ao 3 (zE eS) vf rfl) (afp (ao 4 (zE eI) v9 rfl)) afo)) (λ_=>rfl) λvh=>(aY (zG (λvh:Str=>[some iK,some ((zE eI) v5),some ((zE eS) ve),some ((zE eS) vf),some ((zE eI) v9),some ((oE eS) v6),some ((zE eI) v2),some ((zE eS) vg),some ((zE eS) vh)]) (cV (x_eq (by decide) (gA (jO (nG 0 eI v1 lQ rfl) (x_i 3)) 3 (by decide)) (x_i 1))) (aY (cF 8 (afr (Zr (ao 2 (zE eS) ve rfl) (Lq (ao 6 (zE eI) v2 rfl) 8 (by decide))) (nH (x_i 1) (gA (ao 6 (zE eI) v2 rfl) 8 (by decide)))) (λ_=>rfl) λvh=>(bR (bJ vh rfl)))) (bR (bJ vh rfl)) λvh=>(aY (Cd 5 v6 rfl (ao 8 (zE eS) vh rfl) λv6=>(bR (bJ v6 rfl))))))))))
def lJ (v1:LI_) (v5:Int) (ve:Str) (vf:Str):LS_:=(let v9:=((at' v1 (1:Int)) % ((vf.length:Int)+(1:Int)));(let v6:=([]:LS_);(let v6:LS_:=((rng 0 v5.toNat).foldl (λ(v6:LS_) (v2:Int)=>(fH v1 ve vf v9 v6 v2)) v6);v6)))
def p8 (v1:LI_) (v5:Int) (ve:Str) (vf:Str):Prop:=((In v1.length (1:Int)/\0 < ((vf.length:Int)+(1:Int)))/\(let v9:=((at' v1 (1:Int)) % ((vf.length:Int)+(1:Int)));(let v6:=([]:LS_);(Rg v5/\tW (λ(v6:LS_) (v2:Int)=>(fH v1 ve vf v9 v6 v2)) (λ(v6:LS_) (v2:Int)=>some (lH v1 ve vf v9 v6 v2)) (rng 0 v5.toNat) v6))))
def G5:Ev->Option Out:=(aC (setG 4 (b2 kh (b2 gK (gv 0) (cB (.int 1))) (b2 jK (c7 q9 (aq (gv 3) aJ)) (cB (.int 1))))) (aC (setG 5 (c7 nC aJ)) (aC (rR (Yr (aq (gv 1) aJ)) (jf 6) p7) (aC (Hz 5) d7))))
theorem G6 (v1:LI_) {iK:Bx} (lQ:Lp iK (v1.map eI)) (v5:Int) (ve:Str) (vf:Str):RP G5 [some iK,some ((zE eI) v5),some ((zE eS) ve),some ((zE eS) vf),none,none,none,none,none] (λr=>Out.rt ((oE eS) r)) (lJ v1 v5 ve vf) (some (p8 v1 v5 ve vf)):=R.tp (cF 4 (Pz (jO (nG 0 eI v1 lQ rfl) (x_i 1)) (nH (Sw (ao 3 (zE eS) vf rfl)) (x_i 1))) (λ_=>rfl) λv9=>(cF 5 (lq (eF eS) (zC rfl)) (λ_=>rfl) λv6=>(Qd (λv6:LS_=>[some iK,some ((zE eI) v5),some ((zE eS) ve),some ((zE eS) vf),some ((zE eI) v9),some ((oE eS) v6),none,none,none]) v6 rfl (Qc (ao 1 (zE eI) v5 rfl)) _ (λ_ _=>rfl) (λ(v6:LS_) (v2:Int)=>(G4 v1 lQ v5 ve vf v9 v6 v2).r) λv6=>(Sy 5 (λr=>r) v6 rfl (λ_=>rfl) λ_=>rfl))))
def dI (v1:LI_) (v5:Int):LS_:=(let ve:=("abcdefghijklmnopqrstuvwxyz" : Str);(let vf:=(Txt.join "" ((rng 0 ((at' v1 (0:Int)) % (6:Int)).toNat).map λv2:Int=>(ch ve (((at' v1 v2) / (40:Int)) % (26:Int)))));(lJ v1 v5 ve vf)))
def qQ (v1:LI_) (v5:Int):Prop:=(let ve:=("abcdefghijklmnopqrstuvwxyz" : Str);(((((In v1.length (0:Int)/\Rg ((at' v1 (0:Int)) % (6:Int)))/\(rng 0 ((at' v1 (0:Int)) % (6:Int)).toNat).length<=100000)/\(∀ v2∈(rng 0 ((at' v1 (0:Int)) % (6:Int)).toNat),(In v1.length v2/\In ve.length (((at' v1 v2) / (40:Int)) % (26:Int)))))/\(((rng 0 ((at' v1 (0:Int)) % (6:Int)).toNat).map λv2:Int=>(ch ve (((at' v1 v2) / (40:Int)) % (26:Int)))).map (·.length)).sum+((rng 0 ((at' v1 (0:Int)) % (6:Int)).toNat).map λv2:Int=>(ch ve (((at' v1 v2) / (40:Int)) % (26:Int)))).length * ("" : Str).length<=100000)/\(let vf:=(Txt.join "" ((rng 0 ((at' v1 (0:Int)) % (6:Int)).toNat).map λv2:Int=>(ch ve (((at' v1 v2) / (40:Int)) % (26:Int)))));(p8 v1 v5 ve vf))))
theorem Qv (v1:LI_) {iK:Bx} (lQ:Lp iK (v1.map eI)) (v5:Int):RP qH [some iK,some ((zE eI) v5),none,none,none,none,none,none,none] (λr=>Out.rt ((oE eS) r)) (dI v1 v5) (some (qQ v1 v5)):=R.tp (cF 2 (x_s "abcdefghijklmnopqrstuvwxyz") (λ_=>rfl) λve=>(cF 3 (aft "" (kj (Zz (Qc (gA (jO (nG 0 eI v1 lQ rfl) (x_i 0)) 6 (by decide))) _ (λ_=>rfl) (λv2:Int=>(Zr (ao 0 (zE eS) ve rfl) (gA (Lq (jO (nG 1 eI v1 lQ (congrArg some (lQ.get rfl))) (ao 2 (zE eI) v2 rfl)) 40 (by decide)) 26 (by decide))))))) (λ_=>rfl) λvf=>(G6 v1 lQ v5 ve vf).r))
theorem Qw:∀ v bs,(aL eI (aZ eI aN)) v bs->bs.length=2/\(hold (some (qQ v.1 v.2.1))->nM (bs.map lend)=some ((oE eS) (dI v.1 v.2.1))):=by
 rintro⟨v1,v5,_⟩ _ ⟨iK,_,rfl,lQ,⟨_,rfl,rfl⟩⟩;exact⟨rfl,λh=>cM (g:=qH) (n:=9) (bs:=[lend iK,.z (eI v5)]) (Qv v1 (JQ lQ) v5) h⟩
def dh (v0:LI_) (v9:Int) (v5:Int) (vc:LI_) (vd:LS_) (vi:List aF) (v2:Int):(List aF):=(let v1:=(bf (bA v0 ((v9+(1:Int))+v2)) (4:Int));(let y1:=((at' v1 (0:Int)) % (if v5 > (1:Int) then v5 else(1:Int)));let y2:=((at' v1 (1:Int)) % (if v5 > (1:Int) then v5 else(1:Int)));let vj:=y1;let vk:=y2;(let vl:=(at' [((1:Int)+((at' v1 (2:Int)) % (3:Int))),((1:Int)+((at' v1 (2:Int)) % (9:Int))),((1:Int)+((at' v1 (2:Int)) % (1000:Int)))] ((at' vc (4:Int)) % (3:Int)));(let vi:(List aF):=(if(!decide (vj=vk))=true then(let vi:=vi++[(((0:Int) - vl),(at' vd (if vk < vj then vk else vj)),(at' vd (if vk > vj then vk else vj)),(at' [(0:Int),(2:Int),(10:Int)] ((at' v1 (3:Int)) % (3:Int))))];vi) else vi);vi))))
def iI (v0:LI_) (v9:Int) (v5:Int) (vc:LI_) (vd:LS_) (vi:List aF) (v2:Int):Prop:=(((jt v0 ((v9+(1:Int))+v2))/\(gC (bA v0 ((v9+(1:Int))+v2)) (4:Int)))/\(let v1:=(bf (bA v0 ((v9+(1:Int))+v2)) (4:Int));(((In v1.length (0:Int)/\0 < (if v5 > (1:Int) then v5 else(1:Int)))/\(In v1.length (1:Int)/\0 < (if v5 > (1:Int) then v5 else(1:Int))))/\(let y1:=((at' v1 (0:Int)) % (if v5 > (1:Int) then v5 else(1:Int)));let y2:=((at' v1 (1:Int)) % (if v5 > (1:Int) then v5 else(1:Int)));let vj:=y1;let vk:=y2;((((In v1.length (2:Int)/\(In v1.length (2:Int)/\In v1.length (2:Int)))/\In vc.length (4:Int))/\In [((1:Int)+((at' v1 (2:Int)) % (3:Int))),((1:Int)+((at' v1 (2:Int)) % (9:Int))),((1:Int)+((at' v1 (2:Int)) % (1000:Int)))].length ((at' vc (4:Int)) % (3:Int)))/\(let vl:=(at' [((1:Int)+((at' v1 (2:Int)) % (3:Int))),((1:Int)+((at' v1 (2:Int)) % (9:Int))),((1:Int)+((at' v1 (2:Int)) % (1000:Int)))] ((at' vc (4:Int)) % (3:Int)));((!decide (vj=vk))=true->((In vd.length (if vk < vj then vk else vj)/\(In vd.length (if vk > vj then vk else vj)/\(In v1.length (3:Int)/\In [(0:Int),(2:Int),(10:Int)].length ((at' v1 (3:Int)) % (3:Int)))))/\Ht vi.length))))))))
theorem CW (v0:LI_) {iK:Bx} (lQ:Lp iK (v0.map eI)) (v9:Int) (v5:Int) (va:Int) (vb:Int) (vc:LI_) (vd:LS_) (vi:List aF) (v2:Int):RP n6 [some iK,some ((zE eI) v9),some ((zE eI) v5),some ((zE eI) va),some ((zE eI) vb),some ((oE eI) vc),some ((oE eS) vd),some ((oE aG) vi),some ((zE eI) v2),none,none,none,none,none,none] (λs=>Out.nx ((λvi:(List aF)=>[some iK,some ((zE eI) v9),some ((zE eI) v5),some ((zE eI) va),some ((zE eI) vb),some ((oE eI) vc),some ((oE eS) vd),some ((oE aG) vi),none,none,none,none,none,none,none]) s)) (dh v0 v9 v5 vc vd vi v2) (some (iI v0 v9 v5 vc vd vi v2)):=R.tp (aY (cF 9 (x_call m9 (bW (pW (x_call ur (CV (nG 0 eI v0 lQ rfl) (bW (pW (nH (nH (ao 1 (zE eI) v9 rfl) (x_i 1)) (ao 8 (zE eI) v2 rfl))) bx)))) (bW (x_i 4) bx))) (λ_=>rfl) λv1=>(aY (adE 10 11 (Pz (jO (jh (ao 9 (lE eI) v1 rfl)) (x_i 0)) (JV (x_i 1) (ao 2 (zE eI) v5 rfl))) (Pz (jO (jh (ao 9 (lE eI) v1 rfl)) (x_i 1)) (JV (x_i 1) (ao 2 (zE eI) v5 rfl))) λvj vk=>(aY (cF 12 (jO (kj (lq (cH (pW (nH (x_i 1) (gA (jO (jh (ao 9 (lE eI) v1 rfl)) (x_i 2)) 3 (by decide)))) (cH (pW (nH (x_i 1) (gA (jO (jh (ao 9 (lE eI) v1 rfl)) (x_i 2)) 9 (by decide)))) (cH (pW (nH (x_i 1) (gA (jO (jh (ao 9 (lE eI) v1 rfl)) (x_i 2)) 1000 (by decide)))) (eF eI)))) (zC rfl))) (gA (jO (jh (ao 5 (lE eI) vc rfl)) (x_i 4)) 3 (by decide))) (λ_=>rfl) λvl=>(aY (zG (λvi:(List aF)=>[some iK,some ((zE eI) v9),some ((zE eI) v5),some ((zE eI) va),some ((zE eI) vb),some ((oE eI) vc),some ((oE eS) vd),some ((oE aG) vi),some ((zE eI) v2),some ((oE eI) v1),some ((zE eI) vj),some ((zE eI) vk),some ((zE eI) vl),none,none]) (cV (PJ (by decide) (ao 10 (zE eI) vj rfl) (ao 11 (zE eI) vk rfl))) (aY (Cd 7 vi rfl (Zq (Zm (x_i 0) (ao 12 (zE eI) vl rfl)) (jO (jh (ao 6 (lE eS) vd rfl)) (adC (ao 10 (zE eI) vj rfl) (ao 11 (zE eI) vk rfl))) (jO (jh (ao 6 (lE eS) vd rfl)) (JV (ao 10 (zE eI) vj rfl) (ao 11 (zE eI) vk rfl))) (jO (kj (lq (cH (x_i 0) (cH (x_i 2) (cH (x_i 10) (eF eI)))) (zC rfl))) (gA (jO (jh (ao 9 (lE eI) v1 rfl)) (x_i 3)) 3 (by decide)))) λvi=>(bR (bJ vi rfl)))) (bR (bJ vi rfl)) λvi=>(bR (bJ vi rfl))))))))))
def dJ (v0:LI_) (v9:Int) (v5:Int) (vd:LS_) (vm:List bh) (v2:Int):(List bh):=(let v1:=(bf (bA v0 ((v9+(1:Int))+v2)) (8:Int));(let y4:=((at' v1 (5:Int)) % (if v5 > (1:Int) then v5 else(1:Int)));let y5:=((at' v1 (6:Int)) % (if v5 > (1:Int) then v5 else(1:Int)));let vj:=y4;let vk:=y5;(let vm:(List bh):=(if(!decide (vj=vk))=true then(let vm:=vm++[((at' vd (if vk < vj then vk else vj)),(at' vd (if vk > vj then vk else vj)),(at' [(2:Int),(10:Int)] ((at' v1 (7:Int)) % (2:Int))))];vm) else vm);vm)))
def iJ (v0:LI_) (v9:Int) (v5:Int) (vd:LS_) (vm:List bh) (v2:Int):Prop:=(((jt v0 ((v9+(1:Int))+v2))/\(gC (bA v0 ((v9+(1:Int))+v2)) (8:Int)))/\(let v1:=(bf (bA v0 ((v9+(1:Int))+v2)) (8:Int));(((In v1.length (5:Int)/\0 < (if v5 > (1:Int) then v5 else(1:Int)))/\(In v1.length (6:Int)/\0 < (if v5 > (1:Int) then v5 else(1:Int))))/\(let y4:=((at' v1 (5:Int)) % (if v5 > (1:Int) then v5 else(1:Int)));let y5:=((at' v1 (6:Int)) % (if v5 > (1:Int) then v5 else(1:Int)));let vj:=y4;let vk:=y5;((!decide (vj=vk))=true->((In vd.length (if vk < vj then vk else vj)/\(In vd.length (if vk > vj then vk else vj)/\(In v1.length (7:Int)/\In [(2:Int),(10:Int)].length ((at' v1 (7:Int)) % (2:Int)))))/\Ht vm.length))))))
theorem CZ (v0:LI_) {iK:Bx} (lQ:Lp iK (v0.map eI)) (v9:Int) (v5:Int) (va:Int) (vb:Int) (vc:LI_) (vd:LS_) (vi:List aF) (v6:List aF) (vm:List bh) (v2:Int):RP n8 [some iK,some ((zE eI) v9),some ((zE eI) v5),some ((zE eI) va),some ((zE eI) vb),some ((oE eI) vc),some ((oE eS) vd),some ((oE aG) vi),some ((zE eI) v2),none,none,none,none,some ((oE aG) v6),some ((oE bw) vm)] (λs=>Out.nx ((λvm:(List bh)=>[some iK,some ((zE eI) v9),some ((zE eI) v5),some ((zE eI) va),some ((zE eI) vb),some ((oE eI) vc),some ((oE eS) vd),some ((oE aG) vi),none,none,none,none,none,some ((oE aG) v6),some ((oE bw) vm)]) s)) (dJ v0 v9 v5 vd vm v2) (some (iJ v0 v9 v5 vd vm v2)):=R.tp (aY (cF 9 (x_call m9 (bW (pW (x_call ur (CV (nG 0 eI v0 lQ rfl) (bW (pW (nH (nH (ao 1 (zE eI) v9 rfl) (x_i 1)) (ao 8 (zE eI) v2 rfl))) bx)))) (bW (x_i 8) bx))) (λ_=>rfl) λv1=>(aY (adE 10 11 (Pz (jO (jh (ao 9 (lE eI) v1 rfl)) (x_i 5)) (JV (x_i 1) (ao 2 (zE eI) v5 rfl))) (Pz (jO (jh (ao 9 (lE eI) v1 rfl)) (x_i 6)) (JV (x_i 1) (ao 2 (zE eI) v5 rfl))) λvj vk=>(aY (zG (λvm:(List bh)=>[some iK,some ((zE eI) v9),some ((zE eI) v5),some ((zE eI) va),some ((zE eI) vb),some ((oE eI) vc),some ((oE eS) vd),some ((oE aG) vi),some ((zE eI) v2),some ((oE eI) v1),some ((zE eI) vj),some ((zE eI) vk),none,some ((oE aG) v6),some ((oE bw) vm)]) (cV (PJ (by decide) (ao 10 (zE eI) vj rfl) (ao 11 (zE eI) vk rfl))) (aY (Cd 14 vm rfl (tO (jO (jh (ao 6 (lE eS) vd rfl)) (adC (ao 10 (zE eI) vj rfl) (ao 11 (zE eI) vk rfl))) (jO (jh (ao 6 (lE eS) vd rfl)) (JV (ao 10 (zE eI) vj rfl) (ao 11 (zE eI) vk rfl))) (jO (kj (lq (cH (x_i 2) (cH (x_i 10) (eF eI))) (zC rfl))) (gA (jO (jh (ao 9 (lE eI) v1 rfl)) (x_i 7)) 2 (by decide)))) λvm=>(bR (bJ vm rfl)))) (bR (bJ vm rfl)) λvm=>(bR (bJ vm rfl))))))))
def fU (v0:LI_) (v9:Int) (v5:Int) (va:Int) (vb:Int) (vc:LI_) (vd:LS_) (vi:List aF):jD:=(let v6:=((lN aG (HX vi)).map λq3:aF=>(((0:Int) - q3.1),q3.2.1,q3.2.2.1,q3.2.2.2));(let vm:=([]:List bh);(let vm:(List bh):=((rng 0 vb.toNat).foldl (λ(vm:List bh) (v2:Int)=>(dJ v0 v9 v5 vd vm v2)) vm);(vd,v6,(lN bw (HX vm))))))
def oh (v0:LI_) (v9:Int) (v5:Int) (va:Int) (vb:Int) (vc:LI_) (vd:LS_) (vi:List aF):Prop:=(((vi.length<=64/\vi.length < 64)/\(lN aG (HX vi)).length<=100000)/\(let v6:=((lN aG (HX vi)).map λq3:aF=>(((0:Int) - q3.1),q3.2.1,q3.2.2.1,q3.2.2.2));(let vm:=([]:List bh);((Rg vb/\tW (λ(vm:List bh) (v2:Int)=>(dJ v0 v9 v5 vd vm v2)) (λ(vm:List bh) (v2:Int)=>some (iJ v0 v9 v5 vd vm v2)) (rng 0 vb.toNat) vm)/\(let vm:(List bh):=((rng 0 vb.toNat).foldl (λ(vm:List bh) (v2:Int)=>(dJ v0 v9 v5 vd vm v2)) vm);(vm.length<=64/\vm.length < 64))))))
def uJ:Ev->Option Out:=(aC (setG 13 (eE (DG (FP (R8 (gv 7)))) (pR 4 (bZ (jf 0) (bZ (jf 1) (bZ (jf 2) (bZ (jf 3) rP))))) xU (c7 kO (aq (b2 subB (cB (.int 0)) (gv 0)) (aq (gv 1) (aq (gv 2) (aq (gv 3) aJ))))) [] 4)) (aC (setG 14 (c7 nC aJ)) (aC (rR (Yr (aq (gv 4) aJ)) (jf 8) n8) (aC (fQ (c7 kO (aq (c7 jR (aq (gv 6) aJ)) (aq (c7 jR (aq (gv 13) aJ)) (aq (c7 jR (aq (FP (R8 (gv 14))) aJ)) aJ))))) d7))))
theorem Dc (v0:LI_) {iK:Bx} (lQ:Lp iK (v0.map eI)) (v9:Int) (v5:Int) (va:Int) (vb:Int) (vc:LI_) (vd:LS_) (vi:List aF):RP uJ [some iK,some ((zE eI) v9),some ((zE eI) v5),some ((zE eI) va),some ((zE eI) vb),some ((oE eI) vc),some ((oE eS) vd),some ((oE aG) vi),none,none,none,none,none,none,none] (λr=>Out.rt ((zE cU) r)) (fU v0 v9 v5 va vb vc vd vi) (some (oh v0 v9 v5 va vb vc vd vi)):=R.tp (cF 13 (qC (Ly (kj (ZR (ZQ (jh (ao 7 (lE aG) vi rfl)))))) _ (λ_=>rfl) (λq3:aF=>(Zq (Zm (x_i 0) (ao 0 (zE eI) q3.1 rfl)) (ao 1 (zE eS) q3.2.1 rfl) (ao 2 (zE eS) q3.2.2.1 rfl) (ao 3 (zE eI) q3.2.2.2 rfl))) λ_=>rfl) (λ_=>rfl) λv6=>(cF 14 (lq (eF bw) (zC rfl)) (λ_=>rfl) λvm=>(Qd (λvm:(List bh)=>[some iK,some ((zE eI) v9),some ((zE eI) v5),some ((zE eI) va),some ((zE eI) vb),some ((oE eI) vc),some ((oE eS) vd),some ((oE aG) vi),none,none,none,none,none,some ((oE aG) v6),some ((oE bw) vm)]) vm rfl (Qc (ao 4 (zE eI) vb rfl)) _ (λ_ _=>rfl) (λ(vm:List bh) (v2:Int)=>(CZ v0 lQ v9 v5 va vb vc vd vi v6 vm v2).r) λvm=>(cZ (λr=>r) (tO (qz (jh (ao 6 (lE eS) vd rfl))) (qz (jh (ao 13 (lE aG) v6 rfl))) (qz (kj (ZR (ZQ (jh (ao 14 (lE bw) vm rfl))))))) (λ_=>rfl) λ_=>rfl))))
def fV (v0:LI_) (v9:Int) (v5:Int) (va:Int) (vb:Int) (vc:LI_) (vd:LS_):jD:=(let vi:=([]:List aF);(let vi:(List aF):=((rng 0 va.toNat).foldl (λ(vi:List aF) (v2:Int)=>(dh v0 v9 v5 vc vd vi v2)) vi);(fU v0 v9 v5 va vb vc vd vi)))
def ou (v0:LI_) (v9:Int) (v5:Int) (va:Int) (vb:Int) (vc:LI_) (vd:LS_):Prop:=(let vi:=([]:List aF);((Rg va/\tW (λ(vi:List aF) (v2:Int)=>(dh v0 v9 v5 vc vd vi v2)) (λ(vi:List aF) (v2:Int)=>some (iI v0 v9 v5 vc vd vi v2)) (rng 0 va.toNat) vi)/\(let vi:(List aF):=((rng 0 va.toNat).foldl (λ(vi:List aF) (v2:Int)=>(dh v0 v9 v5 vc vd vi v2)) vi);(oh v0 v9 v5 va vb vc vd vi))))
def uK:Ev->Option Out:=(aC (setG 7 (c7 nC aJ)) (aC (rR (Yr (aq (gv 3) aJ)) (jf 8) n6) uJ))
theorem Dd (v0:LI_) {iK:Bx} (lQ:Lp iK (v0.map eI)) (v9:Int) (v5:Int) (va:Int) (vb:Int) (vc:LI_) (vd:LS_):RP uK [some iK,some ((zE eI) v9),some ((zE eI) v5),some ((zE eI) va),some ((zE eI) vb),some ((oE eI) vc),some ((oE eS) vd),none,none,none,none,none,none,none,none] (λr=>Out.rt ((zE cU) r)) (fV v0 v9 v5 va vb vc vd) (some (ou v0 v9 v5 va vb vc vd)):=R.tp (cF 7 (lq (eF aG) (zC rfl)) (λ_=>rfl) λvi=>(Qd (λvi:(List aF)=>[some iK,some ((zE eI) v9),some ((zE eI) v5),some ((zE eI) va),some ((zE eI) vb),some ((oE eI) vc),some ((oE eS) vd),some ((oE aG) vi),none,none,none,none,none,none,none]) vi rfl (Qc (ao 3 (zE eI) va rfl)) _ (λ_ _=>rfl) (λ(vi:List aF) (v2:Int)=>(CW v0 lQ v9 v5 va vb vc vd vi v2).r) λvi=>(Dc v0 lQ v9 v5 va vb vc vd vi).r))
def fW (v0:LI_) (v9:Int) (v5:Int) (va:Int) (vb:Int) (vc:LI_):jD:=(let vd:=(qu (dI vc v5));(fV v0 v9 v5 va vb vc vd))
def oA (v0:LI_) (v9:Int) (v5:Int) (va:Int) (vb:Int) (vc:LI_):Prop:=(((qQ vc v5)/\(dI vc v5).length < 64)/\(let vd:=(qu (dI vc v5));(ou v0 v9 v5 va vb vc vd)))
def Dg:Ev->Option Out:=(aC (setG 6 (c7 Fl (aq (bV 2 nM (aq (gv 5) (aq (gv 2) aJ))) aJ))) uK)
theorem Dh (v0:LI_) {iK:Bx} (lQ:Lp iK (v0.map eI)) (v9:Int) (v5:Int) (va:Int) (vb:Int) (vc:LI_):RP Dg [some iK,some ((zE eI) v9),some ((zE eI) v5),some ((zE eI) va),some ((zE eI) vb),some ((oE eI) vc),none,none,none,none,none,none,none,none,none] (λr=>Out.rt ((zE cU) r)) (fW v0 v9 v5 va vb vc) (some (oA v0 v9 v5 va vb vc)):=R.tp (cF 6 (U3 (kj (x_call Qw (CV (jh (ao 5 (lE eI) vc rfl)) (bW (ao 2 (zE eI) v5 rfl) bx))))) (λ_=>rfl) λvd=>(Dd v0 lQ v9 v5 va vb vc vd).r)
def eG (v0:LI_) (v9:Int) (v5:Int) (va:Int) (vb:Int):jD:=(let vc:=(bf (bA v0 v9) (6:Int));(fW v0 v9 v5 va vb vc))
def pD (v0:LI_) (v9:Int) (v5:Int) (va:Int) (vb:Int):Prop:=(((jt v0 v9)/\(gC (bA v0 v9) (6:Int)))/\(let vc:=(bf (bA v0 v9) (6:Int));(oA v0 v9 v5 va vb vc)))
theorem Mr (v0:LI_) {iK:Bx} (lQ:Lp iK (v0.map eI)) (v9:Int) (v5:Int) (va:Int) (vb:Int):RP oN [some iK,some ((zE eI) v9),some ((zE eI) v5),some ((zE eI) va),some ((zE eI) vb),none,none,none,none,none,none,none,none,none,none] (λr=>Out.rt ((zE cU) r)) (eG v0 v9 v5 va vb) (some (pD v0 v9 v5 va vb)):=R.tp (cF 5 (x_call m9 (bW (pW (x_call ur (CV (nG 0 eI v0 lQ rfl) (bW (ao 1 (zE eI) v9 rfl) bx)))) (bW (x_i 6) bx))) (λ_=>rfl) λvc=>(Dh v0 lQ v9 v5 va vb vc).r)
theorem Ms:∀ v bs,(aL eI (aZ eI (aZ eI (aZ eI (aZ eI aN))))) v bs->bs.length=5/\(hold (some (pD v.1 v.2.1 v.2.2.1 v.2.2.2.1 v.2.2.2.2.1))->oO (bs.map lend)=some ((zE cU) (eG v.1 v.2.1 v.2.2.1 v.2.2.2.1 v.2.2.2.2.1))):=by
 rintro⟨v0,v9,v5,va,vb,_⟩ _ ⟨iK,_,rfl,lQ,⟨_,rfl,⟨_,rfl,⟨_,rfl,⟨_,rfl,rfl⟩⟩⟩⟩⟩;exact⟨rfl,λh=>cM (g:=oN) (n:=15) (bs:=[lend iK,.z (eI v9),.z (eI v5),.z (eI va),.z (eI vb)]) (Mr v0 (JQ lQ) v9 v5 va vb) h⟩
def cN (vp:LS_):(List (Str×Str)):=(mkD (vp.map λvq:Str=>(vq,vq)))
def pF (vp:LS_):Prop:=(vp.length < 1000/\vp.length<=100000)
theorem Mt (vp:LS_):RP oR [some ((zE (eT eS)) vp)] (λr=>Out.rt ((mE eS) r)) (cN vp) (some (pF vp)):=R.tp (cZ (λr=>r) (acE (Qa (ao 0 (zE (eT eS)) vp rfl)) (qC (Qa (ao 0 (zE (eT eS)) vp rfl)) _ (λ_=>rfl) (λvq:Str=>(acD (ao 0 (zE eS) vq rfl) (ao 0 (zE eS) vq rfl))) λ_=>rfl)) (λ_=>rfl) λ_=>rfl)
theorem Mu:∀ v bs,(aZ (eT eS) aN) v bs->bs.length=1/\(hold (some (pF v.1))->oU (bs.map lend)=some ((mE eS) (cN v.1))):=by
 rintro⟨vp,_⟩ _ ⟨_,rfl,rfl⟩;exact⟨rfl,λh=>cM (g:=oR) (n:=1) (bs:=[.z ((eT eS) vp)]) (Mt vp) h⟩
def gO (vo:(List (Str×Str))) (vw:Str) (vx:Str) (s1:Unit) (vy:bh):ji (Unit) (Option bh):=(if(((decide ((look vo vy.1)=vw))&&(decide ((look vo vy.2.1)=vx)))||((decide ((look vo vy.1)=vx))&&(decide ((look vo vy.2.1)=vw))))=true then(ji.rt (some vy)) else(ji.nx ()))
def sS (vo:(List (Str×Str))) (vw:Str) (vx:Str) (s1:Unit) (vy:bh):Prop:=((has vo vy.1=true/\((decide ((look vo vy.1)=vw))=true->has vo vy.2.1=true))/\(((decide ((look vo vy.1)=vw))&&(decide ((look vo vy.2.1)=vx)))=false->(has vo vy.1=true/\((decide ((look vo vy.1)=vx))=true->has vo vy.2.1=true))))
theorem Bu (vv:List bh) (vo:(List (Str×Str))) (vw:Str) (vx:Str) (s1:Unit) (vy:bh):RP sE [some ((zE (eT bw)) vv),some ((nE eS) vo),some ((zE eS) vw),some ((zE eS) vx),some ((zE bw) vy)] (cC (λs1:Unit=>[some ((zE (eT bw)) vv),some ((nE eS) vo),some ((zE eS) vw),some ((zE eS) vx),none]) (zE (eO bw))) (gO vo vw vx s1 vy) (some (sS vo vw vx s1 vy)):=R.tp (aY (jY (Wv (JR (cV (x_eq (by decide) (lX (ao 1 (nE eS) vo rfl) (dX (ao 4 (zE bw) vy rfl) (λq=>q.1) eS 0 λ_=>rfl)) (ao 2 (zE eS) vw rfl))) (cV (x_eq (by decide) (lX (ao 1 (nE eS) vo rfl) (dX (ao 4 (zE bw) vy rfl) (λq=>q.2.1) eS 1 λ_=>rfl)) (ao 3 (zE eS) vx rfl)))) (JR (cV (x_eq (by decide) (lX (ao 1 (nE eS) vo rfl) (dX (ao 4 (zE bw) vy rfl) (λq=>q.1) eS 0 λ_=>rfl)) (ao 3 (zE eS) vx rfl))) (cV (x_eq (by decide) (lX (ao 1 (nE eS) vo rfl) (dX (ao 4 (zE bw) vy rfl) (λq=>q.2.1) eS 1 λ_=>rfl)) (ao 2 (zE eS) vw rfl))))) (aY (cZ .rt (yc (ao 4 (zE bw) vy rfl)) (λ_=>rfl) λ_=>rfl)) (bR (bR (bJ (.nx ()) rfl)))))
def dD (vv:List bh) (vo:(List (Str×Str))) (vw:Str) (vx:Str):(Option bh):=(behind (jC (λ(s1:Unit) (vy:bh)=>((gO vo vw vx s1 vy):ji (Unit) (Option bh))) vv ()) (λr=>r) λs1:Unit=>none)
def ni (vv:List bh) (vo:(List (Str×Str))) (vw:Str) (vx:Str):Prop:=(uG (λ(s1:Unit) (vy:bh)=>((gO vo vw vx s1 vy):ji (Unit) (Option bh))) (λ(s1:Unit) (vy:bh)=>some (sS vo vw vx s1 vy)) vv ()/\(jP (jC (λ(s1:Unit) (vy:bh)=>((gO vo vw vx s1 vy):ji (Unit) (Option bh))) vv ()) λs1:Unit=>True))
theorem Iv (vv:List bh) (vo:(List (Str×Str))) (vw:Str) (vx:Str):RP mO [some ((zE (eT bw)) vv),some ((nE eS) vo),some ((zE eS) vw),some ((zE eS) vx),none] (λr=>Out.rt ((zE (eO bw)) r)) (dD vv vo vw vx) (some (ni vv vo vw vx)):=R.tp (LK 0 vv (Gp rfl) (λs1:Unit=>[some ((zE (eT bw)) vv),some ((nE eS) vo),some ((zE eS) vw),some ((zE eS) vx),none]) () rfl _ (λ_ _=>rfl) (λ(s1:Unit) (vy:bh)=>((Bu vv vo vw vx s1 vy).r:R _ _ (cC (λs1:Unit=>[some ((zE (eT bw)) vv),some ((nE eS) vo),some ((zE eS) vw),some ((zE eS) vx),none]) (zE (eO bw))))) (λr=>r) (λ_=>rfl) λs1=>(cZ (λr=>r) Ln (λ_=>rfl) λ_=>rfl))
theorem Iw:∀ v bs,(aZ (eT bw) (aM eS (aZ eS (aZ eS aN)))) v bs->bs.length=4/\(hold (some (ni v.1 v.2.1 v.2.2.1 v.2.2.2.1))->mQ (bs.map lend)=some ((zE (eO bw)) (dD v.1 v.2.1 v.2.2.1 v.2.2.2.1))):=by
 rintro⟨vv,vo,vw,vx,_⟩ _ ⟨_,rfl,⟨_,_,rfl,(rfl|rfl),⟨_,rfl,⟨_,rfl,rfl⟩⟩⟩⟩
 all_goals exact⟨rfl,λh=>cM (g:=mO) (n:=5) (bs:=[.z ((eT bw) vv),nE eS vo,.z (eS vw),.z (eS vx)]) (Iv vv vo vw vx) h⟩
def dM (vw:Str) (vx:Str) (vz:Str) (vo:(List (Str×Str))) (vq:Str):(List (Str×Str)):=(let vo:(List (Str×Str)):=(if((decide ((look vo vq)=vw))||(decide ((look vo vq)=vx)))=true then(let vo:=put vo vq vz;vo) else vo);vo)
def oF (vw:Str) (vx:Str) (vz:Str) (vo:(List (Str×Str))) (vq:Str):Prop:=((has vo vq=true/\((decide ((look vo vq)=vw))=false->has vo vq=true))/\(((decide ((look vo vq)=vw))||(decide ((look vo vq)=vx)))=true->vo.length < 1000))
theorem Di {a_:Addr} (vw:Str) (vx:Str) (vz:Str) (vo:(List (Str×Str))) (vq:Str):RP uH [some ((mW (some a_) eS) vo),some ((zE eS) vw),some ((zE eS) vx),some ((zE eS) vz),some ((zE eS) vq)] (λs=>Out.nx ((λvo:(List (Str×Str))=>[some ((mW (some a_) eS) vo),some ((zE eS) vw),some ((zE eS) vx),some ((zE eS) vz),none]) s)) (dM vw vx vz vo vq) (some (oF vw vx vz vo vq)):=R.tp (aY (zG (λvo:(List (Str×Str))=>[some ((mW (some a_) eS) vo),some ((zE eS) vw),some ((zE eS) vx),some ((zE eS) vz),some ((zE eS) vq)]) (Wv (cV (x_eq (by decide) (lX (ao 0 (nE eS) vo rfl) (ao 4 (zE eS) vq rfl)) (ao 1 (zE eS) vw rfl))) (cV (x_eq (by decide) (lX (ao 0 (nE eS) vo rfl) (ao 4 (zE eS) vq rfl)) (ao 2 (zE eS) vx rfl)))) (aY (U6 (some a_) 0 vo rfl (ao 3 (zE eS) vz rfl) (ao 4 (zE eS) vq rfl) λvo=>(bR (bJ vo rfl)))) (bR (bJ vo rfl)) λvo=>(bR (bJ vo rfl))))
def iG (vo:(List (Str×Str))) (vw:Str) (vx:Str):(List (Str×Str)):=(let vz:=(if vK vx vw=true then vx else vw);(let vo:(List (Str×Str)):=((vo.map (·.1)).foldl (λ(vo:(List (Str×Str))) (vq:Str)=>(dM vw vx vz vo vq)) vo);vo))
def pG (vo:(List (Str×Str))) (vw:Str) (vx:Str):Prop:=(let vz:=(if vK vx vw=true then vx else vw);tW (λ(vo:(List (Str×Str))) (vq:Str)=>(dM vw vx vz vo vq)) (λ(vo:(List (Str×Str))) (vq:Str)=>some (oF vw vx vz vo vq)) (vo.map (·.1)) vo)
def uw {a_:Addr} (vo:(List (Str×Str))) (vw:Str) (vx:Str):R oV [some ((mW (some a_) eS) vo),some ((zE eS) vw),some ((zE eS) vx),none,none] (λm'=>Out.nx [some ((mW (some a_) eS) m'),some ((zE eS) vw),some ((zE eS) vx),none,none]):=(aY (cF 3 (afB (ao 1 (zE eS) vw rfl) (ao 2 (zE eS) vx rfl)) (λ_=>rfl) λvz=>(aY (Qd (λvo:(List (Str×Str))=>[some ((mW (some a_) eS) vo),some ((zE eS) vw),some ((zE eS) vx),some ((zE eS) vz),none]) vo rfl (ahz (acF (ao 0 (nE eS) vo rfl))) _ (λ_ _=>rfl) (λ(vo:(List (Str×Str))) (vq:Str)=>(Di vw vx vz vo vq).r) λvo=>(bR (bJ vo rfl))))))
theorem Iz {a_:Addr} (vo:(List (Str×Str))) (vw:Str) (vx:Str):(uw (a_:=a_) vo vw vx).v=iG vo vw vx:=by kernel_rfl
theorem IK {a_:Addr} (vo:(List (Str×Str))) (vw:Str) (vx:Str):(uw (a_:=a_) vo vw vx).D=some (pG vo vw vx):=by kernel_rfl
theorem Mv:∀ (vo:(List (Str×Str))) v bs,(aZ eS (aZ eS aN)) v bs->bs.length=2/\bs.all isZ=true/\(hold (some (pG vo v.1 v.2.1))->∀ a,lA a (vo.map λq=>(kS q.1,eS q.2)) bs=some ((iG vo v.1 v.2.1).map λq=>(kS q.1,eS q.2))):=by
 rintro vo ⟨vw,vx,_⟩ _ ⟨_,rfl,⟨_,rfl,rfl⟩⟩;exact⟨rfl,rfl,λh a=>(acG (g:=oV) (n:=5) (bs:=[.z (eS vw),.z (eS vx)]) (uw (a_:=a) vo vw vx) ((congrArg hold (IK (a_:=a) vo vw vx)).mpr h) (λ_=>rfl)).trans (congrArg (λr:(List (Str×Str))=>some (r.map λq=>(kS q.1,eS q.2))) (Iz (a_:=a) vo vw vx))⟩
def bO (vo:(List (Str×Str))) (vz:Str):LS_:=(((vo.map (·.1)).filter λvq:Str=>(decide ((look vo vq)=vz))).map λvq:Str=>vq)
def rE (vo:(List (Str×Str))) (vz:Str):Prop:=((vo.map (·.1)).length<=100000/\(∀ vq∈(vo.map (·.1)),has vo vq=true))
theorem IV (vo:(List (Str×Str))) (vz:Str):RP mR [some ((nE eS) vo),some ((zE eS) vz)] (λr=>Out.rt ((zE (eT eS)) r)) (bO vo vz) (some (rE vo vz)):=R.tp (cZ (λr=>r) (qz (kj (Lx (ahB (ao 0 (nE eS) vo rfl)) _ (λ_=>rfl) (λvq:Str=>(cV (x_eq (by decide) (lX (ao 1 (nE eS) vo rfl) (ao 2 (zE eS) vq rfl)) (ao 0 (zE eS) vz rfl)))) (λvq:Str=>(ao 2 (zE eS) vq rfl))))) (λ_=>rfl) λ_=>rfl)
theorem IW:∀ v bs,(aM eS (aZ eS aN)) v bs->bs.length=2/\(hold (some (rE v.1 v.2.1))->mU (bs.map lend)=some ((zE (eT eS)) (bO v.1 v.2.1))):=by
 rintro⟨vo,vz,_⟩ _ ⟨_,_,rfl,(rfl|rfl),⟨_,rfl,rfl⟩⟩
 all_goals exact⟨rfl,λh=>cM (g:=mR) (n:=2) (bs:=[nE eS vo,.z (eS vz)]) (IV vo vz) h⟩
def bD (vo:(List (Str×Str))):(List LS_):=(((vo.map (·.1)).filter λvq:Str=>(decide ((look vo vq)=vq))).map λvq:Str=>(bO vo vq))
def pH (vo:(List (Str×Str))):Prop:=((vo.map (·.1)).length<=100000/\(∀ vq∈(vo.map (·.1)),(has vo vq=true/\((decide ((look vo vq)=vq))=true->(rE vo vq)))))
theorem Mw (vo:(List (Str×Str))):RP oW [some ((nE eS) vo)] (λr=>Out.rt ((oE (eT eS)) r)) (bD vo) (some (pH vo)):=R.tp (cZ (λr=>r) (Lx (ahB (ao 0 (nE eS) vo rfl)) _ (λ_=>rfl) (λvq:Str=>(cV (x_eq (by decide) (lX (ao 0 (nE eS) vo rfl) (ao 1 (zE eS) vq rfl)) (ao 1 (zE eS) vq rfl)))) (λvq:Str=>(pW (x_call IW (acC (ao 0 (nE eS) vo rfl) (bW (ao 1 (zE eS) vq rfl) bx)))))) (λ_=>rfl) λ_=>rfl)
theorem Mx:∀ v bs,(aM eS aN) v bs->bs.length=1/\(hold (some (pH v.1))->oX (bs.map lend)=some ((oE (eT eS)) (bD v.1))):=by
 rintro⟨vo,_⟩ _ ⟨_,_,rfl,(rfl|rfl),rfl⟩
 all_goals exact⟨rfl,λh=>cM (g:=oW) (n:=1) (bs:=[nE eS vo]) (Mw vo) h⟩
def cT (vv:List bh) (s2:(List (Str×Str))×(List aF)×(List dU)) (vt:aF):(List (Str×Str))×(List aF)×(List dU):=(let vw:=(look s2.1 vt.2.1);(let vx:=(look s2.1 vt.2.2.1);(let s4:(List (Str×Str))×(List aF)×(List dU):=(if(!decide (vw=vx))=true then(let vy:=(dD vv s2.1 vw vx);(let s3:(List (Str×Str))×(List aF)×(List dU):=(if vy.isNone=true then(let vo:=(iG s2.1 vw vx);(let vr:=s2.2.1++[vt];(vo,vr,s2.2.2))) else(let vs:=s2.2.2++[(vt,vy)];(s2.1,s2.2.1,vs)));(s3.1,s3.2.1,s3.2.2))) else(s2.1,s2.2.1,s2.2.2));(s4.1,s4.2.1,s4.2.2))))
def oG (vv:List bh) (s2:(List (Str×Str))×(List aF)×(List dU)) (vt:aF):Prop:=(has s2.1 vt.2.1=true/\(let vw:=(look s2.1 vt.2.1);(has s2.1 vt.2.2.1=true/\(let vx:=(look s2.1 vt.2.2.1);((!decide (vw=vx))=true->((ni vv s2.1 vw vx)/\(let vy:=(dD vv s2.1 vw vx);((vy.isNone=true->((pG s2.1 vw vx)/\(let vo:=(iG s2.1 vw vx);Ht s2.2.1.length)))/\(vy.isNone=false->Ht s2.2.2.length)))))))))
theorem Dj (vn:jD) (vp:LS_) (vu:List aF) (vv:List bh) (s2:(List (Str×Str))×(List aF)×(List dU)) (vt:aF):RP uI [some ((zE cU) vn),some ((zE (eT eS)) vp),some ((zE (eT aG)) vu),some ((zE (eT bw)) vv),some ((mE eS) s2.1),some ((oE aG) s2.2.1),some ((oE oM) s2.2.2),some ((zE aG) vt),none,none,none] (λs=>Out.nx ((λs2:(List (Str×Str))×(List aF)×(List dU)=>[some ((zE cU) vn),some ((zE (eT eS)) vp),some ((zE (eT aG)) vu),some ((zE (eT bw)) vv),some ((mE eS) s2.1),some ((oE aG) s2.2.1),some ((oE oM) s2.2.2),none,none,none,none]) s)) (cT vv s2 vt) (some (oG vv s2 vt)):=R.tp (aY (cF 8 (lX (ao 4 (nE eS) s2.1 rfl) (dX (ao 7 (zE aG) vt rfl) (λq=>q.2.1) eS 1 λ_=>rfl)) (λ_=>rfl) λvw=>(aY (cF 9 (lX (ao 4 (nE eS) s2.1 rfl) (dX (ao 7 (zE aG) vt rfl) (λq=>q.2.2.1) eS 2 λ_=>rfl)) (λ_=>rfl) λvx=>(aY (zG (λs4:(List (Str×Str))×(List aF)×(List dU)=>[some ((zE cU) vn),some ((zE (eT eS)) vp),some ((zE (eT aG)) vu),some ((zE (eT bw)) vv),some ((mE eS) s4.1),some ((oE aG) s4.2.1),some ((oE oM) s4.2.2),some ((zE aG) vt),some ((zE eS) vw),some ((zE eS) vx),none]) (cV (PJ (by decide) (ao 8 (zE eS) vw rfl) (ao 9 (zE eS) vx rfl))) (aY (cF 10 (x_call Iw (bW (ao 3 (zE (eT bw)) vv rfl) (acC (ao 4 (nE eS) s2.1 rfl) (bW (ao 8 (zE eS) vw rfl) (bW (ao 9 (zE eS) vx rfl) bx))))) (λ_=>rfl) λvy=>(aY (zG (λs3:(List (Str×Str))×(List aF)×(List dU)=>[some ((zE cU) vn),some ((zE (eT eS)) vp),some ((zE (eT aG)) vu),some ((zE (eT bw)) vv),some ((mE eS) s3.1),some ((oE aG) s3.2.1),some ((oE oM) s3.2.2),some ((zE aG) vt),some ((zE eS) vw),some ((zE eS) vx),some ((zE (eO bw)) vy)]) (cV (ahr (ao 10 (zE (eO bw)) vy rfl) λ_=>rfl)) (aY (afC none 4 s2.1 rfl Mv (bW (ao 8 (zE eS) vw rfl) (bW (ao 9 (zE eS) vx rfl) bx)) λvo=>(aY (Cd 5 s2.2.1 rfl (ao 7 (zE aG) vt rfl) λvr=>(bR (bJ (vo,vr,s2.2.2) rfl)))))) (aY (Cd 6 s2.2.2 rfl (afl (ao 7 (zE aG) vt rfl) (ao 10 (zE (eO bw)) vy rfl)) λvs=>(bR (bJ (s2.1,s2.2.1,vs) rfl)))) λs3=>(bR (bJ (s3.1,s3.2.1,s3.2.2) rfl)))))) (bR (bJ (s2.1,s2.2.1,s2.2.2) rfl)) λs4=>(bR (bJ (s4.1,s4.2.1,s4.2.2) rfl))))))))
def aQ (vn:jD):vN:=(let q1:=vn;(let vo:=(cN q1.1);(let vr:=([]:List aF);(let vs:=([]:List dU);(let s2:(List (Str×Str))×(List aF)×(List dU):=(q1.2.1.foldl (λ(s2:(List (Str×Str))×(List aF)×(List dU)) (vt:aF)=>(cT q1.2.2 s2 vt)) (vo,vr,vs));((bD s2.1),s2.2.1,s2.2.2))))))
def cX (vn:jD):Prop:=(let q1:=vn;((pF q1.1)/\(let vo:=(cN q1.1);(let vr:=([]:List aF);(let vs:=([]:List dU);(tW (λ(s2:(List (Str×Str))×(List aF)×(List dU)) (vt:aF)=>(cT q1.2.2 s2 vt)) (λ(s2:(List (Str×Str))×(List aF)×(List dU)) (vt:aF)=>some (oG q1.2.2 s2 vt)) q1.2.1 (vo,vr,vs)/\(let s2:(List (Str×Str))×(List aF)×(List dU):=(q1.2.1.foldl (λ(s2:(List (Str×Str))×(List aF)×(List dU)) (vt:aF)=>(cT q1.2.2 s2 vt)) (vo,vr,vs));(pH s2.1))))))))
theorem Mz (vn:jD):RP oY [some ((zE cU) vn),none,none,none,none,none,none,none,none,none,none] (λr=>Out.rt ((zE je) r)) (aQ vn) (some (cX vn)):=R.tp (Gn (ao 0 (zE cU) vn rfl) _ (λ_=>rfl) λq1=>(cF 4 (x_call Mu (bW (ao 1 (zE (eT eS)) q1.1 rfl) bx)) (λ_=>rfl) λvo=>(cF 5 (lq (eF aG) (zC rfl)) (λ_=>rfl) λvr=>(cF 6 (lq (eF oM) (zC rfl)) (λ_=>rfl) λvs=>(LC 2 q1.2.1 (Gp rfl) (λs2:(List (Str×Str))×(List aF)×(List dU)=>[some ((zE cU) vn),some ((zE (eT eS)) q1.1),some ((zE (eT aG)) q1.2.1),some ((zE (eT bw)) q1.2.2),some ((mE eS) s2.1),some ((oE aG) s2.2.1),some ((oE oM) s2.2.2),none,none,none,none]) (vo,vr,vs) rfl _ (λ_ _=>rfl) (λ(s2:(List (Str×Str))×(List aF)×(List dU)) (vt:aF)=>(Dj vn q1.1 q1.2.1 q1.2.2 s2 vt).r) λs2=>(ahC 5 [some ((zE cU) vn),some ((zE (eT eS)) q1.1),some ((zE (eT aG)) q1.2.1),some ((zE (eT bw)) q1.2.2),some ((mE eS) s2.1),some ((zE (eL aG)) s2.2.1),some ((oE oM) s2.2.2),none,none,none,none] rfl (ahC 6 [some ((zE cU) vn),some ((zE (eT eS)) q1.1),some ((zE (eT aG)) q1.2.1),some ((zE (eT bw)) q1.2.2),some ((mE eS) s2.1),some ((zE (eL aG)) s2.2.1),some ((zE (eL oM)) s2.2.2),none,none,none,none] rfl (cZ (λr=>r) (tO (acs (x_call Mx (acC (ao 4 (nE eS) s2.1 rfl) bx))) (ao 5 (zE (eL aG)) s2.2.1 rfl) (ao 6 (zE (eL oM)) s2.2.2 rfl)) (λ_=>rfl) λ_=>rfl))))))))
theorem f9:∀ v bs,(aZ cU aN) v bs->bs.length=1/\(hold (some (cX v.1))->cg (bs.map lend)=some ((zE je) (aQ v.1))):=by
 rintro⟨vn,_⟩ _ ⟨_,rfl,rfl⟩;exact⟨rfl,λh=>cM (g:=oY) (n:=11) (bs:=[.z (cU vn)]) (Mz vn) h⟩
def ux (dO:aF) (Qx:Int):Bool:=((is_tuple (aG dO))&&(decide ((4:Int)=Qx)))
theorem Td (dO:aF) (Qx:Int):RP lZ [some ((zE aG) dO),some ((zE eI) Qx)] (λr=>Out.rt ((zE eB) r)) (ux dO Qx) none:=R.tp (cZ (λr=>r) (su (PL is_tuple (ao 0 (zE aG) dO rfl)) (x_eq (by decide) (Z0 (ao 0 (zE aG) dO rfl) 4 λ_=>⟨_,rfl,rfl⟩) (ao 1 (zE eI) Qx rfl))) (λ_=>rfl) λ_=>rfl)
theorem Te:∀ v bs,(aZ aG (aZ eI aN)) v bs->bs.length=2/\(hold (none)->jT (bs.map lend)=some ((zE eB) (ux v.1 v.2.1))):=by
 rintro⟨dO,Qx,_⟩ _ ⟨_,rfl,⟨_,rfl,rfl⟩⟩;exact⟨rfl,λh=>cM (g:=lZ) (n:=2) (bs:=[.z (aG dO),.z (eI Qx)]) (Td dO Qx) h⟩
def uy (dO:Int):Bool:=((Bc (eI dO))&&(!(is_bool (eI dO))))
theorem Tf (dO:Int):RP tZ [some ((zE eI) dO)] (λr=>Out.rt ((zE eB) r)) (uy dO) none:=R.tp (cZ (λr=>r) (su (PL Bc (ao 0 (zE eI) dO rfl)) (ahs (PL is_bool (ao 0 (zE eI) dO rfl)))) (λ_=>rfl) λ_=>rfl)
theorem G7:∀ v bs,(aZ eI aN) v bs->bs.length=1/\(hold (none)->mj (bs.map lend)=some ((zE eB) (uy v.1))):=by
 rintro⟨dO,_⟩ _ ⟨_,rfl,rfl⟩;exact⟨rfl,λh=>cM (g:=tZ) (n:=1) (bs:=[.z (eI dO)]) (Tf dO) h⟩
def nQ (dO:Int):Bool:=((uy dO)&&((decide ((1:Int)<=dO))&&(decide (dO<=(1000:Int)))))
theorem Qy (dO:Int):RP qI [some ((zE eI) dO)] (λr=>Out.rt ((zE eB) r)) (nQ dO) none:=R.tp (cZ (λr=>r) (su (x_call G7 (bW (ao 0 (zE eI) dO rfl) bx)) (ahu (acu (x_i 1) (ao 0 (zE eI) dO rfl)) (acu (ao 0 (zE eI) dO rfl) (x_i 1000)))) (λ_=>rfl) λ_=>rfl)
theorem Qz:∀ v bs,(aZ eI aN) v bs->bs.length=1/\(hold (none)->qJ (bs.map lend)=some ((zE eB) (nQ v.1))):=by
 rintro⟨dO,_⟩ _ ⟨_,rfl,rfl⟩;exact⟨rfl,λh=>cM (g:=qI) (n:=1) (bs:=[.z (eI dO)]) (Qy dO) h⟩
def pI (dO:bh) (Qx:Int):Bool:=((is_tuple (bw dO))&&(decide ((3:Int)=Qx)))
theorem MF (dO:bh) (Qx:Int):RP lZ [some ((zE bw) dO),some ((zE eI) Qx)] (λr=>Out.rt ((zE eB) r)) (pI dO Qx) none:=R.tp (cZ (λr=>r) (su (PL is_tuple (ao 0 (zE bw) dO rfl)) (x_eq (by decide) (Z0 (ao 0 (zE bw) dO rfl) 3 λ_=>⟨_,rfl,rfl⟩) (ao 1 (zE eI) Qx rfl))) (λ_=>rfl) λ_=>rfl)
theorem MJ:∀ v bs,(aZ bw (aZ eI aN)) v bs->bs.length=2/\(hold (none)->jT (bs.map lend)=some ((zE eB) (pI v.1 v.2.1))):=by
 rintro⟨dO,Qx,_⟩ _ ⟨_,rfl,⟨_,rfl,rfl⟩⟩;exact⟨rfl,λh=>cM (g:=lZ) (n:=2) (bs:=[.z (bw dO),.z (eI Qx)]) (MF dO Qx) h⟩
def lK (dO:Str) (va8:Str) (va9:Int):Bool:=((xT (eS dO))&&(((decide ((1:Int)<=(dO.length:Int)))&&(decide ((dO.length:Int)<=va9)))&&(((chars dO).map λvaa:Str=>(Js vaa va8)).all id)))
def pJ (dO:Str) (va8:Str) (va9:Int):Prop:=((xT (eS dO))=true->(((decide ((1:Int)<=(dO.length:Int)))&&(decide ((dO.length:Int)<=va9)))=true->(chars dO).length<=100000))
theorem MK (dO:Str) (va8:Str) (va9:Int):RP oZ [some ((zE eS) dO),some ((zE eS) va8),some ((zE eI) va9)] (λr=>Out.rt ((zE eB) r)) (lK dO va8 va9) (some (pJ dO va8 va9)):=R.tp (cZ (λr=>r) (su (PL xT (ao 0 (zE eS) dO rfl)) (su (ahu (acu (x_i 1) (Sw (ao 0 (zE eS) dO rfl))) (acu (Sw (ao 0 (zE eS) dO rfl)) (ao 2 (zE eI) va9 rfl))) (Zy (kj (qC (ajb (ao 0 (zE eS) dO rfl)) _ (λ_=>rfl) (λvaa:Str=>(ahx (ao 1 (zE eS) vaa rfl) (ao 0 (zE eS) va8 rfl))) λ_=>rfl))))) (λ_=>rfl) λ_=>rfl)
theorem MN:∀ v bs,(aZ eS (aZ eS (aZ eI aN))) v bs->bs.length=3/\(hold (some (pJ v.1 v.2.1 v.2.2.1))->o7 (bs.map lend)=some ((zE eB) (lK v.1 v.2.1 v.2.2.1))):=by
 rintro⟨dO,va8,va9,_⟩ _ ⟨_,rfl,⟨_,rfl,⟨_,rfl,rfl⟩⟩⟩;exact⟨rfl,λh=>cM (g:=oZ) (n:=3) (bs:=[.z (eS dO),.z (eS va8),.z (eI va9)]) (MK dO va8 va9) h⟩
def j9 (dO:Str):Bool:=(lK dO ("abcdefghijklmnopqrstuvwxyz" : Str) (8:Int))
def sU (dO:Str):Prop:=(pJ dO ("abcdefghijklmnopqrstuvwxyz" : Str) (8:Int))
theorem WX (dO:Str):RP wG [some ((zE eS) dO)] (λr=>Out.rt ((zE eB) r)) (j9 dO) (some (sU dO)):=R.tp (cZ (λr=>r) (x_call MN (bW (ao 0 (zE eS) dO rfl) (bW (x_s "abcdefghijklmnopqrstuvwxyz") (bW (x_i 8) bx)))) (λ_=>rfl) λ_=>rfl)
theorem J3:∀ v bs,(aZ eS aN) v bs->bs.length=1/\(hold (some (sU v.1))->sI (bs.map lend)=some ((zE eB) (j9 v.1))):=by
 rintro⟨dO,_⟩ _ ⟨_,rfl,rfl⟩;exact⟨rfl,λh=>cM (g:=wG) (n:=1) (bs:=[.z (eS dO)]) (WX dO) h⟩
def Aa (dO:bh):Bool:=(if(!(pI dO (3:Int)))=true then false else(let q1:=dO;((j9 q1.1)&&((j9 q1.2.1)&&((vK q1.1 q1.2.1)&&((uy q1.2.2)&&(decide ((0:Int)<=q1.2.2))))))))
def G8 (dO:bh):Prop:=((!(pI dO (3:Int)))=false->(let q1:=dO;((sU q1.1)/\((j9 q1.1)=true->(sU q1.2.1)))))
theorem aaf (dO:bh):RP zW [some ((zE bw) dO),none,none,none] (λr=>Out.rt ((zE eB) r)) (Aa dO) (some (G8 dO)):=R.tp (jY (PK (Wu (x_call MJ (bW (ao 0 (zE bw) dO rfl) (bW (x_i 3) bx))))) (aY (cZ (λr=>r) (rZ (.bl false) eB false rfl) (λ_=>rfl) λ_=>rfl)) (bR (Gn (ao 0 (zE bw) dO rfl) _ (λ_=>rfl) λq1=>(cZ (λr=>r) (su (x_call J3 (bW (ao 1 (zE eS) q1.1 rfl) bx)) (su (x_call J3 (bW (ao 2 (zE eS) q1.2.1 rfl) bx)) (su (ady (ao 1 (zE eS) q1.1 rfl) (ao 2 (zE eS) q1.2.1 rfl)) (su (x_call G7 (bW (ao 3 (zE eI) q1.2.2 rfl) bx)) (x_ge (ao 3 (zE eI) q1.2.2 rfl) (x_i 0)))))) (λ_=>rfl) λ_=>rfl))))
theorem aag:∀ v bs,(aZ bw aN) v bs->bs.length=1/\(hold (some (G8 v.1))->zX (bs.map lend)=some ((zE eB) (Aa v.1))):=by
 rintro⟨dO,_⟩ _ ⟨_,rfl,rfl⟩;exact⟨rfl,λh=>cM (g:=zW) (n:=4) (bs:=[.z (bw dO)]) (aaf dO) h⟩
def eY (dO:aF):Bool:=((ux dO (4:Int))&&((nQ dO.1)&&(Aa (dO.2.1,dO.2.2.1,dO.2.2.2))))
def gU (dO:aF):Prop:=((ux dO (4:Int))=true->((nQ dO.1)=true->(G8 (dO.2.1,dO.2.2.1,dO.2.2.2))))
theorem QC (dO:aF):RP qK [some ((zE aG) dO)] (λr=>Out.rt ((zE eB) r)) (eY dO) (some (gU dO)):=R.tp (cZ (λr=>r) (su (x_call Te (bW (ao 0 (zE aG) dO rfl) (bW (x_i 4) bx))) (su (x_call Qz (bW (dX (ao 0 (zE aG) dO rfl) (λq=>q.1) eI 0 λ_=>rfl) bx)) (x_call aag (bW (pW (ahw (ao 0 (zE aG) dO rfl) (λq=>(q.2.1,q.2.2.1,q.2.2.2)) bw (some (1:Int)) none rfl rfl λ_=>rfl)) bx)))) (λ_=>rfl) λ_=>rfl)
theorem QD:∀ v bs,(aZ aG aN) v bs->bs.length=1/\(hold (some (gU v.1))->qL (bs.map lend)=some ((zE eB) (eY v.1))):=by
 rintro⟨dO,_⟩ _ ⟨_,rfl,rfl⟩;exact⟨rfl,λh=>cM (g:=qK) (n:=1) (bs:=[.z (aG dO)]) (QC dO) h⟩
def qb (vn:jD) (vt:aF):Unit:=(if((!(eY vt))||(!gB vt vn.2.1))=true then default else())
def jW (vn:jD) (vt:aF):Prop:=((gU vt)/\(((!(eY vt))||(!gB vt vn.2.1))=true->False))
theorem yt (vn:jD) (vt:aF):RP ig [some ((zE cU) vn),some ((zE aG) vt)] (λ_:Unit=>Out.nx [some ((zE cU) vn),some ((zE aG) vt)]) (qb vn vt) (some (jW vn vt)):=R.tp (aY (jY (Wv (PK (Wu (x_call QD (bW (ao 1 (zE aG) vt rfl) bx)))) (cV (acH (by decide) (ao 1 (zE aG) vt rfl) (dX (ao 0 (zE cU) vn rfl) (λq=>q.2.1) (eT aG) 1 λ_=>rfl)))) (aY acM) (bR (bR (bJ () rfl)))))
theorem yu:∀ v bs,(aZ cU (aZ aG aN)) v bs->bs.length=2/\(hold (some (jW v.1 v.2.1))->iu (bs.map lend)=some ((zE eN) (qb v.1 v.2.1))):=by
 rintro⟨vn,vt,_⟩ _ ⟨_,rfl,⟨_,rfl,rfl⟩⟩;exact⟨rfl,λh=>acO (g:=ig) (n:=2) (bs:=[.z (cU vn),.z (aG vt)]) (yt vn vt).r h⟩
def gj (vt:aF) (vq:Str):(Option Str):=(if(decide (vt.2.1=vq))=true then(some vt.2.2.1) else(if(decide (vt.2.2.1=vq))=true then(some vt.2.1) else none))
theorem QF (vt:aF) (vq:Str):RP jZ [some ((zE aG) vt),some ((zE eS) vq)] (λr=>Out.rt ((zE (eO eS)) r)) (gj vt vq) none:=R.tp (jY (cV (x_eq (by decide) (dX (ao 0 (zE aG) vt rfl) (λq=>q.2.1) eS 1 λ_=>rfl) (ao 1 (zE eS) vq rfl))) (aY (cZ (λr=>r) (yc (dX (ao 0 (zE aG) vt rfl) (λq=>q.2.2.1) eS 2 λ_=>rfl)) (λ_=>rfl) λ_=>rfl)) (bR (jY (cV (x_eq (by decide) (dX (ao 0 (zE aG) vt rfl) (λq=>q.2.2.1) eS 2 λ_=>rfl) (ao 1 (zE eS) vq rfl))) (aY (cZ (λr=>r) (yc (dX (ao 0 (zE aG) vt rfl) (λq=>q.2.1) eS 1 λ_=>rfl)) (λ_=>rfl) λ_=>rfl)) (bR (cZ (λr=>r) Ln (λ_=>rfl) λ_=>rfl)))))
theorem QG:∀ v bs,(aZ aG (aZ eS aN)) v bs->bs.length=2/\(hold (none)->jo (bs.map lend)=some ((zE (eO eS)) (gj v.1 v.2.1))):=by
 rintro⟨vt,vq,_⟩ _ ⟨_,rfl,⟨_,rfl,rfl⟩⟩;exact⟨rfl,λh=>cM (g:=jZ) (n:=2) (bs:=[.z (aG vt),.z (eS vq)]) (QF vt vq) h⟩
def eZ (vt:(Option aF)) (vq:Str):Dt:=(if(eqX (eS (vt.getD default).2.1) (eS vq))=true then(eS (vt.getD default).2.2.1) else(if(eqX (eS (vt.getD default).2.2.1) (eS vq))=true then(eS (vt.getD default).2.1) else Dt.non))
def nj (vt:(Option aF)) (vq:Str):Prop:=((vt.isSome=true/\EqX (eS (vt.getD default).2.1) (eS vq))/\(((eqX (eS (vt.getD default).2.1) (eS vq))=true->vt.isSome=true)/\((eqX (eS (vt.getD default).2.1) (eS vq))=false->((vt.isSome=true/\EqX (eS (vt.getD default).2.2.1) (eS vq))/\((eqX (eS (vt.getD default).2.2.1) (eS vq))=true->vt.isSome=true)))))
theorem Ja (vt:(Option aF)) (vq:Str):RP jZ [some ((zE (eO aG)) vt),some ((zE eS) vq)] (λr=>Out.rt ((zE eD) r)) (eZ vt vq) (some (nj vt vq)):=R.tp (jY (cV (adz (uF (dX (zF (ao 0 (zE (eO aG)) vt rfl)) (λq=>q.2.1) eS 1 λ_=>rfl)) (uF (ao 1 (zE eS) vq rfl)))) (aY (cZ (λr=>r) (uF (dX (zF (ao 0 (zE (eO aG)) vt rfl)) (λq=>q.2.2.1) eS 2 λ_=>rfl)) (λ_=>rfl) λ_=>rfl)) (bR (jY (cV (adz (uF (dX (zF (ao 0 (zE (eO aG)) vt rfl)) (λq=>q.2.2.1) eS 2 λ_=>rfl)) (uF (ao 1 (zE eS) vq rfl)))) (aY (cZ (λr=>r) (uF (dX (zF (ao 0 (zE (eO aG)) vt rfl)) (λq=>q.2.1) eS 1 λ_=>rfl)) (λ_=>rfl) λ_=>rfl)) (bR (cZ (λr=>r) (x_k .non) (λ_=>rfl) λ_=>rfl)))))
theorem Jb:∀ v bs,(aZ (eO aG) (aZ eS aN)) v bs->bs.length=2/\(hold (some (nj v.1 v.2.1))->jo (bs.map lend)=some ((zE eD) (eZ v.1 v.2.1))):=by
 rintro⟨vt,vq,_⟩ _ ⟨_,rfl,⟨_,rfl,rfl⟩⟩;exact⟨rfl,λh=>cM (g:=jZ) (n:=2) (bs:=[.z ((eO aG) vt),.z (eS vq)]) (Ja vt vq) h⟩
def fj (oK:(List (Str×(Option aF)))) (s1:(List aF)×Str):ji ((List aF)×Str) (List aF):=(let vai:=s1.1++[((look oK s1.2).getD default)];(let Ab:=(Ww (eZ (look oK s1.2) s1.2));(ji.nx (vai,Ab))))
def rG (oK:(List (Str×(Option aF)))) (s1:(List aF)×Str):Prop:=(((has oK s1.2=true/\(look oK s1.2).isSome=true)/\Ht s1.1.length)/\(let vai:=s1.1++[((look oK s1.2).getD default)];((has oK s1.2=true/\(nj (look oK s1.2) s1.2))/\(eZ (look oK s1.2) s1.2)=eS (Ww (eZ (look oK s1.2) s1.2)))))
theorem Jc (oK:(List (Str×(Option aF)))) (qR:Str) (s1:(List aF)×Str):RP xG [some ((nE (eO aG)) oK),some ((zE eS) qR),some ((oE aG) s1.1),some ((zE eS) s1.2)] (cC (λs1:(List aF)×Str=>[some ((nE (eO aG)) oK),some ((zE eS) qR),some ((oE aG) s1.1),some ((zE eS) s1.2)]) (oE aG)) (fj oK s1 ) (some (rG oK s1 )):=R.tp (aY (Cd 2 s1.1 rfl (zF (lX (ao 0 (nE (eO aG)) oK rfl) (ao 3 (zE eS) s1.2 rfl))) λvai=>(aY (cF 3 (Ls (x_call Jb (bW (lX (ao 0 (nE (eO aG)) oK rfl) (ao 3 (zE eS) s1.2 rfl)) (bW (ao 3 (zE eS) s1.2 rfl) bx))) Ww eS) (λ_=>rfl) λAb=>(bR (bJ (.nx (vai,Ab)) rfl))))))
def yw (oK:(List (Str×(Option aF)))) (qR:Str):(List aF):=(let vai:=([]:List aF);(let Ab:=qR;(behind (Q5 (λs1:(List aF)×Str=>(look oK s1.2).isSome) (λs1:(List aF)×Str=>((fj oK s1):ji ((List aF)×Str) (List aF))) 70 (vai,Ab)) (λr=>r) λs1:(List aF)×Str=>s1.1)))
def yx (oK:(List (Str×(Option aF)))) (qR:Str):Prop:=(let vai:=([]:List aF);(let Ab:=qR;(whD (λs1:(List aF)×Str=>(look oK s1.2).isSome) (λs1:(List aF)×Str=>some (has oK s1.2=true)) (λs1:(List aF)×Str=>((fj oK s1):ji ((List aF)×Str) (List aF))) (λs1:(List aF)×Str=>some (rG oK s1)) 70 (vai,Ab)/\(jP (Q5 (λs1:(List aF)×Str=>(look oK s1.2).isSome) (λs1:(List aF)×Str=>((fj oK s1):ji ((List aF)×Str) (List aF))) 70 (vai,Ab)) λs1:(List aF)×Str=>True))))
theorem Tg (oK:(List (Str×(Option aF)))) (qR:Str):RP uc [some ((nE (eO aG)) oK),some ((zE eS) qR),none,none] (λr=>Out.rt ((oE aG) r)) (yw oK qR) (some (yx oK qR)):=R.tp (cF 2 (lq (eF aG) (zC rfl)) (λ_=>rfl) λvai=>(cF 3 (ao 1 (zE eS) qR rfl) (λ_=>rfl) λAb=>(U7 70 (λs1:(List aF)×Str=>[some ((nE (eO aG)) oK),some ((zE eS) qR),some ((oE aG) s1.1),some ((zE eS) s1.2)]) (vai,Ab) rfl (λs1:(List aF)×Str=>(cV (Lr (lX (ao 0 (nE (eO aG)) oK rfl) (ao 3 (zE eS) s1.2 rfl)) λ_=>rfl))) (λs1:(List aF)×Str=>((Jc oK qR s1).r:R _ _ (cC (λs1:(List aF)×Str=>[some ((nE (eO aG)) oK),some ((zE eS) qR),some ((oE aG) s1.1),some ((zE eS) s1.2)]) (oE aG)))) (λr=>r) (λ_=>rfl) λs1=>(Sy 2 (λr=>r) s1.1 rfl (λ_=>rfl) λ_=>rfl))))
theorem Ti:∀ v bs,(aM (eO aG) (aZ eS aN)) v bs->bs.length=2/\(hold (some (yx v.1 v.2.1))->ud (bs.map lend)=some ((oE aG) (yw v.1 v.2.1))):=by
 rintro⟨oK,qR,_⟩ _ ⟨_,_,rfl,(rfl|rfl),⟨_,rfl,rfl⟩⟩
 all_goals exact⟨rfl,λh=>cM (g:=uc) (n:=4) (bs:=[nE (eO aG) oK,.z (eS qR)]) (Tg oK qR) h⟩
def cQ (Ab:Str) (s2:(List (Str×(Option aF)))×LS_) (vt:aF):(List (Str×(Option aF)))×LS_:=(let Nj:=(gj vt Ab);(let s3:(List (Str×(Option aF)))×LS_:=(if(Nj.isSome&&(!has s2.1 (Nj.getD default)))=true then(let oK:=put s2.1 (Nj.getD default) (some vt);(let Q6:=s2.2++[(Nj.getD default)];(oK,Q6))) else(s2.1,s2.2));(s3.1,s3.2)))
def qT (Ab:Str) (s2:(List (Str×(Option aF)))×LS_) (vt:aF):Prop:=(let Nj:=(gj vt Ab);((Nj.isSome=true->Nj.isSome=true)/\((Nj.isSome&&(!has s2.1 (Nj.getD default)))=true->((Nj.isSome=true/\s2.1.length < 1000)/\(let oK:=put s2.1 (Nj.getD default) (some vt);(Nj.isSome=true/\Ht s2.2.length))))))
theorem QH (vu:List aF) {iK:Bx} (lQ:Lp iK (vu.map aG)) (Cr:Str) (qR:Str) (Ab:Str) (s2:(List (Str×(Option aF)))×LS_) (vt:aF):RP Cp [some iK,some ((zE eS) Cr),some ((zE eS) qR),some ((mE (eO aG)) s2.1),some ((oE eS) s2.2),some ((zE eS) Ab),some ((zE aG) vt),none] (λs=>Out.nx ((λs2:(List (Str×(Option aF)))×LS_=>[some iK,some ((zE eS) Cr),some ((zE eS) qR),some ((mE (eO aG)) s2.1),some ((oE eS) s2.2),some ((zE eS) Ab),none,none]) s)) (cQ Ab s2 vt) (some (qT Ab s2 vt)):=R.tp (aY (cF 7 (x_call QG (bW (ao 6 (zE aG) vt rfl) (bW (ao 5 (zE eS) Ab rfl) bx))) (λ_=>rfl) λNj=>(aY (zG (λs3:(List (Str×(Option aF)))×LS_=>[some iK,some ((zE eS) Cr),some ((zE eS) qR),some ((mE (eO aG)) s3.1),some ((oE eS) s3.2),some ((zE eS) Ab),some ((zE aG) vt),some ((zE (eO eS)) Nj)]) (JR (cV (Lr (ao 7 (zE (eO eS)) Nj rfl) λ_=>rfl)) (cV (ZX (zF (ao 7 (zE (eO eS)) Nj rfl)) (ao 3 (nE (eO aG)) s2.1 rfl)))) (aY (U6 none 3 s2.1 rfl (yc (ao 6 (zE aG) vt rfl)) (zF (ao 7 (zE (eO eS)) Nj rfl)) λoK=>(aY (Cd 4 s2.2 rfl (zF (ao 7 (zE (eO eS)) Nj rfl)) λQ6=>(bR (bJ (oK,Q6) rfl)))))) (bR (bJ (s2.1,s2.2) rfl)) λs3=>(bR (bJ (s3.1,s3.2) rfl))))))
def gW (vu:List aF) (s1:LS_×(List (Str×(Option aF)))):ji (LS_×(List (Str×(Option aF)))) (Option (List aF)):=(let y4:=s1.1;let Q6:=y4.drop 1;let Ab:=at' y4 0;(let s2:(List (Str×(Option aF)))×LS_:=(vu.foldl (λ(s2:(List (Str×(Option aF)))×LS_) (vt:aF)=>(cQ Ab s2 vt)) (s1.2,Q6));(ji.nx (s2.2,s2.1))))
def vU (vu:List aF) (s1:LS_×(List (Str×(Option aF)))):Prop:=(((0:Int)=0/\0 < s1.1.length)/\(let y4:=s1.1;let Q6:=y4.drop 1;let Ab:=at' y4 0;tW (λ(s2:(List (Str×(Option aF)))×LS_) (vt:aF)=>(cQ Ab s2 vt)) (λ(s2:(List (Str×(Option aF)))×LS_) (vt:aF)=>some (qT Ab s2 vt)) vu (s1.2,Q6)))
theorem QJ (vu:List aF) {iK:Bx} (lQ:Lp iK (vu.map aG)) (Cr:Str) (qR:Str) (s1:LS_×(List (Str×(Option aF)))):RP Cq [some iK,some ((zE eS) Cr),some ((zE eS) qR),some ((mE (eO aG)) s1.2),some ((oE eS) s1.1),none,none,none] (cC (λs1:LS_×(List (Str×(Option aF)))=>[some iK,some ((zE eS) Cr),some ((zE eS) qR),some ((mE (eO aG)) s1.2),some ((oE eS) s1.1),none,none,none]) (zE (eO (eL aG)))) (gW vu s1 ) (some (vU vu s1 )):=R.tp (aY (afF 5 4 s1.1 rfl (x_i 0) λQ6 Ab=>(aY (LC 0 vu (afz lQ rfl) (λs2:(List (Str×(Option aF)))×LS_=>[some iK,some ((zE eS) Cr),some ((zE eS) qR),some ((mE (eO aG)) s2.1),some ((oE eS) s2.2),some ((zE eS) Ab),none,none]) (s1.2,Q6) rfl _ (λ_ _=>rfl) (λ(s2:(List (Str×(Option aF)))×LS_) (vt:aF)=>(QH vu lQ Cr qR Ab s2 vt).r) λs2=>(bR (bJ (.nx (s2.2,s2.1)) rfl))))))
def nR (vu:List aF) (Cr:Str) (qR:Str):(Option (List aF)):=(let oK:=([(Cr,none)]:(List (Str×(Option aF))));(let Q6:=[Cr];(behind (Q5 (λs1:LS_×(List (Str×(Option aF)))=>(!s1.1.isEmpty)) (λs1:LS_×(List (Str×(Option aF)))=>((gW vu s1):ji (LS_×(List (Str×(Option aF)))) (Option (List aF)))) 70 (Q6,oK)) (λr=>r) λs1:LS_×(List (Str×(Option aF)))=>(if(!has s1.2 qR)=true then none else(some (yw s1.2 qR).reverse)))))
def nT (vu:List aF) (Cr:Str) (qR:Str):Prop:=(let oK:=([(Cr,none)]:(List (Str×(Option aF))));(let Q6:=[Cr];(whD (λs1:LS_×(List (Str×(Option aF)))=>(!s1.1.isEmpty)) (λs1:LS_×(List (Str×(Option aF)))=>none) (λs1:LS_×(List (Str×(Option aF)))=>((gW vu s1):ji (LS_×(List (Str×(Option aF)))) (Option (List aF)))) (λs1:LS_×(List (Str×(Option aF)))=>some (vU vu s1)) 70 (Q6,oK)/\(jP (Q5 (λs1:LS_×(List (Str×(Option aF)))=>(!s1.1.isEmpty)) (λs1:LS_×(List (Str×(Option aF)))=>((gW vu s1):ji (LS_×(List (Str×(Option aF)))) (Option (List aF)))) 70 (Q6,oK)) λs1:LS_×(List (Str×(Option aF)))=>((!has s1.2 qR)=false->(yx s1.2 qR))))))
theorem aai (vu:List aF) {iK:Bx} (lQ:Lp iK (vu.map aG)) (Cr:Str) (qR:Str):RP zY [some iK,some ((zE eS) Cr),some ((zE eS) qR),none,none,none,none,none] (λr=>Out.rt ((zE (eO (eL aG))) r)) (nR vu Cr qR) (some (nT vu Cr qR)):=R.tp (cF 3 (acN (ao 1 (zE eS) Cr rfl) Ln) (λ_=>rfl) λoK=>(cF 4 (lq (cH (ao 1 (zE eS) Cr rfl) (eF eS)) (zC rfl)) (λ_=>rfl) λQ6=>(U7 70 (λs1:LS_×(List (Str×(Option aF)))=>[some iK,some ((zE eS) Cr),some ((zE eS) qR),some ((mE (eO aG)) s1.2),some ((oE eS) s1.1),none,none,none]) (Q6,oK) rfl (λs1:LS_×(List (Str×(Option aF)))=>(aht (jh (ao 4 (lE eS) s1.1 rfl)))) (λs1:LS_×(List (Str×(Option aF)))=>((QJ vu lQ Cr qR s1).r:R _ _ (cC (λs1:LS_×(List (Str×(Option aF)))=>[some iK,some ((zE eS) Cr),some ((zE eS) qR),some ((mE (eO aG)) s1.2),some ((oE eS) s1.1),none,none,none]) (zE (eO (eL aG)))))) (λr=>r) (λ_=>rfl) λs1=>(jY (cV (ZX (ao 2 (zE eS) qR rfl) (ao 3 (nE (eO aG)) s1.2 rfl))) (aY (cZ (λr=>r) Ln (λ_=>rfl) λ_=>rfl)) (bR (cZ (λr=>r) (yc (acs (afH (kj (x_call Ti (acC (ao 3 (nE (eO aG)) s1.2 rfl) (bW (ao 2 (zE eS) qR rfl) bx))))))) (λ_=>rfl) λ_=>rfl))))))
theorem vV:∀ v bs,(aL aG (aZ eS (aZ eS aN))) v bs->bs.length=3/\(hold (some (nT v.1 v.2.1 v.2.2.1))->lB (bs.map lend)=some ((zE (eO (eL aG))) (nR v.1 v.2.1 v.2.2.1))):=by
 rintro⟨vu,Cr,qR,_⟩ _ ⟨iK,_,rfl,lQ,⟨_,rfl,⟨_,rfl,rfl⟩⟩⟩;exact⟨rfl,λh=>cM (g:=zY) (n:=8) (bs:=[lend iK,.z (eS Cr),.z (eS qR)]) (aai vu (JQ lQ) Cr qR) h⟩
def gF (vr:List aF) (vt:aF) (vy:bh):Dt:=(let vw:=(nR vr vt.2.1 vy.1);(if vw.isSome=true then(Dt.tup [((eO (eL aG)) vw),((eO (eL aG)) (nR vr vt.2.2.1 vy.2.1))]) else(Dt.tup [((eO (eL aG)) (nR vr vt.2.1 vy.2.1)),((eO (eL aG)) (nR vr vt.2.2.1 vy.1))])))
def rH (vr:List aF) (vt:aF) (vy:bh):Prop:=((nT vr vt.2.1 vy.1)/\(let vw:=(nR vr vt.2.1 vy.1);((vw.isSome=true->(nT vr vt.2.2.1 vy.2.1))/\(vw.isSome=false->((nT vr vt.2.1 vy.2.1)/\(nT vr vt.2.2.1 vy.1))))))
theorem Jd (vr:List aF) {iK:Bx} (lQ:Lp iK (vr.map aG)) (vt:aF) (vy:bh):RP mV [some iK,some ((zE aG) vt),some ((zE bw) vy),none] (λr=>Out.rt ((zE eD) r)) (gF vr vt vy) (some (rH vr vt vy)):=R.tp (cF 3 (x_call vV (CV (nG 0 aG vr lQ rfl) (bW (dX (ao 1 (zE aG) vt rfl) (λq=>q.2.1) eS 1 λ_=>rfl) (bW (dX (ao 2 (zE bw) vy rfl) (λq=>q.1) eS 0 λ_=>rfl) bx)))) (λ_=>rfl) λvw=>(jY (cV (Lr (ao 3 (zE (eO (eL aG))) vw rfl) λ_=>rfl)) (aY (cZ (λr=>r) (Gj (cH (uF (ao 3 (zE (eO (eL aG))) vw rfl)) (cH (uF (pW (x_call vV (CV (nG 0 aG vr lQ rfl) (bW (dX (ao 1 (zE aG) vt rfl) (λq=>q.2.2.1) eS 2 λ_=>rfl) (bW (dX (ao 2 (zE bw) vy rfl) (λq=>q.2.1) eS 1 λ_=>rfl) bx)))))) (eF eD))) (zC rfl)) (λ_=>rfl) λ_=>rfl)) (bR (cZ (λr=>r) (Gj (cH (uF (pW (x_call vV (CV (nG 0 aG vr lQ rfl) (bW (dX (ao 1 (zE aG) vt rfl) (λq=>q.2.1) eS 1 λ_=>rfl) (bW (dX (ao 2 (zE bw) vy rfl) (λq=>q.2.1) eS 1 λ_=>rfl) bx)))))) (cH (uF (pW (x_call vV (CV (nG 0 aG vr lQ rfl) (bW (dX (ao 1 (zE aG) vt rfl) (λq=>q.2.2.1) eS 2 λ_=>rfl) (bW (dX (ao 2 (zE bw) vy rfl) (λq=>q.1) eS 0 λ_=>rfl) bx)))))) (eF eD))) (zC rfl)) (λ_=>rfl) λ_=>rfl))))
theorem Je:∀ v bs,(aL aG (aZ aG (aZ bw aN))) v bs->bs.length=3/\(hold (some (rH v.1 v.2.1 v.2.2.1))->mX (bs.map lend)=some ((zE eD) (gF v.1 v.2.1 v.2.2.1))):=by
 rintro⟨vr,vt,vy,_⟩ _ ⟨iK,_,rfl,lQ,⟨_,rfl,⟨_,rfl,rfl⟩⟩⟩;exact⟨rfl,λh=>cM (g:=mV) (n:=4) (bs:=[lend iK,.z (aG vt),.z (bw vy)]) (Jd vr (JQ lQ) vt vy) h⟩
def iH (vt:aF) (vr:List aF) (s2:Unit) (q3:dU):ji (Unit) Dt:=(if(decide (q3.1=vt))=true then(ji.rt (Dt.tup (U0 (Dt.tup [(Dt.str "barred"),((eO bw) q3.2)])++U0 (gF vr vt (q3.2.getD default))))) else(ji.nx ()))
def Ad (vt:aF) (vr:List aF) (s2:Unit) (q3:dU):Prop:=((decide (q3.1=vt))=true->((q3.2.isSome=true/\(rH vr vt (q3.2.getD default)))/\(is_tuple (Dt.tup [(Dt.str "barred"),((eO bw) q3.2)])=true/\is_tuple (gF vr vt (q3.2.getD default))=true/\Ht ((U0 (Dt.tup [(Dt.str "barred"),((eO bw) q3.2)])).length+(U0 (gF vr vt (q3.2.getD default))).length))))
theorem MP (vn:jD) (vt:aF) (vab:List LS_) (vr:List aF) (vs:List dU) (s2:Unit) (q3:dU):RP zZ [some ((zE cU) vn),some ((zE aG) vt),some ((zE (eL (eT eS))) vab),some ((zE (eL aG)) vr),some ((zE (eL oM)) vs),some ((zE aG) q3.1),some ((zE (eO bw)) q3.2)] (cC (λs2:Unit=>[some ((zE cU) vn),some ((zE aG) vt),some ((zE (eL (eT eS))) vab),some ((zE (eL aG)) vr),some ((zE (eL oM)) vs),none,none]) (zE eD)) (iH vt vr s2 q3) (some (Ad vt vr s2 q3)):=R.tp (aY (jY (cV (x_eq (by decide) (ao 5 (zE aG) q3.1 rfl) (ao 1 (zE aG) vt rfl))) (aY (cZ .rt (afq (Gj (cH (x_k (.str "barred")) (cH (uF (ao 6 (zE (eO bw)) q3.2 rfl)) (eF eD))) (zC rfl)) (x_call Je (CV (tM (ao 3 (zE (eL aG)) vr rfl)) (bW (ao 1 (zE aG) vt rfl) (bW (zF (ao 6 (zE (eO bw)) q3.2 rfl)) bx))))) (λ_=>rfl) λ_=>rfl)) (bR (bR (bJ (.nx ()) rfl)))))
def dw (vn:jD) (vt:aF):Dt:=(let q1:=(aQ vn);(if(gB vt q1.2.1)=true then(Dt.tup [(Dt.str "kept")]) else(behind (jC (λ(s2:Unit) (q3:dU)=>((iH vt q1.2.1 s2 q3):ji (Unit) Dt)) q1.2.2 ()) (λr=>r) λs2:Unit=>(Dt.tup [(Dt.str "beside"),((eO (eL aG)) (nR q1.2.1 vt.2.1 vt.2.2.1))]))))
def sV (vn:jD) (vt:aF):Prop:=((jW vn vt)/\((cX vn)/\(let q1:=(aQ vn);((gB vt q1.2.1)=false->(uG (λ(s2:Unit) (q3:dU)=>((iH vt q1.2.1 s2 q3):ji (Unit) Dt)) (λ(s2:Unit) (q3:dU)=>some (Ad vt q1.2.1 s2 q3)) q1.2.2 ()/\(jP (jC (λ(s2:Unit) (q3:dU)=>((iH vt q1.2.1 s2 q3):ji (Unit) Dt)) q1.2.2 ()) λs2:Unit=>(nT q1.2.1 vt.2.1 vt.2.2.1)))))))
theorem WY (vn:jD) (vt:aF):RP wH [some ((zE cU) vn),some ((zE aG) vt),none,none,none,none,none] (λr=>Out.rt ((zE eD) r)) (dw vn vt) (some (sV vn vt)):=R.tp (afG (x_call yu (bW (ao 0 (zE cU) vn rfl) (bW (ao 1 (zE aG) vt rfl) bx))) (Gn (x_call f9 (bW (ao 0 (zE cU) vn rfl) bx)) _ (λ_=>rfl) λq1=>(jY (cV (JX (by decide) (ao 1 (zE aG) vt rfl) (tM (ao 3 (zE (eL aG)) q1.2.1 rfl)))) (aY (cZ (λr=>r) (Gj (cH (x_k (.str "kept")) (eF eD)) (zC rfl)) (λ_=>rfl) λ_=>rfl)) (bR (LK 4 q1.2.2 (ZF rfl) (λs2:Unit=>[some ((zE cU) vn),some ((zE aG) vt),some ((zE (eL (eT eS))) q1.1),some ((zE (eL aG)) q1.2.1),some ((zE (eL oM)) q1.2.2),none,none]) () rfl _ (λ_ _=>rfl) (λ(s2:Unit) (q3:dU)=>((MP vn vt q1.1 q1.2.1 q1.2.2 s2 q3).r:R _ _ (cC (λs2:Unit=>[some ((zE cU) vn),some ((zE aG) vt),some ((zE (eL (eT eS))) q1.1),some ((zE (eL aG)) q1.2.1),some ((zE (eL oM)) q1.2.2),none,none]) (zE eD)))) (λr=>r) (λ_=>rfl) λs2=>(cZ (λr=>r) (Gj (cH (x_k (.str "beside")) (cH (uF (pW (x_call vV (CV (tM (ao 3 (zE (eL aG)) q1.2.1 rfl)) (bW (dX (ao 1 (zE aG) vt rfl) (λq=>q.2.1) eS 1 λ_=>rfl) (bW (dX (ao 1 (zE aG) vt rfl) (λq=>q.2.2.1) eS 2 λ_=>rfl) bx)))))) (eF eD))) (zC rfl)) (λ_=>rfl) λ_=>rfl))))))
theorem J4:∀ v bs,(aZ cU (aZ aG aN)) v bs->bs.length=2/\(hold (some (sV v.1 v.2.1))->pN (bs.map lend)=some ((zE eD) (dw v.1 v.2.1))):=by
 rintro⟨vn,vt,_⟩ _ ⟨_,rfl,⟨_,rfl,rfl⟩⟩;exact⟨rfl,λh=>cM (g:=wH) (n:=7) (bs:=[.z (cU vn),.z (aG vt)]) (WY vn vt) h⟩
def bY (v8:jD) (va3:List aF) (vm:List aF) (s2:Unit) (nq:aF):ji (Unit) Bool:=(let va5:=(Ww (Q0 (dw v8 nq) (0:Int)));(if(!decide (va5=(at' [(at' [("beside" : Str),("barred" : Str)] (if(gB nq vm)=true then(1:Int) else 0)),("kept" : Str)] (if(gB nq va3)=true then(1:Int) else 0))))=true then(ji.rt false) else(if((gB nq va3)&&(gB nq vm))=true then(ji.rt false) else(ji.nx ()))))
def ju (v8:jD) (va3:List aF) (vm:List aF) (s2:Unit) (nq:aF):Prop:=((((sV v8 nq)/\IxD (dw v8 nq) (0:Int))/\(Q0 (dw v8 nq) (0:Int))=eS (Ww (Q0 (dw v8 nq) (0:Int))))/\(let va5:=(Ww (Q0 (dw v8 nq) (0:Int)));(In [("beside" : Str),("barred" : Str)].length (if(gB nq vm)=true then(1:Int) else 0)/\In [(at' [("beside" : Str),("barred" : Str)] (if(gB nq vm)=true then(1:Int) else 0)),("kept" : Str)].length (if(gB nq va3)=true then(1:Int) else 0))))
theorem vW (v8:jD) (vi:vN) (va2:List LS_) (va3:List aF) (va4:List dU) (vm:List aF) (s2:Unit) (nq:aF):RP nO [some ((zE cU) v8),some ((zE je) vi),some ((zE (eL (eT eS))) va2),some ((zE (eL aG)) va3),some ((zE (eL oM)) va4),some ((oE aG) vm),some ((zE aG) nq),none] (cC (λs2:Unit=>[some ((zE cU) v8),some ((zE je) vi),some ((zE (eL (eT eS))) va2),some ((zE (eL aG)) va3),some ((zE (eL oM)) va4),some ((oE aG) vm),none,none]) (zE eB)) (bY v8 va3 vm s2 nq) (some (ju v8 va3 vm s2 nq)):=R.tp (aY (cF 7 (Ls (adA (x_call J4 (bW (ao 0 (zE cU) v8 rfl) (bW (ao 6 (zE aG) nq rfl) bx))) (x_i 0)) Ww eS) (λ_=>rfl) λva5=>(aY (jY (cV (PJ (by decide) (ao 7 (zE eS) va5 rfl) (jO (kj (lq (cH (jO (kj (lq (cH (x_s "beside") (cH (x_s "barred") (eF eS))) (zC rfl))) (Sx (JX (by decide) (ao 6 (zE aG) nq rfl) (jh (ao 5 (lE aG) vm rfl))))) (cH (x_s "kept") (eF eS))) (zC rfl))) (Sx (JX (by decide) (ao 6 (zE aG) nq rfl) (tM (ao 3 (zE (eL aG)) va3 rfl))))))) (aY (cZ .rt (rZ (.bl false) eB false rfl) (λ_=>rfl) λ_=>rfl)) (bR (aY (jY (JR (cV (JX (by decide) (ao 6 (zE aG) nq rfl) (tM (ao 3 (zE (eL aG)) va3 rfl)))) (cV (JX (by decide) (ao 6 (zE aG) nq rfl) (jh (ao 5 (lE aG) vm rfl))))) (aY (cZ .rt (rZ (.bl false) eB false rfl) (λ_=>rfl) λ_=>rfl)) (bR (bR (bJ (.nx ()) rfl))))))))))
def d8 (v8:jD) (vi:vN):Bool:=(let q1:=vi;(let vm:=(q1.2.2.map λvX:dU=>vX.1);(behind (jC (λ(s2:Unit) (nq:aF)=>((bY v8 q1.2.1 vm s2 nq):ji (Unit) Bool)) v8.2.1 ()) (λr=>r) λs2:Unit=>(decide ((q1.2.1.length:Int)=((v8.1.length:Int) - (q1.1.length:Int)))))))
def iZ (v8:jD) (vi:vN):Prop:=(let q1:=vi;(q1.2.2.length<=100000/\(let vm:=(q1.2.2.map λvX:dU=>vX.1);(uG (λ(s2:Unit) (nq:aF)=>((bY v8 q1.2.1 vm s2 nq):ji (Unit) Bool)) (λ(s2:Unit) (nq:aF)=>some (ju v8 q1.2.1 vm s2 nq)) v8.2.1 ()/\(jP (jC (λ(s2:Unit) (nq:aF)=>((bY v8 q1.2.1 vm s2 nq):ji (Unit) Bool)) v8.2.1 ()) λs2:Unit=>True)))))
theorem Ae (v8:jD) (vi:vN):RP iR [some ((zE cU) v8),some ((zE je) vi),none,none,none,none,none,none] (λr=>Out.rt ((zE eB) r)) (d8 v8 vi) (some (iZ v8 vi)):=R.tp (Gn (ao 1 (zE je) vi rfl) _ (λ_=>rfl) λq1=>(cF 5 (qC (Ly (tM (ao 4 (zE (eL oM)) q1.2.2 rfl))) _ (λ_=>rfl) (λvX:dU=>(dX (ao 0 (zE oM) vX rfl) (λq=>q.1) aG 0 λ_=>rfl)) λ_=>rfl) (λ_=>rfl) λvm=>(ZD (λs2:Unit=>[some ((zE cU) v8),some ((zE je) vi),some ((zE (eL (eT eS))) q1.1),some ((zE (eL aG)) q1.2.1),some ((zE (eL oM)) q1.2.2),some ((oE aG) vm),none,none]) () rfl (ajd (dX (ao 0 (zE cU) v8 rfl) (λq=>q.2.1) (eT aG) 1 λ_=>rfl)) _ (λ_ _=>rfl) (λ(s2:Unit) (nq:aF)=>((vW v8 vi q1.1 q1.2.1 q1.2.2 vm s2 nq).r:R _ _ (cC (λs2:Unit=>[some ((zE cU) v8),some ((zE je) vi),some ((zE (eL (eT eS))) q1.1),some ((zE (eL aG)) q1.2.1),some ((zE (eL oM)) q1.2.2),some ((oE aG) vm),none,none]) (zE eB)))) (λr=>r) (λ_=>rfl) λs2=>(cZ (λr=>r) (x_eq (by decide) (x_len (tM (ao 3 (zE (eL aG)) q1.2.1 rfl))) (Zm (afs (dX (ao 0 (zE cU) v8 rfl) (λq=>q.1) (eT eS) 0 λ_=>rfl)) (x_len (tM (ao 2 (zE (eL (eT eS))) q1.1 rfl))))) (λ_=>rfl) λ_=>rfl))))
theorem Af:∀ v bs,(aZ cU (aZ je aN)) v bs->bs.length=2/\(hold (some (iZ v.1 v.2.1))->iT (bs.map lend)=some ((zE eB) (d8 v.1 v.2.1))):=by
 rintro⟨v8,vi,_⟩ _ ⟨_,rfl,⟨_,rfl,rfl⟩⟩;exact⟨rfl,λh=>cM (g:=iR) (n:=8) (bs:=[.z (cU v8),.z (je vi)]) (Ae v8 vi) h⟩
def dG  (v6:List LS_) (q1:aF):(List LS_):=(let Vc:=(at' ((v6.filter λval:LS_=>(decide (q1.2.1∈val))).map λval:LS_=>val) (0:Int));(let Cu:=(at' ((v6.filter λval:LS_=>(decide (q1.2.2.1∈val))).map λval:LS_=>val) (0:Int));(let v6:(List LS_):=(if(!decide (Vc=Cu))=true then(let v6:=(((v6.filter λval:LS_=>(!gB val [Vc,Cu])).map λval:LS_=>val)++[(qu (Vc++Cu))]);v6) else v6);v6)))
def jw  (v6:List LS_) (q1:aF):Prop:=((v6.length<=100000/\In ((v6.filter λval:LS_=>(decide (q1.2.1∈val))).map λval:LS_=>val).length (0:Int))/\(let Vc:=(at' ((v6.filter λval:LS_=>(decide (q1.2.1∈val))).map λval:LS_=>val) (0:Int));((v6.length<=100000/\In ((v6.filter λval:LS_=>(decide (q1.2.2.1∈val))).map λval:LS_=>val).length (0:Int))/\(let Cu:=(at' ((v6.filter λval:LS_=>(decide (q1.2.2.1∈val))).map λval:LS_=>val) (0:Int));((!decide (Vc=Cu))=true->((v6.length<=100000/\(Ht (Vc.length+Cu.length)/\(Vc++Cu).length < 64))/\Ht (((v6.filter λval:LS_=>(!gB val [Vc,Cu])).map λval:LS_=>val).length+[(qu (Vc++Cu))].length)))))))
theorem G9 (vd:LS_) (va:List aF) (v6:List LS_) (q1:aF):RP vO [some ((zE (eT eS)) vd),some ((zE (eT aG)) va),some ((oE (eL eS)) v6),some ((zE eI) q1.1),some ((zE eS) q1.2.1),some ((zE eS) q1.2.2.1),some ((zE eI) q1.2.2.2),none,none] (λs=>Out.nx ((λv6:(List LS_)=>[some ((zE (eT eS)) vd),some ((zE (eT aG)) va),some ((oE (eL eS)) v6),none,none,none,none,none,none]) s)) (dG  v6 q1) (some (jw  v6 q1)):=R.tp (aY (cF 7 (jO (kj (pX (Ly (jh (ao 2 (lE (eL eS)) v6 rfl))) _ (λ_=>rfl) (λval:LS_=>(cV (afu (ao 0 (zE eS) q1.2.1 rfl) (tM (ao 1 (zE (eL eS)) val rfl))))) (λval:LS_=>(ao 1 (zE (eL eS)) val rfl)) (λ_=>rfl) λ_=>rfl)) (x_i 0)) (λ_=>rfl) λVc=>(aY (cF 8 (jO (kj (pX (Ly (jh (ao 2 (lE (eL eS)) v6 rfl))) _ (λ_=>rfl) (λval:LS_=>(cV (afu (ao 0 (zE eS) q1.2.2.1 rfl) (tM (ao 1 (zE (eL eS)) val rfl))))) (λval:LS_=>(ao 1 (zE (eL eS)) val rfl)) (λ_=>rfl) λ_=>rfl)) (x_i 0)) (λ_=>rfl) λCu=>(aY (zG (λv6:(List LS_)=>[some ((zE (eT eS)) vd),some ((zE (eT aG)) va),some ((oE (eL eS)) v6),some ((zE eI) q1.1),some ((zE eS) q1.2.1),some ((zE eS) q1.2.2.1),some ((zE eI) q1.2.2.2),some ((zE (eL eS)) Vc),some ((zE (eL eS)) Cu)]) (cV (Zn (by decide) (tM (ao 7 (zE (eL eS)) Vc rfl)) (tM (ao 8 (zE (eL eS)) Cu rfl)))) (aY (cF 2 (Zv (kj (pX (Ly (jh (ao 2 (lE (eL eS)) v6 rfl))) _ (λ_=>rfl) (λval:LS_=>(cV (ZS (by decide) (ao 2 (zE (eL eS)) val rfl) (kj (lq (cH (ao 0 (zE (eL eS)) Vc rfl) (cH (ao 1 (zE (eL eS)) Cu rfl) (eF (eL eS)))) (zC rfl)))))) (λval:LS_=>(ao 2 (zE (eL eS)) val rfl)) (λ_=>rfl) λ_=>rfl)) (kj (lq (cH (acs (U3 (kj (Zv (tM (ao 7 (zE (eL eS)) Vc rfl)) (tM (ao 8 (zE (eL eS)) Cu rfl)))))) (eF (eL eS))) (zC rfl)))) (λ_=>rfl) λv6=>(bR (bJ v6 rfl)))) (bR (bJ v6 rfl)) λv6=>(bR (bJ v6 rfl))))))))
def gk (vd:LS_) (va:List aF):(List LS_):=(let v6:=(vd.map λvh:Str=>[vh]);(let v6:(List LS_):=(va.foldl (λ(v6:List LS_) (q1:aF)=>(dG  v6 q1)) v6);(fG (v6.map λval:LS_=>val))))
def nU (vd:LS_) (va:List aF):Prop:=(vd.length<=100000/\(let v6:=(vd.map λvh:Str=>[vh]);(tW (λ(v6:List LS_) (q1:aF)=>(dG  v6 q1)) (λ(v6:List LS_) (q1:aF)=>some (jw  v6 q1)) va v6/\(let v6:(List LS_):=(va.foldl (λ(v6:List LS_) (q1:aF)=>(dG  v6 q1)) v6);(v6.length<=100000/\((v6.map λval:LS_=>val).length < 64/\∀ x∈(v6.map λval:LS_=>val),x.isEmpty=false))))))
theorem QK (vd:LS_) (va:List aF):RP qM [some ((zE (eT eS)) vd),some ((zE (eT aG)) va),none,none,none,none,none,none,none] (λr=>Out.rt ((oE (eT eS)) r)) (gk vd va) (some (nU vd va)):=R.tp (cF 2 (qC (Qa (ao 0 (zE (eT eS)) vd rfl)) _ (λ_=>rfl) (λvh:Str=>(acs (lq (cH (ao 0 (zE eS) vh rfl) (eF eS)) (zC rfl)))) λ_=>rfl) (λ_=>rfl) λv6=>(LC 1 va (Gp rfl) (λv6:(List LS_)=>[some ((zE (eT eS)) vd),some ((zE (eT aG)) va),some ((oE (eL eS)) v6),none,none,none,none,none,none]) v6 rfl _ (λ_ _=>rfl) (λ(v6:List LS_) (q1:aF)=>(G9 vd va v6 q1).r) λv6=>(cZ (λr=>r) (acK (kj (qC (Ly (jh (ao 2 (lE (eL eS)) v6 rfl))) _ (λ_=>rfl) (λval:LS_=>(qz (tM (ao 0 (zE (eL eS)) val rfl)))) λ_=>rfl))) (λ_=>rfl) λ_=>rfl)))
theorem Cv:∀ v bs,(aZ (eT eS) (aZ (eT aG) aN)) v bs->bs.length=2/\(hold (some (nU v.1 v.2.1))->j4 (bs.map lend)=some ((oE (eT eS)) (gk v.1 v.2.1))):=by
 rintro⟨vd,va,_⟩ _ ⟨_,rfl,⟨_,rfl,rfl⟩⟩;exact⟨rfl,λh=>cM (g:=qM) (n:=9) (bs:=[.z ((eT eS) vd),.z ((eT aG) va)]) (QK vd va) h⟩
def dH (Dk:List LS_) (s2:Unit) (rJ:LS_):ji (Unit) Bool:=(if(!decide ((((Dk.filter λval:LS_=>((rJ.map λvh:Str=>(decide (vh∈val))).all id)).map λval:LS_=>val).length:Int)=(1:Int)))=true then(ji.rt false) else(ji.nx ()))
def jM (Dk:List LS_) (s2:Unit) (rJ:LS_):Prop:=(Dk.length<=100000/\(∀ val∈Dk,rJ.length<=100000))
theorem wV (v8:jD) (vd:LS_) (va:List aF) (vb:List bh) (Dk:List LS_) (van:vN) (s2:Unit) (rJ:LS_):RP oJ [some ((zE cU) v8),some ((zE (eT eS)) vd),some ((zE (eT aG)) va),some ((zE (eT bw)) vb),some ((oE (eT eS)) Dk),some ((zE je) van),some ((zE (eT eS)) rJ)] (cC (λs2:Unit=>[some ((zE cU) v8),some ((zE (eT eS)) vd),some ((zE (eT aG)) va),some ((zE (eT bw)) vb),some ((oE (eT eS)) Dk),some ((zE je) van),none]) (zE eB)) (dH Dk s2 rJ) (some (jM Dk s2 rJ)):=R.tp (aY (jY (cV (PJ (by decide) (x_len (kj (Lx (Ly (jh (ao 4 (lE (eT eS)) Dk rfl))) _ (λ_=>rfl) (λval:LS_=>(Wu (Zy (kj (qC (Qa (ao 0 (zE (eT eS)) rJ rfl)) _ (λ_=>rfl) (λvh:Str=>(adD (ao 1 (zE eS) vh rfl) (ao 0 (zE (eT eS)) val rfl))) λ_=>rfl))))) (λval:LS_=>(ao 1 (zE (eT eS)) val rfl))))) (x_i 1))) (aY (cZ .rt (rZ (.bl false) eB false rfl) (λ_=>rfl) λ_=>rfl)) (bR (bR (bJ (.nx ()) rfl)))))
def fB (v8:jD):Bool:=(let q1:=v8;(let Dk:=(gk q1.1 q1.2.1);(let van:=(aQ (q1.1,q1.2.1,([]:List bh)));(if((!decide (van.1=Dk))||(!decide (van.2.2=([]:List dU))))=true then false else(if(!((q1.2.1.map λnq:aF=>(decide ((Ww (Q0 (dw (q1.1,q1.2.1,([]:List bh)) nq) (0:Int)))∈[("kept" : Str),("beside" : Str)]))).all id))=true then false else(behind (jC (λ(s2:Unit) (rJ:LS_)=>((dH Dk s2 rJ):ji (Unit) Bool)) (aQ v8).1 ()) (λr=>r) λs2:Unit=>(decide ((Dk.length:Int)<=((aQ v8).1.length:Int)))))))))
def gP (v8:jD):Prop:=(let q1:=v8;((nU q1.1 q1.2.1)/\(let Dk:=(gk q1.1 q1.2.1);((cX (q1.1,q1.2.1,([]:List bh)))/\(let van:=(aQ (q1.1,q1.2.1,([]:List bh)));(((!decide (van.1=Dk))||(!decide (van.2.2=([]:List dU))))=false->((q1.2.1.length<=100000/\(∀ nq∈q1.2.1,(((sV (q1.1,q1.2.1,([]:List bh)) nq)/\IxD (dw (q1.1,q1.2.1,([]:List bh)) nq) (0:Int))/\(Q0 (dw (q1.1,q1.2.1,([]:List bh)) nq) (0:Int))=eS (Ww (Q0 (dw (q1.1,q1.2.1,([]:List bh)) nq) (0:Int))))))/\((!((q1.2.1.map λnq:aF=>(decide ((Ww (Q0 (dw (q1.1,q1.2.1,([]:List bh)) nq) (0:Int)))∈[("kept" : Str),("beside" : Str)]))).all id))=false->(((cX v8)/\uG (λ(s2:Unit) (rJ:LS_)=>((dH Dk s2 rJ):ji (Unit) Bool)) (λ(s2:Unit) (rJ:LS_)=>some (jM Dk s2 rJ)) (aQ v8).1 ())/\(jP (jC (λ(s2:Unit) (rJ:LS_)=>((dH Dk s2 rJ):ji (Unit) Bool)) (aQ v8).1 ()) λs2:Unit=>(cX v8)))))))))))
theorem Bv (v8:jD):RP jE [some ((zE cU) v8),none,none,none,none,none,none] (λr=>Out.rt ((zE eB) r)) (fB v8) (some (gP v8)):=R.tp (Gn (ao 0 (zE cU) v8 rfl) _ (λ_=>rfl) λq1=>(cF 4 (x_call Cv (bW (ao 1 (zE (eT eS)) q1.1 rfl) (bW (ao 2 (zE (eT aG)) q1.2.1 rfl) bx))) (λ_=>rfl) λDk=>(cF 5 (x_call f9 (bW (tO (ao 1 (zE (eT eS)) q1.1 rfl) (ao 2 (zE (eT aG)) q1.2.1 rfl) (Zo bw)) bx)) (λ_=>rfl) λvan=>(jY (Wv (cV (Zn (by decide) (tM (dX (ao 5 (zE je) van rfl) (λq=>q.1) (eL (eT eS)) 0 λ_=>rfl)) (jh (ao 4 (lE (eT eS)) Dk rfl)))) (cV (Zn (by decide) (tM (dX (ao 5 (zE je) van rfl) (λq=>q.2.2) (eL oM) 2 λ_=>rfl)) (kj (lq (eF oM) (zC rfl)))))) (aY (cZ (λr=>r) (rZ (.bl false) eB false rfl) (λ_=>rfl) λ_=>rfl)) (bR (jY (PK (Wu (Zy (kj (Zz (Qa (ao 2 (zE (eT aG)) q1.2.1 rfl)) _ (λ_=>rfl) (λnq:aF=>(afu (Ls (adA (x_call J4 (bW (tO (ao 0 (zE (eT eS)) q1.1 rfl) (ao 1 (zE (eT aG)) q1.2.1 rfl) (Zo bw)) (bW (ao 2 (zE aG) nq rfl) bx))) (x_i 0)) Ww eS) (kj (lq (cH (x_s "kept") (cH (x_s "beside") (eF eS))) (zC rfl)))))))))) (aY (cZ (λr=>r) (rZ (.bl false) eB false rfl) (λ_=>rfl) λ_=>rfl)) (bR (ZD (λs2:Unit=>[some ((zE cU) v8),some ((zE (eT eS)) q1.1),some ((zE (eT aG)) q1.2.1),some ((zE (eT bw)) q1.2.2),some ((oE (eT eS)) Dk),some ((zE je) van),none]) () rfl (ajc (dX (x_call f9 (bW (ao 0 (zE cU) v8 rfl) bx)) (λq=>q.1) (eL (eT eS)) 0 λ_=>rfl)) _ (λ_ _=>rfl) (λ(s2:Unit) (rJ:LS_)=>((wV v8 q1.1 q1.2.1 q1.2.2 Dk van s2 rJ).r:R _ _ (cC (λs2:Unit=>[some ((zE cU) v8),some ((zE (eT eS)) q1.1),some ((zE (eT aG)) q1.2.1),some ((zE (eT bw)) q1.2.2),some ((oE (eT eS)) Dk),some ((zE je) van),none]) (zE eB)))) (λr=>r) (λ_=>rfl) λs2=>(cZ (λr=>r) (x_ge (x_len (tM (dX (x_call f9 (bW (ao 0 (zE cU) v8 rfl) bx)) (λq=>q.1) (eL (eT eS)) 0 λ_=>rfl))) (x_len (jh (ao 4 (lE (eT eS)) Dk rfl)))) (λ_=>rfl) λ_=>rfl)))))))))
theorem Bw:∀ v bs,(aZ cU aN) v bs->bs.length=1/\(hold (some (gP v.1))->jF (bs.map lend)=some ((zE eB) (fB v.1))):=by
 rintro⟨v8,_⟩ _ ⟨_,rfl,rfl⟩;exact⟨rfl,λh=>cM (g:=jE) (n:=7) (bs:=[.z (cU v8)]) (Bv v8) h⟩
def cR (vi:vN) (vd:LS_) (va:List aF) (vb:List bh) (Hf:(List (Option bh))) (s2:Unit) (sW:bh):ji (Unit) Bool:=(let var:=((vb.filter λCu:bh=>(!decide (Cu=sW))).map λCu:bh=>Cu);(if((!gB (some sW) Hf)&&(!decide ((aQ (vd,va,var))=vi)))=true then(ji.rt false) else(ji.nx ())))
def dZ (vi:vN) (vd:LS_) (va:List aF) (vb:List bh) (Hf:(List (Option bh))) (s2:Unit) (sW:bh):Prop:=(vb.length<=100000/\(let var:=((vb.filter λCu:bh=>(!decide (Cu=sW))).map λCu:bh=>Cu);((!gB (some sW) Hf)=true->(cX (vd,va,var)))))
theorem vY (v8:jD) (vi:vN) (vd:LS_) (va:List aF) (vb:List bh) (Hf:(List (Option bh))) (s2:Unit) (sW:bh):RP nP [some ((zE cU) v8),some ((zE je) vi),some ((zE (eT eS)) vd),some ((zE (eT aG)) va),some ((zE (eT bw)) vb),some ((oE (eO bw)) Hf),some ((zE bw) sW),none] (cC (λs2:Unit=>[some ((zE cU) v8),some ((zE je) vi),some ((zE (eT eS)) vd),some ((zE (eT aG)) va),some ((zE (eT bw)) vb),some ((oE (eO bw)) Hf),none,none]) (zE eB)) (cR vi vd va vb Hf s2 sW) (some (dZ vi vd va vb Hf s2 sW)):=R.tp (aY (cF 7 (qz (kj (pX (Qa (ao 4 (zE (eT bw)) vb rfl)) _ (λ_=>rfl) (λCu:bh=>(cV (PJ (by decide) (ao 1 (zE bw) Cu rfl) (ao 0 (zE bw) sW rfl)))) (λCu:bh=>(ao 1 (zE bw) Cu rfl)) (λ_=>rfl) λ_=>rfl))) (λ_=>rfl) λvar=>(aY (jY (JR (cV (ZS (by decide) (yc (ao 6 (zE bw) sW rfl)) (jh (ao 5 (lE (eO bw)) Hf rfl)))) (cV (PJ (by decide) (x_call f9 (bW (tO (ao 2 (zE (eT eS)) vd rfl) (ao 3 (zE (eT aG)) va rfl) (ao 7 (zE (eT bw)) var rfl)) bx)) (ao 1 (zE je) vi rfl)))) (aY (cZ .rt (rZ (.bl false) eB false rfl) (λ_=>rfl) λ_=>rfl)) (bR (bR (bJ (.nx ()) rfl)))))))
def d9 (v8:jD) (vi:vN):Bool:=(let q1:=v8;(let Hf:=(vi.2.2.map λvX:dU=>vX.2);(if(!decide ((aQ (q1.1,q1.2.1,((q1.2.2.filter λsW:bh=>(gB (some sW) Hf)).map λsW:bh=>sW)))=vi))=true then false else(behind (jC (λ(s2:Unit) (sW:bh)=>((cR vi q1.1 q1.2.1 q1.2.2 Hf s2 sW):ji (Unit) Bool)) q1.2.2 ()) (λr=>r) λs2:Unit=>true))))
def gn (v8:jD) (vi:vN):Prop:=(let q1:=v8;(vi.2.2.length<=100000/\(let Hf:=(vi.2.2.map λvX:dU=>vX.2);((q1.2.2.length<=100000/\(cX (q1.1,q1.2.1,((q1.2.2.filter λsW:bh=>(gB (some sW) Hf)).map λsW:bh=>sW))))/\((!decide ((aQ (q1.1,q1.2.1,((q1.2.2.filter λsW:bh=>(gB (some sW) Hf)).map λsW:bh=>sW)))=vi))=false->(uG (λ(s2:Unit) (sW:bh)=>((cR vi q1.1 q1.2.1 q1.2.2 Hf s2 sW):ji (Unit) Bool)) (λ(s2:Unit) (sW:bh)=>some (dZ vi q1.1 q1.2.1 q1.2.2 Hf s2 sW)) q1.2.2 ()/\(jP (jC (λ(s2:Unit) (sW:bh)=>((cR vi q1.1 q1.2.1 q1.2.2 Hf s2 sW):ji (Unit) Bool)) q1.2.2 ()) λs2:Unit=>True)))))))
theorem Ag (v8:jD) (vi:vN):RP iU [some ((zE cU) v8),some ((zE je) vi),none,none,none,none,none,none] (λr=>Out.rt ((zE eB) r)) (d9 v8 vi) (some (gn v8 vi)):=R.tp (Gn (ao 0 (zE cU) v8 rfl) _ (λ_=>rfl) λq1=>(cF 5 (qC (Ly (tM (dX (ao 1 (zE je) vi rfl) (λq=>q.2.2) (eL oM) 2 λ_=>rfl))) _ (λ_=>rfl) (λvX:dU=>(dX (ao 0 (zE oM) vX rfl) (λq=>q.2) (eO bw) 1 λ_=>rfl)) λ_=>rfl) (λ_=>rfl) λHf=>(jY (cV (PJ (by decide) (x_call f9 (bW (tO (ao 2 (zE (eT eS)) q1.1 rfl) (ao 3 (zE (eT aG)) q1.2.1 rfl) (qz (kj (pX (Qa (ao 4 (zE (eT bw)) q1.2.2 rfl)) _ (λ_=>rfl) (λsW:bh=>(cV (JX (by decide) (yc (ao 1 (zE bw) sW rfl)) (jh (ao 0 (lE (eO bw)) Hf rfl))))) (λsW:bh=>(ao 1 (zE bw) sW rfl)) (λ_=>rfl) λ_=>rfl)))) bx)) (ao 1 (zE je) vi rfl))) (aY (cZ (λr=>r) (rZ (.bl false) eB false rfl) (λ_=>rfl) λ_=>rfl)) (bR (LK 4 q1.2.2 (Gp rfl) (λs2:Unit=>[some ((zE cU) v8),some ((zE je) vi),some ((zE (eT eS)) q1.1),some ((zE (eT aG)) q1.2.1),some ((zE (eT bw)) q1.2.2),some ((oE (eO bw)) Hf),none,none]) () rfl _ (λ_ _=>rfl) (λ(s2:Unit) (sW:bh)=>((vY v8 vi q1.1 q1.2.1 q1.2.2 Hf s2 sW).r:R _ _ (cC (λs2:Unit=>[some ((zE cU) v8),some ((zE je) vi),some ((zE (eT eS)) q1.1),some ((zE (eT aG)) q1.2.1),some ((zE (eT bw)) q1.2.2),some ((oE (eO bw)) Hf),none,none]) (zE eB)))) (λr=>r) (λ_=>rfl) λs2=>(cZ (λr=>r) (rZ (.bl true) eB true rfl) (λ_=>rfl) λ_=>rfl))))))
theorem Ah:∀ v bs,(aZ cU (aZ je aN)) v bs->bs.length=2/\(hold (some (gn v.1 v.2.1))->iV (bs.map lend)=some ((zE eB) (d9 v.1 v.2.1))):=by
 rintro⟨v8,vi,_⟩ _ ⟨_,rfl,⟨_,rfl,rfl⟩⟩;exact⟨rfl,λh=>cM (g:=iU) (n:=8) (bs:=[.z (cU v8),.z (je vi)]) (Ag v8 vi) h⟩
def cJ (vd:LS_) (va:List aF) (qg:List bh) (vj:Str):(List bh):=(let val:=(at' (((gk vd va).filter λrJ:LS_=>(decide (vj∈rJ))).map λrJ:LS_=>rJ) (0:Int));(let qg:=qg++((vd.filter λvk:Str=>((vK vj vk)&&(!decide (vk∈val)))).map λvk:Str=>(vj,vk,(50:Int)));qg))
def fL (vd:LS_) (va:List aF) (qg:List bh) (vj:Str):Prop:=((((nU vd va)/\(gk vd va).length<=100000)/\In (((gk vd va).filter λrJ:LS_=>(decide (vj∈rJ))).map λrJ:LS_=>rJ).length (0:Int))/\(let val:=(at' (((gk vd va).filter λrJ:LS_=>(decide (vj∈rJ))).map λrJ:LS_=>rJ) (0:Int));(vd.length<=100000/\Ht (qg.length+((vd.filter λvk:Str=>((vK vj vk)&&(!decide (vk∈val)))).map λvk:Str=>(vj,vk,(50:Int))).length))))
theorem uM (v8:jD) (vi:vN) (vd:LS_) (va:List aF) (vb:List bh) (qg:List bh) (vj:Str):RP lO [some ((zE cU) v8),some ((zE je) vi),some ((zE (eT eS)) vd),some ((zE (eT aG)) va),some ((zE (eT bw)) vb),some ((oE bw) qg),some ((zE eS) vj),none] (λs=>Out.nx ((λqg:(List bh)=>[some ((zE cU) v8),some ((zE je) vi),some ((zE (eT eS)) vd),some ((zE (eT aG)) va),some ((zE (eT bw)) vb),some ((oE bw) qg),none,none]) s)) (cJ vd va qg vj) (some (fL vd va qg vj)):=R.tp (aY (cF 7 (jO (kj (pX (Ly (kj (x_call Cv (bW (ao 2 (zE (eT eS)) vd rfl) (bW (ao 3 (zE (eT aG)) va rfl) bx))))) _ (λ_=>rfl) (λrJ:LS_=>(cV (adD (ao 0 (zE eS) vj rfl) (ao 1 (zE (eT eS)) rJ rfl)))) (λrJ:LS_=>(ao 1 (zE (eT eS)) rJ rfl)) (λ_=>rfl) λ_=>rfl)) (x_i 0)) (λ_=>rfl) λval=>(aY (ahD 5 qg rfl (pX (Qa (ao 2 (zE (eT eS)) vd rfl)) _ (λ_=>rfl) (λvk:Str=>(JR (cV (ady (ao 0 (zE eS) vj rfl) (ao 2 (zE eS) vk rfl))) (cV (afv (ao 2 (zE eS) vk rfl) (ao 1 (zE (eT eS)) val rfl))))) (λvk:Str=>(tO (ao 0 (zE eS) vj rfl) (ao 2 (zE eS) vk rfl) (x_i 50))) (λ_=>rfl) λ_=>rfl) λqg=>(bR (bJ qg rfl))))))
def fJ (v8:jD) (vi:vN):Bool:=(let q1:=v8;(let qg:=q1.2.2;(let qg:(List bh):=(q1.1.foldl (λ(qg:List bh) (vj:Str)=>(cJ q1.1 q1.2.1 qg vj)) qg);(decide ((aQ (q1.1,q1.2.1,(lN bw qg)))=vi)))))
def fK (v8:jD) (vi:vN):Prop:=(let q1:=v8;(let qg:=q1.2.2;(tW (λ(qg:List bh) (vj:Str)=>(cJ q1.1 q1.2.1 qg vj)) (λ(qg:List bh) (vj:Str)=>some (fL q1.1 q1.2.1 qg vj)) q1.1 qg/\(let qg:(List bh):=(q1.1.foldl (λ(qg:List bh) (vj:Str)=>(cJ q1.1 q1.2.1 qg vj)) qg);(qg.length < 64/\(cX (q1.1,q1.2.1,(lN bw qg))))))))
theorem yC (v8:jD) (vi:vN):RP iw [some ((zE cU) v8),some ((zE je) vi),none,none,none,none,none,none] (λr=>Out.rt ((zE eB) r)) (fJ v8 vi) (some (fK v8 vi)):=R.tp (Gn (ao 0 (zE cU) v8 rfl) _ (λ_=>rfl) λq1=>(cF 5 (acz (ao 4 (zE (eT bw)) q1.2.2 rfl)) (λ_=>rfl) λqg=>(LC 2 q1.1 (Gp rfl) (λqg:(List bh)=>[some ((zE cU) v8),some ((zE je) vi),some ((zE (eT eS)) q1.1),some ((zE (eT aG)) q1.2.1),some ((zE (eT bw)) q1.2.2),some ((oE bw) qg),none,none]) qg rfl _ (λ_ _=>rfl) (λ(qg:List bh) (vj:Str)=>(uM v8 vi q1.1 q1.2.1 q1.2.2 qg vj).r) λqg=>(cZ (λr=>r) (x_eq (by decide) (x_call f9 (bW (tO (ao 2 (zE (eT eS)) q1.1 rfl) (ao 3 (zE (eT aG)) q1.2.1 rfl) (qz (kj (afA (jh (ao 5 (lE bw) qg rfl)))))) bx)) (ao 1 (zE je) vi rfl)) (λ_=>rfl) λ_=>rfl))))
theorem yD:∀ v bs,(aZ cU (aZ je aN)) v bs->bs.length=2/\(hold (some (fK v.1 v.2.1))->iz (bs.map lend)=some ((zE eB) (fJ v.1 v.2.1))):=by
 rintro⟨v8,vi,_⟩ _ ⟨_,rfl,⟨_,rfl,rfl⟩⟩;exact⟨rfl,λh=>cM (g:=iw) (n:=8) (bs:=[.z (cU v8),.z (je vi)]) (yC v8 vi) h⟩
def QL (v0:LI_):Bool:=(let v1:=(bf (bA v0 (0:Int)) (9:Int));(let v8:=(eG v0 (0:Int) ((at' v1 (6:Int)) % (10:Int)) ((at' v1 (7:Int)) % (15:Int)) ((at' v1 (8:Int)) % (7:Int)));(let vi:=(aQ v8);(if((!(d8 v8 vi))||(!(fB v8)))=true then false else((d9 v8 vi)&&(fJ v8 vi))))))
def QM (v0:LI_):Prop:=(((jt v0 (0:Int))/\(gC (bA v0 (0:Int)) (9:Int)))/\(let v1:=(bf (bA v0 (0:Int)) (9:Int));(((In v1.length (6:Int)/\(In v1.length (7:Int)/\In v1.length (8:Int)))/\(pD v0 (0:Int) ((at' v1 (6:Int)) % (10:Int)) ((at' v1 (7:Int)) % (15:Int)) ((at' v1 (8:Int)) % (7:Int))))/\(let v8:=(eG v0 (0:Int) ((at' v1 (6:Int)) % (10:Int)) ((at' v1 (7:Int)) % (15:Int)) ((at' v1 (8:Int)) % (7:Int)));((cX v8)/\(let vi:=(aQ v8);(((iZ v8 vi)/\((!(d8 v8 vi))=false->(gP v8)))/\(((!(d8 v8 vi))||(!(fB v8)))=false->((gn v8 vi)/\((d9 v8 vi)=true->(fK v8 vi)))))))))))
theorem ahI (v0:LI_) {iK:Bx} (lQ:Lp iK (v0.map eI)):RP Va [some iK,none,none,none] (λr=>Out.rt ((zE eB) r)) (QL v0) (some (QM v0)):=R.tp (cF 1 (x_call m9 (bW (pW (x_call ur (CV (nG 0 eI v0 lQ rfl) (bW (x_i 0) bx)))) (bW (x_i 9) bx))) (λ_=>rfl) λv1=>(cF 2 (x_call Ms (CV (nG 0 eI v0 lQ rfl) (bW (x_i 0) (bW (gA (jO (jh (ao 1 (lE eI) v1 rfl)) (x_i 6)) 10 (by decide)) (bW (gA (jO (jh (ao 1 (lE eI) v1 rfl)) (x_i 7)) 15 (by decide)) (bW (gA (jO (jh (ao 1 (lE eI) v1 rfl)) (x_i 8)) 7 (by decide)) bx)))))) (λ_=>rfl) λv8=>(cF 3 (x_call f9 (bW (ao 2 (zE cU) v8 rfl) bx)) (λ_=>rfl) λvi=>(jY (Wv (PK (Wu (x_call Af (bW (ao 2 (zE cU) v8 rfl) (bW (ao 3 (zE je) vi rfl) bx))))) (PK (Wu (x_call Bw (bW (ao 2 (zE cU) v8 rfl) bx))))) (aY (cZ (λr=>r) (rZ (.bl false) eB false rfl) (λ_=>rfl) λ_=>rfl)) (bR (cZ (λr=>r) (su (x_call Ah (bW (ao 2 (zE cU) v8 rfl) (bW (ao 3 (zE je) vi rfl) bx))) (x_call yD (bW (ao 2 (zE cU) v8 rfl) (bW (ao 3 (zE je) vi rfl) bx)))) (λ_=>rfl) λ_=>rfl))))))
theorem adI:∀ v bs,(aL eI aN) v bs->bs.length=1/\(hold (some (QM v.1))->F_law (bs.map lend)=some ((zE eB) (QL v.1))):=by
 rintro⟨v0,_⟩ _ ⟨iK,_,rfl,lQ,rfl⟩;exact⟨rfl,λh=>cM (g:=Va) (n:=4) (bs:=[lend iK]) (ahI v0 (JQ lQ)) h⟩
theorem adJ (h:∀ ns:List Int,ns.length<=63->QM ns/\QL ns=true):(∀ ns:List Int,ns.length<=63->F_law [.z (.lst (ns.map .int))]=some (.z (.bl true)))/\∀ ns:List Int,ns.length<=63->F_law [.l (ns.map .int)]=some (.z (.bl true)):=
 ⟨λns hn=>((adI (ns,()) [.z (.lst (ns.map .int))] ⟨_,_,rfl,rfl,rfl⟩).2 (h ns hn).1).trans (by rw[(h ns hn).2]),λns hn=>((adI (ns,()) [.l (ns.map .int)] ⟨_,_,rfl,rfl,rfl⟩).2 (h ns hn).1).trans (by rw[(h ns hn).2])⟩
end
theorem M4 (script:List Int) (k:Int) (h0:0<=k) (h1:k<=1000):jt script k:=by
 unfold jt;exact⟨λh=>in_of h0 (by simpa using h),λ_=>adG h0 (by omega)⟩
theorem aak (k:Nat) (s:Int×List Int×Int) (hk:k < 1000) (h:(0<=s.1/\s.1 < 1999999973)/\s.2.1.length=k/\(∀ x∈s.2.1,0<=x)/\0<=s.2.2):jH s k/\(0<=(cW s k).1/\(cW s k).1 < 1999999973)/\(cW s k).2.1.length=k+1/\(∀ x∈(cW s k).2.1,0<=x)/\0<=(cW s k).2.2:=by
 obtain⟨h1,h2,h3,h4⟩:=h;have hin:In 2 (if(decide ((0:Int) < s.2.2))=true then(1:Int) else 0):=by split<;>exact in_of (by omega) (by omega)
 refine⟨⟨adG h1.1 (by omega),hin,?_⟩,jk _ (by decide),?_,?_,Int.ediv_nonneg h4 (by decide)⟩
 ·show s.2.1.length<=1000000;omega
 ·show(s.2.1++[_]).length=k+1;rw[zS,h2];rfl
 ·intro x hx;rcases List.mem_append.mp hx with hx|hx
  ·exact h3 x hx
  ·cases List.mem_singleton.mp hx;have:=vL (xs:=[((((s.1 * ((s.1 % (65521:Int))+(40487:Int)))+((7:Int) * k))+(5:Int)) % (1999999973:Int)),(s.2.2 % (1000000:Int))]) hin;simp only[QR,j0,or_false] at this;rcases this with e|e<;>rw[e]
   ·exact(jk _ (by decide)).1
   ·exact(jk _ (by decide)).1
theorem M5 (c m:Int) (h0:0<=m) (h1:m<=1000):gC c m/\(bf c m).length=m.toNat/\∀ x∈bf c m,0<=x:=by
 have key:∀ st dg:Int,(0<=st/\st < 1999999973)->0<=dg->mH c m [] st dg/\(jJ c m [] st dg).length=m.toNat/\∀ x∈jJ c m [] st dg,0<=x:=λst dg hs hd=>by
  have:=zN (P:=λs k=>some (jH s k)) (λk s=>(0<=s.1/\s.1 < 1999999973)/\s.2.1.length=k/\(∀ x∈s.2.1,0<=x)/\0<=s.2.2) (step:=λs k=>cW s k) m.toNat (st,[],dg) ⟨hs,rfl,λx h=>(by cases h),hd⟩ λk s hk h=>aak k s (by omega) h;exact⟨⟨Qj h0 (by omega),this.1⟩,this.2.2.1,this.2.2.2.1⟩
 refine key _ _ (jk _ (by decide)) ?_;dsimp only;split<;>(try split)<;>omega
theorem pK {α:Type} {m:List (Str×α)} {x:Str}:has m x=true↔x∈m.map (·.1):=by
 unfold has;rw[j3,kP];constructor
 ·rintro⟨q,hq,h⟩;exact⟨q,hq,qr h⟩
 ·rintro⟨q,hq,h⟩;exact⟨q,hq,Zp h⟩
theorem Hg {α:Type} [Inhabited α] {pre rest:List (Str×α)} {n:Str} {h:α} (hn:n∉pre.map (·.1)):look (pre++(n,h)::rest) n=h:=by
 unfold look;have:pre.find? (λq=>decide (q.1=n))=none:=List.find?_eq_none.mpr λq hq e=>hn (List.mem_map.mpr ⟨q,hq,qr e⟩);rw[List.find?_append,this];simp
theorem acU {α:Type} {pre rest:List (Str×α)} {n:Str} {h v:α} (hn:n∉pre.map (·.1)) (hr:n∉rest.map (·.1)):put (pre++(n,h)::rest) n v=pre++(n,v)::rest:=by
 unfold put;rw[zk (pK.mpr (by simp))];have fix:∀ l:List (Str×α),n∉l.map (·.1)->l.map (λq=>if q.1=n then(q.1,v) else q)=l:=λl hl=>by
  conv=>rhs;rw[<-List.map_id l]
  refine jv λq hq=>?_;rw[zw λe=>hl (List.mem_map.mpr ⟨q,hq,e⟩)];rfl
 rw[qo,zr,fix pre hn,fix rest hr];simp
theorem W0 {α:Type} [Inhabited α] {m:List (Str×α)} {x:Str} (h:x∈m.map (·.1)):(x,look m x)∈m:=by
 unfold look;cases hf:m.find? λq=>decide (q.1=x) with
 |none=>
  obtain⟨q,hq,rfl⟩:=List.mem_map.mp h;have:=List.find?_eq_none.mp hf q hq;simp at this
 |some q=>
  have h1:=KW hf;have h2:q.1=x:=by simpa using List.find?_some hf
  show(x,q.2)∈m;rw[<-h2];exact h1
theorem M6 {α:Type} [Inhabited α] {m:List (Str×α)} (nd:(m.map (·.1)).Nodup) {q:Str×α} (h:q∈m):look m q.1=q.2:=by
 obtain⟨pre,rest,rfl⟩:=kL h;have:q.1∉pre.map (·.1):=λe=>by
  rw[qo,zr,kU] at nd;exact nd.2.2 _ e _ (zh ..) rfl
 exact Hg this
def mn (one other:Str):Str:=if vK other one=true then other else one
def jn (one other h:Str):Str:=if h=one\/h=other then mn one other else h
theorem Hh (a b:Str):mn a b=a\/mn a b=b:=by unfold mn;split;exact .inr rfl;exact .inl rfl
def jm (m:List (Str×Str)) (one other:Str):List (Str×Str):=m.map λq=>(q.1,jn one other q.2)
theorem Vd (m:List (Str×Str)) (one other:Str):(jm m one other).map (·.1)=m.map (·.1):=by unfold jm;rw[qV];rfl
theorem acV {m:List (Str×Str)} {one other x:Str} (nd:(m.map (·.1)).Nodup) (h:x∈m.map (·.1)):look (jm m one other) x=jn one other (look m x):=by
 have h1:=W0 h;have:(x,jn one other (look m x))∈jm m one other:=List.mem_map.mpr ⟨_,h1,rfl⟩;exact M6 (by rw[Vd];exact nd) this
theorem join_loop (one other:Str):∀ (post pre:List (Str×Str)),((pre++post).map (·.1)).Nodup->(pre++post).length < 1000 →
  tW (λ(heads:(List (Str×Str))) (name:Str)=>(dM one other (mn one other) heads name)) (λ(heads:(List (Str×Str))) (name:Str)=>some (oF one other (mn one other) heads name)) (post.map (·.1)) (pre++post) ∧
  (post.map (·.1)).foldl (λ(heads:(List (Str×Str))) (name:Str)=>(dM one other (mn one other) heads name)) (pre++post)=pre++jm post one other
 |[],pre,_,_=>⟨trivial,rfl⟩
 |(n,h)::rest,pre,nd,hl=>by
  have hn:n∉pre.map (·.1):=λe=>by
   rw[qo,zr,kU] at nd;exact nd.2.2 _ e _ (zh ..) rfl
  have hr:n∉rest.map (·.1):=by
   rw[qo,zr,kU,List.nodup_cons] at nd;exact nd.2.1.1
  have hh:has (pre++(n,h)::rest) n=true:=pK.mpr (by simp);have e:dM one other (mn one other) (pre++(n,h)::rest) n=pre++(n,jn one other h)::rest:=by
   unfold dM;dsimp only;rw[Hg hn];unfold jn;by_cases q:h=one\/h=other
   ·rw[zk q,zk (by simpa using q),acU hn hr]
   ·rw[zw q,zw (by simpa using q)]
  have ih:=join_loop one other rest (pre++[(n,jn one other h)]) (by simpa using nd) (by simpa using hl);rw[Q4] at ih;refine⟨⟨⟨⟨hh,λ_=>hh⟩,λ_=>hl⟩,?_⟩,?_⟩
  ·show tW _ _ _ (dM one other (mn one other) (pre++(n,h)::rest) n);rw[e];exact ih.1
  ·rw[zr,QO,e];rw[show pre++(n,jn one other h)::rest=pre++([(n,jn one other h)]++rest) by simp,ih.2];unfold jm;simp
theorem M7 {m:List (Str×Str)} (one other:Str) (nd:(m.map (·.1)).Nodup) (hl:m.length < 1000):pG m one other/\iG m one other=jm m one other:=join_loop one other m [] nd hl
theorem Ve:∀ (qs m:List (Str×Str)),((m++qs).map (·.1)).Nodup->qs.foldl (λm q=>put m q.1 q.2) m=m++qs
 |[],m,_=>by simp
 |q::qs,m,nd=>by
  rw[QO];have:put m q.1 q.2=m++[q]:=by
   unfold put;rw[zw];intro e;have e:=pK.mp e;rw[qo,zr,kU] at nd;exact nd.2.2 _ e _ (zh ..) rfl
  rw[this,Ve qs (m++[q]) (by simpa using nd)];simp
theorem Ai (n_:LS_) (nd:n_.Nodup) (hl:n_.length < 1000):pF n_/\cN n_=n_.map λn=>(n,n):=by
 refine⟨⟨hl,by omega⟩,?_⟩;unfold cN mkD;rw[Ve _ [] (by rw[Kn,qV];show(n_.map id).Nodup;rw[List.map_id];exact nd)];rfl
structure Hd (n_:LS_) (m:List (Str×Str)):Prop where
 keys:m.map (·.1)=n_
 nd:n_.Nodup
 len:n_.length < 1000
 mem:∀ x∈n_,look m x∈n_
 idem:∀ x∈n_,look m (look m x)=look m x
theorem Hd.kn {n_:LS_} {m:List (Str×Str)} (h:Hd n_ m):(m.map (·.1)).Nodup:=by rw[h.keys];exact h.nd
theorem Hd.ml {n_:LS_} {m:List (Str×Str)} (h:Hd n_ m):m.length < 1000:=by rw[<-zo (f:=(·.1)),h.keys];exact h.len
theorem Hd.has {n_:LS_} {m:List (Str×Str)} (h:Hd n_ m) {x:Str} (hx:x∈n_):has m x=true:=pK.mpr (by rw[h.keys];exact hx)
theorem Hd.lone {n_:LS_} (nd:n_.Nodup) (hl:n_.length < 1000):Hd n_ (n_.map λn=>(n,n)):=by
 have k:(n_.map λn=>(n,n)).map (·.1)=n_:=by rw[qV];show n_.map id=n_;rw[List.map_id]
 have lk:∀ x∈n_,look (n_.map λn=>(n,n)) x=x:=λx hx=>M6 (q:=(x,x)) (by rw[k];exact nd) (List.mem_map.mpr ⟨x,hx,rfl⟩);exact⟨k,nd,hl,λx hx=>by rw[lk x hx];exact hx,λx hx=>by rw[lk x hx,lk x hx]⟩
theorem wJ {n_:LS_} (nd:n_.Nodup) {x:Str} (hx:x∈n_):look (n_.map λn=>(n,n)) x=x:=
 M6 (q:=(x,x)) (by rw[qV];show(n_.map id).Nodup;rw[List.map_id];exact nd) (List.mem_map.mpr ⟨x,hx,rfl⟩)
theorem Hd.lR {n_:LS_} {m:List (Str×Str)} (h:Hd n_ m) {one other x:Str} (hx:x∈n_):look (jm m one other) x=jn one other (look m x):=acV h.kn (by rw[h.keys];exact hx)
theorem Hd.join {n_:LS_} {m:List (Str×Str)} (h:Hd n_ m) {a b:Str} (ha:a∈n_) (hb:b∈n_):Hd n_ (jm m (look m a) (look m b)):=by
 have m1:=h.mem a ha;have m2:=h.mem b hb;refine⟨(Vd _ _ _).trans h.keys,h.nd,h.len,λx hx=>?_,λx hx=>?_⟩
 ·rw[h.lR hx];unfold jn;split
  ·rcases Hh (look m a) (look m b) with e|e<;>rw[e]<;>assumption
  ·exact h.mem x hx
 ·have hx':jn (look m a) (look m b) (look m x)∈n_:=by
   unfold jn;split
   ·rcases Hh (look m a) (look m b) with e|e<;>rw[e]<;>assumption
   ·exact h.mem x hx
  rw[h.lR hx,h.lR hx'];unfold jn;by_cases q:look m x=look m a\/look m x=look m b
  ·rw[zk q];rcases Hh (look m a) (look m b) with e|e
   ·rw[e,h.idem a ha,zk (.inl rfl)]
   ·rw[e,h.idem b hb,zk (.inr rfl)]
  ·rw[zw q,h.idem x hx,zw q]
theorem Vf {m:List (Str×Str)} (a:Str):jm m a a=m:=by
 unfold jm
 conv=>rhs;rw[<-List.map_id m]
 refine jv λq _=>?_;unfold jn mn;have:vK a a=false:=by simp[vK]
 rw[this];by_cases e:q.2=a
 ·rw[zk (.inl e),zw (by decide),<-e];rfl
 ·rw[zw (by simp[e])];rfl
def Hi (n_:LS_) (m:List (Str×Str)):LS_:=n_.filter λx=>decide (look m x=x)
theorem Cw {p q:Str->Bool} {c:Str}:∀ {l:LS_},l.Nodup->c∈l->p c=true->(∀ x∈l,q x=(p x&&decide (x≠c)))->(l.filter q).length+1=(l.filter p).length
 |[],_,h,_,_=>by cases h
 |x::l,nd,hc,hp,hq=>by
  have hx:=hq x (zh ..);obtain⟨nx,nd'⟩:=List.nodup_cons.mp nd;rcases List.mem_cons.mp hc with rfl|hc
  ·have e:l.filter q=l.filter p:=List.filter_congr λy hy=>by
    rw[hq y (zg _ hy)];have:y≠c:=λe=>nx (e▸hy);simp[this]
   rw[kC,kC,hx,hp];simp[e]
  ·have ih:=Cw (p:=p) (q:=q) nd' hc hp λy hy=>hq y (zg _ hy);have:x≠c:=λe=>nx (e▸hc);rw[kC,kC,hx];cases p x<;>simp[this]<;>omega
theorem Hd.aal {n_:LS_} {m:List (Str×Str)} (h:Hd n_ m) {a b:Str} (ha:a∈n_) (hb:b∈n_) (hne:look m a≠look m b):(Hi n_ (jm m (look m a) (look m b))).length+1=(Hi n_ m).length:=by
 have m1:=h.mem a ha;have m2:=h.mem b hb;have i1:=h.idem a ha;have i2:=h.idem b hb;have key:∀ c,c∈n_->look m c=c->(c=look m a/\mn (look m a) (look m b)=look m b\/c=look m b/\mn (look m a) (look m b)=look m a)->(Hi n_ (jm m (look m a) (look m b))).length+1=(Hi n_ m).length:=λc hc ajj hcase=>by
  refine Cw h.nd hc (Zp ajj) λx hx=>?_;rw[h.lR hx];rw[JU];simp only[z5,ZA];unfold jn;by_cases q:look m x=look m a\/look m x=look m b
  ·rw[zk q];rcases hcase with⟨rfl,e⟩|⟨rfl,e⟩
   ·rw[e];constructor
    ·rintro rfl;exact⟨i2,λz=>hne z.symm⟩
    ·rintro⟨e1,e2⟩;rcases q with q|q
     ·exact absurd (e1.symm.trans q) e2
     ·exact q.symm.trans e1
   ·rw[e];constructor
    ·rintro rfl;exact⟨i1,hne⟩
    ·rintro⟨e1,e2⟩;rcases q with q|q
     ·exact q.symm.trans e1
     ·exact absurd (e1.symm.trans q) e2
  ·rw[zw q];constructor
   ·intro e1;refine⟨e1,λe2=>q ?_⟩;rcases hcase with⟨rfl,_⟩|⟨rfl,_⟩
    ·exact .inl (e1.trans e2)
    ·exact .inr (e1.trans e2)
   ·exact λe1=>e1.1
 rcases Hh (look m a) (look m b) with e|e
 ·exact key (look m b) m2 i2 (.inr ⟨rfl,e⟩)
 ·exact key (look m a) m1 i1 (.inl ⟨rfl,e⟩)
theorem Ea {n_:LS_} {m:List (Str×Str)} (h:Hd n_ m):pH m/\(bD m).length=(Hi n_ m).length:=by
 have hl:=h.len;refine⟨⟨by rw[h.keys];omega,λx hx=>⟨pK.mpr hx,λ_=>⟨by rw[h.keys];omega,λy hy=>pK.mpr hy⟩⟩⟩,?_⟩;unfold bD Hi;rw[zo,h.keys]
abbrev jc:=Int×Str×Str×Int
def Rs (n_:LS_) (rs:List jc):Prop:=∀ r∈rs,r.2.1∈n_/\r.2.2.1∈n_
def jb (m:List (Str×Str)) (r:jc):List (Str×Str):=jm m (look m r.2.1) (look m r.2.2.1)
def hb (n_:LS_) (rs:List jc):List (Str×Str):=rs.foldl jb (cN n_)
theorem hd0 {n_:LS_} (nd:n_.Nodup) (hl:n_.length < 1000):Hd n_ (cN n_):=by rw[(Ai n_ nd hl).2];exact Hd.lone nd hl
theorem qU (n_:LS_) (rs:List jc) (r:jc):hb n_ (rs++[r])=jb (hb n_ rs) r:=ya (l:=rs) (l':=[r])
theorem pig:∀ {xs ys:LS_},xs.Nodup->(∀ x∈xs,x∈ys)->xs.length<=ys.length
 |[],_,_,_=>QI _
 |x::xs,ys,nd,h=>by
  obtain⟨n1,n2⟩:=List.nodup_cons.mp nd;have hx:=h x (zh ..);have:=pig (ys:=ys.erase x) n2 λz hz=>(Kk (λe:z=x=>n1 (e▸hz))).mpr (h z (zg _ hz));rw[yi hx] at this;have:=k6 hx;rw[ZH];omega
structure PH (n_:LS_) (P:List LS_) (m:List (Str×Str)):Prop where
 sub:∀ p∈P,∀ y∈p,y∈n_
 cov:∀ x∈n_,∃ p∈P,x∈p
 cls:∀ p∈P,∀ x∈p,∀ y∈n_,(y∈p↔look m x=look m y)
 ne:∀ p∈P,p≠[]
 nd:∀ p∈P,p.Nodup
 uni:∀ p∈P,∀ q∈P,∀ x,x∈p->x∈q->p=q
 len:P.length<=n_.length
 pn:P.Nodup
 srt:∀ p∈P,p.Pairwise sX
theorem ph0 {n_:LS_} (nd:n_.Nodup) (hl:n_.length < 1000):PH n_ (n_.map λname:Str=>[name]) (cN n_):=by
 rw[(Ai n_ nd hl).2];have inv:∀ p,p∈(n_.map λname:Str=>[name])->∃ n∈n_,p=[n]:=λp hp=>by
  obtain⟨n,hn,e⟩:=List.mem_map.mp hp;exact⟨n,hn,e.symm⟩
 refine⟨λp hp y hy=>?_,λx hx=>⟨[x],List.mem_map.mpr ⟨x,hx,rfl⟩,List.mem_singleton.mpr rfl⟩,λp hp x hx y hy=>?_,λp hp e=>?_,λp hp=>?_,λp hp q hq x h1 h2=>?_,by rw[zo];exact zi _,?_,λp hp=>?_⟩
 ·obtain⟨n,hn,rfl⟩:=inv p hp;cases List.mem_singleton.mp hy;exact hn
 ·obtain⟨n,hn,rfl⟩:=inv p hp;cases List.mem_singleton.mp hx;rw[wJ nd hn,wJ nd hy,List.mem_singleton];exact⟨λe=>e.symm,λe=>e.symm⟩
 ·obtain⟨n,hn,rfl⟩:=inv p hp;cases e
 ·obtain⟨n,hn,rfl⟩:=inv p hp;exact List.nodup_cons.mpr ⟨λz=>(by cases z),KI⟩
 ·obtain⟨n,hn,rfl⟩:=inv p hp;obtain⟨n',hn',rfl⟩:=inv q hq;cases List.mem_singleton.mp h1;cases List.mem_singleton.mp h2;rfl
 ·unfold List.Nodup;rw[kR];exact nd.imp λh e=>h (by injection e)
 ·obtain⟨n,hn,rfl⟩:=inv p hp;exact List.pairwise_singleton _ _
theorem pick {P:List LS_} {a:Str} (h:∃ p∈P,a∈p):In ((P.filter λpart:LS_=>(decide (a∈part))).map λpart:LS_=>part).length (0:Int)/\at' ((P.filter λpart:LS_=>(decide (a∈part))).map λpart:LS_=>part) (0:Int)∈P/\a∈at' ((P.filter λpart:LS_=>(decide (a∈part))).map λpart:LS_=>part) (0:Int):=by
 obtain⟨p,hp,ha⟩:=h;have m:p∈((P.filter λpart:LS_=>(decide (a∈part))).map λpart:LS_=>part):=List.mem_map.mpr ⟨p,List.mem_filter.mpr ⟨hp,Zp ha⟩,rfl⟩;have i:In ((P.filter λpart:LS_=>(decide (a∈part))).map λpart:LS_=>part).length (0:Int):=SX (k:=0) (k6 m);refine⟨i,?_⟩;obtain⟨q,hq,e⟩:=List.mem_map.mp (vL i);rw[<-e];exact⟨(List.mem_filter.mp hq).1,qr (List.mem_filter.mp hq).2⟩
theorem comb {n_:LS_} {P:List LS_} {m:List (Str×Str)} (h:Hd n_ m) (p:PH n_ P m) {one other:LS_} {a b:Str} (h1:one∈P) (h2:other∈P) (ha:a∈one) (hb:b∈other) (hne:one≠other) :
  (one++other).length<=n_.length/\PH n_ (((P.filter λpart:LS_=>(!gB part [one,other])).map λpart:LS_=>part)++[(qu (one++other))]) (jm m (look m a) (look m b)):=by
 have an:=p.sub _ h1 _ ha;have bn:=p.sub _ h2 _ hb;have ndq:(one++other).Nodup:=List.nodup_append.mpr ⟨p.nd _ h1,p.nd _ h2,λx hx y hy e=>hne (p.uni _ h1 _ h2 x hx (e▸hy))⟩;have afN:∀ x∈one++other,x∈n_:=λx hx=>(List.mem_append.mp hx).elim (p.sub _ h1 _) (p.sub _ h2 _);have c1:∀ y∈n_,(y∈one↔look m y=look m a):=λy hy=>(p.cls _ h1 _ ha y hy).trans ⟨Eq.symm,Eq.symm⟩;have c2:∀ y∈n_,(y∈other↔look m y=look m b):=λy hy=>(p.cls _ h2 _ hb y hy).trans ⟨Eq.symm,Eq.symm⟩;have old:∀ q,q∈((P.filter λpart:LS_=>(!gB part [one,other])).map λpart:LS_=>part)↔q∈P/\q≠one/\q≠other:=λq=>by
  rw[QY,JJ,Qr,<-Bool.not_eq_true,nJ];simp
 have mq:∀ y,y∈qu (one++other)↔y∈one\/y∈other:=λy=>(jg _).mem_iff.trans List.mem_append;have far:∀ q,q∈P->q≠one->q≠other->∀ x∈q,look m x≠look m a/\look m x≠look m b:=λq hq n1 n2 x hx=>by
  have xn:=p.sub _ hq _ hx;exact⟨λe=>n1 (p.uni _ hq _ h1 x hx ((c1 x xn).mpr e)),λe=>n2 (p.uni _ hq _ h2 x hx ((c2 x xn).mpr e))⟩
 refine⟨pig ndq afN,⟨λq hq y hy=>?_,λx hx=>?_,λq hq x hx y hy=>?_,λq hq=>?_,λq hq=>?_,λq hq q' hq' x hx hx'=>?_,?_,?_,λq hq=>?_⟩⟩
 ·rcases List.mem_append.mp hq with hq|hq
  ·exact p.sub _ ((old q).mp hq).1 _ hy
  ·cases List.mem_singleton.mp hq;exact afN y ((jg _).mem_iff.mp hy)
 ·obtain⟨q,hq,hx'⟩:=p.cov x hx;by_cases e:q=one\/q=other
  ·refine⟨_,List.mem_append.mpr (.inr (List.mem_singleton.mpr rfl)),(mq x).mpr ?_⟩;rcases e with rfl|rfl
   ·exact .inl hx'
   ·exact .inr hx'
  ·exact⟨q,List.mem_append.mpr (.inl ((old q).mpr ⟨hq,λz=>e (.inl z),λz=>e (.inr z)⟩)),hx'⟩
 ·rcases List.mem_append.mp hq with hq|hq
  ·obtain⟨hq,n1,n2⟩:=(old q).mp hq;have xn:=p.sub _ hq _ hx;have f:=far q hq n1 n2 x hx;rw[h.lR xn,h.lR hy,p.cls _ hq _ hx y hy];unfold jn;rw[zw (λz=>z.elim f.1 f.2)];by_cases e:look m y=look m a\/look m y=look m b
   ·rw[zk e];constructor
    ·intro z;rw[z] at f;exact absurd e (λw=>w.elim f.1 f.2)
    ·intro z;rcases Hh (look m a) (look m b) with w|w<;>rw[w] at z
     ·exact absurd z f.1
     ·exact absurd z f.2
   ·rw[zw e]
  ·cases List.mem_singleton.mp hq;have xq:=(mq x).mp hx;have xn:=afN x (List.mem_append.mpr xq);rw[mq,h.lR xn,h.lR hy,c1 y hy,c2 y hy];unfold jn;rw[zk (xq.elim (λz=>.inl ((c1 x xn).mp z)) (λz=>.inr ((c2 x xn).mp z)))];by_cases e:look m y=look m a\/look m y=look m b
   ·rw[zk e];exact⟨λ_=>rfl,λ_=>e⟩
   ·rw[zw e];refine⟨λz=>absurd z e,λz=>?_⟩;rcases Hh (look m a) (look m b) with w|w<;>rw[w] at z
    ·exact .inl z.symm
    ·exact .inr z.symm
 ·rcases List.mem_append.mp hq with hq|hq
  ·exact p.ne _ ((old q).mp hq).1
  ·cases List.mem_singleton.mp hq;intro e;have:=(mq a).mpr (.inl ha);rw[e] at this;cases this
 ·rcases List.mem_append.mp hq with hq|hq
  ·exact p.nd _ ((old q).mp hq).1
  ·cases List.mem_singleton.mp hq;exact(jg _).nodup_iff.mpr ndq
 ·have key:∀ q,q∈P->q≠one->q≠other->x∈q->x∈qu (one++other)->False:=λq hq n1 n2 e1 e2=>
   ((mq x).mp e2).elim (λz=>n1 (p.uni _ hq _ h1 x e1 z)) (λz=>n2 (p.uni _ hq _ h2 x e1 z))
  rcases List.mem_append.mp hq with hq|hq<;>rcases List.mem_append.mp hq' with hq'|hq'
  ·exact p.uni _ ((old q).mp hq).1 _ ((old q').mp hq').1 x hx hx'
  ·cases List.mem_singleton.mp hq';obtain⟨z,n1,n2⟩:=(old q).mp hq;exact(key q z n1 n2 hx hx').elim
  ·cases List.mem_singleton.mp hq;obtain⟨z,n1,n2⟩:=(old q').mp hq';exact(key q' z n1 n2 hx' hx).elim
  ·exact(List.mem_singleton.mp hq).trans (List.mem_singleton.mp hq').symm
 ·rw[zS,QY];have:(P.filter λpart:LS_=>(!gB part [one,other])).length < P.length:=by
   rw[List.length_filter_lt_length_iff_exists];refine⟨one,h1,?_⟩;rw[Qr,Bool.not_eq_false];exact nJ.mpr (zh ..)
  have:=p.len;show _+1<=_;omega
 ·rw[kU];refine⟨by rw[QY];exact p.pn.filter _,List.nodup_cons.mpr ⟨λz=>(by cases z),KI⟩,λx hx y hy e=>?_⟩;cases List.mem_singleton.mp hy;obtain⟨z,n1,n2⟩:=(old x).mp hx;have:a∈x:=by rw[e];exact(mq a).mpr (.inl ha)
  exact n1 (p.uni _ z _ h1 a this ha)
 ·rcases List.mem_append.mp hq with hq|hq
  ·exact p.srt _ ((old q).mp hq).1
  ·cases List.mem_singleton.mp hq;exact xW _
theorem Tj {n_:LS_} {P:List LS_} {m:List (Str×Str)} (h:Hd n_ m) (hl:n_.length < 64) (p:PH n_ P m) {r:jc} (ha:r.2.1∈n_) (hb:r.2.2.1∈n_) :
  jw P r/\PH n_ (dG P r) (jm m (look m r.2.1) (look m r.2.2.1)):=by
 obtain⟨i1,o1,a1⟩:=pick (p.cov _ ha);obtain⟨i2,o2,a2⟩:=pick (p.cov _ hb);have pl:=p.len;unfold jw dG;dsimp only;generalize at' ((P.filter λpart:LS_=>(decide (r.2.1∈part))).map λpart:LS_=>part) (0:Int)=one at *
 generalize at' ((P.filter λpart:LS_=>(decide (r.2.2.1∈part))).map λpart:LS_=>part) (0:Int)=other at *
 by_cases e:one=other
 ·subst e;refine⟨⟨⟨by omega,i1⟩,⟨by omega,i2⟩,λz=>by simp at z⟩,?_⟩;rw[zw (by simp),(p.cls _ o1 _ a1 _ hb).mp a2,Vf];exact p
 ·obtain⟨c1,c2⟩:=comb h p o1 o2 a1 a2 e;rw[zS] at c1;refine⟨⟨⟨by omega,i1⟩,⟨by omega,i2⟩,λ_=>⟨⟨by omega,?_,?_⟩,?_⟩⟩,?_⟩
  ·show _<=1000000;omega
  ·rw[zS];omega
  ·have:=c2.len;rw[zS] at this;show _<=1000000;omega
  ·rw[zk (by simp[e])];exact c2
theorem Hj {n_:LS_} (hl:n_.length < 64):∀ (rs:List jc) (P:List LS_) (m:List (Str×Str)),Rs n_ rs->Hd n_ m->PH n_ P m →
  tW (λ(found:List LS_) (q1:jc)=>(dG found q1)) (λ(found:List LS_) (q1:jc)=>some (jw found q1)) rs P/\PH n_ (rs.foldl (λ(found:List LS_) (q1:jc)=>(dG found q1)) P) (rs.foldl jb m)
 |[],_,_,_,_,p=>⟨trivial,p⟩
 |r::rs,P,m,hr,h,p=>by
  obtain⟨ha,hb⟩:=hr r (zh ..);obtain⟨d,q⟩:=Tj h hl p ha hb;have ih:=Hj hl rs (dG P r) (jb m r) (λx hx=>hr x (zg _ hx)) (h.join ha hb) q;exact⟨⟨d,ih.1⟩,ih.2⟩
theorem QS {n_:LS_} (nd:n_.Nodup) (hl:n_.length < 64) {rs:List jc} (hr:Rs n_ rs):nU n_ rs/\∃ P,gk n_ rs=fG P/\PH n_ P (hb n_ rs):=by
 obtain⟨d,p⟩:=Hj hl rs _ _ hr (hd0 nd (by omega)) (ph0 nd (by omega));have pl:=p.len;refine⟨⟨by omega,d,by show List.length _<=100000;exact Zs pl (by omega),by show(List.map _ _).length < 64;rw[zo];exact kK pl hl,λx hx=>?_⟩,_,congrArg fG (QY _),p⟩;obtain⟨y,hy,rfl⟩:=List.mem_map.mp hx;have:=p.ne _ hy;cases y
 ·exact absurd rfl this
 ·rfl
theorem Hl (a:Str):sX a a:=by unfold sX;rw[ltCps_eq];simp
theorem J5 {a b c:Str} (h:sX a b) (h':sX b c):sX a c:=by
 unfold sX at *
 rw[ltCps_eq] at *
 simp only[QU] at *
 exact List.le_trans (α:=Nat) h h'
theorem adK (a b:Str):sX (mn a b) a/\sX (mn a b) b:=by
 unfold mn;by_cases h:vK b a=true
 ·rw[zk h];exact⟨((lt_iff b a).mp h).1,Hl b⟩
 ·rw[zw h];refine⟨Hl a,?_⟩;have h:vK b a=false:=by simpa using h
  unfold vK at h;unfold sX;rw[ltCps_eq];exact h
def Lst (n_:LS_) (m:List (Str×Str)):Prop:=∀ x∈n_,sX (look m x) x
theorem ahJ {n_:LS_} (nd:n_.Nodup) (hl:n_.length < 1000):Lst n_ (cN n_):=λx hx=>by
 rw[(Ai n_ nd hl).2,wJ nd hx];exact Hl x
theorem Lst.jb {n_:LS_} {m:List (Str×Str)} (l:Lst n_ m) (h:Hd n_ m) (r:jc):Lst n_ (jb m r):=λx hx=>by
 show sX (look (jm m (look m r.2.1) (look m r.2.2.1)) x) x;rw[h.lR hx];unfold jn;split
 ·rename_i e;rcases e with e|e
  ·exact J5 (adK _ _).1 (e▸l x hx)
  ·exact J5 (adK _ _).2 (e▸l x hx)
 ·exact l x hx
theorem M8 {α:Type} [DecidableEq α]:∀ {xs ys:List α},xs.Nodup->ys.Nodup->(∀ x,x∈xs↔x∈ys)->xs.Perm ys
 |[],ys,_,_,h=>by
  cases ys with
  |nil=>exact .refl _
  |cons y ys=>exact absurd ((h y).mpr (zh ..)) (by simp)
 |x::xs,ys,nx,ny,h=>by
  obtain⟨n1,n2⟩:=List.nodup_cons.mp nx;have hx:=(h x).mp (zh ..);refine(List.Perm.cons x (M8 (ys:=ys.erase x) n2 (ny.erase x) λz=>?_)).trans (List.perm_cons_erase hx).symm;constructor
  ·intro hz;have:z≠x:=λe=>n1 (e▸hz);exact(Kk this).mpr ((h z).mp (zg _ hz))
  ·intro hz;have hne:z≠x:=λe=>by subst e;exact(List.Nodup.not_mem_erase ny) hz
   have:=(h z).mpr (List.mem_of_mem_erase hz);rcases List.mem_cons.mp this with e|e
   ·exact absurd e hne
   ·exact e
theorem acW {a b:Str} {xs ys:LS_} (h:sX a b) (hne:a≠b):Qi (a::xs) (b::ys)=true:=by
 unfold Qi S1.vD;show(!S1.nZ (Sum.inr b::kT ys) (Sum.inr a::kT xs))=true;unfold S1.nZ;rw[zw (λe=>hne (Sum.inr.inj e).symm)];unfold S1.Uj;unfold sX at h;rw[ltCps_eq] at h;simpa using h
theorem Vg {n_:LS_} (so:n_.Pairwise sX) {m:List (Str×Str)} (h:Hd n_ m) (l:Lst n_ m) {P:List LS_} (p:PH n_ P m):bD m=fG P:=by
 have ks:=h.keys;have under:∀ q∈P,∀ x∈q,bO m (look m x)=q:=λq hq x hx=>by
  unfold bO;rw[QY,ks];refine K4 (M8 (h.nd.filter _) (p.nd _ hq) λz=>?_) (so.filter _) (p.srt _ hq);rw[JJ,z5];constructor
  ·rintro⟨hz,e⟩;exact(p.cls q hq x hx z hz).mpr e.symm
  ·intro hz;have zn:=p.sub _ hq _ hz;exact⟨zn,((p.cls q hq x hx z zn).mp hz).symm⟩
 have first:∀ n∈n_,look m n=n->∃ t,bO m n=n::t:=λn hn e=>by
  have hmem:n∈bO m n:=by
   unfold bO;rw[QY,ks,JJ,z5];exact⟨hn,e⟩
  have hso:(bO m n).Pairwise sX:=by
   unfold bO;rw[QY,ks];exact so.filter _
  cases hc:bO m n with
  |nil=>rw[hc] at hmem;cases hmem
  |cons y t=>
   have hy:y∈bO m n:=by rw[hc];exact zh ..
   unfold bO at hy;rw[QY,ks,JJ,z5] at hy;have h1:sX n y:=by have:=l y hy.1;rw[hy.2] at this;exact this
   rw[hc] at hmem hso;rcases List.mem_cons.mp hmem with e2|e2
   ·exact⟨t,by rw[e2]⟩
   ·have:=vB h1 ((List.pairwise_cons.mp hso).1 n e2);exact⟨t,by rw[this]⟩
 refine Wy (M8 ?_ p.pn λq=>?_) ?_
 ·unfold bD List.Nodup;rw[ks,kR];refine kc ?_ (h.nd.filter _);intro a b ha hb hne e;rw[JJ,z5] at ha hb;obtain⟨t1,e1⟩:=first a ha.1 ha.2;obtain⟨t2,e2⟩:=first b hb.1 hb.2;rw[e1,e2] at e;exact hne (by injection e)
 ·unfold bD;rw[ks,kP];constructor
  ·rintro⟨n,hn,rfl⟩;rw[JJ,z5] at hn;obtain⟨q,hq,hx⟩:=p.cov n hn.1;have:=under q hq n hx;rw[hn.2] at this;rw[this];exact hq
  ·intro hq;cases hc:q with
   |nil=>exact absurd hc (p.ne _ hq)
   |cons x t=>
    have hx:x∈q:=by rw[hc];exact zh ..
    have xn:=p.sub _ hq _ hx;refine⟨look m x,List.mem_filter.mpr ⟨h.mem x xn,Zp (h.idem x xn)⟩,?_⟩;rw[under q hq x hx,hc]
 ·unfold bD;rw[ks,kR];have both:(n_.filter λname:Str=>decide (look m name=name)).Pairwise λa b=>sX a b/\a≠b:=(so.filter _).and (h.nd.filter _);refine kc ?_ both;intro a b ha hb hab;rw[JJ,z5] at ha hb;obtain⟨t1,e1⟩:=first a ha.1 ha.2;obtain⟨t2,e2⟩:=first b hb.1 hb.2;rw[e1,e2];exact acW hab.1 hab.2
abbrev Bar:=Str×Str×Int
abbrev JS:=(List (Str×Str))×(List jc)×(List (jc×Option Bar))
abbrev Ho (bars:List Bar):JS->jc->JS:=λs2 reason=>cT bars s2 reason
def cP (bars:List Bar) (n_:LS_) (rs:List jc):JS:=rs.foldl (Ho bars) (cN n_,[],[])
theorem qd (n_:LS_) (rs:List jc) (bars:List Bar):aQ (n_,rs,bars)=(bD (cP bars n_ rs).1,(cP bars n_ rs).2.1,(cP bars n_ rs).2.2):=rfl
theorem W2 (bars:List Bar) (s:JS) (r:jc):(Ho bars s r=s)\/(∃ m',(∀ b,Ho bars (s.1,s.2.1,b) r=(m',s.2.1++[r],b))/\Ho bars s r=(m',s.2.1++[r],s.2.2))\/∃ q,(∀ b,Ho bars (s.1,s.2.1,b) r=(s.1,s.2.1,b++[(r,q)]))/\Ho bars s r=(s.1,s.2.1,s.2.2++[(r,q)]):=by
 obtain⟨m,k,b⟩:=s;unfold Ho cT;dsimp only;by_cases e:look m r.2.1=look m r.2.2.1
 ·left;simp[e]
 ·right;by_cases q:(dD bars m (look m r.2.1) (look m r.2.2.1)).isNone=true
  ·left;exact⟨iG m (look m r.2.1) (look m r.2.2.1),λb=>by simp[e,q],by simp[e,q]⟩
  ·right;exact⟨dD bars m (look m r.2.1) (look m r.2.2.1),λb=>by simp[e,q],by simp[e,q]⟩
theorem BJ (bars:List Bar):∀ (post:List jc) (s:JS),∃ K B,(post.foldl (Ho bars) s).2.1=s.2.1++K/\(post.foldl (Ho bars) s).2.2=s.2.2++B/\(∀ r∈K,r∈post)/\(∀ q∈B,q.1∈post)/\(post.Nodup->∀ q∈B,q.1∉K)
 |[],s=>⟨[],[],by simp,by simp,λr h=>(by cases h),λr h=>(by cases h),λ_ r h=>(by cases h)⟩
 |r::post,s=>by
  obtain⟨K,B,h1,h2,h3,h4,h5⟩:=BJ bars post (Ho bars s r);rw[QO];rcases W2 bars s r with e|⟨m',_,e⟩|⟨q,_,e⟩
  ·rw[e] at h1 h2 ⊢;exact⟨K,B,h1,h2,λx hx=>zg _ (h3 x hx),λx hx=>zg _ (h4 x hx),λnd=>h5 (List.nodup_cons.mp nd).2⟩
  ·rw[e] at h1 h2 ⊢;refine⟨r::K,B,by rw[h1];simp,h2,λx hx=>?_,λx hx=>zg _ (h4 x hx),λnd x hx hm=>?_⟩
   ·rcases List.mem_cons.mp hx with rfl|hx
    ·exact zh ..
    ·exact zg _ (h3 x hx)
   ·obtain⟨n1,n2⟩:=List.nodup_cons.mp nd;rcases List.mem_cons.mp hm with z|z
    ·exact n1 (z▸h4 x hx)
    ·exact h5 n2 x hx z
  ·rw[e] at h1 h2 ⊢;refine⟨K,(r,q)::B,h1,by rw[h2];simp,λx hx=>zg _ (h3 x hx),λx hx=>?_,λnd x hx hm=>?_⟩
   ·rcases List.mem_cons.mp hx with rfl|hx
    ·exact zh ..
    ·exact zg _ (h4 x hx)
   ·obtain⟨n1,n2⟩:=List.nodup_cons.mp nd;rcases List.mem_cons.mp hx with rfl|hx
    ·exact n1 (h3 _ hm)
    ·exact h5 n2 x hx hm
theorem wK {α σ τ:Type} {step:σ->α->ji σ τ} {P:σ->α->Option Prop}:∀ (xs:List α) (s:σ),(∀ s x,x∈xs->hold (P s x))->uG step P xs s
 |[],_,_=>trivial
 |x::xs,s,h=>by
  refine⟨h s x (zh ..),?_⟩;cases step s x with
  |nx s'=>exact wK xs s' λs y hy=>h s y (zg _ hy)
  |ct s'=>exact wK xs s' λs y hy=>h s y (zg _ hy)
  |bk s'=>trivial
  |rt s'=>trivial
theorem afO {n_:LS_} {m:List (Str×Str)} (h:Hd n_ m) {bars:List Bar} (hbs:∀ b∈bars,b.1∈n_/\b.2.1∈n_) (one other:Str):ni bars m one other:=by
 refine⟨wK _ _ λs x hx=>?_,?_⟩
 ·have h1:=h.has (hbs x hx).1;have h2:=h.has (hbs x hx).2;exact⟨⟨h1,λ_=>h2⟩,λ_=>⟨h1,λ_=>h2⟩⟩
 ·unfold jP;split<;>trivial
structure JI (n_:LS_) (n:Nat) (s:JS):Prop where
 h:Hd n_ s.1
 l:Lst n_ s.1
 e:s.1=hb n_ s.2.1
 rs:Rs n_ s.2.1
 kl:s.2.1.length<=n
 bl:s.2.2.length<=n
theorem QT {n_:LS_} (nd:n_.Nodup) (hl:n_.length < 64) {bars:List Bar} (hbs:∀ b∈bars,b.1∈n_/\b.2.1∈n_) {rs:List jc} (hr:Rs n_ rs) (rl:rs.length < 64):cX (n_,rs,bars)/\JI n_ rs.length (cP bars n_ rs):=by
 have:=zL (P:=λs2 reason=>some (oG bars s2 reason)) (step:=Ho bars) (λk s=>JI n_ k s) rs 0 (cN n_,[],[]) ⟨hd0 nd (by omega),ahJ nd (by omega),rfl,λr h=>(by cases h),zi _,zi _⟩ λk r s hk i=>by
  obtain⟨m,kp,ba⟩:=s;have hm:r∈rs:=Z3 hk;have hkl:k < rs.length:=(List.getElem?_eq_some_iff.mp hk).1;obtain⟨ha,hb'⟩:=hr r hm;rw[JY] at i;have ih:Hd n_ m:=i.h;have ikl:kp.length<=k:=i.kl;have ibl:ba.length<=k:=i.bl;have j:=M7 (look m r.2.1) (look m r.2.2.1) ih.kn ih.ml;refine⟨⟨ih.has ha,ih.has hb',λ_=>⟨afO ih hbs _ _,λ_=>⟨j.1,?_⟩,λ_=>?_⟩⟩,?_⟩
  ·show kp.length<=1000000;omega
  ·show ba.length<=1000000;omega
  rw[JY];by_cases e:look m r.2.1=look m r.2.2.1
  ·have:Ho bars (m,kp,ba) r=(m,kp,ba):=by unfold Ho cT;simp[e]
   rw[this];exact⟨ih,i.l,i.e,i.rs,by show kp.length<=_;omega,by show ba.length<=_;omega⟩
  ·by_cases q:(dD bars m (look m r.2.1) (look m r.2.2.1)).isNone=true
   ·have:Ho bars (m,kp,ba) r=(jb m r,kp++[r],ba):=by unfold Ho cT;simp only[j.2];simp[e,q];rfl
    rw[this];refine⟨ih.join ha hb',i.l.jb ih r,?_,?_,by rw[zS];show kp.length+1<=_;omega,by show ba.length<=_;omega⟩
    ·show jb m r=hb n_ (kp++[r]);rw[qU,<-i.e]
    ·intro x hx;rcases List.mem_append.mp hx with hx|hx
     ·exact i.rs x hx
     ·cases List.mem_singleton.mp hx;exact⟨ha,hb'⟩
   ·have:Ho bars (m,kp,ba) r=(m,kp,ba++[(r,dD bars m (look m r.2.1) (look m r.2.2.1))]):=by unfold Ho cT;simp[e,q]
    rw[this];exact⟨ih,i.l,i.e,i.rs,by show kp.length<=_;omega,by rw[zS];show ba.length+1<=_;omega⟩
 rw[JY] at this;exact⟨⟨(Ai n_ nd (by omega)).1,this.1,(Ea this.2.h).1⟩,this.2⟩
def bt (m:List (Str×Str)) (one other:Str) (b:Bar):Bool:=((decide ((look m b.1)=one))&&(decide ((look m b.2.1)=other)))||((decide ((look m b.1)=other))&&(decide ((look m b.2.1)=one)))
theorem aam (bars:List Bar) (m:List (Str×Str)) (one other:Str):dD bars m one other=bars.find? (bt m one other):=by
 unfold dD
 induction bars with
 |nil=>rfl
 |cons b bars ih=>
  have e:(gO m one other () b:ji Unit (Option Bar))=if bt m one other b=true then .rt (some b) else .nx ():=rfl;rw[jC,e,Qb];cases h:bt m one other b with
  |true=>rw[zk rfl];rfl
  |false=>rw[zw zI];exact ih
theorem Cy {α:Type} {p c:α->Bool}:∀ {l:List α},(∀ x,l.find? c=some x->p x=true)->(l.filter p).find? c=l.find? c
 |[],_=>rfl
 |x::l,h=>by
  rw[Qb];cases hc:c x with
  |true=>
   have hp:p x=true:=h x (by rw[Qb,hc]);rw[yz hp,Qb,hc]
  |false=>
   have ih:=Cy (p:=p) (c:=c) (l:=l) λy hy=>h y (by rw[Qb,hc];exact hy);dsimp only;cases hp:p x with
   |true=>rw[yz hp,Qb,hc];exact ih
   |false=>rw[List.filter_cons_of_neg (by rw[hp];exact zI)];exact ih
theorem Hq (bars:List Bar) (s:JS) (r:jc):Ho bars s r=if look s.1 r.2.1=look s.1 r.2.2.1 then s else match bars.find? (bt s.1 (look s.1 r.2.1) (look s.1 r.2.2.1)) with
  |none=>(iG s.1 (look s.1 r.2.1) (look s.1 r.2.2.1),s.2.1++[r],s.2.2)
  |some b=>(s.1,s.2.1,s.2.2++[(r,some b)]):=by
 unfold Ho cT;dsimp only;rw[aam];by_cases e:look s.1 r.2.1=look s.1 r.2.2.1
 ·rw[zk e,zw (by simp[e])]
 ·rw[zw e,zk (by simp[e])];cases bars.find? (bt s.1 (look s.1 r.2.1) (look s.1 r.2.2.1))<;>rfl
theorem wL (bars:List Bar) (n_:LS_) (rs:List jc) (r:jc):cP bars n_ (rs++[r])=Ho bars (cP bars n_ rs) r:=ya ..
theorem snoc_ind {α:Type} {P:List α->Prop} (h0:P []) (h1:∀ l a,P l->P (l++[a])) (l:List α):P l:=by
 have:∀ l:List α,P l.reverse:=λl=>by
  induction l with
  |nil=>exact h0
  |cons a l ih=>rw[kQ];exact h1 _ _ ih
 have:=this l.reverse;rwa [List.reverse_reverse] at this
structure JM (n_:LS_) (bars:List Bar) (rs:List jc) (s:JS):Prop where
 c:(Hi n_ s.1).length+s.2.1.length=n_.length
 b:∀ q∈s.2.2,∃ b∈bars,q.2=some b
 r:∀ x∈n_,∀ y∈n_,look s.1 x=look s.1 y->look (hb n_ rs) x=look (hb n_ rs) y
theorem acX {l:LS_} {p:Str->Bool} (h:∀ x∈l,p x=true):(l.filter p).length=l.length:=by rw[List.filter_eq_self.mpr h]
theorem Hd.hb {n_:LS_} (nd:n_.Nodup) (hl:n_.length < 1000) {rs:List jc} (hr:Rs n_ rs):Hd n_ (hb n_ rs):=by
 induction rs using snoc_ind with
 |h0=>exact hd0 nd hl
 |h1 rs r ih=>
  obtain⟨ha,hb'⟩:=hr r (by simp);rw[qU];exact(ih λx hx=>hr x (qv _ hx)).join ha hb'
theorem Lst.hb {n_:LS_} (nd:n_.Nodup) (hl:n_.length < 1000) {rs:List jc} (hr:Rs n_ rs):Lst n_ (hb n_ rs):=by
 induction rs using snoc_ind with
 |h0=>exact ahJ nd hl
 |h1 rs r ih=>
  have hr':Rs n_ rs:=λx hx=>hr x (qv _ hx);rw[qU];exact(ih hr').jb (Hd.hb nd hl hr') r
theorem W3 {n_:LS_} (nd:n_.Nodup) (hl:n_.length < 64) {bars:List Bar} (hbs:∀ b∈bars,b.1∈n_/\b.2.1∈n_) {rs:List jc} (hr:Rs n_ rs) (rl:rs.length < 64):JM n_ bars rs (cP bars n_ rs):=by
 induction rs using snoc_ind with
 |h0=>
  refine⟨?_,λq hq=>(by cases hq),λx hx y hy e=>e⟩;show(Hi n_ (cN n_)).length+0=_;rw[(Ai n_ nd (by omega)).2,Nat.add_zero];exact acX λx hx=>Zp (wJ nd hx)
 |h1 rs r ih=>
  rw[zS,ky] at rl;have hr':Rs n_ rs:=λx hx=>hr x (qv _ hx);have i:=ih hr' (by omega);have J:=(QT nd hl hbs hr' (by omega)).2;obtain⟨ha,hb'⟩:=hr r (by simp);have H:=Hd.hb nd (by omega) hr';rw[wL,Hq];generalize cP bars n_ rs=s at i J;obtain⟨m,k,b⟩:=s;have ih:Hd n_ m:=J.h;have R:∀ x∈n_,∀ y∈n_,look m x=look m y->look (hb n_ (rs++[r])) x=look (hb n_ (rs++[r])) y:=λx hx y hy e=>by
   rw[qU];unfold jb;rw[H.lR hx,H.lR hy,i.r x hx y hy e]
  dsimp only;split
  ·exact⟨i.c,i.b,R⟩
  ·rename_i hne;split
   ·rw[(M7 _ _ ih.kn ih.ml).2];refine⟨?_,i.b,λx hx y hy e=>?_⟩
    ·have:=ih.aal ha hb' hne;have c:=i.c;show(Hi n_ (jm m _ _)).length+(k++[r]).length=_;rw[zS,ky];have c:(Hi n_ m).length+k.length=n_.length:=c;omega
    ·have e:look (jm m (look m r.2.1) (look m r.2.2.1)) x=look (jm m (look m r.2.1) (look m r.2.2.1)) y:=e;rw[ih.lR hx,ih.lR hy] at e;have in2:∀ z∈n_,look m z=look m r.2.1\/look m z=look m r.2.2.1->look (hb n_ (rs++[r])) z=mn (look (hb n_ rs) r.2.1) (look (hb n_ rs) r.2.2.1):=λz hz h=>by
      rw[qU];unfold jb;rw[H.lR hz];unfold jn;rw[zk];rcases h with h|h
      ·exact .inl (i.r z hz _ ha h)
      ·exact .inr (i.r z hz _ hb' h)
     unfold jn at e;have mm:=Hh (look m r.2.1) (look m r.2.2.1);split at e
     ·rename_i hx';have hy':look m y=look m r.2.1\/look m y=look m r.2.2.1:=by
       split at e
       ·assumption
       ·rcases mm with z|z<;>rw[z] at e
        ·exact .inl e.symm
        ·exact .inr e.symm
      rw[in2 x hx hx',in2 y hy hy']
     ·rename_i hx';split at e
      ·exfalso;apply hx';rcases mm with z|z<;>rw[z] at e
       ·exact .inl e
       ·exact .inr e
      ·exact R x hx y hy e
   ·rename_i b' hf;refine⟨i.c,λq hq=>?_,R⟩;rcases List.mem_append.mp hq with hq|hq
    ·exact i.b q hq
    ·cases List.mem_singleton.mp hq;exact⟨b',KW hf,rfl⟩
theorem J6 {bars:List Bar} {p:Bar->Bool} {n_:LS_}:∀ {rs:List jc},(∀ pre r post,rs=pre++r::post->∀ b,look (cP bars n_ pre).1 r.2.1≠look (cP bars n_ pre).1 r.2.2.1->bars.find? (bt (cP bars n_ pre).1 (look (cP bars n_ pre).1 r.2.1) (look (cP bars n_ pre).1 r.2.2.1))=some b->p b=true)->cP (bars.filter p) n_ rs=cP bars n_ rs:=λ{rs} h=>by
 induction rs using snoc_ind with
 |h0=>rfl
 |h1 rs r ih=>
  have ih:=ih λpre x post e=>h pre x (post++[r]) (by rw[e];simp);rw[wL,wL,ih,Hq,Hq];have hq:=h rs r [] rfl;generalize cP bars n_ rs=s at hq;by_cases e:look s.1 r.2.1=look s.1 r.2.2.1
  ·rw[zk e,zk e]
  ·rw[zw e,zw e,Cy λb hb=>hq b e hb]
theorem aan {n_:LS_} (nd:n_.Nodup) (hl:n_.length < 1000) {rs:List jc} (hr:Rs n_ rs):(cP [] n_ rs).1=hb n_ rs/\(cP [] n_ rs).2.2=[]:=by
 induction rs using snoc_ind with
 |h0=>exact⟨rfl,rfl⟩
 |h1 rs r ih=>
  have hr':Rs n_ rs:=λx hx=>hr x (qv _ hx);obtain⟨i1,i2⟩:=ih hr';have H:=Hd.hb nd hl hr';rw[wL,Hq,qU];generalize cP [] n_ rs=s at i1 i2;obtain⟨m,k,b⟩:=s;have i1:m=hb n_ rs:=i1;subst i1;dsimp only;by_cases e:look (hb n_ rs) r.2.1=look (hb n_ rs) r.2.2.1
  ·rw[zk e];refine⟨?_,i2⟩;unfold jb;rw[e,Vf]
  ·rw[zw e];exact⟨(M7 _ _ H.kn H.ml).2,i2⟩
abbrev WM:=List (Str×Option jc)
def ev (vu:List jc):LS_:=vu.flatMap λr=>[r.2.1,r.2.2.1]
theorem afP (vu:List jc):(ev vu).length=2 * vu.length:=by
 induction vu with
 |nil=>rfl
 |cons r vu ih=>
  show(r.2.1::r.2.2.1::ev vu).length=_;rw[ZH,ZH,ih,ZH];omega
theorem acY {α:Type} {m:List (Str×α)} {x:Str} {v:α} (h:has m x=false):put m x v=m++[(x,v)]:=by
 unfold put;rw[h,zw zI]
structure WI (vu:List jc) (a:Str) (m:WM):Prop where
 nd:(m.map (·.1)).Nodup
 sub:∀ x∈m.map (·.1),x∈a::ev vu
 wo:∀ pre x r post,m=pre++(x,some r)::post->∃ y∈pre.map (·.1),eZ (some r) x=eS y
theorem WI.len {vu:List jc} {a:Str} {m:WM} (h:WI vu a m):m.length<=2 * vu.length+1:=by
 have:=Gu h.nd h.sub;rw[zo,ZH,afP] at this;exact this
theorem eq_str (x y:Str):eqX (eS x) (eS y)=decide (x=y):=by
 rw[show eqX (eS x) (eS y)=(x==y) from acP x y];by_cases h:x=y
 ·rw[Zp h,beq_iff_eq.mpr h]
 ·rw[ZE h,beq_eq_false_iff_ne.mpr h]
theorem Tn {r:jc} {y x:Str} (h:gj r y=some x) (hne:y≠x):eZ (some r) x=eS y:=by
 unfold gj at h;unfold eZ;rw[eq_str,eq_str];show(if(decide (r.2.1=x))=true then eS r.2.2.1 else if(decide (r.2.2.1=x))=true then eS r.2.1 else Dt.non)=eS y;split at h
 ·rename_i e1;have e1:=qr e1;cases h;rw[zw (by rw[ZE (by rw[e1];exact hne)];exact zI),zk (Zp rfl),e1]
 ·split at h
  ·rename_i e2;have e2:=qr e2;cases h;rw[zk (Zp rfl),e2]
  ·cases h
theorem WI.add {vu:List jc} {a:Str} {m:WM} (h:WI vu a m) {r:jc} (hr:r∈vu) {y x:Str} (hy:y∈m.map (·.1)) (hx:has m x=false) (e:gj r y=some x):WI vu a (m++[(x,some r)]):=by
 have nx:x∉m.map (·.1):=λz=>by rw[pK.mpr z] at hx;cases hx
 refine⟨?_,λz hz=>?_,λpre z q post hm=>?_⟩
 ·rw[qo];exact List.nodup_append.mpr ⟨h.nd,by simp,λu hu v hv e=>nx (by
   have hv:v=x:=List.mem_singleton.mp hv;rw[<-hv,<-e];exact hu)⟩
 ·rw[qo] at hz;rcases List.mem_append.mp hz with hz|hz
  ·exact h.sub z hz
  ·rw[List.mem_singleton.mp hz];refine zg _ (List.mem_flatMap.mpr ⟨r,hr,?_⟩);unfold gj at e;split at e
   ·cases e;simp
   ·split at e
    ·cases e;simp
    ·cases e
 ·rcases List.eq_nil_or_concat post with rfl|⟨p2,w,rfl⟩
  ·obtain⟨e1,e2⟩:=List.append_inj' hm rfl;cases e2;rw[<-e1];exact⟨y,hy,Tn e λz=>nx (z▸hy)⟩
  ·have hm:m++[(x,some r)]=(pre++(z,some q)::p2)++[w]:=by rw[hm];simp
   exact h.wo pre z q p2 (List.append_inj' hm rfl).1
theorem acZ {vu:List jc} (hv:vu.length < 32) {a y:Str} {r:jc} (hr:r∈vu) {s:WM×LS_} (h:WI vu a s.1) (hy:y∈s.1.map (·.1)) (hq:∀ x∈s.2,x∈s.1.map (·.1)) (hl:s.2.length<=s.1.length) :
  qT y s r/\WI vu a (cQ y s r).1/\y∈(cQ y s r).1.map (·.1)/\(∀ x∈(cQ y s r).2,x∈(cQ y s r).1.map (·.1))/\(cQ y s r).2.length<=(cQ y s r).1.length/\(cQ y s r).2.length+s.1.length=s.2.length+(cQ y s r).1.length:=by
 obtain⟨m,q⟩:=s;have ml:=h.len;have hl:q.length<=m.length:=hl;have ml:m.length<=2 * vu.length+1:=ml;refine⟨⟨λz=>z,λz=>?_⟩,?_⟩
 ·have z1:=((ZA _ _).mp z).1;exact⟨⟨z1,show m.length < 1000 by omega⟩,z1,Zs (show q.length<=1000 by omega) (by decide)⟩
 ·unfold cQ;dsimp only;cases he:gj r y with
  |none=>exact⟨h,hy,hq,hl,rfl⟩
  |some x=>
   cases hx:has m x with
   |true=>
    have hx':has m ((some x).getD default)=true:=hx;rw[hx'];exact⟨h,hy,hq,hl,rfl⟩
   |false=>
    have e:put m x (some r)=m++[(x,some r)]:=acY hx;have sub:∀ z∈m.map (·.1),z∈(m++[(x,some r)]).map (·.1):=λz hz=>by rw[qo];exact qv _ hz
    have hx':has m ((some x).getD default)=false:=hx;rw[hx'];show WI vu a (put m x (some r))/\y∈(put m x (some r)).map (·.1)/\(∀ z∈q++[x],z∈(put m x (some r)).map (·.1))/\(q++[x]).length<=(put m x (some r)).length/\(q++[x]).length+m.length=q.length+(put m x (some r)).length;rw[e];refine⟨h.add hr hy hx he,sub y hy,λz hz=>?_,by simp;omega,by simp;omega⟩;rcases List.mem_append.mp hz with hz|hz
    ·exact sub z (hq z hz)
    ·rw[List.mem_singleton.mp hz];simp
theorem Vh {vu:List jc} (hv:vu.length < 32) {a:Str}:∀ (n:Nat) (q:LS_) (m:WM),WI vu a m->(∀ x∈q,x∈m.map (·.1))->q.length<=m.length->q.length+(2 * vu.length+1 - m.length) < n →
  whD (λs1:LS_×(List (Str×(Option aF)))=>(!s1.1.isEmpty)) (λs1:LS_×(List (Str×(Option aF)))=>none) (λs1:LS_×(List (Str×(Option aF)))=>((gW vu s1):ji (LS_×(List (Str×(Option aF)))) (Option (List aF)))) (λs1:LS_×(List (Str×(Option aF)))=>some (vU vu s1)) n (q,m) ∧
  ∃ s',Q5 (λs1:LS_×(List (Str×(Option aF)))=>(!s1.1.isEmpty)) (λs1:LS_×(List (Str×(Option aF)))=>((gW vu s1):ji (LS_×(List (Str×(Option aF)))) (Option (List aF)))) n (q,m)=.nx s'/\WI vu a s'.2
 |0,_,_,_,_,_,h=>absurd h (js _)
 |n+1,[],m,h,_,_,_=>⟨⟨trivial,λz=>by cases z⟩,_,rfl,h⟩
 |n+1,y::q,m,h,hq,hl,hn=>by
  rw[ZH] at hl hn;have hy:y∈m.map (·.1):=hq y (zh ..);have a0:at' (y::q) (0:Int)=y:=SQ (k:=0) rfl;obtain⟨f1,f2,f3,f4,f5,f6⟩:=zL (P:=λs2 vt=>some (qT y s2 vt)) (step:=λs2 vt=>cQ y s2 vt) (λ_ (s:WM×LS_)=>WI vu a s.1/\y∈s.1.map (·.1)/\(∀ x∈s.2,x∈s.1.map (·.1))/\s.2.length<=s.1.length/\s.2.length+m.length=q.length+s.1.length) vu 0 (m,q) ⟨h,hy,λx hx=>hq x (zg _ hx),by show q.length<=m.length;omega,rfl⟩ λk r s hk i=>by
   obtain⟨i1,i2,i3,i4,i5⟩:=i;obtain⟨g1,g2,g3,g4,g5,g6⟩:=acZ hv (Z3 hk) i1 i2 i3 i4;exact⟨g1,g2,g3,g4,g5,by omega⟩
  have e:(gW vu (y::q,m):ji (LS_×(List (Str×(Option aF)))) (Option (List aF)))=.nx ((vu.foldl (λs2 vt=>cQ y s2 vt) (m,q)).2,(vu.foldl (λs2 vt=>cQ y s2 vt) (m,q)).1):=by
   unfold gW;dsimp only;rw[a0];rfl
  have ml:=f2.len;obtain⟨r1,r2⟩:=Vh hv n _ _ f2 f4 f5 (by omega);rw[whD,Q5,zk (by rfl),e];exact⟨⟨trivial,λ_=>⟨⟨⟨rfl,by simp⟩,by dsimp only;rw[a0];exact f1⟩,r1⟩⟩,r2⟩
theorem J7 {vu:List jc} {a:Str} {m:WM} (h:WI vu a m):∀ (n:Nat) (w:List jc) (pre:WM) (x:Str) (v:Option jc) (post:WM),m=pre++(x,v)::post->pre.length < n->w.length+n<=2000 →
  whD (λs1:(List aF)×Str=>(look m s1.2).isSome) (λs1:(List aF)×Str=>some (has m s1.2=true)) (λs1:(List aF)×Str=>((fj m s1):ji ((List aF)×Str) (List aF))) (λs1:(List aF)×Str=>some (rG m s1)) n (w,x)
 |0,_,_,_,_,_,_,hn,_=>absurd hn (js _)
 |n+1,w,pre,x,v,post,hm,hn,hw=>by
  have hx:has m x=true:=pK.mpr (by rw[hm];simp);have nx:x∉pre.map (·.1):=λz=>by
   have:=h.nd;rw[hm,qo] at this;exact(List.nodup_append.mp this).2.2 x z x (by simp) rfl
  have hl:look m x=v:=by rw[hm];exact Hg nx
  rw[whD];refine⟨hx,λhc=>?_⟩;cases v with
  |none=>
   have hc:(look m x).isSome=true:=hc;rw[hl] at hc;cases hc
  |some r=>
   obtain⟨y,hy,e⟩:=h.wo pre x r post hm;have ex:∀ p q:Str,EqX (eS p) (eS q):=λp q=>acQ p q;have d1:nj (some r) x:=⟨⟨rfl,ex _ _⟩,λ_=>rfl,λ_=>⟨⟨rfl,ex _ _⟩,λ_=>rfl⟩⟩;have eb:(fj m (w,x):ji ((List aF)×Str) (List aF))=.nx (w++[r],y):=by
    unfold fj;dsimp only;rw[hl,e];rfl
   refine⟨⟨⟨⟨hx,by rw[hl];rfl⟩,Zs (show w.length<=2000 by omega) (by decide)⟩,?_⟩,?_⟩
   ·dsimp only;rw[hl,e];exact⟨⟨hx,d1⟩,rfl⟩
   ·rw[eb];obtain⟨q,hq,rfl⟩:=List.mem_map.mp hy;obtain⟨p1,p2,rfl⟩:=kL hq;refine J7 h n _ p1 q.1 q.2 (p2++(x,some r)::post) (by rw[hm];simp) ?_ (by rw[zS,ky];omega);rw[zS,ZH] at hn;omega
theorem afQ {vu:List jc} (hv:vu.length < 32) (a b:Str):nT vu a b:=by
 have w0:WI vu a [(a,none)]:=⟨by simp,λx hx=>by rw[List.mem_singleton.mp hx];exact zh ..,λpre x r post e=>by
  cases pre with
  |nil=>cases e
  |cons p pre=>cases pre<;>cases e⟩
 obtain⟨l1,s',l2,l3⟩:=Vh hv 70 [a] [(a,none)] w0 (λx hx=>by rw[List.mem_singleton.mp hx];exact zh ..) (zi 1) (by simp;omega);refine⟨l1,?_⟩;rw[l2];intro hb;have hb:b∈s'.2.map (·.1):=pK.mp (by simpa using hb);obtain⟨q,hq,rfl⟩:=List.mem_map.mp hb;obtain⟨p1,p2,e⟩:=kL hq;have ml:=l3.len;have hl:p1.length < 70:=by
  rw[e,zS,ZH] at ml;omega
 refine⟨J7 l3 70 [] p1 q.1 q.2 p2 e hl (by decide),?_⟩;rcases DY (λs1:(List aF)×Str=>(look s'.2 s1.2).isSome) (λs1:(List aF)×Str=>((fj s'.2 s1):ji ((List aF)×Str) (List aF))) 70 ([],q.1) with⟨_,e⟩|⟨_,e⟩<;>(rw[e];trivial)
theorem foldl_size {α:Type} (c:Array α):∀ (n:Nat) (a:Array α),((List.replicate n c).foldl (·++·) a).size=a.size+n * c.size
 |0,a=>by simp
 |n+1,a=>by
  rw[Kx,QO,foldl_size c n,k5,Nat.succ_mul];omega
theorem KD (x:Str) (k:Int):(Txt.mul x k).length<=x.length * k.toNat:=by
 unfold Txt.mul;split
 ·exact QI _
 split
 ·rename_i h0 h;simp only[Kt,beq_iff_eq] at h;rcases h with h|h
  ·subst h;simp
  ·rw[h];simp
 ·show(Array.size _)<=_;rw[foldl_size];have:x.cps.size=x.length:=rfl;rw[this,Nat.mul_comm];simp
def LT:Str:=("abcdefghijklmnopqrstuvwxyz" : Str)
theorem Tp:LT.length=26:=by decide +kernel
theorem BK {n:Nat} (h:n<=1000):Ht n:=Zs h (by decide)
theorem Tq (xs:List Int) (hl:6<=xs.length) (stem:Str) (hs:stem.length<=5) (at_:Int) (k:Nat) (found:LS_) (hk:k < 200) (h:found.length=k/\∀ n∈found,n.length<=12):lH xs LT stem at_ found k/\(fH xs LT stem at_ found k).length=k+1/\∀ n∈fH xs LT stem at_ found k,n.length<=12:=by
 have s1:=Zs (slice_le stem none (some at_)) hs;have s2:=Zs (slice_le stem (some at_) none) hs;have c1:=Gs LT ((↑k+at' xs 2) % 15);have m8:=jk (k:Int) (m:=8) (by decide);have hd:(0:Int)<=(k:Int) / 8/\(k:Int) / 8 < 26:=by omega
 refine⟨⟨⟨in_of (by decide) (by omega),yg (by decide) (by rw[Tp];decide)⟩,⟨BK (by omega),BK (by rw[vM];omega)⟩,⟨in_of (by decide) (by omega),λ_=>⟨in_of hd.1 (by rw[Tp];exact hd.2),by omega,by omega,by rw[Gs];decide⟩⟩,BK (by omega)⟩,?_⟩;have key:∀ n:Str,n.length<=12->(found++[n]).length=k+1/\∀ m∈found++[n],m.length<=12:=λn hn=>⟨by simp[h.1],λm hm=>by
  rcases List.mem_append.mp hm with hm|hm
  ·exact h.2 m hm
  ·cases List.mem_singleton.mp hm;exact hn⟩
 unfold fH;dsimp only;split
 ·exact key _ (by have:=KD (ch LT ((k:Int) / 8)) (1+(k:Int) % 8);rw[Gs] at this;exact Zs this (by omega))
 ·exact key _ (by rw[vM,vM,c1];omega)
theorem aao (xs:LS_) (n:Nat) (h:∀ x∈xs,x.length<=n):(Txt.join "" xs).length<=xs.length * n:=by
 have h1:=StrLaws.join_length_le ("" : Str) xs;rw[<-StrLaws.glued_eq_join] at h1;have h2:(xs.map (·.length)).sum<=xs.length * n:=by
  clear h1
  induction xs with
  |nil=>simp
  |cons a l ih=>
   have:=ih λx hx=>h x (zg _ hx);have:=h a (zh ..);simp only[zr,List.sum_cons,ZH,Nat.succ_mul];omega
 have h3:("" : Str).length=0:=rfl;rw[h3,Nat.mul_zero] at h1;exact Zs h1 (by omega)
theorem ajk (xs:LS_) (h:∀ x∈xs,x.length=1):(xs.map (·.length)).sum=xs.length:=by
 induction xs with
 |nil=>rfl
 |cons a l ih=>
  have:=ih λx hx=>h x (zg _ hx);have:=h a (zh ..);simp only[zr,List.sum_cons,ZH];omega
theorem aap (xs:List Int) (hl:6<=xs.length) (many:Int) (h0:0<=many) (h1:many<=200):qQ xs many/\(dI xs many).length=many.toNat/\∀ n∈dI xs many,n.length<=12:=by
 have m6:=jk (at' xs 0) (m:=6) (by decide);have st:∀ stem:Str,stem.length<=5->p8 xs many LT stem/\(lJ xs many LT stem).length=many.toNat/\∀ n∈lJ xs many LT stem,n.length<=12:=λstem hs=>by
  have:=zN (P:=λf k=>some (lH xs LT stem (at' xs 1 % ((stem.length:Int)+1)) f k)) (step:=λf k=>fH xs LT stem (at' xs 1 % ((stem.length:Int)+1)) f k) (λk s=>s.length=k/\∀ n∈s,n.length<=12) many.toNat [] ⟨rfl,λn h=>(by cases h)⟩ λk s hk h=>Tq xs hl stem hs _ k s (by omega) h;exact⟨⟨⟨in_of (by decide) (by omega),by omega⟩,Qj h0 (by omega),this.1⟩,this.2⟩
 have c1:∀ x∈((rng 0 (at' xs 0 % 6).toNat).map λk_:Int=>ch LT (at' xs k_ / 40 % 26)),x.length=1:=λx hx=>by
  obtain⟨k,_,rfl⟩:=List.mem_map.mp hx;exact Gs _ _
 have:=st (Txt.join "" ((rng 0 (at' xs 0 % 6).toNat).map λk_:Int=>ch LT (at' xs k_ / 40 % 26))) (by
  have:=aao _ 1 λx hx=>Nat.le_of_eq (c1 x hx);rw[zo,zM] at this;omega)
 refine⟨⟨⟨⟨⟨⟨in_of (by decide) (by omega),Qj m6.1 (by omega)⟩,by rw[zM];omega⟩,λk hk=>?_⟩,?_⟩,this.1⟩,this.2⟩
 ·obtain⟨j,hj,rfl⟩:=U9 hk;exact⟨in_of (by omega) (by omega),yg (by decide) (by rw[show("abcdefghijklmnopqrstuvwxyz" : Str)=LT from rfl,Tp];decide)⟩
 ·rw[show("abcdefghijklmnopqrstuvwxyz" : Str)=LT from rfl,ajk _ c1,zo,zM];have h3:("" : Str).length=0:=rfl;rw[h3];omega
def nmF (xs:List Int) (stem:Str) (at_:Int) (k:Int):Str:=if(decide (((at' xs (3:Int)) % (3:Int))=(1:Int)))=true then(Txt.mul (ch LT (k / (8:Int))) ((1:Int)+(k % (8:Int)))) else(((Txt.slice stem none (some at_))++(ch LT ((k+(at' xs (2:Int))) % (15:Int))))++(Txt.slice stem (some at_) none))
theorem yE {α β:Type} (g:β->α):∀ (l:List β) (f:List α),l.foldl (λf k=>f++[g k]) f=f++l.map g
 |[],f=>by simp
 |k::l,f=>by rw[QO,yE g l];simp
theorem aaq (xs:List Int) (many:Int):∃ stem at_,dI xs many=(rng 0 many.toNat).map (nmF xs stem at_):=by
 refine⟨_,_,(yE (nmF xs _ _) _ []).trans (Kn _)⟩
theorem Tr {a b m m':Str} (h:(a++m)++b=(a++m')++b):m=m':=by
 have h:=congrArg (λs:Str=>s.cps.toList) h;have h:((a.cps++m.cps)++b.cps).toList=((a.cps++m'.cps)++b.cps).toList:=h;simp only[Array.toList_append] at h;have:=List.append_cancel_left (List.append_cancel_right h);cases m;cases m';congr 1;exact Array.ext' this
theorem afR:∀ i:Fin 30,∀ j:Fin 30,Txt.mul (ch LT ((i.val:Int) / 8)) (1+(i.val:Int) % 8)=Txt.mul (ch LT ((j.val:Int) / 8)) (1+(j.val:Int) % 8)->i=j:=by decide +kernel
theorem ahK:∀ i:Fin 15,∀ j:Fin 15,ch LT (i.val:Int)=ch LT (j.val:Int)->i=j:=by decide +kernel
theorem afS {x y:Int} (hx:0<=x/\x < 15) (hy:0<=y/\y < 15) (h:ch LT x=ch LT y):x=y:=by
 have:=ahK ⟨x.toNat,by omega⟩ ⟨y.toNat,by omega⟩ (by
  show ch LT ((x.toNat:Nat):Int)=ch LT ((y.toNat:Nat):Int);rw[Int.toNat_of_nonneg hx.1,Int.toNat_of_nonneg hy.1];exact h)
 have:=congrArg Fin.val this;have:x.toNat=y.toNat:=this;omega
theorem afT {xs:List Int} {stem:Str} {at_:Int} {i j:Nat} (hi:i < 15) (hj:j < 15) (h:nmF xs stem at_ i=nmF xs stem at_ j):i=j:=by
 unfold nmF at h;by_cases e:(decide (((at' xs (3:Int)) % (3:Int))=(1:Int)))=true
 ·rw[zk e,zk e] at h;exact congrArg Fin.val (afR ⟨i,by omega⟩ ⟨j,by omega⟩ h)
 ·rw[zw e,zw e] at h;have:=afS (jk _ (by decide)) (jk _ (by decide)) (Tr h);omega
theorem Z2 {n:Nat} {g:Int->Str} (h:∀ i j:Nat,i < n->j < n->g i=g j->i=j):((rng 0 n).map g).Nodup:=by
 unfold rng;rw[qV];unfold List.Nodup;rw[kR];refine kc ?_ (yk (n:=n));intro a b ha hb hne e;refine hne (h a b (List.mem_range.mp ha) (List.mem_range.mp hb) ?_);have e:g (0+(a:Int))=g (0+(b:Int)):=e;rwa [Int.zero_add,Int.zero_add] at e
theorem aar (xs:List Int) (many:Int) (h:many<=15):(dI xs many).Nodup:=by
 obtain⟨stem,at_,e⟩:=aaq xs many;rw[e];exact Z2 λi j hi hj=>afT (by omega) (by omega)
theorem M9 {n:Nat} {a b:Int} (ha:0<=a/\a < n) (hb:0<=b/\b < n):In n (if b < a then b else a):=by split<;>exact in_of (by omega) (by omega)
theorem Nb {n:Nat} {a b:Int} (ha:0<=a/\a < n) (hb:0<=b/\b < n):In n (if b > a then b else a):=by split<;>exact in_of (by omega) (by omega)
theorem Vi {many:Int} {n:Nat} (hn:n=many.toNat) {x y:Int} (h:(!decide (x % (if many > (1:Int) then many else(1:Int))=y % (if many > (1:Int) then many else(1:Int))))=true):(0<=x % (if many > (1:Int) then many else(1:Int))/\x % (if many > (1:Int) then many else(1:Int)) < n)/\(0<=y % (if many > (1:Int) then many else(1:Int))/\y % (if many > (1:Int) then many else(1:Int)) < n):=by
 by_cases e:many > 1
 ·rw[zk e] at h ⊢;have h1:=jk x (m:=many) (by omega);have h2:=jk y (m:=many) (by omega);omega
 ·rw[zw e] at h;simp at h
theorem QW {many:Int}:0 < (if many > (1:Int) then many else(1:Int)):=by split<;>omega
def Lw (c:Nat):Prop:=97<=c/\c<=122
def Nm (s:Str):Prop:=1<=s.length/\s.length<=8/\∀ c∈cs s,Lw c
theorem ahL {c:Nat} (h:Lw c):c∈cs LT:=by
 have:∀ i:Fin 26,97+i.val∈cs LT:=by decide +kernel
 have:=this ⟨c - 97,by unfold Lw at h;omega⟩;unfold Lw at h;rwa [show 97+(c - 97)=c by omega] at this
theorem ac1 {s ls:Str} {n:Int} (h1:1<=s.length) (h2:(s.length:Int)<=n) (h3:∀ c∈cs s,c∈cs ls) (h4:s.length<=100):pJ s ls n/\lK s ls n=true:=by
 refine⟨λ_ _=>by rw[Wz];omega,?_⟩;unfold lK;rw[ZA,ZA,ZA,z5,z5,ZY];refine⟨rfl,⟨by omega,h2⟩,λb hb=>?_⟩;obtain⟨x,hx,rfl⟩:=List.mem_map.mp hb;rw[Z6] at hx;obtain⟨c,hc,rfl⟩:=List.mem_map.mp hx;exact WD (h3 c hc)
theorem Eb {s:Str} (h:Nm s):sU s/\j9 s=true:=ac1 h.1 (by have:=h.2.1;omega) (λc hc=>ahL (h.2.2 c hc)) (by have:=h.2.1;omega)
theorem afU (c:Nat) (n:Int) (h:1<=n):cs (Txt.mul ⟨#[c]⟩ n)=List.replicate n.toNat c:=by
 unfold Txt.mul;split
 ·omega
 split
 ·rename_i h;simp only[Kt,beq_iff_eq] at h;rcases h with h|h
  ·subst h;rfl
  ·cases h
 ·have:∀ (k:Nat) (a:Array Nat),((List.replicate k (#[c]:Array Nat)).foldl (·++·) a).toList=a.toList++List.replicate k c:=by
   intro k
   induction k with
   |zero=>intro a;simp
   |succ k ih=>
    intro a;rw[Kx,QO,ih,Array.toList_append,Kx];simp
  exact(this _ _).trans (by simp)
theorem aas {i:Int} (h:0<=i/\i < 26):ch LT i=⟨#[97+i.toNat]⟩:=by
 have:∀ i:Fin 26,ch LT (i.val:Int)=⟨#[97+i.val]⟩:=by decide +kernel
 have:=this ⟨i.toNat,by omega⟩;rwa [show((⟨i.toNat,by omega⟩:Fin 26).val:Int)=i by show(i.toNat:Int)=i;omega] at this
theorem ac2 {i n:Int} (h:0<=i/\i < 26) (h1:1<=n) (h8:n<=8):Nm (Txt.mul (ch LT i) n):=by
 have e:=afU (97+i.toNat) n h1;rw[<-aas h] at e;refine⟨?_,?_,λc hc=>?_⟩
 ·rw[Gv,e,List.length_replicate];omega
 ·rw[Gv,e,List.length_replicate];omega
 ·rw[e] at hc;rw[(List.mem_replicate.mp hc).2];unfold Lw;omega
theorem aat {l:LS_} {c:Nat} (h:c∈cs (Txt.join "" l)):∃ q∈l,c∈cs q:=by
 cases l with
 |nil=>cases h
 |cons p ps=>
  rw[acT] at h;rcases List.mem_append.mp h with h|h
  ·exact⟨p,zh ..,h⟩
  ·obtain⟨q,hq,h⟩:=List.mem_flatMap.mp h;exact⟨q,zg _ hq,h⟩
theorem W4 (xs:List Int) (many:Int):∃ (stem:Str) (at_:Int),(∀ c∈cs stem,Lw c)/\stem.length<=5/\0<=at_/\at_<=(stem.length:Int)/\dI xs many=(rng 0 many.toNat).map (nmF xs stem at_):=by
 have m6:=jk (at' xs 0) (m:=6) (by decide);have mem:∀ x∈((rng 0 (at' xs 0 % 6).toNat).map λk_:Int=>ch LT (at' xs k_ / 40 % 26)),x.length=1/\∀ c∈cs x,Lw c:=λx hx=>by
  obtain⟨k,_,rfl⟩:=List.mem_map.mp hx;refine⟨Gs _ _,λc hc=>?_⟩;rw[aas (jk _ (by decide))] at hc;cases List.mem_singleton.mp hc;have:=jk (at' xs k / 40) (m:=26) (by decide);unfold Lw;omega
 refine⟨Txt.join "" ((rng 0 (at' xs 0 % 6).toNat).map λk_:Int=>ch LT (at' xs k_ / 40 % 26)),at' xs 1 % (((Txt.join "" ((rng 0 (at' xs 0 % 6).toNat).map λk_:Int=>ch LT (at' xs k_ / 40 % 26))).length:Int)+1),λc hc=>?_,?_,?_,?_,(yE (nmF xs _ _) _ []).trans (Kn _)⟩
 ·obtain⟨q,hq,h⟩:=aat hc;exact(mem q hq).2 c h
 ·have:=aao _ 1 λx hx=>Nat.le_of_eq (mem x hx).1;rw[zo,zM] at this;omega
 ·exact(jk _ (by omega)).1
 ·have:=(jk (at' xs 1) (m:=((Txt.join "" ((rng 0 (at' xs 0 % 6).toNat).map λk_:Int=>ch LT (at' xs k_ / 40 % 26))).length:Int)+1) (by omega)).2;omega
theorem afV {xs:List Int} {stem:Str} {at_:Int} (h1:∀ c∈cs stem,Lw c) (h2:stem.length<=5) (h3:0<=at_) (h4:at_<=(stem.length:Int)) {k:Int} (hk:0<=k/\k < 15):Nm (nmF xs stem at_ k):=by
 unfold nmF;split
 ·exact ac2 (by omega) (by omega) (by omega)
 ·have s1:=Z5 (x:=stem) (n:=at_.toNat) (by omega);have s2:=Z4 (x:=stem) (n:=at_.toNat) (by omega);rw[Int.toNat_of_nonneg h3] at s1 s2;have c1:=aas (i:=(k+at' xs 2) % 15) (by have:=jk (k+at' xs 2) (m:=15) (by decide);omega);have m:=jk (k+at' xs 2) (m:=15) (by decide);have e:cs ((Txt.slice stem none (some at_)++ch LT ((k+at' xs 2) % 15))++Txt.slice stem (some at_) none)=((cs stem).take at_.toNat++[97+((k+at' xs 2) % 15).toNat])++(cs stem).drop at_.toNat:=by
   rw[LQ,LQ,s1,s2,c1]
  have hl:((Txt.slice stem none (some at_)++ch LT ((k+at' xs 2) % 15))++Txt.slice stem (some at_) none).length=stem.length+1:=by
   rw[Gv,e,zS,zS,ki,kB,<-Gv];show _+1+_=_;omega
  refine⟨by rw[hl];omega,by rw[hl];omega,λc hc=>?_⟩;rw[e] at hc;rcases List.mem_append.mp hc with hc|hc
  ·rcases List.mem_append.mp hc with hc|hc
   ·exact h1 c (List.mem_of_mem_take hc)
   ·cases List.mem_singleton.mp hc;unfold Lw;omega
  ·exact h1 c (List.mem_of_mem_drop hc)
def RT (r:jc):Prop:=((-1000:Int)<=r.1/\r.1 ≤ -1)/\vK r.2.1 r.2.2.1=true/\(0:Int)<=r.2.2.2
theorem ahM {n_:LS_} (ns:n_.Pairwise λa b=>vK a b=true) {i j:Int} (h0:0<=i) (h1:i < j) (h2:j < n_.length):vK (at' n_ i) (at' n_ j)=true:=by
 obtain⟨a,rfl⟩:∃ a:Nat,i=(a:Int):=⟨i.toNat,by omega⟩;obtain⟨b,rfl⟩:∃ b:Nat,j=(b:Int):=⟨j.toNat,by omega⟩;rw[ZV n_ a (by omega),ZV n_ b (by omega)];exact List.pairwise_iff_getElem.mp ns a b (by omega) (by omega) (by omega)
theorem W5 (script:List Int) (at_ many:Int) (a0:0<=at_) (a1:at_<=500) (head:List Int) (hh:6<=head.length) (n_:LS_) (hn:n_.length=many.toNat) (k:Nat) (hk:k < 60) (told:List jc) (ns:n_.Pairwise λa b=>vK a b=true) (h:told.length<=k/\Rs n_ told/\∀ r∈told,RT r) :
  iI script at_ many head n_ told k/\(dh script at_ many head n_ told k).length<=k+1/\Rs n_ (dh script at_ many head n_ told k)/\∀ r∈dh script at_ many head n_ told k,RT r:=by
 obtain⟨n1,n2,n3⟩:=M5 (bA script ((at_+(1:Int))+k)) 4 (by decide) (by decide);have n2:(bf (bA script ((at_+(1:Int))+k)) 4).length=4:=n2;unfold iI dh;dsimp only;generalize bf (bA script ((at_+(1:Int))+k)) 4=xs at *
 have en:=λx y=>Vi (x:=x) (y:=y) hn;have pm:=@QW many;generalize (if many > (1:Int) then many else(1:Int))=mm at *
 have ix:∀ i:Nat,i < 4->In xs.length (i:Int):=λi hi=>SX (by omega);refine⟨⟨⟨M4 _ _ (by omega) (by omega),n1⟩,⟨⟨ix 0 (by decide),pm⟩,ix 1 (by decide),pm⟩,⟨⟨⟨ix 2 (by decide),ix 2 (by decide),ix 2 (by decide)⟩,in_of (by decide) (by omega)⟩,yg (by decide) (Int.le_refl 3)⟩,λhne=>?_⟩,?_⟩
 ·have:=en _ _ hne;exact⟨⟨M9 this.1 this.2,Nb this.1 this.2,ix 3 (by decide),yg (by decide) (by decide)⟩,BK (by omega)⟩
 ·split
  ·rename_i hne;have:=en _ _ hne;refine⟨by rw[zS];show _+1<=_;omega,λr hr=>?_,λr hr=>?_⟩
   ·rcases List.mem_append.mp hr with hr|hr
    ·exact h.2.1 r hr
    ·cases List.mem_singleton.mp hr;exact⟨vL (M9 this.1 this.2),vL (Nb this.1 this.2)⟩
   ·rcases List.mem_append.mp hr with hr|hr
    ·exact h.2.2 r hr
    ·cases List.mem_singleton.mp hr;have w:=vL (xs:=[(1:Int)+at' xs 2 % 3,(1:Int)+at' xs 2 % 9,(1:Int)+at' xs 2 % 1000]) (i:=at' head 4 % 3) (yg (by decide) (Int.le_refl 3));have u:=vL (xs:=[(0:Int),(2:Int),(10:Int)]) (i:=at' xs 3 % 3) (yg (by decide) (Int.le_refl 3));have b3:=jk (at' xs 2) (m:=3) (by decide);have b9:=jk (at' xs 2) (m:=9) (by decide);have bk:=jk (at' xs 2) (m:=1000) (by decide);simp only[QR,j0,or_false] at w u;have hne:at' xs 0 % mm≠at' xs 1 % mm:=by simpa using hne
     refine⟨?_,?_,?_⟩
     ·show _<=(0:Int) - _/\(0:Int) - _<=_;omega
     ·show vK (at' n_ _) (at' n_ _)=true;split<;>split<;>first|exact ahM ns (by omega) (by omega) (by omega)|(exfalso;omega)
     ·show(0:Int)<=at' _ _;omega
  ·exact⟨by omega,h.2⟩
theorem W6 (script:List Int) (at_ many:Int) (a0:0<=at_) (a1:at_<=500) (n_:LS_) (hn:n_.length=many.toNat) (k:Nat) (hk:k < 60) (shut:List (Str×Str×Int)) (h:shut.length<=k/\∀ b∈shut,b.1∈n_/\b.2.1∈n_) :
  iJ script at_ many n_ shut k/\(dJ script at_ many n_ shut k).length<=k+1/\∀ b∈dJ script at_ many n_ shut k,b.1∈n_/\b.2.1∈n_:=by
 obtain⟨n1,n2,n3⟩:=M5 (bA script ((at_+(1:Int))+k)) 8 (by decide) (by decide);have n2:(bf (bA script ((at_+(1:Int))+k)) 8).length=8:=n2;unfold iJ dJ;dsimp only;generalize bf (bA script ((at_+(1:Int))+k)) 8=xs at *
 have en:=λx y=>Vi (x:=x) (y:=y) hn;have pm:=@QW many;generalize (if many > (1:Int) then many else(1:Int))=mm at *
 have ix:∀ i:Nat,i < 8->In xs.length (i:Int):=λi hi=>SX (by omega);refine⟨⟨⟨M4 _ _ (by omega) (by omega),n1⟩,⟨⟨ix 5 (by decide),pm⟩,ix 6 (by decide),pm⟩,λhne=>?_⟩,?_⟩
 ·have:=en _ _ hne;exact⟨⟨M9 this.1 this.2,Nb this.1 this.2,ix 7 (by decide),yg (by decide) (by decide)⟩,BK (by omega)⟩
 ·split
  ·rename_i hne;have:=en _ _ hne;refine⟨by rw[zS];show _+1<=_;omega,λr hr=>?_⟩;rcases List.mem_append.mp hr with hr|hr
   ·exact h.2 r hr
   ·cases List.mem_singleton.mp hr;exact⟨vL (M9 this.1 this.2),vL (Nb this.1 this.2)⟩
  ·exact⟨by omega,h.2⟩
structure Gr (g:LS_×(List jc)×(List (Str×Str×Int))):Prop where
 nd:g.1.Nodup
 len:g.1.length < 64
 rs:Rs g.1 g.2.1
 bs:∀ b∈g.2.2,b.1∈g.1/\b.2.1∈g.1
 rl:g.2.1.length < 64
 bl:g.2.2.length < 64
 so:g.1.Pairwise sX
 rn:g.2.1.Nodup
 va:∀ r∈g.2.1,gU r/\eY r=true
 bo:g.2.2.Pairwise λa b=>leT bw a b=true
 ss:g.1.Pairwise λa b=>vK a b=true
theorem Rs.turn {n_:LS_} {rs:List jc} (h:Rs n_ rs):Rs n_ (rs.map λq3:(Int×Str×Str×Int)=>(((0:Int) - q3.1),q3.2.1,q3.2.2.1,q3.2.2.2)):=λr hr=>by
 obtain⟨q,hq,rfl⟩:=List.mem_map.mp hr;exact h q hq
theorem W7 {r:jc} (hw:1<=r.1/\r.1<=1000) (h1:Nm r.2.1) (h2:Nm r.2.2.1) (hl:vK r.2.1 r.2.2.1=true) (hn:(0:Int)<=r.2.2.2):gU r/\eY r=true:=by
 refine⟨λ_ _ _=>⟨(Eb h1).1,λ_=>(Eb h2).1⟩,?_⟩;have n1:j9 (r.2.1,r.2.2.1,r.2.2.2).1=true:=(Eb h1).2;have n2:j9 (r.2.1,r.2.2.1,r.2.2.2).2.1=true:=(Eb h2).2;unfold eY nQ Aa;dsimp only;rw[n1,n2,hl,Zp hw.1,Zp hw.2,Zp hn];rfl
theorem W8 (script:List Int) (at_ many reasons bars:Int) (a0:0<=at_) (a1:at_<=500) (m0:0<=many) (m1:many<=15) (r0:0<=reasons) (r1:reasons < 60) (b0:0<=bars) (b1:bars < 60):pD script at_ many reasons bars/\Gr (eG script at_ many reasons bars)/\(eG script at_ many reasons bars).1.length=many.toNat/\(eG script at_ many reasons bars).2.1.length<=reasons.toNat/\(eG script at_ many reasons bars).2.2.length<=bars.toNat:=by
 obtain⟨n1,n2,n3⟩:=M5 (bA script at_) 6 (by decide) (by decide);have n2:(bf (bA script at_) 6).length=6:=n2;have key:∀ head:List Int,6<=head.length->oA script at_ many reasons bars head/\Gr (fW script at_ many reasons bars head)/\(fW script at_ many reasons bars head).1.length=many.toNat/\(fW script at_ many reasons bars head).2.1.length<=reasons.toNat/\(fW script at_ many reasons bars head).2.2.length<=bars.toNat:=λhead hh=>by
  obtain⟨k1,k2,k3⟩:=aap head hh many m0 (by omega);have knd:=aar head many m1;have hn:(qu (dI head many)).length=many.toNat:=by rw[(jg _).length_eq,k2]
  have nd:(qu (dI head many)).Nodup:=(jg _).nodup_iff.mpr knd;have c8:∀ n_:LS_,n_.length=many.toNat->n_.Nodup->n_.Pairwise sX->(∀ n∈n_,Nm n)->ou script at_ many reasons bars head n_/\Gr (fV script at_ many reasons bars head n_)/\(fV script at_ many reasons bars head n_).1.length=many.toNat/\(fV script at_ many reasons bars head n_).2.1.length<=reasons.toNat/\(fV script at_ many reasons bars head n_).2.2.length<=bars.toNat:=λn_ hn nd so nn=>by
   have ss:n_.Pairwise λa b=>vK a b=true:=(so.and nd).imp λh=>(lt_iff _ _).mpr h;obtain⟨t1,t2,t3⟩:=zN (P:=λf k=>some (iI script at_ many head n_ f k)) (step:=λf k=>dh script at_ many head n_ f k) (λk s=>s.length<=k/\Rs n_ s/\∀ r∈s,RT r) reasons.toNat [] ⟨zi 0,λr h=>(by cases h),λr h=>(by cases h)⟩ λk s hk h=>W5 script at_ many a0 a1 head hh n_ hn k (by omega) s ss h;obtain⟨s1,s2,s3⟩:=zN (P:=λf k=>some (iJ script at_ many n_ f k)) (step:=λf k=>dJ script at_ many n_ f k) (λk s=>s.length<=k/\∀ b∈s,b.1∈n_/\b.2.1∈n_) bars.toNat [] ⟨zi 0,λr h=>(by cases h)⟩ λk s hk h=>W6 script at_ many a0 a1 n_ hn k (by omega) s h;have sl:=kK s2 (show bars.toNat < 64 by omega);have c6:∀ told:List jc,told.length<=reasons.toNat->(Rs n_ told/\∀ r∈told,RT r)->oh script at_ many reasons bars head n_ told/\Gr (fU script at_ many reasons bars head n_ told)/\(fU script at_ many reasons bars head n_ told).1.length=many.toNat/\(fU script at_ many reasons bars head n_ told).2.1.length<=reasons.toNat/\(fU script at_ many reasons bars head n_ told).2.2.length<=bars.toNat:=λtold tl ⟨tr,tv⟩=>by
    have dl:=zB told;have sp:=(fD (e:=eP4 eI eS eS eI) (HX told)).length_eq;refine⟨⟨⟨⟨by omega,by omega⟩,by rw[sp];omega⟩,⟨Qj b0 (by omega),s1⟩,Q3 sl,sl⟩,⟨nd,?_,?_,?_,?_,?_,so,?_,?_,tX _,ss⟩,hn,?_,?_⟩
    ·show n_.length < 64;omega
    ·exact Rs.turn λr hr=>tr r (qy.mp ((fD _).mem_iff.mp hr))
    ·exact λb hb=>s3 b (qy.mp ((fD _).mem_iff.mp hb))
    ·show(List.map _ _).length < 64;rw[zo,sp];omega
    ·show(lN _ _).length < 64;rw[(fD _).length_eq];exact kK (zB _) sl
    ·show(List.map _ _).Nodup;unfold List.Nodup;rw[kR];refine((fD (e:=eP4 eI eS eS eI) (HX told)).nodup_iff.mpr (FN told)).imp ?_;intro a b hne e;apply hne;obtain⟨a1,a2,a3,a4⟩:=a;obtain⟨b1,b2,b3,b4⟩:=b;simp only[Prod.mk.injEq] at e ⊢;exact⟨by omega,e.2⟩
    ·intro r hr;obtain⟨q,hq,rfl⟩:=List.mem_map.mp hr;have hq:=qy.mp ((fD _).mem_iff.mp hq);obtain⟨v1,v2,v3⟩:=tv q hq;exact W7 ⟨show(1:Int)<=0 - q.1 by omega,show(0:Int) - q.1<=1000 by omega⟩ (nn _ (tr q hq).1) (nn _ (tr q hq).2) v2 v3
    ·show(List.map _ _).length<=_;rw[zo,sp];omega
    ·show(lN _ _).length<=_;rw[(fD _).length_eq];exact Zs (zB _) s2
   have:=c6 _ t2 t3;exact⟨⟨⟨Qj r0 (by omega),t1⟩,this.1⟩,this.2⟩
  obtain⟨stem,at2,a1',a2',a3',a4',e⟩:=W4 head many;have:=c8 _ hn nd (xW _) λn hm=>by
   have hm:=(jg _).mem_iff.mp hm;rw[e] at hm;obtain⟨k,hk,rfl⟩:=List.mem_map.mp hm;obtain⟨j,hj,rfl⟩:=U9 hk;exact afV a1' a2' a3' a4' (by omega)
  exact⟨⟨⟨k1,by rw[k2];omega⟩,this.1⟩,this.2⟩
 have:=key _ (Nat.le_of_eq n2.symm);exact⟨⟨⟨M4 _ _ a0 (by omega),n1⟩,this.1⟩,this.2⟩
structure Gd (n_:LS_) (rs:List jc) (bars:List Bar):Prop where
 nd:n_.Nodup
 hl:n_.length < 64
 bs:∀ b∈bars,b.1∈n_/\b.2.1∈n_
 hr:Rs n_ rs
 rl:rs.length < 32
theorem Gd.less {n_:LS_} {rs:List jc} {bars adL:List Bar} (g:Gd n_ rs bars) (h:∀ b∈adL,b.1∈n_/\b.2.1∈n_):Gd n_ rs adL:=⟨g.nd,g.hl,h,g.hr,g.rl⟩
theorem Gd.pre {n_:LS_} {pre post:List jc} {bars:List Bar} (g:Gd n_ (pre++post) bars):Gd n_ pre bars:=⟨g.nd,g.hl,g.bs,λr h=>g.hr r (qv _ h),by have:=g.rl;rw[zS] at this;omega⟩
theorem Gd.J {n_:LS_} {rs:List jc} {bars:List Bar} (g:Gd n_ rs bars):cX (n_,rs,bars)/\JI n_ rs.length (cP bars n_ rs):=QT g.nd g.hl g.bs g.hr (by have:=g.rl;omega)
theorem Gd.M {n_:LS_} {rs:List jc} {bars:List Bar} (g:Gd n_ rs bars):JM n_ bars rs (cP bars n_ rs):=W3 g.nd g.hl g.bs g.hr (by have:=g.rl;omega)
theorem J8 (r:jc) (vr:List jc):∀ B:List (jc×Option Bar),(gB r (B.map (·.1))=true/\∃ rest,jC (λ(s2:Unit) (q3:dU)=>((iH r vr s2 q3):ji (Unit) Dt)) B ()=.rt (.tup (.str "barred" :: rest)))\/(gB r (B.map (·.1))=false/\jC (λ(s2:Unit) (q3:dU)=>((iH r vr s2 q3):ji (Unit) Dt)) B ()=.nx ())
 |[]=>.inr ⟨rfl,rfl⟩
 |q::B=>by
  rw[jC];unfold iH;by_cases h:q.1=r
  ·rw[zk (Zp h)];exact .inl ⟨nJ.mpr (by simp[h]),_,rfl⟩
  ·rw[zw (by rw[ZE h];exact zI)];have e:gB r ((q::B).map (·.1))=gB r (B.map (·.1)):=by
    unfold gB;congr 1;rw[zr,QR];exact propext ⟨λz=>z.resolve_left λz=>h z.symm,.inr⟩
   rw[e];exact J8 r vr B
def fnm (s:JS) (r:jc):Str:=if gB r s.2.1=true then("kept" : Str) else if gB r (s.2.2.map (·.1))=true then("barred" : Str) else("beside" : Str)
theorem Nf {n_:LS_} {rs:List jc} {bars:List Bar} (g:Gd n_ rs bars) {r:jc} (hm:r∈rs) (hv:gU r/\eY r=true):sV (n_,rs,bars) r/\∃ rest,dw (n_,rs,bars) r=.tup (.str (fnm (cP bars n_ rs) r)::rest):=by
 obtain⟨dj,J⟩:=g.J;have M:=g.M;have kl:(cP bars n_ rs).2.1.length < 32:=kK J.kl g.rl;have W:=λa b=>afQ kl a b;refine⟨⟨⟨hv.1,λz=>?_⟩,dj,λ_=>⟨wK _ _ λs q hq _=>?_,?_⟩⟩,?_⟩
 ·rw[hv.2,nJ.mpr hm] at z;cases z
 ·obtain⟨b,_,e⟩:=M.b q hq;refine⟨⟨by rw[e];rfl,W _ _,λ_=>W _ _,λ_=>⟨W _ _,W _ _⟩⟩,rfl,?_,?_⟩
  ·unfold gF;dsimp only;split<;>rfl
  ·unfold gF;dsimp only;split<;>exact zC rfl
 ·unfold jP;split<;>first|trivial|exact W _ _
 ·unfold dw fnm;dsimp only;rw[qd];dsimp only;by_cases hk:gB r (cP bars n_ rs).2.1=true
  ·rw[zk hk,zk hk];exact⟨[],rfl⟩
  ·rw[zw hk,zw hk];rcases J8 r (cP bars n_ rs).2.1 (cP bars n_ rs).2.2 with⟨h1,rest,h2⟩|⟨h1,h2⟩
   ·rw[h2,zk h1];exact⟨rest,rfl⟩
   ·rw[h2,zw (by rw[h1];exact zI)];exact⟨_,rfl⟩
theorem Gd.both {n_:LS_} {rs:List jc} {bars:List Bar} (rn:rs.Nodup) {r:jc} (h1:gB r (cP bars n_ rs).2.1=true) (h2:gB r ((cP bars n_ rs).2.2.map (·.1))=true):False:=by
 obtain⟨K,B,a1,a2,_,_,a5⟩:=BJ bars rs (cN n_,[],[]);obtain⟨q,hq,rfl⟩:=List.mem_map.mp (nJ.mp h2);have k0:(cP bars n_ rs).2.1=K:=a1;have b0:(cP bars n_ rs).2.2=B:=a2;exact a5 rn q (b0▸hq) (k0▸nJ.mp h1)
theorem aau {n_:LS_} {rs:List jc} {bars:List Bar} (g:Gd n_ rs bars) (rn:rs.Nodup) (hv:∀ r∈rs,gU r/\eY r=true):iZ (n_,rs,bars) (aQ (n_,rs,bars))/\d8 (n_,rs,bars) (aQ (n_,rs,bars))=true:=by
 have J:=g.J.2;have M:=g.M;have sl:=(Ea J.h).2;have rl:=g.rl;obtain⟨u1,u2⟩:=zO (step:=λ(s2:Unit) (nq:aF)=>((bY (n_,rs,bars) (cP bars n_ rs).2.1 ((cP bars n_ rs).2.2.map λvX:dU=>vX.1) s2 nq):ji (Unit) Bool)) (P:=λ(s2:Unit) (nq:aF)=>some (ju (n_,rs,bars) (cP bars n_ rs).2.1 ((cP bars n_ rs).2.2.map λvX:dU=>vX.1) s2 nq)) rs λr hr=>by
  obtain⟨d,rest,e⟩:=Nf g hr (hv r hr);have nb:=λh1 h2=>Gd.both (n_:=n_) (bars:=bars) (r:=r) rn h1 h2;have i2:∀ b:Bool,In 2 (if b=true then(1:Int) else 0):=λb=>by split<;>exact in_of (by omega) (by omega)
  refine⟨⟨⟨⟨d,?_⟩,?_⟩,i2 _,i2 _⟩,.inl ?_⟩
  ·rw[e];exact in_of (by decide) (by simp)
  ·rw[e,U8];rfl
  ·unfold bY;dsimp only;rw[e,U8];show(if(!decide (fnm (cP bars n_ rs) r=_))=true then _ else _)=_;unfold fnm;generalize gB r (cP bars n_ rs).2.1=k at nb ⊢;generalize hs:gB r ((cP bars n_ rs).2.2.map λvX:dU=>vX.1)=sh at nb ⊢;cases k<;>cases sh
   ·rfl
   ·rfl
   ·rfl
   ·exact(nb rfl rfl).elim
 refine⟨⟨by have:=J.bl;show(cP bars n_ rs).2.2.length<=_;omega,u2,?_⟩,?_⟩
 ·show jP (jC (λ(s2:Unit) (nq:aF)=>((bY (n_,rs,bars) (cP bars n_ rs).2.1 ((cP bars n_ rs).2.2.map λvX:dU=>vX.1) s2 nq):ji (Unit) Bool)) rs ()) _;rw[u1];trivial
 ·show behind (jC (λ(s2:Unit) (nq:aF)=>((bY (n_,rs,bars) (cP bars n_ rs).2.1 ((cP bars n_ rs).2.2.map λvX:dU=>vX.1) s2 nq):ji (Unit) Bool)) rs ()) _ _=true;rw[u1];show decide (((cP bars n_ rs).2.1.length:Int)=(n_.length:Int) - ((bD (cP bars n_ rs).1).length:Int))=true;have:=M.c;rw[z5,sl];omega
theorem Tt {α:Type} {l:List α} {q:α->Bool} (nd:l.Nodup) {p:α} (hp:p∈l) (hq:q p=true) (hu:∀ x∈l,q x=true->x=p):(l.filter q).length=1:=by
 obtain⟨a,b,rfl⟩:=kL hp;obtain⟨_,nb,ne⟩:=List.nodup_append.mp nd;have na:∀ x∈a,¬ q x=true:=λx hx h=>ne x hx p (zh ..) (hu x (qv _ hx) h);have nb:∀ x∈b,¬ q x=true:=λx hx h=>(List.nodup_cons.mp nb).1 (hu x (qc _ (zg _ hx)) h▸hx);rw[List.filter_append,yz hq,List.filter_eq_nil_iff.mpr na,List.filter_eq_nil_iff.mpr nb];rfl
theorem aav {n_:LS_} {m:List (Str×Str)} (h:Hd n_ m) {S:LS_} (hS:S∈bD m):∃ x∈n_,x∈S/\∀ y∈S,y∈n_/\look m y=look m x:=by
 unfold bD at hS;rw[h.keys] at hS;obtain⟨x,hx,rfl⟩:=List.mem_map.mp hS;obtain⟨hx,hf⟩:=List.mem_filter.mp hx;have hf:=qr hf;unfold bO;rw[h.keys,QY];refine⟨x,hx,List.mem_filter.mpr ⟨hx,Zp hf⟩,λy hy=>?_⟩;obtain⟨hy,e⟩:=List.mem_filter.mp hy;exact⟨hy,(qr e).trans hf.symm⟩
theorem vB {a b:Str} (h1:sX a b) (h2:sX b a):a=b:=by
 by_cases e:a=b
 ·exact e
 ·have:=Z7 a b a ((lt_iff _ _).mpr ⟨h1,e⟩) ((lt_iff _ _).mpr ⟨h2,λz=>e z.symm⟩);exact absurd rfl ((lt_iff _ _).mp this).2
theorem ac3 {n_:LS_} {rs:List jc} {bars:List Bar} (g:Gd n_ rs bars) (so:n_.Pairwise sX) (hv:∀ r∈rs,gU r/\eY r=true):gP (n_,rs,bars)/\fB (n_,rs,bars)=true:=by
 have hl:=g.hl;have rl:=g.rl;obtain⟨dp,P,eP,ph⟩:=QS g.nd g.hl g.hr;obtain⟨f1,f2⟩:=aan g.nd (by omega) g.hr;have H:=Hd.hb g.nd (by omega) g.hr;have L:=Lst.hb g.nd (by omega) g.hr;have g0:Gd n_ rs []:=g.less λb h=>(by cases h);have e0:aQ (n_,rs,([]:List bh))=(fG P,(cP [] n_ rs).2.1,[]):=by rw[qd,f1,f2,Vg so H L ph]
 obtain⟨dj,J⟩:=g.J;have M:=g.M;have pn:(fG P).Nodup:=(dY P).nodup_iff.mpr ph.pn;have fn:∀ r∈rs,∃ rest,dw (n_,rs,([]:List bh)) r=.tup (.str (fnm (cP [] n_ rs) r)::rest)/\fnm (cP [] n_ rs) r∈[("kept" : Str),("beside" : Str)]:=λr hr=>by
  obtain⟨_,rest,e⟩:=Nf g0 hr (hv r hr);refine⟨rest,e,?_⟩;unfold fnm;rw[f2];split
  ·simp
  ·rw[zw (by intro z;cases z)];simp
 have al:((rs.map λnq:aF=>(decide ((Ww (Q0 (dw (n_,rs,([]:List bh)) nq) (0:Int)))∈[("kept" : Str),("beside" : Str)]))).all id)=true:=by
  rw[KF,ZY];intro r hr;obtain⟨rest,e,hm⟩:=fn r hr;show decide (Ww (Q0 (dw (n_,rs,([]:List bh)) r) 0)∈_)=true;rw[e,U8];exact Zp hm
 have pl:=ph.len;have spl:(fG P).length=P.length:=(dY P).length_eq;obtain⟨u1,u2⟩:=zO (step:=λ(s2:Unit) (rJ:LS_)=>((dH (fG P) s2 rJ):ji (Unit) Bool)) (P:=λ(s2:Unit) (rJ:LS_)=>some (jM (fG P) s2 rJ)) (bD (cP bars n_ rs).1) λS hS=>by
  obtain⟨x,hx,xS,hy⟩:=aav J.h hS;have sl:S.length<=n_.length:=by
   unfold bD bO at hS;rw[J.h.keys] at hS;obtain⟨z,_,rfl⟩:=List.mem_map.mp hS;rw[QY];exact List.length_filter_le ..
  refine⟨⟨by omega,λ_ _=>by omega⟩,.inl ?_⟩;obtain⟨p,hp,xp⟩:=ph.cov x hx;have q1:∀ part∈fG P,((S.map λvh:Str=>(decide (vh∈part))).all id)=decide (x∈part):=λpart hpt=>by
   have hpt:=(dY P).mem_iff.mp hpt;rw[KF,JU,ZY,z5];constructor
   ·intro h;exact qr (h x xS)
   ·intro h y yS;exact Zp ((ph.cls part hpt x h y (hy y yS).1).mpr (M.r x hx y (hy y yS).1 (hy y yS).2.symm))
  have q2:((fG P).filter λval:LS_=>((S.map λvh:Str=>(decide (vh∈val))).all id)).length=1:=
   Tt pn ((dY P).mem_iff.mpr hp) (by rw[q1 p ((dY P).mem_iff.mpr hp)];exact Zp xp) λz hz h=>by
    rw[q1 z hz] at h;exact ph.uni z ((dY P).mem_iff.mp hz) p hp x (qr h) xp
  unfold dH;rw[QY,q2];rfl
 have cmp:(fG P).length<=(bD (cP bars n_ rs).1).length:=by
  rw[<-Vg so H L ph,(Ea H).2,(Ea J.h).2];unfold Hi;rw[<-List.countP_eq_length_filter,<-List.countP_eq_length_filter];refine List.countP_mono_left λx hx h=>?_;have h:=qr h;have my:=J.h.mem x hx;have e:=M.r _ my x hx (J.h.idem x hx);have l1:=L _ my;rw[e,h] at l1;exact Zp (vB (J.l x hx) l1)
 unfold gP fB;dsimp only;rw[eP,e0];dsimp only;rw[Zp (rfl:fG P=fG P),Zp (rfl:([]:List dU)=[]),al];refine⟨⟨dp,g0.J.1,λ_=>⟨⟨by omega,λr hr=>?_⟩,λ_=>⟨⟨dj,u2⟩,?_⟩⟩⟩,?_⟩
 ·obtain⟨d,_⟩:=Nf g0 hr (hv r hr);obtain⟨rest,e,_⟩:=fn r hr;refine⟨⟨d,?_⟩,?_⟩
  ·rw[e];exact in_of (by decide) (by simp)
  ·rw[e,U8];rfl
 ·show jP (jC _ (bD (cP bars n_ rs).1) ()) _;rw[u1];exact dj
 ·rw[zw (by decide),zw (by decide)];show behind (jC _ (bD (cP bars n_ rs).1) ()) _ _=true;rw[u1];show decide (((fG P).length:Int)<=((bD (cP bars n_ rs).1).length:Int))=true;rw[z5];omega
theorem aaw {n_:LS_} {bars:List Bar} {pre post:List jc} {r:jc} {b:Bar} (hne:look (cP bars n_ pre).1 r.2.1≠look (cP bars n_ pre).1 r.2.2.1) (hf:bars.find? (bt (cP bars n_ pre).1 (look (cP bars n_ pre).1 r.2.1) (look (cP bars n_ pre).1 r.2.2.1))=some b):(r,some b)∈(cP bars n_ (pre++r::post)).2.2:=by
 have e:cP bars n_ (pre++r::post)=post.foldl (Ho bars) (Ho bars (cP bars n_ pre) r):=by
  unfold cP;rw[ya,QO]
 obtain⟨K,B,_,h2,_⟩:=BJ bars post (Ho bars (cP bars n_ pre) r);rw[e,h2,Hq,zw hne,hf];simp
set_option synthInstance.maxSize 100000 in
theorem aax {n_:LS_} {rs:List jc} {bars:List Bar} (g:Gd n_ rs bars) (bl:bars.length < 64):gn (n_,rs,bars) (aQ (n_,rs,bars))/\d9 (n_,rs,bars) (aQ (n_,rs,bars))=true:=by
 have J:=g.J.2;have rl:=g.rl;have less:∀ p:Bar->Bool,(∀ b,some b∈(cP bars n_ rs).2.2.map (λvX:dU=>vX.2)->p b=true)->cX (n_,rs,bars.filter p)/\aQ (n_,rs,bars.filter p)=aQ (n_,rs,bars):=λp hp=>by
  refine⟨(g.less λb hb=>g.bs b (List.mem_filter.mp hb).1).J.1,?_⟩;rw[qd,qd,J6];intro pre r post e b hne hf;have:=aaw (post:=post) hne hf;rw[<-e] at this;exact hp b (List.mem_map.mpr ⟨_,this,rfl⟩)
 obtain⟨l1,l2⟩:=less (λb=>gB (some b) ((cP bars n_ rs).2.2.map λvX:dU=>vX.2)) λb hb=>nJ.mpr hb;have key:∀ b∈bars,dZ (aQ (n_,rs,bars)) n_ rs bars ((cP bars n_ rs).2.2.map λvX:dU=>vX.2) () b/\(cR (aQ (n_,rs,bars)) n_ rs bars ((cP bars n_ rs).2.2.map λvX:dU=>vX.2) () b:ji Unit Bool)=.nx ():=λb hb=>by
  unfold dZ cR;dsimp only;rw[QY];cases hm:gB (some b) ((cP bars n_ rs).2.2.map λvX:dU=>vX.2) with
  |true=>exact⟨⟨by omega,λz=>by cases z⟩,rfl⟩
  |false=>
   obtain⟨k1,k2⟩:=less (λx=>!decide (x=b)) λx hx=>by
    by_cases e:x=b
    ·subst e;rw[nJ.mpr hx] at hm;cases hm
    ·rw[ZE e];rfl
   refine⟨⟨by omega,λ_=>k1⟩,?_⟩;rw[k2,Zp rfl];rfl
 obtain⟨u1,u2⟩:=zO (step:=λ(s2:Unit) (sW:bh)=>((cR (aQ (n_,rs,bars)) n_ rs bars ((cP bars n_ rs).2.2.map λvX:dU=>vX.2) s2 sW):ji (Unit) Bool)) (P:=λ(s2:Unit) (sW:bh)=>some (dZ (aQ (n_,rs,bars)) n_ rs bars ((cP bars n_ rs).2.2.map λvX:dU=>vX.2) s2 sW)) bars λb hb=>⟨(key b hb).1,.inl (key b hb).2⟩;have e2:(aQ (n_,rs,bars)).2.2=(cP bars n_ rs).2.2:=rfl;unfold gn d9;dsimp only;rw[e2,QY,l2,Zp rfl];refine⟨⟨by have:=J.bl;omega,⟨by omega,l1⟩,λ_=>⟨u2,?_⟩⟩,?_⟩
 ·rw[u1];trivial
 ·rw[zw (by decide),u1];rfl
theorem Vj {n_:LS_} (nd:n_.Nodup) (hl:n_.length < 1000) {pre:List jc}:∀ {post:List jc},Rs n_ (pre++post)->∀ x∈n_,∀ y∈n_,look (hb n_ pre) x=look (hb n_ pre) y->look (hb n_ (pre++post)) x=look (hb n_ (pre++post)) y:=λ{post}=>by
 induction post using snoc_ind with
 |h0=>intro _ x hx y hy e;rw[JP];exact e
 |h1 post r ih=>
  intro hr x hx y hy e;rw[<-Q4] at hr ⊢;have hr':Rs n_ (pre++post):=λz hz=>hr z (qv _ hz);have H:=Hd.hb nd hl hr';rw[qU];unfold jb;rw[H.lR hx,H.lR hy,ih hr' x hx y hy e]
theorem aay {n_:LS_} (nd:n_.Nodup) (hl:n_.length < 1000) {rs:List jc} (hr:Rs n_ rs) {r:jc} (h:r∈rs):look (hb n_ rs) r.2.1=look (hb n_ rs) r.2.2.1:=by
 obtain⟨pre,post,rfl⟩:=kL h;have hr2:Rs n_ ((pre++[r])++post):=λz hz=>hr z (by simpa using hz);obtain⟨ha,hb'⟩:=hr r h;have e:pre++r::post=(pre++[r])++post:=by simp
 rw[e];refine Vj nd hl hr2 _ ha _ hb' ?_;have H:=Hd.hb nd hl (rs:=pre) λz hz=>hr z (qv _ hz);rw[qU];unfold jb;rw[H.lR ha,H.lR hb'];unfold jn;rw[zk (.inl rfl),zk (.inr rfl)]
theorem QX {n_:LS_} {rs:List jc} {bars:List Bar} (g:Gd n_ rs bars):cP (bars.filter λb=>decide (look (hb n_ rs) b.1=look (hb n_ rs) b.2.1)) n_ rs=cP bars n_ rs:=by
 have hl:=g.hl;refine J6 λpre r post e b hne hf=>?_;have hb:=List.find?_some hf;obtain⟨b1,b2⟩:=g.bs b (KW hf);subst e;have g0:Gd n_ pre bars:=g.pre;have R:=λx hx y hy z=>Vj g.nd (by omega) g.hr x hx y hy (g0.M.r x hx y hy z);obtain⟨r1,r2⟩:=g.hr r (by simp);have j:=aay g.nd (by omega) g.hr (r:=r) (by simp);unfold bt at hb;rw[Kt,ZA,ZA,z5,z5,z5,z5] at hb;refine Zp ?_;rcases hb with⟨h1,h2⟩|⟨h1,h2⟩
 ·rw[R _ b1 _ r1 h1,R _ b2 _ r2 h2,j]
 ·rw[R _ b1 _ r2 h1,R _ b2 _ r1 h2,j]
def tri:Nat->Nat
 |0=>0
 |n+1=>tri n+n
theorem W9 {n_:LS_} (ss:n_.Pairwise λa b=>vK a b=true) {k:Nat} {a:Str} (hk:n_[k]?=some a) (q:Str->Bool):(n_.filter λx=>vK a x&&q x).length+(k+1)<=n_.length:=by
 obtain⟨h1,h2⟩:=List.getElem?_eq_some_iff.mp hk;have e:n_=n_.take (k+1)++n_.drop (k+1):=(List.take_append_drop ..).symm;have nil:(n_.take (k+1)).filter (λx=>vK a x&&q x)=[]:=by
  refine List.filter_eq_nil_iff.mpr λx hx h=>?_;have h:=((ZA _ _).mp h).1;obtain⟨j,hj⟩:=List.mem_iff_getElem?.mp hx;have hj':=(List.getElem?_eq_some_iff.mp hj).1;rw[ki] at hj';rw[List.getElem?_take,zk (by omega)] at hj;obtain⟨j1,j2⟩:=List.getElem?_eq_some_iff.mp hj;have irr:∀ z:Str,vK z z=true->False:=λz hz=>((lt_iff _ _).mp hz).2 rfl;by_cases e:j=k
  ·subst e;rw[h2] at j2;subst j2;exact irr _ h
  ·have:=List.pairwise_iff_getElem.mp ss j k j1 h1 (by omega);rw[h2,j2] at this;exact irr _ (Z7 _ _ _ h this)
 have l:(n_.filter λx=>vK a x&&q x).length<=(n_.drop (k+1)).length:=by
  conv=>lhs;rw[e]
  rw[List.filter_append,nil,Kn];exact List.length_filter_le ..
 rw[kB] at l;omega
set_option synthInstance.maxSize 100000 in
theorem Xa {n_:LS_} {rs:List jc} {bars:List Bar} (g:Gd n_ rs bars) (n9:n_.length<=9) (bl:bars.length<=6) (ss:n_.Pairwise λa b=>vK a b=true) (bo:bars.Pairwise λa b=>leT bw a b=true):fK (n_,rs,bars) (aQ (n_,rs,bars))/\fJ (n_,rs,bars) (aQ (n_,rs,bars))=true:=by
 obtain⟨dp,P,eP,ph⟩:=QS g.nd g.hl g.hr;have pl:=ph.len;have spl:(fG P).length=P.length:=(dY P).length_eq;have t9:tri n_.length<=36:=by
  have:∀ n:Fin 10,tri n.val<=36:=by decide
  exact this ⟨n_.length,by omega⟩
 obtain⟨f1,f2,M,f3,f4⟩:=zL (P:=λqg vj=>some (fL n_ rs qg vj)) (step:=λqg vj=>cJ n_ rs qg vj) (λk (s:List Bar)=>s.length+tri (n_.length - k)<=bars.length+tri n_.length/\∃ M,s=bars++M/\∀ b∈M,(b.1∈n_/\b.2.1∈n_)/\look (hb n_ rs) b.1≠look (hb n_ rs) b.2.1) n_ 0 bars ⟨zi _,[],by simp,λb h=>(by cases h)⟩ λk a s hk i=>by
  rw[JY] at i ⊢;obtain⟨i1,M,rfl,i3⟩:=i;have ha:=Z3 hk;have hkl:=(List.getElem?_eq_some_iff.mp hk).1;obtain⟨p1,p2,p3⟩:=pick (P:=fG P) (a:=a) (by
   obtain⟨p,hp,h⟩:=ph.cov a ha;exact⟨p,(dY P).mem_iff.mpr hp,h⟩)
  have p2:=(dY P).mem_iff.mp p2;unfold fL cJ;dsimp only;rw[eP];generalize at' (((fG P).filter λrJ:LS_=>(decide (a∈rJ))).map λrJ:LS_=>rJ) (0:Int)=val at p2 p3;have al:=W9 ss hk λvk=>!decide (vk∈val);have te:tri (n_.length - k)=tri (n_.length - (k+1))+(n_.length - (k+1)):=by
   rw[show n_.length - k=(n_.length - (k+1))+1 by omega];rfl
  refine⟨⟨⟨⟨dp,by omega⟩,p1⟩,by omega,BK (by rw[zo];omega)⟩,?_,M++((n_.filter λvk:Str=>((vK a vk)&&(!decide (vk∈val)))).map λvk:Str=>(a,vk,(50:Int))),by rw[Q4],λb hb=>?_⟩
  ·rw[zS,zo];omega
  ·rcases List.mem_append.mp hb with hb|hb
   ·exact i3 b hb
   ·obtain⟨x,hx,rfl⟩:=List.mem_map.mp hb;obtain⟨hx,hc⟩:=List.mem_filter.mp hx;have hc:=((ZA _ _).mp hc).2;have hc:x∉val:=by simpa using hc
    exact⟨⟨ha,hx⟩,λe=>hc ((ph.cls val p2 a p3 x hx).mpr e)⟩
 have e1:n_.foldl (λqg vj=>cJ n_ rs qg vj) bars=bars++M:=f3;have f2:(bars++M).length+tri (n_.length - (0+n_.length))<=bars.length+tri n_.length:=by rw[<-e1];exact f2
 have gm:Gd n_ rs (lN bw (bars++M)):=g.less λb hb=>by
  have hb:=(fD _).mem_iff.mp hb;rcases List.mem_append.mp hb with hb|hb
  ·exact g.bs b hb
  ·exact(f4 b hb).1
 have ef:(lN bw (bars++M)).filter (λb=>decide (look (hb n_ rs) b.1=look (hb n_ rs) b.2.1))=bars.filter λb=>decide (look (hb n_ rs) b.1=look (hb n_ rs) b.2.1):=by
  have pm:((lN bw (bars++M)).filter λb=>decide (look (hb n_ rs) b.1=look (hb n_ rs) b.2.1)).Perm (bars.filter λb=>decide (look (hb n_ rs) b.1=look (hb n_ rs) b.2.1)):=by
   refine((fD _).filter _).trans ?_;have nil:M.filter (λb=>decide (look (hb n_ rs) b.1=look (hb n_ rs) b.2.1))=[]:=List.filter_eq_nil_iff.mpr λb hb=>by rw[ZE (f4 b hb).2];exact zI
   rw[List.filter_append,nil,JP]
  rw[Qf pm ((tX _).filter _),<-Qf (KM _) (bo.filter _)]
 have er:cP (lN bw (bars++M)) n_ rs=cP bars n_ rs:=by rw[<-QX gm,ef,QX g]
 unfold fK fJ;dsimp only;rw[e1,qd,er];exact⟨⟨f1,by omega,gm.J.1⟩,Zp rfl⟩
theorem aaz (ns:List Int) (_:ns.length<=63):QM ns/\QL ns=true:=by
 obtain⟨d1,l1,_⟩:=M5 (bA ns 0) 9 (by decide) (by decide);have l1:(bf (bA ns 0) 9).length=9:=l1;unfold QM QL;dsimp only;generalize bf (bA ns 0) 9=xs at *
 have m6:=jk (at' xs 6) (m:=10) (by decide);have m7:=jk (at' xs 7) (m:=15) (by decide);have m8:=jk (at' xs 8) (m:=7) (by decide);obtain⟨dg,G,n1,n2,n3⟩:=W8 ns 0 (at' xs 6 % 10) (at' xs 7 % 15) (at' xs 8 % 7) (by decide) (by decide) m6.1 (by omega) m7.1 (by omega) m8.1 (by omega);generalize eG ns 0 (at' xs 6 % 10) (at' xs 7 % 15) (at' xs 8 % 7)=gr at *
 obtain⟨n_,rs,bars⟩:=gr;have n1:n_.length=_:=n1;have n2:rs.length<=_:=n2;have n3:bars.length<=_:=n3;have g:Gd n_ rs bars:=⟨G.nd,G.len,G.bs,G.rs,by omega⟩;obtain⟨a1,a2⟩:=aau g G.rn G.va;obtain⟨b1,b2⟩:=ac3 g G.so G.va;obtain⟨c1,c2⟩:=aax g G.bl;obtain⟨e1,e2⟩:=Xa g (by omega) (by omega) G.ss G.bo;rw[a2,b2,c2,e2];exact⟨⟨⟨M4 ns 0 (by decide) (by decide),d1⟩,⟨⟨in_of (by decide) (by omega),in_of (by decide) (by omega),in_of (by decide) (by omega)⟩,dg⟩,g.J.1,⟨a1,λ_=>b1⟩,λ_=>⟨c1,λ_=>e1⟩⟩,rfl⟩
theorem H1:∀ ns:List Int,ns.length<=63->F_law [.z (.lst (ns.map .int))]=some (.z (.bl true)):=(adJ aaz).1
theorem H2:∀ ns:List Int,ns.length<=63->F_law [.l (ns.map .int)]=some (.z (.bl true)):=(adJ aaz).2
end G72
end
open PySem PySem.W PyProof.Rows
def PySem.W.Fast.tw6246055157976493149:=0
def PySem.W.Fast.tw7566713613941837195:=0
def PySem.W.Fast.tw7902069528429531467:=0
def PySem.W.Fast.tw6617837115193000767:=0
def PySem.W.Fast.tw18091502477840496479:=0
def PySem.W.Fast.tw6887552439933945452:=0
def PySem.W.Fast.tw14148320913438152345:=0
def PySem.W.Fast.tw10954276913729823263:=0
def PySem.W.Fast.tw5672280551614937081:=0
def PySem.W.Fast.tw17291338882316544535:=0
def PySem.W.Fast.tw2966204850373861594:=0
def PySem.W.Fast.tw13872987517235090607:=0
def PySem.W.Fast.tw12618766619333336097:=0
def PySem.W.Fast.tw4751793473457834999:=0
def PySem.W.Fast.tw4667578764735357822:=0
def PySem.W.Fast.tw13842490488892940546:=0
def PySem.W.Fast.tw10567878488305698601:=0
def PySem.W.Fast.tw15167926650389511544:=0
def PySem.W.Fast.tw7586383364241980560:=0
def PySem.W.Fast.tw14250249429319363975:=0
def PySem.W.Fast.tw2007590312784731019:=0
def PySem.W.Fast.tw1236734112367957934:=0
def PySem.W.Fast.tw8612481532698147:=0
def PySem.W.Fast.tw8637379708253812910:=0
def PySem.W.Fast.tw12894087322461338995:=0
def PySem.W.Fast.tw18263810857237699983:=0
def PySem.W.Fast.tw6111760184615528740:=0
def PySem.W.Fast.tw13841685462573581000:=0
def PySem.W.Fast.tw9073312815778865329:=0
def PySem.W.Fast.tw18112958359069609420:=0
def PySem.W.Fast.tw1014623162898282227:=0
def PySem.W.Fast.tw11796172682114922639:=0
def PySem.W.Fast.tw4054831470149665452:=0
def PySem.W.Fast.tw8348279933432971541:=0
def PySem.W.Fast.tw8128401972304914894:=0
def PySem.W.Fast.tw9769745065736945996:=0
def PySem.W.Fast.tw12644320687247314171:=0
def PySem.W.Fast.tw14395818668075950466:=0
def PySem.W.Fast.tw13835271294965435965:=0
def PySem.W.Fast.tw7088514205733128459:=0
def PySem.W.Fast.tw6786744413166436361:=0
def PySem.W.Fast.tw13242592593966471839:=0
def PySem.W.Fast.tw7438770206434608987:=0
def PySem.W.Fast.tw12363862673510565146:=0
def PySem.W.Fast.tw5875068608740593247:=0
def PySem.W.Fast.tw4100857695328806018:=0
def PySem.W.Fast.tw15417360749585897461:=0
def PySem.W.Fast.tw9191993523693996311:=0
def PySem.W.Fast.tw3782853000512545020:=0
def PySem.W.Fast.tw2265013263809095825:=0
def PySem.W.Fast.tw4978182895615331348:=0
def PySem.W.Fast.tw1624000073775994305:=0
def PySem.W.Fast.tw9950640317264985331:=0
def PySem.W.Fast.tw2378722542145191290:=0
def PySem.W.Fast.tw14780602459853491663:=0
def PySem.W.Fast.tw4014759215918069302:=0
def PySem.W.Fast.tw15459658921021657654:=0
def PySem.W.Fast.tw9315204412962077915:=0
def PySem.W.Fast.tw3624526247618745076:=0
def PySem.W.Fast.tw4346202013102441631:=0
set_option maxRecDepth 100000 in
set_option maxHeartbeats 0 in
theorem PySem.Challenge.cw_onefolk_k72_whole_joinings_and_bars_holds : PySem.Challenge.rw_onefolk_k72_whole_joinings_and_bars.Holds := by
 w_on;refine PySem.W.holds_law (by decide +kernel) λsaid=>?_
 k_head;(case hw=>w_witness2)
 k_fill
 refine P1.walkT (l:=PySem.Challenge.rw_onefolk_k72_whole_joinings_and_bars) (T:=G72.T) (k:=8) (x := "_law_script") (st:=G72.s_law) (F_law:=G72.F_law) (λt=>t.x_law) ⟨rfl,by decide,by decide⟩ rfl (λw mg base t=>G72.all_ok t) rfl rfl G72.H1 G72.H2 (λ_ _ _ _ _ _ _=>rfl) (λw h Y=>PySem.W.kIn_of Y) ?F
 case F=>
  intro w mg h KX G
  refine' ⟨P1.lu KX G _ _ _ _,P1.lu KX G _ _ _ _,P1.lu KX G _ _ _ _,P1.lu KX G _ _ _ _,P1.lu KX G _ _ _ _,P1.lu KX G _ _ _ _,P1.lu KX G _ _ _ _,P1.lu KX G _ _ _ _,P1.lu KX G _ _ _ _,P1.lu KX G _ _ _ _,P1.lu KX G _ _ _ _,P1.lu KX G _ _ _ _,P1.lu KX G _ _ _ _,P1.lu KX G _ _ _ _,P1.lu KX G _ _ _ _,P1.lu KX G _ _ _ _,P1.lu KX G _ _ _ _,P1.lu KX G _ _ _ _,P1.lu KX G _ _ _ _,P1.lu KX G _ _ _ _,P1.lu KX G _ _ _ _,P1.lu KX G _ _ _ _,P1.lu KX G _ _ _ _,P1.lu KX G _ _ _ _,P1.lu KX G _ _ _ _,P1.lu KX G _ _ _ _,P1.lu KX G _ _ _ _,P1.lu KX G _ _ _ _,P1.lu KX G _ _ _ _,qf KX G _,qf KX G _,qf KX G _,qf KX G _,qf KX G _,qf KX G _,qf KX G _,qf KX G _,qf KX G _,qf KX G _,qf KX G _,qf KX G _,qf KX G _,qf KX G _,P1.mgT KX G _,P1.mgT KX G _,P1.mgT KX G _⟩
  all_goals try (show _=_;k_is)
  all_goals try kernel_rfl
